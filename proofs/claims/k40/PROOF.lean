import PyProof.Rows.All
import Wide.All
import OpenK.AllK
import Wide.FinOn
import Lean
import PyProof.Rows.SetFrom
import PyProof.TupleKey
import PyProof.SetRoads
import PySem.SetOps
import PyProof.EqAt
import PyProof.EqKinds
import PyProof.TupleCall
import KE.KDictList
import KE.KDictLaws
import PyProof.NeKinds
import PyProof.Draws
import KE.KSortTup
import KE.KLam
import PyProof.ListRange
import PyProof.TupleOfSeq
import KE.KNestM
import PyProof.MinMaxWalk
import PyProof.Conv_int_bool
import PySem.Challenge.RW_lotjoin_k40_marks_told
set_option Elab.async false
set_option linter.all false
set_option maxRecDepth 100000
local macro_rules | `(tactic| trivial) => `(tactic| first | exact Or.inl rfl | exact Or.inr rfl)
abbrev nG:=@PySem.wpAny_bind
abbrev qv:=@List.getElem?_eq_getElem
abbrev qw:=@PySem.Heap.get?_push_of_some
abbrev qx:=@List.length_map
abbrev su:=@List.getElem?_eq_some_iff
abbrev uk:=@PySem.wpAny_pure
abbrev wF:=@List.getD_eq_getElem?_getD
abbrev wG:=@Nat.le_refl
abbrev Ad:=@List.size_toArray
abbrev Fj:=@Array.length_toList
abbrev Fl:=@List.getElem?_map
abbrev Fm:=@List.length_cons
abbrev Fo:=@List.mem_cons
abbrev My:=@PySem.Heap.lt_size
abbrev Mz:=@List.mem_cons_self
abbrev MA:=@if_neg
abbrev MB:=@List.mem_cons_of_mem
abbrev MC:=@PySem.Heap.get?_push_size
abbrev MD:=@if_pos
abbrev Vu:=@Option.map_eq_some_iff
abbrev Vv:=@Array.getElem?_eq_getElem
abbrev Vw:=@List.length_append
abbrev Vx:=@Nat.ne_of_lt
abbrev Vy:=@Bool.false_ne_true
abbrev Vz:=@List.getElem?_append_left
abbrev VZ:=@List.getElem?_append_right
abbrev V0:=@List.mem_iff_getElem?
abbrev V6:=@Bool.false_eq_true
abbrev V7:=@Int.toNat_natCast
abbrev V8:=@Nat.lt_of_lt_of_le
abbrev V9:=@List.mem_append_right
abbrev V_:=@decide_eq_true
abbrev Wa:=@Array.getElem?_toList
abbrev Wb:=@List.map_cons
abbrev Wc:=@List.mem_singleton
abbrev Wd:=@List.not_mem_nil
abbrev We:=@decide_eq_false
abbrev Wf:=@Option.some.inj
abbrev Wg:=@List.mem_map
abbrev Wh:=@List.mem_range
abbrev Wi:=@PySem.W.mg_of
abbrev Wj:=@List.lookup_cons
abbrev Wk:=@List.mem_of_getElem?
abbrev Wl:=@Bool.and_eq_true
abbrev Wm:=@PySem.W.mg_none_of
abbrev Wn:=@List.length_take
abbrev Wo:=@PySem.wpAny_holding
abbrev Wq:=@PyProof.Rows.slot_tuple_getitem
abbrev Wr:=@PySem.Heap.SameBut.update
abbrev Ws:=@List.length_range
abbrev Wt:=@List.map_map
abbrev Wu:=@PySem.F.plainAttrs_list
abbrev Wv:=@Nat.zero_add
abbrev Ww:=@List.getElem?_eq_none
abbrev Wx:=@List.length_singleton
abbrev Wz:=@PySem.wpAny_newObj_type
abbrev WB:=@List.countP_cons
abbrev WC:=@Nat.lt_succ_of_lt
abbrev WD:=@List.map_append
abbrev WH:=@List.getElem?_range
abbrev WJ:=@List.getElem?_set_self
abbrev WK:=@Nat.zero_le
abbrev WL:=@List.getElem?_take_of_lt
abbrev WM:=@List.set_cons_zero
abbrev WN:=@List.set_cons_succ
abbrev WQ:=@PySem.boot_len
abbrev WR:=@PySem.Heap.get?_update_self
abbrev WU:=@PySem.wpAny_callSpecial?_slot
abbrev WV:=@List.replicate_succ
abbrev WW:=@PySem.wpAny_call_entry
abbrev WX:=@PySem.sizeLine_eq
abbrev WY:=@Nat.le_trans
abbrev WZ:=@List.mem_append_left
abbrev W0:=@List.getElem?_set_ne
abbrev W5:=@Array.getD_eq_getD_getElem?
abbrev W6:=@Nat.sub_self
abbrev W7:=@List.mem_append
abbrev W8:=@PySem.PassesOwn.never
abbrev W9:=@if_false
abbrev W_:=@List.getElem?_cons_succ
abbrev Xa:=@List.mem_iff_getElem
abbrev Xb:=@PySem.wpAny_field
abbrev Xc:=@Int.emod_lt_of_pos
abbrev Xd:=@List.take_of_length_le
abbrev Xe:=@List.pairwise_cons
abbrev Xf:=@PySem.F.called_set
abbrev Xg:=@PySem.Heap.get?_update_other
abbrev Xh:=@PySem.Heap.size_push
abbrev Xi:=@PySem.mem_of_lookup
abbrev Xj:=@Nat.le_of_lt
abbrev Xk:=@PySem.wpAny_setState_of
abbrev Xl:=@PyProof.Rows.callWith_type1
abbrev Xm:=@LawfulBEq.eq_of_beq
abbrev Xn:=@PySem.W.kia_one
abbrev Xo:=@List.length_set
abbrev Xp:=@Array.getElem?_eq_none
abbrev Xq:=@Nat.ne_of_gt
abbrev Xr:=@or_false
abbrev Xs:=@decide_eq_true_eq
abbrev Xt:=@List.getElem?_toArray
abbrev Xu:=@List.take_succ
abbrev Xv:=@Int.emod_nonneg
abbrev Xw:=@List.all_eq_true
abbrev Xx:=@PySem.Around.under_plainId
abbrev Xy:=@PyProof.Rows.F.plain_set_update_loop
abbrev Xz:=@List.getElem?_cons_zero
abbrev XA:=@Ne.symm
abbrev XB:=@Nat.lt_irrefl
abbrev XC:=@Array.getElem?_eq_some_iff
abbrev XD:=@Array.toList_setIfInBounds
abbrev XE:=@List.ext_getElem?
abbrev XF:=@PySem.wpAny_seqItems
abbrev XG:=@List.map_congr_left
abbrev XH:=@PySem.codeAny_builtin
abbrev XI:=@PySem.wpAny_loadPart'
abbrev XJ:=@Nat.lt_succ_self
abbrev XM:=@List.length_drop
abbrev XN:=@List.getElem_mem
abbrev XO:=@Nat.le_add_right
abbrev XQ:=@PySem.wpAny_mono
abbrev XR:=@Bool.not_true
abbrev XS:=@List.append_assoc
abbrev XT:=@of_decide_eq_true
abbrev XU:=@List.nodup_append
abbrev XW:=@PySem.wpAny_truthy_bool
abbrev XX:=@List.getElem?_replicate
abbrev XY:=@List.flatten_cons
abbrev XZ:=@PySem.wpAny_pyIter_enum
abbrev X0:=@List.length_nil
abbrev X1:=@List.map_nil
abbrev X7:=@List.getElem_map
abbrev X8:=@List.mem_filterMap
abbrev X9:=@PySem.Obj.data_mapFields
abbrev X_:=@PySem.F.slot_tuple_iterator_next
abbrev Ya:=@PySem.wpAny_setField_rec
abbrev Yb:=@List.pairwise_iff_getElem
abbrev Yc:=@List.drop_eq_getElem_cons
abbrev Yd:=@PySem.wpAny_ite_split
abbrev Ye:=@Array.toList_push
abbrev Yf:=@List.pairwise_map
abbrev Yg:=@PySem.wpAny_pyIter_list
abbrev Yh:=@List.any_eq_false
abbrev Yi:=@Option.isSome_iff_exists
abbrev Yj:=@List.any_cons
abbrev Yk:=@PySem.F.slot_list_append
abbrev Yl:=@PySem.F.type_list_append
abbrev Ym:=@if_true
abbrev Yn:=@List.filterMap_cons
abbrev Yo:=@List.Perm.refl
abbrev Yp:=@PyProof.Rows.F.entry_set_update_loop
abbrev Yq:=@Array.toList_filterMap
abbrev Yr:=@List.zip_cons_cons
abbrev Ys:=@PySem.Around.in1_handled
abbrev Yt:=@PySem.wpAny_pyIter_tuple
abbrev Yu:=@List.mem_filter
abbrev Yv:=@List.find?_cons
abbrev Yw:=@Array.getElem?_setIfInBounds
abbrev Yx:=@List.length_replicate
abbrev Yy:=@Nat.le_of_lt_succ
abbrev Yz:=@List.length_eraseIdx_of_lt
abbrev YA:=@Array.perm_iff_toList_perm
abbrev YB:=@PySem.wpAny_askSetting
abbrev YC:=@PySem.codeAny_mono
abbrev YD:=@PySem.wpAny_typeOf
abbrev YE:=@List.getElem_inj
abbrev YF:=@Classical.byContradiction
abbrev YG:=@List.length_reverse
abbrev YH:=@List.eq_of_mem_replicate
abbrev YI:=@PySem.plainId_quiet
abbrev YJ:=@PySem.F.args_tuple_add_2
abbrev YK:=@List.all_cons
abbrev YL:=@PyProof.Rows.listUpdate_at
abbrev YM:=@List.nodup_cons
abbrev YN:=@Option.map_some
abbrev YO:=@List.append_nil
abbrev YQ:=@PySem.wpAny_passesOwn
abbrev YR:=@PyProof.Rows.get?_update_seq
abbrev YS:=@of_decide_eq_false
abbrev YT:=@Nat.lt_of_le_of_lt
abbrev YU:=@Array.forIn_toList
abbrev YV:=@PySem.wpAny_Call_Name_kw
abbrev YW:=@List.length_eq_zero_iff
abbrev YX:=@PySem.F.entry_tuple_add
abbrev YY:=@PySem.F.slot_list_count
abbrev YZ:=@PySem.F.type_list_count
abbrev Y0:=@Array.toList_replicate
abbrev Y1:=@List.drop_zero
abbrev Y2:=@List.getElem_take
abbrev Y3:=@PySem.SetTable.insertAt_perm
abbrev Y4:=@PySem.wpAny_storeSet_of
abbrev Y5:=@Array.size_map
abbrev Y6:=@List.nodup_nil
abbrev Y7:=@PySem.wpAny_setField
abbrev Y8:=@PySem.W.cellsFrom_some
abbrev Y9:=@List.zip_nil_left
abbrev Y_:=@PySem.F.slot_tuple_add
abbrev Za:=@List.reverse_cons
abbrev Zb:=@List.length_filterMap_eq_countP
abbrev Zc:=@List.Perm.append_left
abbrev Zd:=@PySem.Obj.isFreed_of_fields
abbrev Ze:=@List.nodup_range
abbrev Zf:=@Nat.le_of_not_lt
abbrev Zg:=@PySem.intKind_is
abbrev Zh:=@PySem.wpAny_rule
abbrev Zi:=@PySem.putSet_of
abbrev Zj:=@PySem.wpAny_forIn_list
abbrev Zk:=@Option.getD_none
abbrev Zl:=@PySem.call_meets
abbrev Zm:=@List.take_length
abbrev Zn:=@PySem.wpAny_attempt
abbrev Zo:=@PySem.wpAny_standAt
abbrev Zp:=@PySem.wpAny_newList
abbrev Zq:=@Bool.and_self
abbrev Zr:=@Bool.true_and
abbrev Zs:=@Array.mem_toList_iff
abbrev Zt:=@List.mem_of_mem_take
abbrev Zu:=@PySem.wpAny_updateSeq_pair
abbrev Zv:=@List.find?_some
abbrev Zw:=@PySem.SeqAt.EqAt.same
abbrev Zx:=@PySem.F.args_tuple_iterator_next_1
abbrev Zy:=@PySem.F.slot_zip_next
abbrev Zz:=@PySem.wpAny_setEntries_of
abbrev ZA:=@PyProof.Rows.lt_int
abbrev ZC:=@PyProof.Rows.entry_tuple_getitem
abbrev ZD:=@Nat.succ_pos
abbrev ZF:=@List.find?_eq_none
abbrev ZH:=@List.filterMap_map
abbrev ZI:=@PySem.SeqAt.EqAt.int_str
abbrev ZJ:=@PySem.SeqAt.EqAt.str_int
abbrev ZL:=@PySem.SeqAt.EqAt.int_int
abbrev ZN:=@PySem.Heap.IsSliceOf.new
abbrev ZP:=@List.take_zero
abbrev ZQ:=@List.mem_or_eq_of_mem_set
abbrev ZR:=@List.extract_eq_take_drop
abbrev ZT:=@List.mem_of_find?_eq_some
abbrev ZU:=@List.take_sublist
abbrev ZV:=@bne_self_eq_false
abbrev ZW:=@PySem.Obj.cls_mapFields
abbrev ZX:=@PySem.wpAny_sequenceKey
abbrev ZY:=@PySem.slot_list_getitem
abbrev ZZ:=@Nat.le_succ
abbrev Z0:=@Bool.not_eq_true'
abbrev Z1:=@List.Sublist.refl
abbrev Z3:=@List.map_id
abbrev Z4:=@List.foldl_append
abbrev Z5:=@Array.getElem_mem_toList
abbrev Z6:=@Array.size_setIfInBounds
abbrev Z8:=@List.cons.inj
abbrev Z9:=@List.sublist_append_left
abbrev Z_:=@PySem.wpAny_onRaise
abbrev q0d:=@Nat.succ_ne_self
abbrev q0e:=@List.cons_append
abbrev q0f:=@Nat.lt_trans
abbrev q0g:=@Nat.sub_zero
abbrev q0m:=@Nat.le_of_eq
abbrev q0o:=@List.countP_map
abbrev q0p:=@Array.size_push
abbrev q0q:=@List.foldl_cons
abbrev q0u:=@List.of_mem_zip
abbrev q0v:=@List.forIn_cons
abbrev q0w:=@Array.Perm.refl
abbrev q0G:=@not_or
abbrev q0I:=@Bool.false_and
abbrev q0J:=@List.forIn_nil
abbrev q0L:=@Bool.not_false
theorem el7 {α β γ ε : Type} {A B C : α → β → γ → ε → Prop} {R : Prop} (h : ∃ F ad δ K, A F ad δ K ∧ B F ad δ K ∧ C F ad δ K) (k : ∀ F ad δ K, A F ad δ K → B F ad δ K → C F ad δ K → R) : R := h.elim fun F h => h.elim fun a h => h.elim fun d h => h.elim fun K h => k F a d K h.1 h.2.1 h.2.2
theorem el5 {α β : Type} {A B C : α → β → Prop} {R : Prop} (h : ∃ F ad, A F ad ∧ B F ad ∧ C F ad) (k : ∀ F ad, A F ad → B F ad → C F ad → R) : R := h.elim fun F h => h.elim fun a h => k F a h.1 h.2.1 h.2.2
theorem el3 {α : Type} {A B : α → Prop} {R : Prop} (h : ∃ F, A F ∧ B F) (k : ∀ F, A F → B F → R) : R := h.elim fun F h => k F h.1 h.2
set_option compiler.extract_closed false
local macro_rules | `(tactic| omega) => `(tactic| first | lia | omega (config := {}))
namespace LJS
open PySem PySem.SetTable
noncomputable def nx (m i:Nat):Nat:=(i * 5 + 1) % (m + 1)
noncomputable def mS (m:Nat):Nat->Nat->Nat
 | 0,i=>i
 | n + 1,i=>mS m n (nx m i)
theorem wc (m:Nat):∀ a b i,mS m (a + b) i=mS m b (mS m a i)
 | 0,b,i=>by rw[Wv];rfl
 | a + 1,b,i=>by rw[Nat.succ_add];exact wc m a b (nx m i)
noncomputable def yK (m:Nat):Nat->Nat->List Nat
 | 0,_=>[]
 | n + 1,i=>i :: yK m n (nx m i)
theorem DA (m:Nat):∀ {n i e:Nat},e∈yK m n i->∃ k,k < n/\mS m k i=e
 | 0,_,_,h=>nomatch h
 | n + 1,i,e,h=>by
  rcases Fo.mp h with rfl | h
  ·exact⟨0,ZD _,rfl⟩
  ·obtain⟨k,hk,e⟩:=DA m h
   exact⟨k + 1,Nat.succ_lt_succ hk,e⟩
noncomputable def Mk (m:Nat):Prop:=m=7\/m=31\/m=127
noncomputable def s_ (m:Nat):Bool:=(List.range (m + 1)).all fun e=>(yK m (m + 1) 0).contains e
theorem DB {m:Nat} (h:Mk m):s_ m=true/\mS m (m + 1) 0=0:=by
 rcases h with rfl | rfl | rfl<;>exact⟨by decide +kernel,by decide +kernel⟩
theorem oO {m:Nat} (h:Mk m) {e:Nat} (he:e <= m):∃ k,k <= m/\mS m k 0=e:=by
 have:=Xw.mp (DB h).1 e (Wh.mpr (Nat.lt_succ_of_le he))
 obtain⟨k,hk,q⟩:=DA m (List.contains_iff_mem.mp this)
 exact⟨k,Yy hk,q⟩
theorem Jx {m:Nat} (h:Mk m) {i e:Nat} (hi:i <= m) (he:e <= m):∃ n,n <= m/\mS m n i=e:=by
 obtain⟨a,ha,rfl⟩:=oO h hi
 obtain⟨b,hb,rfl⟩:=oO h he
 by_cases wd:a <= b
 ·refine⟨b - a,by omega,?_⟩
  rw[<-wc];congr 1;omega
 ·refine⟨m + 1 - a + b,by omega,?_⟩
  rw[<-wc,show a + (m + 1 - a + b)=(m + 1) + b by omega,wc,(DB h).2]
noncomputable def lp (m:Nat):Nat->Nat->Nat->Nat × Nat
 | 0,i,p=>(i,p)
 | n + 1,i,p=>lp m n (leap m i p).1 (leap m i p).2
theorem yL (m:Nat):∀ a b i p,lp m (a + b) i p=lp m b (lp m a i p).1 (lp m a i p).2
 | 0,b,i,p=>by rw[Wv];rfl
 | a + 1,b,i,p=>by rw[Nat.succ_add];exact yL m a b _ _
theorem DC (m:Nat):∀ n i,lp m n i 0=(mS m n i,0)
 | 0,i=>rfl
 | n + 1,i=>by
  show lp m n (leap m i 0).1 (leap m i 0).2=_
  have e:leap m i 0=(nx m i,0):=by unfold leap nx;simp
  rw[e];exact DC m n _
theorem DE (m i p:Nat):(leap m i p).1 <= m:=Yy (Nat.mod_lt _ (ZD _))
theorem DF (m:Nat):∀ n i p,(lp m n i p).2=p / 32 ^ n
 | 0,i,p=>by simp[lp]
 | n + 1,i,p=>by
  show (lp m n (leap m i p).1 (leap m i p).2).2=_
  rw[DF m n]
  show p / 32 / 32 ^ n=_
  rw[Nat.div_div_eq_div_mul,Nat.pow_succ,Nat.mul_comm]
theorem reach {m:Nat} (h:Mk m) {i p e:Nat} (hp:p < 2 ^ 64) (he:e <= m):∃ n,n <= 13 + m/\(lp m n i p).1=e:=by
 have z:(lp m 13 i p).2=0:=by
  rw[DF]
  exact Nat.div_eq_of_lt (q0f hp (by decide))
 have q:(lp m 13 i p).1 <= m:=by
  rw[yL m 12 1];exact DE _ _ _
 obtain⟨n,hn,en⟩:=Jx h q he
 refine⟨13 + n,by omega,?_⟩
 rw[yL,z,DC];exact en
theorem DG (j:Nat):has #[] j=false:=by unfold has;simp
theorem tu {t:SetTable} (hd:t.dummies = #[]) (j:Nat):t.slot j = .empty\/∃ i,t.slot j = .live i/\i < t.place.size/\j∈t.place.toList:=by
 unfold slot
 rw[hd,DG]
 dsimp only
 by_cases c:(t.place[below t.place j]? == some j)=true
 ·right
  rw[MD c]
  have e:=Xm c
  obtain⟨hl,ev⟩:=XC.mp e
  exact⟨_,rfl,hl,by rw[<-ev];exact Z5 hl⟩
 ·left
  rw[MA c];rfl
theorem Jy {t:SetTable} (hd:t.dummies = #[]) {j:Nat} (hj:j∉t.place.toList):t.slot j = .empty:=by
 rcases tu hd j with h | ⟨_,_,_,h⟩
 ·exact h
 ·exact absurd h hj
theorem DH:∀ {l l':List Nat},l.Nodup->(∀ x∈l,x∈l')->l.length <= l'.length
 | [],_,_,_=>WK _
 | a :: l,l',hn,hs=>by
  have ha:a∈l':=hs a (Mz ..)
  have rS:=YM.mp hn
  have ih:=DH (l:=l) (l':=l'.erase a) rS.2 fun x hx=>(List.mem_erase_of_ne (fun z=>rS.1 (by rw[<-z];exact hx))).mpr (hs x (MB _ hx))
  rw[List.length_erase_of_mem ha] at ih
  have:=List.length_pos_of_mem ha
  rw[Fm];omega
theorem Jz {l:List Nat} {m:Nat} (h:l.length <= m):∃ e,e <= m/\e∉l:=by
 refine YF fun no => ?_
 have all:∀ e,e∈List.range (m + 1)->e∈l:=fun e he=>YF fun z=>no ⟨e,Yy (Wh.mp he),z⟩
 have:(List.range (m + 1)).length <= l.length:=DH Ze all
 rw[Ws] at this
 omega
noncomputable def stateOf (t:SetTable) (i p:Nat):Probe:=⟨i,runEnd t.mask i - i,i,p,none⟩
theorem DI (m i:Nat):runEnd m i - i <= 9:=by unfold runEnd;split<;>omega
section
variable {t:SetTable} {f:Nat->Int} {h:Int}
theorem pT (F:Nat) (p:Probe):probe.go t f h (F + 1) p=(match t.slot p.j with
  | .empty=>some (.empty p.j p.dummy)
  | .dummy=>probe.go t f h F (t.advance { p with dummy:=some p.j })
  | .live i=>if f i == h then some (.candidate p.j i (t.advance p)) else probe.go t f h F (t.advance p)):=rfl
theorem DJ (hd:t.dummies = #[]) (hf:∀ i,i < t.place.size->f i≠h):∀ (k F:Nat) (p:Probe),p.more=k->p.dummy=none →
  (∃ j,probe.go t f h (F + k + 1) p=some (.empty j none))\/probe.go t f h (F + k + 1) p=probe.go t f h F (stateOf t (leap t.mask p.i p.perturb).1 (leap t.mask p.i p.perturb).2)
 | 0,F,p,hm,tw=>by
  show (∃ j,probe.go t f h (F + 1) p=_)\/probe.go t f h (F + 1) p=_
  rw[pT]
  rcases tu hd p.j with e | ⟨i,e,hi,_⟩
  ·left;rw[e];exact⟨p.j,by rw[tw]⟩
  ·right
   rw[e]
   show (if (f i == h)=true then _ else _)=_
   rw[MA (by intro z;exact hf i hi (Xm z))]
   unfold advance
   rw[hm,MA (by omega),tw]
   rfl
 | k + 1,F,p,hm,tw=>by
  have ih:=DJ hd hf k F { p with j:=p.j + 1,more:=p.more - 1 } (by show p.more - 1=k;omega) tw
  rw[show F + (k + 1) + 1=(F + k + 1) + 1 by omega,pT]
  rcases tu hd p.j with e | ⟨i,e,hi,_⟩
  ·left;rw[e];exact⟨p.j,by rw[tw]⟩
  ·rw[e]
   show (∃ j,(if (f i == h)=true then _ else _)=_)\/(if (f i == h)=true then _ else _)=_
   rw[MA (by intro z;exact hf i hi (Xm z))]
   have ea:t.advance p={ p with j:=p.j + 1,more:=p.more - 1 }:=by unfold advance;rw[MD (by omega)]
   rw[ea]
   exact ih
theorem DK (hd:t.dummies = #[]) (hf:∀ i,i < t.place.size->f i≠h):∀ (n F i p:Nat),10 * (n + 1) <= F->t.slot (lp t.mask n i p).1 = .empty->∃ j,probe.go t f h F (stateOf t i p)=some (.empty j none)
 | 0,F,i,p,hF,hs=>by
  obtain⟨G,rfl⟩:∃ G,F=G + 1:=⟨F - 1,by omega⟩
  rw[pT]
  have e:t.slot (stateOf t i p).j = .empty:=hs
  rw[e]
  exact⟨i,rfl⟩
 | n + 1,F,i,p,hF,hs=>by
  have hr:=DI t.mask i
  obtain⟨G,hG⟩:∃ G,F=G + (runEnd t.mask i - i) + 1:=⟨F - (runEnd t.mask i - i) - 1,by omega⟩
  have:=DJ (f:=f) (h:=h) hd hf (runEnd t.mask i - i) G (stateOf t i p) rfl rfl
  rw[<-hG] at this
  rcases this with h1 | h1
  ·exact h1
  ·rw[h1]
   exact DK hd hf n G _ _ (by omega) hs
theorem yM (h:Int):bits h < 2 ^ 64:=by
 unfold bits
 have:=Xc h (show (0:Int) < 2 ^ 64 by decide)
 have:=Xv h (show (2 ^ 64:Int)≠0 by decide)
 omega
theorem DL (hd:t.dummies = #[]) (hm:Mk t.mask) (hz:t.place.size <= t.mask) (hf:∀ i,i < t.place.size->f i≠h):∃ j,t.probe f h (t.probeStart h)=some (.empty j none):=by
 obtain⟨e,he,ne⟩:=Jz (l:=t.place.toList) (m:=t.mask) (by rw[Fj];exact hz)
 obtain⟨n,hn,en⟩:=reach hm (i:=bits h % (t.mask + 1)) (yM h) he
 exact DK hd hf n _ _ _ (by unfold turns;omega) (by rw[en];exact Jy hd ne)
end
section
variable {m:Nat} {owner:Array (Option Nat)}
theorem yN (F i p:Nat):layClean.free m owner (F + 1) i p=(match (List.range (runEnd m i + 1 - i)).find? fun k=>(owner.getD (i + k) (some 0)).isNone with
   | some k=>some (i + k)
   | none=>layClean.free m owner F (leap m i p).1 (leap m i p).2):=rfl
theorem yO:∀ (n F i p:Nat),n + 1 <= F->(owner.getD (lp m n i p).1 (some 0)).isNone=true->∃ j,layClean.free m owner F i p=some j/\(owner.getD j (some 0)).isNone=true
 | 0,F,i,p,hF,hs=>by
  obtain⟨G,rfl⟩:∃ G,F=G + 1:=⟨F - 1,by omega⟩
  rw[yN]
  cases hc:(List.range (runEnd m i + 1 - i)).find? fun k=>(owner.getD (i + k) (some 0)).isNone with
  | some k =>
   have:=Zv hc
   exact⟨i + k,rfl,this⟩
  | none =>
   have:=ZF.mp hc 0 (Wh.mpr (by unfold runEnd;split<;>omega))
   exact absurd hs this
 | n + 1,F,i,p,hF,hs=>by
  obtain⟨G,rfl⟩:∃ G,F=G + 1:=⟨F - 1,by omega⟩
  rw[yN]
  cases hc:(List.range (runEnd m i + 1 - i)).find? fun k=>(owner.getD (i + k) (some 0)).isNone with
  | some k =>
   have:=Zv hc
   exact⟨i + k,rfl,this⟩
  | none=>exact yO n G _ _ (by omega) hs
end
structure Ow (m:Nat) (owner:Array (Option Nat)) (k:Nat):Prop where
 size:owner.size=m + 1
 cnt:owner.toList.countP Option.isSome=k
 lt:∀ x,some x∈owner.toList->x < k
theorem yP:∀ {l:List (Option Nat)} {j k:Nat},l[j]? = some none->(l.set j (some k)).countP Option.isSome=l.countP Option.isSome + 1
 | [],j,k,h=>by simp at h
 | x :: l,0,k,h=>by
  simp at h;subst h
  rw[WM,WB,WB];rfl
 | x :: l,j + 1,k,h=>by
  simp at h
  rw[WN,WB,WB,yP h];omega
theorem getD_none {owner:Array (Option Nat)} {j:Nat} (h:(owner.getD j (some 0)).isNone=true):owner.toList[j]? = some none:=by
 rw[W5] at h
 rw[Wa]
 cases e:owner[j]? with
 | none=>rw[e] at h;cases h
 | some x =>
  rw[e] at h
  cases x with
  | none=>rfl
  | some y=>cases h
theorem DM {m:Nat} {owner:Array (Option Nat)} {k:Nat} (O:Ow m owner k) (hk:k <= m):∃ e,e <= m/\(owner.getD e (some 0)).isNone=true:=by
 refine YF fun no => ?_
 have all:∀ x∈owner.toList,x.isSome=true:=by
  intro x hx
  obtain⟨e,he⟩:=V0.mp hx
  cases x with
  | some y=>rfl
  | none =>
   have hl:=(su.mp he).1
   rw[Fj,O.size] at hl
   refine absurd ⟨e,Yy hl,?_⟩ no
   rw[W5,<-Wa,he];rfl
 have:=List.countP_eq_length.mpr all
 rw[O.cnt,Fj,O.size] at this
 omega
theorem JB {m:Nat} {owner:Array (Option Nat)} {k:Nat} (hm:Mk m) (O:Ow m owner k) (hk:k <= m) (h:Int):∃ j,layClean.free m owner (turns m) (bits h % (m + 1)) (bits h)=some j/\Ow m (owner.setIfInBounds j (some k)) (k + 1):=by
 obtain⟨e,he,hn⟩:=DM O hk
 obtain⟨n,rS,en⟩:=reach hm (i:=bits h % (m + 1)) (yM h) he
 obtain⟨j,ej,hj⟩:=yO (m:=m) (owner:=owner) n (turns m) (bits h % (m + 1)) (bits h) (by unfold turns;omega) (by rw[en];exact hn)
 refine⟨j,ej,by rw[Z6];exact O.size,?_,fun x hx => ?_⟩
 ·rw[XD,yP (getD_none hj),O.cnt]
 ·rw[XD] at hx
  rcases ZQ hx with h | h
  ·exact WC (O.lt x h)
  ·cases h;exact XJ _
theorem DN (m:Nat):Ow m (Array.replicate (m + 1) none) 0:=by
 refine⟨by simp,?_,fun x hx => ?_⟩
 ·rw[Y0]
  exact List.countP_eq_zero.mpr fun x hx=>by rw[YH hx];decide
 ·rw[Y0] at hx
  cases YH hx
noncomputable def iq (m:Nat) (owner:Array (Option Nat)):List (Nat × Nat):=(List.range (m + 1)).filterMap fun j=>(owner.getD j none).map (j,·)
theorem yQ {m:Nat} {owner:Array (Option Nat)} {k:Nat} (O:Ow m owner k):(iq m owner).length=k:=by
 unfold iq
 rw[Zb,<-O.cnt]
 have e:owner.toList=(List.range (m + 1)).map fun j=>owner.getD j none:=by
  refine XE fun i => ?_
  rw[Wa,Fl]
  by_cases hi:i < m + 1
  ·rw[WH hi,YN,Vv (by rw[O.size];exact hi),W5,Vv (by rw[O.size];exact hi)];rfl
  ·rw[Xp (by rw[O.size];omega),Ww (by rw[Ws];omega)];rfl
 rw[e,q0o]
 refine List.countP_congr fun j _ => ?_
 simp
theorem DO {α : Type} {es:Array α} {order:Array Nat} (h:∀ k∈order.toList,k < es.size):(order.filterMap (es[·]?)).size=order.size/\∀ e∈(order.filterMap (es[·]?)).toList,e∈es.toList:=by
 constructor
 ·rw[<-Fj,Yq,Zb,List.countP_eq_length.mpr fun k hk => ?_,Fj]
  rw[Vv (h k hk)];rfl
 ·intro e he
  rw[Yq] at he
  obtain⟨k,_,q⟩:=X8.mp he
  exact V0.mpr ⟨k,by rw[Wa];exact q⟩
theorem yR (t:SetTable) (hd:t.dummies = #[]) (j:Nat):(t.put j).1.dummies = #[]/\(t.put j).1.mask=t.mask/\(t.put j).1.place.size=t.place.size + 1/\(t.put j).1.led=t.led/\(t.put j).1.plain=t.plain/\(t.put j).1.moves=t.moves/\(t.put j).1.finger=t.finger:=by
 unfold put
 dsimp only
 rw[hd,DG]
 refine⟨rfl,rfl,?_,rfl,rfl,rfl,rfl⟩
 unfold insertAt
 simp only[Array.size_append,q0p,Array.size_extract]
 omega
theorem yS {α : Type} (xs:Array α) (p:Nat) (x : α):(insertAt xs p x).size=xs.size + 1:=by
 unfold insertAt
 simp only[Array.size_append,q0p,Array.size_extract]
 omega
end LJS
namespace LJS
open PySem PySem.SetTable PyProof.Rows
structure gw (t:SetTable) (es:Array (Int × Value)) (hs:List Int):Prop where
 l9:t.dummies = #[]
 l_:Mk t.mask
 ij:t.place.size=es.size
 num:es.size=hs.length
 iK:t.tooFull=false
 ins:∀ e∈es.toList,e.1∈hs
noncomputable def kJ (h:Heap) (S:Addr) (hs:List Int):Prop:=∃ o es ep t,h.get? S=some o/\o.ExactSet/\o.data = .set es ep t/\gw t es hs
section
variable {t:SetTable} {es:Array (Int × Value)} {hs:List Int}
theorem gw.fill (T:gw t es hs):t.fill=es.size:=by
 unfold SetTable.fill
 rw[T.ij,T.l9];rfl
theorem gw.lt (T:gw t es hs):es.size * 5 < t.mask * 3:=by
 have:=T.iK
 unfold tooFull at this
 rw[T.fill] at this
 have:=YS this
 omega
theorem gw.fits (T:gw t es hs):t.fits es.size=true:=by
 have:=T.lt
 unfold SetTable.fits
 rw[T.fill,T.ij]
 simp
 omega
theorem gw.tE (T:gw t es hs):t.gaveWay=false:=by
 unfold SetTable.gaveWay
 rcases T.l_ with h | h | h<;>rw[h]<;>rfl
end
theorem DP:sizeAbove (grown 5) - 1=31:=by decide +kernel
theorem DQ:sizeAbove (grown 19) - 1=127:=by decide +kernel
section
variable {prog:Program} {w:World} {A:Around} {E:Value->Shared->Prop} {s:Shared}
end
end LJS
namespace LJS
open PySem PySem.SetTable
noncomputable def Up (xs:Array Nat):Prop:=xs.toList.Pairwise (· < ·)
theorem Up.lt {xs:Array Nat} (u:Up xs) {i k:Nat} (JD:i < k) (hk:k < xs.size):xs[i]'(by omega) < xs[k]:=by
 have:=Yb.mp u i k (by rw[Fj];omega) (by rw[Fj];exact hk) JD
 simpa using this
theorem yT {xs:Array Nat} (u:Up xs) (j:Nat):∀ (fuel lo hi:Nat),hi <= xs.size->lo <= hi->hi - lo <= fuel->(∀ i,(h:i < xs.size)->i < lo->xs[i] < j)->(∀ i,(h:i < xs.size)->hi <= i->j <= xs[i]) →
  below.go xs j fuel lo hi <= xs.size/\(∀ i,(h:i < xs.size)->i < below.go xs j fuel lo hi->xs[i] < j)/\(∀ i,(h:i < xs.size)->below.go xs j fuel lo hi <= i->j <= xs[i])
 | 0,lo,hi,h1,h2,h3,a,b=>by
  have:lo=hi:=by omega
  subst this
  exact⟨h1,a,b⟩
 | fuel + 1,lo,hi,h1,h2,h3,a,b=>by
  unfold below.go
  by_cases c:lo < hi
  ·rw[MD c]
   have hm:(lo + hi) / 2 < xs.size:=by omega
   have em:xs.getD ((lo + hi) / 2) j=xs[(lo + hi) / 2]:=by rw[W5,Vv hm];rfl
   simp only[em]
   by_cases d:xs[(lo + hi) / 2] < j
   ·rw[MD d]
    refine yT u j fuel _ hi h1 (by omega) (by omega) (fun i bZ hl => ?_) b
    by_cases e:i < (lo + hi) / 2
    ·exact q0f (u.lt e hm) d
    ·have:i=(lo + hi) / 2:=by omega
     subst this;exact d
   ·rw[MA d]
    refine yT u j fuel lo _ (by omega) (by omega) (by omega) a fun i bZ hl => ?_
    by_cases e:(lo + hi) / 2 < i
    ·exact Xj (YT (Zf d) (u.lt e bZ))
    ·have:i=(lo + hi) / 2:=by omega
     subst this;exact Zf d
  ·rw[MA c]
   have:lo=hi:=by omega
   subst this
   exact⟨h1,a,b⟩
theorem rT {xs:Array Nat} (u:Up xs) (j:Nat):below xs j <= xs.size/\(∀ i,(h:i < xs.size)->i < below xs j->xs[i] < j)/\(∀ i,(h:i < xs.size)->below xs j <= i->j <= xs[i]) :=
 yT u j xs.size 0 xs.size (wG _) (WK _) (by omega) (fun i _ h=>by omega) (fun i h h'=>by omega)
theorem JH {xs:Array Nat} (u:Up xs) {i:Nat} (hi:i < xs.size):below xs (xs[i] + 1)=i + 1:=by
 obtain⟨h0,h1,h2⟩:=rT u (xs[i] + 1)
 have a:i < below xs (xs[i] + 1):=by
  refine Nat.lt_of_not_le fun z => ?_
  have:=h2 i hi z
  omega
 have b:below xs (xs[i] + 1) <= i + 1:=by
  refine Zf fun z => ?_
  have hk:i + 1 < xs.size:=by omega
  have:=h1 (i + 1) hk z
  have:=u.lt (k:=i + 1) (XJ i) hk
  omega
 omega
theorem JJ {xs:Array Nat} (u:Up xs):below xs 0=0:=by
 obtain⟨h0,h1,h2⟩:=rT u 0
 refine Nat.eq_zero_of_not_pos fun z => ?_
 have:=h1 0 (by omega) z
 omega
theorem DR {t:SetTable} (u:Up t.place) {j:Nat} (hj:j∉t.place.toList):Up (t.put j).1.place:=by
 obtain⟨h0,h1,h2⟩:=rT u j
 show Up (insertAt t.place (below t.place j) j)
 unfold Up insertAt
 generalize below t.place j=p at h0 h1 h2
 have eL:(((t.place.extract 0 p).push j) ++ t.place.extract p t.place.size).toList=t.place.toList.take p ++ ([j] ++ t.place.toList.drop p):=by
  simp only[Array.toList_append,Ye,Array.toList_extract,ZR,Y1,q0g,XS]
  have e2:List.take (t.place.size - p) (List.drop p t.place.toList)=List.drop p t.place.toList:=Xd (by rw[XM,Fj];exact wG _)
  rw[e2]
 rw[eL]
 have lo:∀ x∈t.place.toList.take p,x < j:=by
  intro x hx
  obtain⟨i,hi,e⟩:=Xa.mp hx
  rw[Wn,Fj] at hi
  rw[Y2] at e
  have:=h1 i (by omega) (by omega)
  rw[<-e];simpa using this
 have bZ:∀ x∈t.place.toList.drop p,j < x:=by
  intro x hx
  obtain⟨i,hi,e⟩:=Xa.mp hx
  rw[XM,Fj] at hi
  rw[List.getElem_drop] at e
  have:=h2 (p + i) (by omega) (by omega)
  have JK:j <= x:=by rw[<-e];simpa using this
  refine Nat.lt_of_le_of_ne JK fun z=>hj ?_
  rw[z];exact List.mem_of_mem_drop hx
 refine List.pairwise_append.mpr ⟨u.sublist (ZU _ _),?_,fun a ha b hb => ?_⟩
 ·exact Xe.mpr ⟨bZ,u.sublist (List.drop_sublist _ _)⟩
 ·rcases Fo.mp hb with rfl | hb
  ·exact lo a ha
  ·exact q0f (lo a ha) (bZ b hb)
theorem JL (n:Nat) (f:Nat->Option Nat):(((List.range n).filterMap fun j=>(f j).map fun x=>(j,x)).map (·.1)).Pairwise (· < ·):=by
 rw[Yf]
 refine List.Pairwise.filterMap _ (fun a a' cK b hb b' d6 => ?_) (List.pairwise_lt_range (n:=n))
 obtain⟨x,_,rfl⟩:=Vu.mp hb
 obtain⟨y,_,rfl⟩:=Vu.mp d6
 exact cK
theorem DS (m:Nat) (owner:Array (Option Nat)):((iq m owner).map (·.1)).Pairwise (· < ·):=JL (m + 1) fun j=>owner.getD j none
theorem DT {α : Type} (next:Nat->Nat):∀ (fuel k:Nat) (left:List α) (out:Array α),left.length <= fuel->(pickOrder.go next fuel k left out).toList.Perm (out.toList ++ left)
 | 0,k,left,out,h=>by
  have:left=[]:=YW.mp (by omega)
  subst this
  rw[YO]
  exact Yo _
 | fuel + 1,k,left,out,h=>by
  unfold pickOrder.go
  cases left with
  | nil=>simp
  | cons a l =>
   have cK:next k % (a :: l).length < (a :: l).length:=Nat.mod_lt _ (by rw[Fm];omega)
   rw[qv cK]
   refine (DT next fuel (k + 1) _ _ ?_).trans ?_
   ·rw[Yz cK];omega
   ·rw[Ye,XS]
    refine Zc _ ?_
    generalize next k % (a :: l).length=j at cK
    exact (jq cK).symm
where
 jq {α : Type}:∀ {l:List α} {j:Nat} (h:j < l.length),List.Perm l (l[j] :: l.eraseIdx j)
  | [],_,h=>by simp at h
  | a :: l,0,_=>Yo _
  | a :: l,j + 1,h=>(List.Perm.cons a (jq (l:=l) (j:=j) (by simpa using h))).trans (List.Perm.swap _ _ _)
theorem JM {α : Type} (next:Nat->Nat) (xs:Array α):(pickOrder next xs).toList.Perm xs.toList:=by
 have:=DT next xs.size 0 xs.toList #[] (by rw[Fj];exact wG _)
 unfold pickOrder
 simpa using this
theorem we {t:SetTable} {f:Nat->Int} {h:Int}:∀ {fuel:Nat} {p:Probe} {j:Nat} {d:Option Nat},probe.go t f h fuel p=some (.empty j d)->t.slot j = .empty
 | 0,_,_,_,e=>nomatch e
 | fuel + 1,p,j,d,e=>by
  rw[pT] at e
  cases q:t.slot p.j with
  | empty =>
   rw[q] at e
   cases e
   exact q
  | dummy =>
   rw[q] at e
   exact we e
  | live i =>
   rw[q] at e
   by_cases c:(f i == h)=true
   ·simp only[c,Ym] at e;cases e
   ·simp only[c,W9] at e;exact we e
theorem DU {t:SetTable} (u:Up t.place) {j:Nat} (e:t.slot j = .empty):j∉t.place.toList:=by
 intro hm
 obtain⟨i,hi,ei⟩:=Xa.mp hm
 have bZ:i < t.place.size:=by rw[<-Fj];exact hi
 have yU:t.place[i]=j:=by simpa using ei
 obtain⟨h0,h1,h2⟩:=rT u j
 have a:¬ i < below t.place j:=fun z=>by have:=h1 i bZ z;omega
 have b:¬ below t.place j < i:=fun z=>by
  have:=h2 (below t.place j) (by omega) (wG _)
  have:=u.lt z bZ
  omega
 have eb:below t.place j=i:=by omega
 unfold slot at e
 rw[eb] at e
 have:(t.place[i]? == some j)=true:=by rw[Vv bZ,yU];simp
 simp only[this,Ym] at e
 cases e
noncomputable def me (owner:Array (Option Nat)) (k:Nat):Prop:=(owner.toList.filterMap id).Perm (List.range k)
theorem yV:∀ {l:List (Option Nat)} {j k:Nat},l[j]? = some none->((l.set j (some k)).filterMap id).Perm (k :: l.filterMap id)
 | [],j,k,h=>by simp at h
 | x :: l,0,k,h=>by
  simp at h;subst h
  rw[WM]
  show (k :: l.filterMap id).Perm (k :: l.filterMap id)
  exact Yo _
 | x :: l,j + 1,k,h=>by
  simp at h
  rw[WN]
  cases x with
  | none =>
   show ((l.set j (some k)).filterMap id).Perm (k :: l.filterMap id)
   exact yV h
  | some y =>
   show (y :: (l.set j (some k)).filterMap id).Perm (k :: y :: l.filterMap id)
   exact (List.Perm.cons y (yV h)).trans (List.Perm.swap _ _ _)
theorem JN {owner:Array (Option Nat)} {j k:Nat} (P:me owner k) (h:owner.toList[j]? = some none):me (owner.setIfInBounds j (some k)) (k + 1):=by
 unfold me at P ⊢
 rw[XD,List.range_succ]
 exact (yV h).trans ((List.Perm.cons k P).trans (List.perm_append_singleton k _).symm)
theorem JO {m:Nat} {owner:Array (Option Nat)} {k:Nat} (hm:Mk m) (O:Ow m owner k) (Pm:me owner k) (hk:k <= m) (h:Int):∃ j,layClean.free m owner (turns m) (bits h % (m + 1)) (bits h)=some j/\Ow m (owner.setIfInBounds j (some k)) (k + 1)/\me (owner.setIfInBounds j (some k)) (k + 1):=by
 obtain⟨e,he,hn⟩:=DM O hk
 obtain⟨n,rS,en⟩:=reach hm (i:=bits h % (m + 1)) (yM h) he
 obtain⟨j,ej,hj⟩:=yO (m:=m) (owner:=owner) n (turns m) (bits h % (m + 1)) (bits h) (by unfold turns;omega) (by rw[en];exact hn)
 refine⟨j,ej,⟨by rw[Z6];exact O.size,?_,fun x hx => ?_⟩,JN Pm (getD_none hj)⟩
 ·rw[XD,yP (getD_none hj),O.cnt]
 ·rw[XD] at hx
  rcases ZQ hx with h | h
  ·exact WC (O.lt x h)
  ·cases h;exact XJ _
theorem DW {m:Nat} (hm:Mk m):∀ (hs:List Int) (owner:Array (Option Nat)) (k:Nat),Ow m owner k->me owner k->k + hs.length <= m + 1 →
  ∃ aU,(hs.foldl (init:=some (owner,k)) fun acc h=>do
   let (owner,k) <- acc
   let j <- layClean.free m owner (turns m) (bits h % (m + 1)) (bits h)
   pure (owner.setIfInBounds j (some k),k + 1))=some (aU,k + hs.length)/\Ow m aU (k + hs.length)/\me aU (k + hs.length)
 | [],owner,k,O,Pm,_=>⟨owner,rfl,O,Pm⟩
 | h :: hs,owner,k,O,Pm,hl=>by
  rw[Fm] at hl ⊢
  obtain⟨j,ej,O',P'⟩:=JO hm O Pm (by omega) h
  obtain⟨o2,e2,O2,P2⟩:=DW hm hs _ (k + 1) O' P' (by omega)
  refine⟨o2,?_,by rw[show k + (hs.length + 1)=k + 1 + hs.length by omega];exact⟨O2,P2⟩⟩
  rw[q0q,show k + (hs.length + 1)=k + 1 + hs.length by omega,<-e2]
  congr 1
  show (do let j <- layClean.free m owner (turns m) (bits h % (m + 1)) (bits h);pure (owner.setIfInBounds j (some k),k + 1))=_
  rw[ej];rfl
theorem JP (m:Nat):me (Array.replicate (m + 1) none) 0:=by
 unfold me
 rw[Y0,List.filterMap_eq_nil_iff.mpr fun x hx=>by rw[YH hx];rfl]
 exact Yo _
theorem DX {m:Nat} (hm:Mk m) (hs:Array Int) (hz:hs.size <= m + 1):∃ owner,layClean m hs=some owner/\Ow m owner hs.size/\me owner hs.size:=by
 obtain⟨o,e,O,Pm⟩:=DW hm hs.toList _ 0 (DN m) (JP m) (by rw[Fj];omega)
 rw[Wv,Fj] at O Pm
 refine⟨o,?_,O,Pm⟩
 unfold layClean
 rw[<-Array.foldl_toList,e];rfl
theorem DY {m:Nat} {owner:Array (Option Nat)} (hs:owner.size=m + 1):(iq m owner).map (·.2)=owner.toList.filterMap id:=by
 unfold iq
 rw[List.map_filterMap]
 have e:owner.toList=(List.range (m + 1)).map fun j=>owner.getD j none:=by
  refine XE fun i => ?_
  rw[Wa,Fl]
  by_cases hi:i < m + 1
  ·rw[WH hi,YN,Vv (by rw[hs];exact hi),W5,Vv (by rw[hs];exact hi)];rfl
  ·rw[Xp (by rw[hs];omega),Ww (by rw[Ws];omega)];rfl
 rw[e,ZH]
 congr 1
 funext j
 show Option.map (fun x:Nat × Nat=>x.2) (Option.map (fun x=>(j,x)) (owner.getD j none))=owner.getD j none
 cases owner.getD j none<;>rfl
theorem JQ {m:Nat} (hm:Mk m) (t:SetTable) (hs:Array Int) (wanted:Nat) (hw:sizeAbove wanted - 1=m) (hz:hs.size <= m + 1) :
  ∃ t' order,t.relaid hs wanted=some (t',order)/\t'.mask=m/\t'.dummies = #[]/\t'.place.size=hs.size/\t'.led=t.led/\t'.plain=t.plain/\Up t'.place/\order.toList.Perm (List.range hs.size):=by
 obtain⟨owner,e,O,Pm⟩:=DX hm hs hz
 refine⟨{ mask:=m,place:=((iq m owner).map (·.1)).toArray,dummies := #[],finger:=t.finger,led:=t.led,moves:=t.movedTo m,plain:=t.plain },((iq m owner).map (·.2)).toArray,?_,rfl,rfl,?_,rfl,rfl,?_,?_⟩
 ·unfold relaid laid
  rw[hw,e];rfl
 ·rw[Ad,qx,yQ O]
 ·unfold Up
  exact DS m owner
 ·show ((iq m owner).map (·.2)).Perm _
  rw[DY O.size];exact Pm
theorem JR {order:Array Nat} {n:Nat} (h:order.toList.Perm (List.range n)):coversAll order n=true:=by
 unfold coversAll
 exact List.isPerm_iff.mpr h
end LJS
namespace LJS
open PySem PySem.SetTable PyProof.Rows
noncomputable def keyOf (e:Int × Value):Int:=match e.2 with
 | .int k _=>k
 | _=>0
structure cL (t:SetTable) (es:Array (Int × Value)) (led:Bool) (ks:List Int):Prop where
 l9:t.dummies = #[]
 l_:Mk t.mask
 ij:t.place.size=es.size
 iK:t.tooFull=false
 up:Up t.place
 tF:t.plain=true
 yW:t.led=led
 wg:∀ e∈es.toList,∃ k tk,e=(hashInt k,Value.int k tk)
 keys:(es.toList.map keyOf).Perm ks
 mT:ks.Nodup
noncomputable def eY (h:Heap) (S:Addr) (led:Bool) (ks:List Int):Prop:=∃ o es ep t,h.get? S=some o/\o.ExactSet/\o.data = .set es ep t/\cL t es led ks
section
variable {t:SetTable} {es:Array (Int × Value)} {led:Bool} {ks:List Int}
theorem cL.num (T:cL t es led ks):es.size=ks.length:=by rw[<-T.keys.length_eq,qx,Fj]
theorem cL.fill (T:cL t es led ks):t.fill=es.size:=by unfold SetTable.fill;rw[T.ij,T.l9];rfl
theorem cL.lt (T:cL t es led ks):es.size * 5 < t.mask * 3:=by
 have:=T.iK
 unfold tooFull at this
 rw[T.fill] at this
 have:=YS this
 omega
theorem cL.fits (T:cL t es led ks):t.fits es.size=true:=by
 have:=T.lt
 unfold SetTable.fits
 rw[T.fill,T.ij]
 simp
 omega
theorem cL.elems {prog:Program} {w:World} (T:cL t es led ks):ElemsOf (intKind prog w) es.toList:=fun e he=>by
 obtain⟨k,tk,rfl⟩:=T.wg e he
 exact⟨⟨k,Zg ..,rfl⟩,rfl⟩
theorem cL.lay (T:cL t es led ks) (k:Int) (tk:Tok):∃ j,j∉t.place.toList/\layNew t es (hashInt k) (.int k tk)=(insertAt es (t.put j).2 (hashInt k,.int k tk),(t.put j).1,false,false):=by
 have lt:=T.lt
 obtain⟨j,ej⟩:=DL (t:=t) (f:=fun _=>hashInt k + 1) (h:=hashInt k) T.l9 T.l_ (by rw[T.ij];omega) (fun i _ z=>by omega)
 have hs:t.slot j = .empty:=we ej
 obtain⟨p1,p2,p3,_⟩:=yR t T.l9 j
 refine⟨j,DU T.up hs,?_⟩
 have ff:(t.put j).1.fits (insertAt es (t.put j).2 (hashInt k,Value.int k tk)).size=true:=by
  unfold SetTable.fits SetTable.fill
  rw[p1,p2,p3,yS,T.ij]
  simp
  omega
 unfold layNew freeSlot
 rw[ej]
 show (insertAt es (t.put j).2 (hashInt k,Value.int k tk),(t.put j).1.orStandIn (insertAt es (t.put j).2 (hashInt k,Value.int k tk)).size,false,!(t.put j).1.fits (insertAt es (t.put j).2 (hashInt k,Value.int k tk)).size)=_
 unfold SetTable.orStandIn
 rw[ff,MD rfl];rfl
end
section
variable {prog:Program} {w:World} {A:Around} {E:Value->Shared->Prop} {s:Shared}
theorem add_int {S:Addr} {k:Int} {tk:Tok} {led:Bool} {ks:List Int} {Q:Bool->Shared->Prop} (hS:eY s.heap S led ks) (hl:ks.length < 60)
  (fin:∀ (b:Bool) h',Heap.SameBut S s.heap h'->eY h' S led (if k∈ks then ks else ks ++ [k])->Q b { s with heap:=h' }):wpAny (model prog w) A (setAddHashed S (.int k tk) (hashInt k)) Q E s:=by
 obtain⟨o,es,ep,t,ho,hex,hd,T⟩:=hS
 have hb:es.size < scanBound:=by rw[T.num];unfold scanBound;omega
 have el:=T.elems (prog:=prog) (w:=w)
 unfold setAddHashed
 refine Wo ?_
 show wpAny _ _ (setAddHashedIn S (.int k tk) (hashInt k) (99999 + 1)) _ _ _
 unfold setAddHashedIn
 refine nG (Xk ho hd T.fits ?_)
 dsimp only
 rw[byScan_of (knd:=intKind prog w) rfl hb el]
 simp only[↓reduceIte]
 unfold setAddByScan
 refine nG ?_
 refine nG (Zh ?_)
 refine nG (wpAny_setScan_of (knd:=intKind prog w) (k:=k) (Zg ..) ho hd T.fits el ?_)
 have DZ:∀ e∈es.toList,(intKind prog w).is k e.2=decide (k=keyOf e):=fun e he=>by
  obtain⟨k',kK,rfl⟩:=T.wg e he
  exact KeyKind.is_eq_decide (Zg ..) k
 cases hr:es.toList.findIdx? (fun e=>(intKind prog w).is k e.2) with
 | some j =>
  obtain⟨hj,D0,_⟩:=List.findIdx?_eq_some_iff_getElem.mp hr
  have hm:es.toList[j]∈es.toList:=XN hj
  rw[DZ _ hm] at D0
  have hk:k∈ks:=T.keys.mem_iff.mp (by rw[XT D0];exact Wg.mpr ⟨_,hm,rfl⟩)
  dsimp only
  refine uk (uk ?_)
  have e:s={ s with heap:=s.heap }:=by cases s;rfl
  rw[e]
  exact fin false s.heap (Heap.SameBut.refl S s.heap) (by rw[MD hk];exact⟨o,es,ep,t,ho,hex,hd,T⟩)
 | none =>
  have hk:k∉ks:=fun z=>by
   obtain⟨e,he,ek⟩:=Wg.mp (T.keys.mem_iff.mpr z)
   have:=List.findIdx?_eq_none_iff.mp hr e he
   rw[DZ e he,<-ek,V_ rfl] at this
   cases this
  dsimp only
  obtain⟨j,nj,ej⟩:=T.lay k tk
  rw[ej]
  rw[MA hk] at fin
  obtain⟨p1,p2,p3,p4,p5,p6,p7⟩:=yR t T.l9 j
  have up1:=DR T.up nj
  have g5:=yS es (t.put j).2 (hashInt k,Value.int k tk)
  have oP:(insertAt es (t.put j).2 (hashInt k,Value.int k tk)).toList.Perm (es.toList ++ [(hashInt k,Value.int k tk)]):=by
   have:=Y3 es (t.put j).2 (hashInt k,Value.int k tk)
   rw[Ye] at this
   exact this
  have lt:=T.lt
  have JU:es.size < 60:=by rw[T.num];exact hl
  generalize (t.put j).1=t2 at p1 p2 p3 p4 p5 up1 ⊢
  generalize insertAt es (t.put j).2 (hashInt k,Value.int k tk)=bV at g5 oP ⊢
  have ints2:∀ e∈bV.toList,∃ k tk,e=(hashInt k,Value.int k tk):=fun e he=>by
   rcases W7.mp (oP.mem_iff.mp he) with q | q
   ·exact T.wg e q
   ·exact⟨k,tk,Wc.mp q⟩
  have oQ:(bV.toList.map keyOf).Perm (ks ++ [k]):=by
   refine (oP.map keyOf).trans ?_
   rw[WD]
   exact List.Perm.append_right _ T.keys
  have kL:(ks ++ [k]).Nodup:=XU.mpr ⟨T.mT,by simp,fun a ha b hb z=>hk (by rw[<-Wc.mp hb,<-z];exact ha)⟩
  have yX:t2.place.size=bV.size:=by rw[p3,T.ij,g5]
  have fl:t2.fill=es.size + 1:=by unfold SetTable.fill;rw[p1,p3,T.ij];rfl
  have oR:t2.fits bV.size=true:=by
   unfold SetTable.fits
   rw[fl,p3,g5,p2,T.ij]
   simp
   rcases T.l_ with e | e | e<;>rw[e] at lt ⊢ <;> omega
  refine nG (uk ?_)
  dsimp only
  rw[p5,T.tF,MD rfl]
  refine nG ?_
  rw[hashByValue_scannable 8 rfl]
  refine uk ?_
  rw[MD (show plainKind (Value.int k tk)=true from rfl)]
  refine nG (Y4 ho hd ?_ (by rw[g5,WX];omega))
  have fW:(s.heap.update S (Obj.putSet bV t2)).get? S=some { o with data := .set bV (ep + 1) t2 }:=by
   have:=WR (Obj.putSet bV t2) ho (by rw[Zi bV t2 hd];rfl)
   rw[Zi bV t2 hd] at this;exact this
  by_cases tf:t2.tooFull=true
  ·rw[MD (by rw[tf];rfl)]
   have pU:t.mask * 3 <= (es.size + 1) * 5:=by
    unfold tooFull at tf
    rw[fl,p2] at tf
    have:=XT tf
    omega
   obtain⟨m,hm,hw,hsz⟩:∃ m,Mk m/\sizeAbove (grown bV.size) - 1=m/\(es.size + 1) * 5 < m * 3:=by
    rw[g5]
    rcases T.l_ with e | e | e
    ·rw[e] at lt pU
     have:es.size + 1=5:=by omega
     rw[this]
     exact⟨31,.inr (.inl rfl),DP,by omega⟩
    ·rw[e] at lt pU
     have:es.size + 1=19:=by omega
     rw[this]
     exact⟨127,.inr (.inr rfl),DQ,by omega⟩
    ·rw[e] at pU;omega
   obtain⟨t3,order,er,r1,r2,r3,r4,r5,r6,r7⟩:=JQ hm t2 (bV.map (·.1)) (grown bV.size) hw (by rw[Y5,g5];omega)
   rw[Y5] at r3 r7
   have tG:=relayAll_perm t2 bV (grown bV.size)
   have e3:relayAll t2 bV (grown bV.size)=(order.filterMap (bV[·]?),t3,false):=by
    have JV:(order.filterMap (bV[·]?)).size=bV.size:=by
     have:=DO (es:=bV) (order:=order) fun x hx=>Wh.mp (r7.mem_iff.mp hx)
     rw[this.1,<-Fj,r7.length_eq,Ws]
    have ff:t3.fits (order.filterMap (bV[·]?)).size=true:=by
     unfold SetTable.fits SetTable.fill
     rw[JV,r2,r3,r1,g5]
     simp
     omega
    unfold relayAll
    rw[er]
    show (if (coversAll order bV.size && t3.fits (order.filterMap (bV[·]?)).size)=true then _ else _)=_
    rw[JR r7,ff];rfl
   rw[e3] at tG ⊢
   refine nG (uk ?_)
   dsimp only
   generalize order.filterMap (bV[·]?)=wj at tG ⊢
   have D1:wj.size=bV.size:=by rw[<-Fj,tG.length_eq,Fj]
   refine nG (Y4 fW rfl ?_ (by rw[D1,g5,WX];omega))
   have fI:((s.heap.update S (Obj.putSet bV t2)).update S (Obj.putSet wj t3)).get? S=some { o with data := .set wj (ep + 1 + 1) t3 }:=by
    have:=WR (Obj.putSet wj t3) fW (by rw[Zi _ t3 rfl];rfl)
    rw[Zi _ t3 rfl] at this;exact this
   refine uk (uk (fin true _ ((Wr ..).trans (Wr ..)) ⟨_,_,_,_,fI,hex,rfl,r2,by rw[r1];exact hm,by rw[r3,D1],?_,r6,by rw[r5,p5];exact T.tF,by rw[r4,p4];exact T.yW,fun e he=>ints2 e (tG.mem_iff.mp he),(tG.map keyOf).trans oQ,kL⟩))
   unfold tooFull SetTable.fill
   rw[r2,r3,r1,g5]
   simp
   omega
  ·have tH:t2.tooFull=false:=by cases q:t2.tooFull<;>simp_all
   rw[MA (by rw[tH];decide)]
   refine uk (uk (fin true _ (Wr ..) ⟨_,_,_,_,fW,hex,rfl,p1,by rw[p2];exact T.l_,yX,tH,up1,by rw[p5];exact T.tF,by rw[p4];exact T.yW,ints2,oQ,kL⟩))
theorem D2 {ks:List Int}:∀ {vs:List Value},ItemsAre (intKind prog w) ks vs->∀ v∈vs,∃ i t,v = .int i t:=by
 induction ks with
 | nil=>intro vs h v hv;cases h;cases hv
 | cons k ks ih =>
  intro vs h v hv
  cases h with
  | cons h1 h2 =>
   rcases Fo.mp hv with rfl | hv
   ·obtain⟨t,e⟩:=Value.isInt_shape (k:=k) (v:=v) (by first | exact h1 | simpa [intKind] using h1)
    exact⟨_,_,e⟩
   ·exact ih h2 v hv
theorem JX {ks:List Int} {a:Addr} {Q:Bool->Shared->Prop} (hk:IsTupleKey (intKind prog w) s.heap ks a) (h:∀ b,Q b s):wpAny (model prog w) A (hashByValue 8 (.ref a)) Q E s:=by
 have hT:=hk.typeIs
 obtain⟨o,ag,n,ho,_,hd,hi⟩:=hk
 show wpAny _ _ (hashByValue (7 + 1) (.ref a)) _ _ _
 unfold hashByValue
 refine nG (wpAny_specialOf hT F.slot_tuple_hash.lookup ?_)
 show wpAny _ _ (seqItems? (.ref a) >>= _) _ _ s
 refine nG (XF ho hd ?_)
 refine nG ?_
 show wpAny _ _ (forIn ag _ _) _ _ s
 rw[<-YU]
 refine Zj _ (fun rest _ s'=>s'=s/\∀ v∈rest,∃ i t,v=Value.int i t) _ ?_ ?_ _ _ ⟨rfl,D2 hi⟩
 ·rintro v rest r s' ⟨rfl,gx⟩
  obtain⟨i,t,rfl⟩:=gx v Mz
  have e:hashByValue 7 (.int i t)=pure true:=by unfold hashByValue;rfl
  rw[e]
  refine nG (uk ?_)
  simp only[XR,V6,W9]
  exact uk ⟨rfl,fun u hu=>gx u (MB _ hu)⟩
 ·rintro ⟨r1,r2⟩ s' ⟨rfl,_⟩
  cases r1 with
  | none=>exact uk (h _)
  | some b=>exact uk (h _)
theorem yY {h h':Heap} {ks:List Int} {a:Addr} (x:IsTupleKey (intKind prog w) h ks a) (k:∀ o,h.get? a=some o->h'.get? a=some o):IsTupleKey (intKind prog w) h' ks a:=by
 obtain⟨o,ag,n,ho,r⟩:=x
 exact⟨o,ag,n,k o ho,r⟩
noncomputable abbrev hT (prog:Program) (w:World) (ks:List Int):Int:=tupleKeyHash (intKind prog w) ks
theorem JY {h h':Heap} {S:Addr} {hs:List Int} (x:kJ h S hs) (k:∀ o,h.get? S=some o->h'.get? S=some o):kJ h' S hs:=by
 obtain⟨o,es,ep,t,ho,r⟩:=x
 exact⟨o,es,ep,t,k o ho,r⟩
end
section
variable {prog:Program} {w:World} {A:Around} {R:Result->Shared->Prop} {I S:Addr} {fp wr:List Addr} {G:Array GenState->Array GenState->Prop} {n:Nat} {P:Nat->Value->Prop} {St:Nat->Shared->Prop}
end
theorem yZ {h h':Heap} {S:Addr} {led:Bool} {ks:List Int} (x:eY h S led ks) (k:∀ o,h.get? S=some o->h'.get? S=some o):eY h' S led ks:=by
 obtain⟨o,es,ep,t,ho,r⟩:=x
 exact⟨o,es,ep,t,k o ho,r⟩
noncomputable def once (ks:List Int) (n:Int):List Int:=if n∈ks then ks else ks ++ [n]
noncomputable def oS (ns:List Int):Nat->List Int
 | 0=>[]
 | i + 1=>once (oS ns i) (ns.getD i 0)
theorem y_ (ns:List Int):∀ i,(oS ns i).length <= i
 | 0=>wG _
 | i + 1=>by
  have:=y_ ns i
  show (once (oS ns i) (ns.getD i 0)).length <= i + 1
  unfold once
  split
  ·omega
  ·rw[Vw,Wx];omega
section
variable {prog:Program} {w:World} {A:Around} {R:Result->Shared->Prop} {I S:Addr} {fp wr:List Addr} {G:Array GenState->Array GenState->Prop} {n:Nat} {P:Nat->Value->Prop} {St:Nat->Shared->Prop}
theorem JZ (W:WalksS prog w A.in1 I fp wr G n P St) (out:S∉fp) {led:Bool} (ns:List Int) (isInt:∀ i v,P i v->∃ t,v = .int (ns.getD i 0) t) (mf:n <= 40) :
  ∀ (left i:Nat) (s:Shared),i + left=n->St i s->eY s.heap S led (oS ns i)->(∀ s',Moved (S :: wr) G s s'->eY s'.heap S led (oS ns n)->R (.ok (.ret .none)) s') →
   codeAny (model prog w) A (.builtin "set.update.loop" ⟨[.ref S,.ref I],[]⟩) R s:=by
 have kM:S∉wr:=fun z=>out (W.sub _ z)
 have more:∀ b,b∈wr->b∈S :: wr:=fun b hb=>MB _ hb
 intro left
 induction left with
 | zero =>
  intro i s hi st se fin
  obtain rfl:i=n:=by omega
  refine XH Yp ?_
  rw[Xx Xy _]
  show wpAny _ A.in1 (pyNext (.ref I) >>= _) _ _ s
  refine nG (W.done s _ _ st fun s' mv => ?_)
  show wpAny _ A.in1 (ret Value.none) _ _ s'
  exact uk (fin s' (mv.mono more) (yZ se fun o e=>mv.heap S o kM e))
 | succ left ih =>
  intro i s hi st se fin
  have cK:i < n:=by omega
  refine XH Yp ?_
  rw[Xx Xy _]
  show wpAny _ A.in1 (pyNext (.ref I) >>= _) _ _ s
  refine nG (W.item i s _ _ cK st fun v s1 hP iL mv => ?_)
  obtain⟨t,rfl⟩:=isInt i v hP
  show wpAny _ A.in1 (holding [Value.int (ns.getD i 0) t] (setAdd S (.int (ns.getD i 0) t)) >>= _) _ _ s1
  refine nG (Wo ?_)
  unfold setAdd
  refine Wo (nG ((intKind prog w).pyHash (k:=ns.getD i 0) (Zg _ _ _ _) ?_))
  have hlen:=y_ ns i
  refine add_int (s:={ s1 with toks:=s1.toks + 1 }) (yZ se fun o e=>mv.heap S o kM e) (by omega) fun b h2 sb za => ?_
  have nS:∀ b,b∈fp->b≠S:=fun b hb z=>out (by rw[<-z];exact hb)
  refine uk ⟨YI Xy _,ih (i + 1) _ (by omega) (W.frame _ s1 _ _ iL (XO _ _) fun b hb o e=>by rw[sb.2 b (nS b hb)];exact e) za fun s3 zb zc => ?_⟩
  refine fin s3 (Moved.trans W.gtrans ((mv.mono more).then_heap (XO _ _) fun b o hb e => ?_) zb) zc
  rw[sb.2 b (fun z=>hb (by rw[z];exact Mz))];exact e
end
noncomputable abbrev cM (led:Bool):Obj:={ cls := .type "set",dict:=none,data := .set #[] 0 (.fresh 0 0 led) }
section
variable {prog:Program} {w:World} {A:Around} {E:Value->Shared->Prop} {s:Shared}
end
noncomputable abbrev ir (w:World):Bool := !w.params.followText "set-order"
theorem J0 {h:Heap} {S:Addr} {led:Bool} (e:h.get? S=some (cM led)):eY h S led [] :=
 ⟨_,#[],0,_,e,⟨rfl,rfl,rfl⟩,rfl,rfl,.inl rfl,rfl,by cases led<;>decide,List.Pairwise.nil,rfl,rfl,(fun _ h=>nomatch h),Yo _,Y6⟩
section
variable {prog:Program} {w:World} {A:Around} {E:Value->Shared->Prop} {s:Shared}
theorem J5 (a:Value) {Q₁ : Value->Shared->Prop} (h:Q₁ (.ref s.heap.objs.size) { s with heap:=s.heap.push (cM (ir w)) }) :
  codeAny (model prog w) A (.call (.builtin "set.__new__") ⟨[.type "set",a],[]⟩) (wants Q₁ E) s:=by
 refine codeAny_of_tree ?_
 show wpAny _ A.in1 (checkBuiltinCall "set.__new__" ⟨[.type "set",a],[]⟩ >>= fun _=>again (.builtin "set.__new__" ⟨[.type "set",a],[]⟩)) _ _ s
 refine nG (wpAny_of_eq (F.newCall_set_1 a) (uk ⟨YI F.plain_set_new _,?_⟩))
 refine XH F.entry_set_new ?_
 rw[Xx F.plain_set_new _]
 have x1:=sub_set_self
 unfold Builtin.«set.__new__» Builtin.Frozenset.newClass newSet setsByText
 obtain⟨hp,g,d,tk,os⟩:=s
 dsimp only
 wp_walk
 refine YB (uk ?_)
 dsimp only
 simp only[newObj]
 exact nG (wpAny_alloc (uk (uk h)))
set_option maxHeartbeats 3200000 in
theorem J6 {l:Addr} {items:Array Value} {Q:Value->Shared->Prop} (ns:List Int) (hh:A.handled=none) (rV:s.heap.IsList l items) (isInt:∀ (i:Nat) (v:Value),items[i]? = some v->∃ t,v = .int (ns.getD i 0) t) (D3:items.size <= 40)
  (fin:∀ (h':Heap) (tk:Nat),eY h' s.heap.objs.size (ir w) (oS ns items.size)->(∀ b o,b < s.heap.objs.size->s.heap.get? b=some o->h'.get? b=some o)->Q (.ref s.heap.objs.size) { s with heap:=h',toks:=tk }) :
  wpAny (model prog w) A (call (.type "set") [.ref l]) Q E s:=by
 obtain⟨c,tl,zd⟩:=Xf.mro
 have m1:=Xf.made
 have m2:=Xf.sub
 have m3:=Xf.notType
 have m4:=Xf.canCreate
 have m5:=F.typeCall_set_1 (.ref l)
 refine wpAny_call (codeAny_of_tree ?_)
 show wpAny _ _ (callAny (.type "set") _) _ _ _
 refine uk ⟨Code.quiet_builtin _ (by decide +kernel),XH F.entry_type_call ?_⟩
 rw[Around.under_plain (weight_type_call_type "set" [.ref l] []) rfl]
 repeat (any_goals (first | assumption | wp_step))
 refine YC (J5 (.ref l) (E:=E) (Q₁ := fun r s1=>r = .ref s.heap.objs.size/\s1={ s with heap:=s.heap.push (cM (ir w)) }) ⟨rfl,rfl⟩) fun r s1 hr => ?_
 cases r with
 | error e=>exact hr
 | ok fl =>
  cases fl with
  | ret obj =>
   obtain⟨rfl,rfl⟩:=hr
   generalize J7:ir w=led at fin ⊢
   have gS:(s.heap.push (cM led)).get? s.heap.objs.size=some (cM led):=MC _ rfl
   have tS:Shared.TypeIs { s with heap:=s.heap.push (cM led) } (.ref s.heap.objs.size) "set" := ⟨_,gS,rfl⟩
   have m6:=Xf.init.lookup
   have m7:=Xf.init.bind (.ref s.heap.objs.size)
   repeat (any_goals (first | assumption | wp_step))
   refine YC (codeAny_call_builtin (R:=wants (fun r s2=>r = .none/\∃ h' tk,s2={ s with heap:=h',toks:=tk }/\eY h' s.heap.objs.size led (oS ns items.size) ∧
     ∀ b o,b < s.heap.objs.size->s.heap.get? b=some o->h'.get? b=some o) E) Xf.init.plain F.entry_set_init (check_set_init_1 tS ?_)) fun r2 s2 kN => ?_
   ·obtain⟨ol,gl,cl,nl,dl⟩:=rV
    obtain⟨c0,d0,J8,ze⟩:=ol
    simp only at cl dl
    subst cl
    subst dl
    have zg:(s.heap.push (cM led)).get? l=some { cls := .type "list",dict:=d0,data := .seq items nl,slots:=ze }:=qw _ gl
    have x1:=F.sub_list_set
    have x2:=F.sub_list_frozenset
    have x3:(Value.type "list" == Value.type "dict")=false:=by decide
    have kO:(s.heap.push (cM led)).IsList l items:=⟨_,zg,rfl,nl,rfl⟩
    have ll:l < s.heap.objs.size:=My gl
    unfold Builtin.«set.__init__» noKeywords Builtin.Frozenset.updateFrom
    generalize zh:pyIter=PI
    wp_walk
    subst zh
    refine Yg kO (nG (wpAny_runValue ?_))
    have h3:A.in1.in1.in1.handled=none:=by simp[hh]
    have ez:(s.heap.push (cM led)).objs.size=s.heap.objs.size + 1:=Xh ..
    have nI:l≠(s.heap.push (cM led)).objs.size:=by rw[ez];exact Vx (WC ll)
    refine JZ ((Walks.list h3 _ l nI items).toS) (S:=s.heap.objs.size) ?out (led:=led) ns (fun i v hv=>isInt i v hv) D3 items.size 0 _ (Wv _)
     ⟨⟨_,MC _ rfl,rfl,rfl⟩,kO.push _⟩ ?fresh ?fin
    case out =>
     simp only[Fo,Wd,Xr,q0G,ez]
     exact⟨Vx (XJ _),Xq ll⟩
    case fresh =>
     exact J0 (led:=led) (qw _ gS)
    case fin =>
     intro s' mv se
     obtain⟨h',g',d',kK,tI⟩:=s'
     obtain rfl:g'=s.gens:=mv.gens
     obtain rfl:d'=s.drawn:=mv.drawn
     obtain rfl:tI=s.os:=mv.os
     show wpAny _ _ _ _ _ _
     refine uk ?_
     show wpAny _ _ (ret Value.none) _ _ _
     refine uk ⟨rfl,h',kK,rfl,se,fun b o hb e => ?_⟩
     refine mv.heap b o ?_ (qw _ (qw _ e))
     simp only[Fo,Wd,Xr,q0G,ez]
     exact⟨Vx hb,Vx (WC hb)⟩
   ·cases r2 with
    | error e=>exact kN
    | ok zi =>
     cases zi with
     | ret r =>
      obtain⟨rfl,h',kK,rfl,se,kp⟩:=kN
      repeat (any_goals (first | assumption | wp_step))
      exact fin _ _ se kp
     | next=>exact kN
     | brk=>exact kN
     | cont=>exact kN
  | next=>exact hr
  | brk=>exact hr
  | cont=>exact hr
end
theorem aM:Slot "set_iterator" "__next__" "set_iterator.__next__" :=
 .of (owner := "set_iterator") (n := "__next__") (by rw[typeLookup_type,builtinLookup_eq_fast];kernel_rfl) (by decide +kernel) (by decide +kernel) (by decide +kernel)
  (by first | exact .inl (by decide +kernel) | exact .inr (by decide +kernel)) (by rw[isSubtype_type];kernel_rfl)
theorem D4:Slot "set_iterator" "__iter__" "set_iterator.__iter__" :=
 .of (owner := "set_iterator") (n := "__iter__") (by rw[typeLookup_type,builtinLookup_eq_fast];kernel_rfl) (by decide +kernel) (by decide +kernel) (by decide +kernel)
  (by first | exact .inl (by decide +kernel) | exact .inr (by decide +kernel)) (by rw[isSubtype_type];kernel_rfl)
theorem D5:entryFor table "set_iterator.__next__" = some Builtin.«set_iterator.__next__» := entryFor_of_fast (by kernel_rfl)
theorem J9:entryFor table "set_iterator.__iter__" = some Builtin.«dict_keyiterator.__iter__» :=
 entryFor_alias (id' := "dict_keyiterator.__iter__") (by kernel_rfl) rfl (by decide +kernel) (by kernel_rfl)
theorem J_:entryFor table "set.__iter__" = some Builtin.«frozenset.__iter__» :=
 entryFor_alias (id' := "frozenset.__iter__") (by kernel_rfl) rfl (by decide +kernel) (by kernel_rfl)
theorem D6 (a:Value):argsOk "set_iterator.__next__" ⟨[a],[]⟩:=by unfold argsOk;kernel_rfl
theorem Ka (a:Value):argsOk "set_iterator.__iter__" ⟨[a],[]⟩:=by unfold argsOk;kernel_rfl
noncomputable def bY (h:Heap) (I S:Addr) (first:Value) (i n ep:Nat):Prop:=∃ o,h.get? I=some o/\o.cls = .type "set_iterator" /\ o.data = .fields #[first,.int i 0,.ref S,.int n 0,.int ep 0]
theorem bY.typeIs {s:Shared} {I S:Addr} {f:Value} {i n ep:Nat} (x:bY s.heap I S f i n ep):s.TypeIs (.ref I) "set_iterator" := let ⟨o,ho,hc,_⟩:=x; ⟨o,ho,hc⟩
theorem bY.at {h h':Heap} {I S:Addr} {f:Value} {i n ep:Nat} (x:bY h I S f i n ep) (e:∀ o,h.get? I=some o->h'.get? I=some o):bY h' I S f i n ep:=let ⟨o,ho,r⟩:=x; ⟨o,e _ ho,r⟩
noncomputable def ik (w:World) (S:Addr) (ep:Nat) (es:Array (Int × Value)):Array (Int × Value):=if w.params.followText "set-order" = true then pickOrder (w.params.setOrder S ep) es else es
theorem zj (w:World) (S:Addr) (ep:Nat) (es:Array (Int × Value)):(ik w S ep es).toList.Perm es.toList:=by
 unfold ik
 split
 ·exact JM _ _
 ·exact Yo _
theorem wk (w:World) (S:Addr) (ep:Nat) (es:Array (Int × Value)):(ik w S ep es).size=es.size:=by
 have:=(zj w S ep es).length_eq
 simpa using this
noncomputable def slotAt (t:SetTable) (i:Nat):Nat:=if i=0 then 0 else t.place.getD (i - 1) 0 + 1
structure zk (w:World) (I S:Addr) (o:Obj) (es:Array (Int × Value)) (ep:Nat) (t:SetTable) (i:Nat) (h:Heap):Prop where
 set:h.get? S=some o
 it:∃ slot:Nat,bY h I S (.int slot 0) i es.size ep/\(w.params.followText "set-order" = false->slot=slotAt t i)
section
variable {prog:Program} {w:World} {A:Around} {I S:Addr} {o:Obj} {es:Array (Int × Value)} {ep:Nat} {t:SetTable} {ks:List Int}
theorem Kb (T:cL t es (ir w) ks) {i:Nat} (hi:i <= es.size):below t.place (slotAt t i)=i:=by
 unfold slotAt
 split
 ·rename_i h;subst h;exact JJ T.up
 ·rename_i h
  have hl:i - 1 < t.place.size:=by rw[T.ij];omega
  have e:t.place.getD (i - 1) 0=t.place[i - 1]:=by simp[Array.getD,hl]
  rw[e,JH T.up hl];omega
theorem D7 {E:Value->Shared->Prop} {s:Shared} {Q:Option (Value × Nat)->Shared->Prop} (ho:s.heap.get? S=some o) (hd:o.data = .set es ep t) (T:cL t es (ir w) ks) {slot i:Nat} (hi:i <= es.size) (hs:w.params.followText "set-order" = false->slot=slotAt t i)
  (k:∀ pV:Nat,(w.params.followText "set-order" = false->i < es.size->pV=slotAt t (i + 1))->Q (((ik w S ep es)[i]?).map fun e=>(e.2,pV)) s):wpAny (model prog w) A (setNext S slot i ep) Q E s:=by
 unfold setNext
 refine nG (Xk ho hd T.fits ?_)
 dsimp only
 refine nG ?_
 unfold setsByText
 refine nG (YB (uk ?_))
 dsimp only
 have mw:(model prog w).w=w:=rfl
 cases q:w.params.followText "set-order" with
 | true =>
  rw[mw,q]
  simp only[ZV,V6,W9,Ym]
  refine nG ?_
  unfold setWalk
  refine nG (Xk ho hd T.fits ?_)
  dsimp only
  refine nG ?_
  unfold setsByText
  refine nG (YB (uk ?_))
  dsimp only
  rw[mw,q,MD rfl]
  refine nG (YB (uk ?_))
  refine uk ?_
  have:=k slot fun z=>by rw[q] at z;cases z
  unfold ik at this
  rw[MD q] at this
  exact this
 | false =>
  rw[mw,q,MA (by decide)]
  have zo:=hs q
  subst zo
  have hb:=Kb T hi
  rw[hb]
  refine Yd (fun h=>absurd (show (!t.plain && decide (es.size > 1))=true from h) (by rw[T.tF];simp)) (fun _ => ?_)
  refine nG ?_
  refine Yd (c:=(!t.led && !es.isEmpty)=true) (fun h=>absurd h (by rw[T.yW];unfold ir;rw[q];simp)) (fun _ => ?_)
  refine uk (uk ?_)
  have hk:=k (slotAt t (i + 1)) fun _ _=>rfl
  unfold ik at hk
  rw[MA (by rw[q];decide)] at hk
  by_cases hl:i < es.size
  ·have hp:i < t.place.size:=by rw[T.ij];exact hl
   rw[Vv hl] at hk
   rw[Vv hl,Vv hp]
   have e:slotAt t (i + 1)=t.place[i] + 1:=by
    unfold slotAt
    rw[MA (by omega),Nat.add_sub_cancel]
    simp[Array.getD,hp]
   rw[e] at hk
   exact hk
  ·rw[Xp (by omega)] at hk
   rw[Xp (by omega)]
   exact hk
theorem D8 {E:Value->Shared->Prop} {s:Shared} {a:Addr} {ob:Obj} {vs:Array Value} {Q:Array Value->Shared->Prop} (ho:s.heap.get? a=some ob) (hd:ob.data = .fields vs) (h:Q vs s):wpAny (model prog w) A (fieldsOf (.ref a)) Q E s:=by
 unfold fieldsOf
 refine nG (wpAny_load ho ?_)
 rw[hd];exact uk h
theorem Kc (hh:A.handled=none) (fX:S≠I) (hex:o.ExactSet) (hd:o.data = .set es ep t) (T:cL t es (ir w) ks) :
  Walks prog w A I [I,S] [I] es.size (fun i v=>∃ e,(ik w S ep es)[i]? = some e/\v=e.2) (zk w I S o es ep t) where
 sub:=fun b hb=>by simp at hb;simp[hb]
 frame:=fun i h h' st hk=>⟨hk S (by simp) _ st.set,let ⟨slot,x,y⟩:=st.it; ⟨slot,x.at fun o e=>hk I (by simp) o e,y⟩⟩
 item:=fun i s Q E hi st hQ=>by
  obtain⟨slot,hit,hs⟩:=st.it
  obtain⟨oi,rW,hc,pW⟩:=id hit
  unfold pyNext
  refine nG (Zn (WU (name:=Str.ofString "__next__") hit.typeIs aM
   (WW aM hit.typeIs D5 ?_ (D6 _))))
  unfold Builtin.«set_iterator.__next__»
  refine nG (m:=slotArgs _ _ _) (uk ?_)
  refine nG (D8 rW pW ?_)
  dsimp only
  refine nG (Zz st.set hd T.fits ?_)
  rw[MA (by simp)]
  refine nG (D7 st.set hd T (slot:=slot) (i:=i) (by omega) hs fun pV hn => ?_)
  have ei:(ik w S ep es)[i]? = some ((ik w S ep es)[i]'(by rw[wk];exact hi)):=Vv _
  rw[ei]
  dsimp only [Option.map]
  refine nG (Y7 rW pW (by simp) ?_)
  have fW:=WR (Obj.mapFields (·.setIfInBounds 0 (rawInt pV))) rW (Zd (X9 pW _))
  have zp:=X9 pW (·.setIfInBounds 0 (rawInt (pV:Int)))
  refine nG (Y7 fW zp (by simp) ?_)
  have fI:=WR (Obj.mapFields (·.setIfInBounds 1 (rawInt ((i:Int) + 1)))) fW (Zd (X9 zp _))
  have hd2:=X9 zp (·.setIfInBounds 1 (rawInt ((i:Int) + 1)))
  refine uk ⟨_,rfl,uk (hQ _ _ s.toks ⟨_,ei,rfl⟩ ⟨?_,pV,⟨_,fI,?_,?_⟩,fun z=>hn z hi⟩ fun b ob hb e => ?_)⟩
  ·rw[Xg _ _ (XA fX),Xg _ _ (XA fX)];exact st.set
  ·exact (ZW ..).trans ((ZW ..).trans hc)
  ·rw[hd2];simp[rawInt]
  ·have d6:I≠b:=fun z=>hb (by simp[z])
   rw[Xg _ _ d6,Xg _ _ d6];exact e
 done:=fun s Q E st hQ=>by
  obtain⟨slot,hit,hs⟩:=st.it
  obtain⟨oi,rW,hc,pW⟩:=id hit
  unfold pyNext
  refine nG (Zn (WU (name:=Str.ofString "__next__") hit.typeIs aM
   (WW aM hit.typeIs D5 ?_ (D6 _))))
  unfold Builtin.«set_iterator.__next__»
  refine nG (m:=slotArgs _ _ _) (uk ?_)
  refine nG (D8 rW pW ?_)
  dsimp only
  refine nG (Zz st.set hd T.fits ?_)
  rw[MA (by simp)]
  refine nG (D7 st.set hd T (slot:=slot) (i:=es.size) (wG _) hs fun pV hn => ?_)
  rw[Xp (by rw[wk];exact wG _)]
  dsimp only [Option.map]
  refine nG (Y7 rW pW (by simp) ?_)
  show wpAny _ _ (newExc (.type "StopIteration") [] >>= _) _ _ _
  refine nG ?_
  simp only[newExc,newTuple]
  refine nG (Wz ?_ (by size_fits))
  refine nG (m:=firstArgMember _ _) (wpAny_of_eq (a:=Value.none) (by first | rfl | (simp only[firstArgMember];rfl)) ?_)
  refine Wz ?_ (by size_fits)
  simp only[raiseNew]
  refine nG (wpAny_handled ?_)
  rw[show A.in1.handled=none from hh]
  refine nG (uk (wpAny_throw ?_))
  refine nG (wpAny_isInstance (T := "StopIteration") (b:=true) ⟨_,MC _ rfl,rfl⟩ isSubtype_stop ?_)
  refine uk (hQ _ s.toks fun b ob hb e => ?_)
  have d6:b≠I:=fun z=>hb (by simp[z])
  exact (((Wr ..).extBut.push _).push _) b ob d6 e
 self:=fun i s Q E st hQ=>by
  obtain⟨slot,hit,_⟩:=st.it
  refine wpAny_pyIter_slot hit.typeIs D4 (WW D4 hit.typeIs J9 ?_ (Ka _))
  show wpAny _ _ (ret (.ref I)) _ _ s
  exact uk ⟨_,rfl, "set_iterator",_,hit.typeIs,aM.lookup,hQ⟩
theorem Kd {E:Value->Shared->Prop} {s:Shared} {Q:Bool->Shared->Prop} (ho:s.heap.get? S=some o) (hd:o.data = .set es ep t) (T:cL t es (ir w) ks) (k:Q false s):wpAny (model prog w) A (setDrawn S) Q E s:=by
 unfold setDrawn
 refine nG (Xk ho hd T.fits ?_)
 dsimp only
 refine nG ?_
 unfold setsByText
 refine nG (YB (uk ?_))
 refine uk ?_
 have e:(!(model prog w).w.params.followText "set-order" && (!t.plain && decide (es.size > 1)))=false:=by rw[T.tF];simp
 exact e ▸ k
theorem Ke {E:Value->Shared->Prop} {s:Shared} {Q:Value->Shared->Prop} (ho:s.heap.get? S=some o) (hex:o.ExactSet) (hd:o.data = .set es ep t) (T:cL t es (ir w) ks)
  (k:∀ h',(∀ b ob,s.heap.get? b=some ob->h'.get? b=some ob)->zk w s.heap.objs.size S o es ep t 0 h'->Q (.ref s.heap.objs.size) { s with heap:=h' }):wpAny (model prog w) A (pyIter (.ref S)) Q E s:=by
 have tS:s.TypeIs (.ref S) "set" := ⟨o,ho,hex.1⟩
 refine wpAny_pyIter_slot tS F.slot_set_iter (WW F.slot_set_iter tS J_ ?_ (F.args_set_iter_1 _))
 unfold Builtin.«frozenset.__iter__»
 refine nG (m:=Builtin.Frozenset.slot0 _ _) (uk (a:=S) ?_)
 refine nG (m:=Builtin.Frozenset.sizeOf _) ?_
 unfold Builtin.Frozenset.sizeOf
 refine nG (Zz ho hd T.fits (uk ?_))
 refine nG (Kd ho hd T ?_)
 simp only[V6,W9]
 refine nG (uk ?_)
 refine nG (wpAny_setEpoch_of ho hd T.fits ?_)
 refine nG (m:=newFields _ _) (Wz (uk ⟨_,rfl, "set_iterator",_,⟨_,MC _ rfl,rfl⟩,aM.lookup,?_⟩))
 refine k _ (fun b ob e=>qw _ e) ⟨qw _ ho,0,⟨_,MC _ rfl,rfl,rfl⟩,fun _=>rfl⟩
end
section
variable {prog:Program} {w:World} {A:Around} {S:Addr} {o:Obj} {es:Array (Int × Value)} {ep:Nat} {t:SetTable} {ks:List Int}
theorem Kg {E:Value->Shared->Prop} {s:Shared} {Q:Bool->Shared->Prop} (tS:s.TypeIs (.ref S) "set") (k:Q false s):wpAny (model prog w) A (Builtin.List.listLengthHint (.ref S)) Q E s:=by
 unfold Builtin.List.listLengthHint
 refine nG (wpAny_specialOf tS F.slot_set_len.lookup ?_)
 generalize j8:("set.__len__" : String)=Kh
 wp_delta
 rw[show splitId Kh=some ("set", "__len__") from by subst j8;decide +kernel]
 subst j8
 refine nG (wpAny_isInstance (T := "set") (b:=true) tS (by rw[isSubtype_type];kernel_rfl) ?_)
 refine Yd (fun wd=>absurd wd (by decide)) (fun _ => ?_)
 refine Yd (fun _ => ?_) (fun wd=>absurd (by decide +kernel) wd)
 refine nG (YD tS ?_)
 exact uk k
theorem Ki {E:Value->Shared->Prop} {s:Shared} {Q:List Value->Shared->Prop} (hh:A.handled=none) (ho:s.heap.get? S=some o) (hex:o.ExactSet) (hd:o.data = .set es ep t) (T:cL t es (ir w) ks) (hn:es.size <= 1000)
  (h:∀ (h':Heap) (tk:Nat),(∀ b ob,s.heap.get? b=some ob->h'.get? b=some ob)->s.heap.objs.size <= h'.objs.size->Q ((ik w S ep es).toList.map (·.2)) { s with heap:=h',toks:=tk }):wpAny (model prog w) A (collect (.ref S)) Q E s:=by
 have tS:s.TypeIs (.ref S) "set" := ⟨o,ho,hex.1⟩
 have lS:S < s.heap.objs.size:=My ho
 unfold collect
 refine nG (wpAny_runValue (XH F.entry_proto_collect ?_))
 rw[Xx F.plain_proto_collect _]
 show wpAny _ A.in1 (newList [] >>= fun l=>again (.builtin "list.__iadd__" ⟨[l,.ref S],[]⟩)) _ _ s
 refine nG (Wz ?_)
 refine uk ⟨YI F.plain_list_iadd _,XH F.entry_list_iadd ?_⟩
 rw[Xx F.plain_list_iadd _]
 generalize rX:({ s with heap:=s.heap.push { cls := .type "list",data := .seq ([]:List Value).toArray } }:Shared)=s1
 have fW:s1.heap.get? S=some o:=by rw[<-rX];exact qw _ ho
 have gL:s1.heap.get? s.heap.objs.size=some { cls := .type "list",data := .seq ([]:List Value).toArray }:=by rw[<-rX];exact MC _ rfl
 have z1:s1.heap.objs.size=s.heap.objs.size + 1:=by rw[<-rX];exact Xh ..
 show wpAny _ A.in1 (Builtin.List.listExtendWith (.ref s.heap.objs.size) (.ref S) (.ref s.heap.objs.size)) _ _ _
 unfold Builtin.List.listExtendWith
 refine nG (YD (T := "set") ⟨o,fW,hex.1⟩ ?_)
 have h1:Builtin.List.listSameRef (.ref s.heap.objs.size) (.ref S)=false:=by simp[Builtin.List.listSameRef];exact Xq lS
 have h2:(Value.type "set" == Value.type "list")=false:=by decide
 have h3:(Value.type "set" == Value.type "tuple")=false:=by decide
 simp only[h1,h2,h3,Bool.or_false,V6,W9]
 refine nG (Ke fW hex hd T fun iu pX g6 => ?_)
 refine nG (Wo (Kg ⟨o,pX _ _ fW,hex.1⟩ ?_))
 have fX:S≠s1.heap.objs.size:=by rw[z1];exact Vx (WC lS)
 have W:=(Kc (prog:=prog) (A:=A.in1) (I:=s1.heap.objs.size) (by simp[hh]) fX hex hd T).toS
 have Kj:s.heap.objs.size∉[s1.heap.objs.size,S]:=by
  simp only[Fo,Wd,Xr,q0G,z1]
  exact⟨Vx (XJ _),Xq lS⟩
 have key:∀ (oT:Heap) (c:Nat),zk w s1.heap.objs.size S o es ep t 0 oT->oT.get? s.heap.objs.size=some { cls := .type "list",data := .seq #[] c }->(∀ b ob,b≠s.heap.objs.size->iu.get? b=some ob->oT.get? b=some ob) →
   codeAny (model prog w) A (.builtin "list.extend.loop" ⟨[.ref s.heap.objs.size,.ref s1.heap.objs.size,.ref s.heap.objs.size],[]⟩) (fun r s'=>match r with
    | .ok (.ret v)=>wpAny (model prog w) A (match v with
     | .ref a=>do match (<- load a).data with
      | .seq xs _=>pure xs.toList
      | _=>unsupported "internal:collect"
     | _=>unsupported "internal:collect") Q E s'
    | .ok _=>False
    | .error e=>E e s') { s1 with heap:=oT }:=by
  intro oT c st hL kp
  refine codeAny_extend_loopS W (by rw[WX];omega) _ Kj _ es.size 0 _ #[] c rfl (WK _) st hL (ItemsOf.nil _) fun s' eZ c' hm D9 pY => ?_
  show wpAny _ A (load s.heap.objs.size >>= _) _ _ s'
  refine nG (wpAny_load D9 (uk ?_))
  have ea:eZ.toList=(ik w S ep es).toList.map (·.2):=by
   refine XE fun i => ?_
   rw[Fl]
   by_cases hi:i < es.size
   ·have D_:i < eZ.size:=by rw[pY.1];exact hi
    obtain⟨e,he,hv⟩:=pY.2 i _ (Vv D_)
    rw[Wa,Vv D_,Wa,he,hv];rfl
   ·rw[Wa,Xp (by rw[pY.1];omega),Wa,Xp (by rw[wk];omega)];rfl
  rw[ea]
  obtain⟨zq,g3,d3,Vp,Kk⟩:=s'
  obtain rfl:g3=s1.gens:=hm.gens
  obtain rfl:d3=s1.drawn:=hm.drawn
  obtain rfl:Kk=s1.os:=hm.os
  subst rX
  refine h _ _ (fun b ob e => ?_) (Xj (My D9))
  have hb:b < s.heap.objs.size:=My e
  refine hm.heap b ob ?_ (kp b ob (Vx hb) (pX b ob (qw _ e)))
  simp only[Fo,Wd,Xr,q0G]
  exact⟨Vx hb,by show b≠(s.heap.push _).objs.size;rw[Xh];exact Vx (WC hb)⟩
 have pZ:=pX _ _ gL
 refine Yd (fun _ => ?_) (fun _=>uk ⟨YI F.plain_extend_loop _,key _ _ g6 pZ (fun b ob _ e=>e)⟩)
 refine nG (Zh ?_)
 refine nG ?_
 show wpAny _ _ (updateSeq s.heap.objs.size (·.push .none) >>= fun _=>updateSeq s.heap.objs.size (·.pop)) _ _ _
 refine nG (wpAny_updateSeq pZ rfl ?_)
 have Ea:=WR (Obj.mapSeq (·.push Value.none)) pZ rfl
 refine wpAny_updateSeq (hz:=by seq_fits) Ea rfl ?_
 have Kl:=WR (Obj.mapSeq (·.pop)) Ea rfl
 have zr:∀ b ob,b≠s.heap.objs.size->iu.get? b=some ob->((iu.update s.heap.objs.size (Obj.mapSeq (·.push Value.none))).update s.heap.objs.size (Obj.mapSeq (·.pop))).get? b=some ob :=
  fun b ob hb e=>(Xg _ _ (XA hb)).trans ((Xg _ _ (XA hb)).trans e)
 refine uk ⟨YI F.plain_extend_loop _,key _ _ ?_ Kl zr⟩
 obtain⟨slot,it,sl⟩:=g6.it
 exact⟨zr _ _ (Vx lS) g6.set,slot,it.at fun ob e=>zr _ _ (by rw[z1];exact Xq (XJ _)) e,sl⟩
end
end LJS
namespace L2
open PySem PySem.Spec PyProof.Rows
noncomputable abbrev Key:=Sum Int Str
noncomputable def rY:Key->Value->Bool
 | .inl k,v=>Value.isInt k v
 | .inr x,v=>Value.isStrOf x v
noncomputable def zt (w:World):Key->Int
 | .inl k=>hashInt k
 | .inr x=>hashStr w x
theorem mU:∀ {k:Key} {v:Value},rY k v=true->(∃ i t,k=Sum.inl i/\v=Value.int i t)\/(∃ x t,k=Sum.inr x/\v=Value.str x t)
 | .inl i,v,h=>by
  obtain⟨t,e⟩:=Value.isInt_shape (k:=i) (v:=v) h
  exact .inl ⟨i,t,rfl,e⟩
 | .inr x,v,h=>by
  obtain⟨t,e⟩:=Value.isStrOf_shape (x:=x) (v:=v) h
  exact .inr ⟨x,t,rfl,e⟩
theorem Km (i:Int) (t:Tok):rY (.inl i) (.int i t)=true:=by simp[rY,Value.isInt]
theorem Kn (x:Str) (t:Tok):rY (.inr x) (.str x t)=true:=by simp[rY,Value.isStrOf]
theorem Ko (a b:Int):decide ((Sum.inl a:Key)=Sum.inl b)=(a == b):=by
 by_cases e:a=b
 ·subst e;simp
 ·have h:¬ (Sum.inl a:Key)=Sum.inl b:=fun q=>e (Sum.inl.inj q)
  rw[We h]
  exact (beq_eq_false_iff_ne.mpr e).symm
theorem Kp (a b:Str):decide ((Sum.inr a:Key)=Sum.inr b)=decide (a=b):=by
 by_cases e:a=b
 ·subst e;simp
 ·have h:¬ (Sum.inr a:Key)=Sum.inr b:=fun q=>e (Sum.inr.inj q)
  rw[We h,We e]
theorem Kq (a:Int) (b:Str):decide ((Sum.inl a:Key)=Sum.inr b)=false:=We (fun q=>nomatch q)
theorem Kr (a:Str) (b:Int):decide ((Sum.inr a:Key)=Sum.inl b)=false:=We (fun q=>nomatch q)
noncomputable def jJ (prog:Program) (w:World):PySem.KeyKind prog w Key where
 is:=rY
 hash:=zt w
 inj:=fun v a b ha hb=>by
  rcases mU ha with⟨i,t,rfl,rfl⟩ | ⟨x,t,rfl,rfl⟩
  ·rcases mU hb with⟨j,u,rfl,e⟩ | ⟨y,u,rfl,e⟩
   ·injection e with e1 _;rw[e1]
   ·exact nomatch e
  ·rcases mU hb with⟨j,u,rfl,e⟩ | ⟨y,u,rfl,e⟩
   ·exact nomatch e
   ·injection e with e1 _;rw[e1]
 byValue:=fun k v h=>by
  rcases mU h with⟨i,t,rfl,rfl⟩ | ⟨x,t,rfl,rfl⟩<;>rfl
 pyHash:=fun hv h=>by
  rcases mU hv with⟨i,t,rfl,rfl⟩ | ⟨x,t,rfl,rfl⟩
  ·exact wpAny_pyHash_int h
  ·exact wpAny_pyHash_str h
 eqBool:=fun hu hv h=>by
  rcases mU hu with⟨i,t,rfl,rfl⟩ | ⟨x,t,rfl,rfl⟩
  ·rcases mU hv with⟨j,u,rfl,rfl⟩ | ⟨y,u,rfl,rfl⟩
   ·rw[Ko] at h;exact wpAny_eqBool_int h
   ·rw[Kq] at h;exact ZI i t y u _ _ _ _ h
  ·rcases mU hv with⟨j,u,rfl,rfl⟩ | ⟨y,u,rfl,rfl⟩
   ·rw[Kr] at h;exact ZJ x t j u _ _ _ _ h
   ·rw[Kp] at h;exact wpAny_eqBool_str h
 «strs» := fun k x t v h=>by
  rcases mU h with⟨i,u,rfl,e⟩ | ⟨y,u,rfl,e⟩
  ·exact nomatch e
  ·injection e with e1 _
   subst e1
   cases v<;>rfl
theorem Ks (prog:Program) (w:World) (i:Int) (t:Tok):(jJ prog w).is (.inl i) (.int i t)=true:=Km i t
theorem Kt (prog:Program) (w:World) (x:Str) (t:Tok):(jJ prog w).is (.inr x) (.str x t)=true:=Kn x t
inductive V where
 | non | bl (b:Bool) | int (i:Int) | str (x:Str) | byt (b:Array UInt8) | flt (b:UInt64) | ref (a:Addr) | ty (n:String)
 deriving DecidableEq
noncomputable def RelV:V->Value->Prop
 | .non,u=>u=Value.none
 | .bl b,u=>u=Value.bool b
 | .int i,u=>∃ t,u=Value.int i t
 | .str x,u=>∃ t,u=Value.str x t
 | .byt b,u=>∃ t,u=Value.bytes b t
 | .flt b,u=>∃ t,u=Value.float b t
 | .ref a,u=>u=Value.ref a
 | .ty n,u=>u=Value.type n
noncomputable abbrev Vals:List V->List Value->Prop:=Paired RelV
theorem Vals.length {xs:List V} {us:List Value} (r:Vals xs us):xs.length=us.length:=Paired.length r
theorem Vals.get:∀ {xs:List V} {us:List Value} {i:Nat} {x:V},Vals xs us->xs[i]? = some x->∃ u,us[i]? = some u/\RelV x u
 | _,_,_,_,.nil,e=>by simp at e
 | _,_,0,_,.cons r _,e=>by simp at e;subst e;exact⟨_,rfl,r⟩
 | _,_,i + 1,x,.cons _ t,e=>by
  obtain⟨u,h1,h2⟩:=Vals.get (i:=i) (x:=x) t (by simpa using e)
  exact⟨u,by simpa using h1,h2⟩
theorem Vals.set {x:V} {u:Value} (r:RelV x u):∀ {xs:List V} {us:List Value} (i:Nat),Vals xs us->Vals (xs.set i x) (us.set i u)
 | _,_,_,.nil => .nil
 | _,_,0,.cons _ t => .cons r t
 | _,_,i + 1,.cons q t => .cons q (Vals.set r i t)
theorem Vals.append:∀ {xs ys:List V} {us ws:List Value},Vals xs us->Vals ys ws->Vals (xs ++ ys) (us ++ ws)
 | _,_,_,_,.nil,s=>s
 | _,_,_,_,.cons r t,s => .cons r (Vals.append t s)
theorem Vals.take:∀ {xs:List V} {us:List Value} (n:Nat),Vals xs us->Vals (xs.take n) (us.take n)
 | _,_,0,_ => .nil
 | _,_,_ + 1,.nil => .nil
 | _,_,n + 1,.cons r t => .cons r (Vals.take n t)
theorem Vals.drop:∀ {xs:List V} {us:List Value} (n:Nat),Vals xs us->Vals (xs.drop n) (us.drop n)
 | _,_,0,r=>r
 | _,_,_ + 1,.nil => .nil
 | _,_,n + 1,.cons _ t=>Vals.drop n t
noncomputable def iQ:Option V->Option Value->Prop
 | some v,some u=>RelV v u
 | none,none=>True
 | _,_=>False
noncomputable def KV {κ : Type}:List (κ × V)->List (κ × Value)->Prop:=Paired fun (p : κ × V) (q : κ × Value)=>p.1=q.1/\RelV p.2 q.2
noncomputable def kV:Key->V
 | .inl i => .int i
 | .inr x => .str x
inductive HO where
 | lst (xs:List V)
 | tup (xs:List V)
 | dK (kvs:List (Key × V)) | dT (kvs:List (List Key × V))
 | set (S:Int->Bool) (n:Nat)
 | ins (C dx:Addr) (fs:List (Str × V))
 | own (x:Addr)
 | xd (fs:List (Str × V))
 | met (f x:Addr)
 | rng (lo hi:Int)
 | frz (o:Obj) (u:HO)
 | tbl (ps:Array Value)
 | ext (φ : Heap->Prop)
noncomputable abbrev Hp:=Addr->Option HO
noncomputable def upd (H:Hp) (a:Addr) (o:HO):Hp:=fun b=>if b=a then some o else H b
theorem bW {H:Hp} {a:Addr} {o:HO}:upd H a o a=some o:=by unfold upd;rw[MD rfl]
theorem aO {H:Hp} {a b:Addr} {o:HO} (h:b≠a):upd H a o b=H b:=by unfold upd;rw[MA h]
theorem Ku {H:Hp} {a b:Addr} {o u:HO} (h:H a=some o) (h':H b=some u) (d:o≠u):a≠b:=by
 intro e;subst e;rw[h] at h';exact d (Wf h')
theorem di {H:Hp} {a b:Addr} {o:HO} (h:H a=some o) (h':H b=none):a≠b:=by
 intro e;subst e;rw[h] at h';cases h'
section
variable (P:Program) (w:World)
noncomputable def aJ (H:Hp) (h:Heap) (a:Addr):HO->Prop
 | .lst xs=>xs.length <= sizeLine/\∃ (ag:List Value) (n:Nat),Vals xs ag/\h.get? a=some { cls := .type "list",data := .seq ag.toArray n }
 | .tup xs=>xs.length <= sizeLine/\∃ ag:List Value,Vals xs ag/\IsTup h a ag.toArray
 | .dK kvs=>kvs.length <= sizeLine/\(a == sysModules)=false/\∃ vs,KV kvs vs/\h.DictOf (jJ P w) a vs
 | .dT kvs=>kvs.length <= sizeLine/\(a == sysModules)=false/\∃ xs:List (List Key × Addr × Value),
   Paired (fun (p:List Key × V) (q:List Key × Addr × Value)=>p.1=q.1/\H q.2.1=some (.tup (p.1.map kV))/\RelV p.2 q.2.2) kvs xs ∧
   ∃ o es ep,h.get? a=some o/\o.ExactDict/\o.data = .dict es ep/\es.toList=xs.map (entryOfKey (tupleKind (jJ P w)))/\(xs.map (·.1)).Nodup
 | .set S n=>h.SetOf (intKind P w) a S n
 | .ins C dx fs=>H dx=some (.own a)/\fs.length <= 1000/\dx≠a/\h.get? a=some (PySem.W.instObj C dx) ∧
   ∃ mA,h.Ns1 dx mA/\(∀ f,iQ (fs.lookup f) (mA f))/\PySem.Within mA (fs.map (·.1))
 | .own _=>∃ o,h.get? a=some o
 | .xd fs=>∃ mA,h.Ns1 a mA/\∀ f,iQ (fs.lookup f) (mA f)
 | .rng lo hi=>∃ t u v,h.get? a=some { cls := .type "range",data := .fields #[.int lo t,.int hi u,.int 1 v] }
 | .frz o u=>h.get? a=some o/\aJ H h a u
 | .tbl ps=>h.get? a=some { cls := .none,data := .fields ps }
 | .met f x=>h.get? a=some (PySem.W.methodObj (.ref f) (.ref x))
 | .ext φ => φ h/\(∃ o,h.get? a=some o)/\∀ h1 h2:Heap,φ h1->(∀ o,h1.get? a=some o->h2.get? a=some o) -> φ h2
noncomputable def d4 (H:Hp) (h:Heap):Prop:=∀ a o,H a=some o->aJ P w H h a o
end
section
variable {P:Program} {w:World} {H H':Hp} {h h':Heap} {a:Addr} {o:HO}
theorem aJ.lt (x:aJ P w H h a o):a < h.objs.size:=by
 cases o with
 | lst xs=>obtain⟨_,_,_,_,e⟩:=x;exact My e
 | tup xs=>obtain⟨_,_,_,p⟩:=x;exact p.lt
 | dK kvs=>obtain⟨_,_,_,_,o,_,_,e,_⟩:=x;exact My e
 | dT kvs=>obtain⟨_,_,_,_,o,_,_,e,_⟩:=x;exact My e
 | set S n=>obtain⟨o,_,_,_,e,_⟩:=x;exact My e
 | ins C dx fs=>obtain⟨_,_,_,e,_⟩:=x;exact My e
 | own y=>obtain⟨_,e⟩:=x;exact My e
 | xd fs=>obtain⟨_,⟨_,_,_,e,_⟩,_⟩:=x;exact My e
 | rng lo hi=>obtain⟨_,_,_,e⟩:=x;exact My e
 | frz ob u=>obtain⟨e,_⟩:=x;exact My e
 | tbl ps=>exact My (show h.get? a=some _ from x)
 | met f y=>exact My (show h.get? a=some _ from x)
 | ext φ => obtain⟨_,⟨_,e⟩,_⟩:=x;exact My e
theorem Paired.p9 {α β : Type} {F G : α -> β -> Prop}:∀ {l₁ : List α} {l₂ : List β},Paired F l₁ l₂ -> (∀ a b,F a b->G a b)->Paired G l₁ l₂
 | _,_,.nil,_ => .nil
 | _,_,.cons r t,f => .cons (f _ _ r) (Paired.p9 t f)
theorem aJ.fJ (x:aJ P w H h a o) (k:∀ b u,(b=a\/H b=some (.own a))->h.get? b=some u->h'.get? b=some u)
  (ho:∀ b,H b=some (.own a)->H' b=some (.own a)) (ht:∀ b xs,H b=some (.tup xs)->H' b=some (.tup xs)):aJ P w H' h' a o:=by
 induction o with
 | lst xs=>obtain⟨z,ag,n,r,e⟩:=x;exact⟨z,ag,n,r,k _ _ (.inl rfl) e⟩
 | tup xs=>obtain⟨z,ag,r,ob,e,c⟩:=x;exact⟨z,ag,r,ob,k _ _ (.inl rfl) e,c⟩
 | dK kvs=>obtain⟨z,y,vs,r,ob,es,ep,e,c⟩:=x;exact⟨z,y,vs,r,ob,es,ep,k _ _ (.inl rfl) e,c⟩
 | dT kvs =>
  obtain⟨z,y,xs,r,ob,es,ep,e,c⟩:=x
  exact⟨z,y,xs,Paired.p9 r fun p q z=>⟨z.1,ht _ _ z.2.1,z.2.2⟩,ob,es,ep,k _ _ (.inl rfl) e,c⟩
 | set S n=>obtain⟨ob,es,ep,t,e,c⟩:=x;exact⟨ob,es,ep,t,k _ _ (.inl rfl) e,c⟩
 | ins C dx fs =>
  obtain⟨d,z,ne,e,mA,⟨od,es,ep,e2,c⟩,r⟩:=x
  exact⟨ho _ d,z,ne,k _ _ (.inl rfl) e,mA,⟨od,es,ep,k _ _ (.inr d) e2,c⟩,r⟩
 | own y=>obtain⟨ob,e⟩:=x;exact⟨ob,k _ _ (.inl rfl) e⟩
 | xd fs=>obtain⟨mA,⟨od,es,ep,e,c⟩,r⟩:=x;exact⟨mA,⟨od,es,ep,k _ _ (.inl rfl) e,c⟩,r⟩
 | rng lo hi=>obtain⟨t,u,v,e⟩:=x;exact⟨t,u,v,k _ _ (.inl rfl) e⟩
 | frz ob u ih=>obtain⟨e,q⟩:=x;exact⟨k _ _ (.inl rfl) e,ih q⟩
 | tbl ps =>
  have e:h.get? a=some { cls := .none,data := .fields ps }:=x
  show h'.get? a=some { cls := .none,data := .fields ps }
  exact k a _ (.inl rfl) e
 | met f y =>
  have e:h.get? a=some (PySem.W.methodObj (.ref f) (.ref y)):=x
  show h'.get? a=some (PySem.W.methodObj (.ref f) (.ref y))
  exact k a _ (.inl rfl) e
 | ext φ => obtain⟨p,⟨o,e⟩,st⟩:=x;exact⟨st _ _ p fun o q=>k _ _ (.inl rfl) q,⟨o,k _ _ (.inl rfl) e⟩,st⟩
theorem d4.lt (x:d4 P w H h) (e:H a=some o):a < h.objs.size:=(x a o e).lt
theorem d4.fresh (x:d4 P w H h) (e:h.objs.size <= a):H a=none:=by
 cases q:H a with
 | none=>rfl
 | some u=>exact absurd (V8 (x.lt q) e) (XB _)
theorem d4.kept (x:d4 P w H h) (k:∀ b u,h.get? b=some u->h'.get? b=some u):d4 P w H h':=fun a o e =>
 (x a o e).fJ (fun b u _ q=>k b u q) (fun _ q=>q) fun _ _ q=>q
theorem d4.laid (x:d4 P w H h) (k:∀ b u,h.get? b=some u->h'.get? b=some u) (hp:h.objs.size <= a) (new:aJ P w (upd H a o) h' a o):d4 P w (upd H a o) h':=fun b u e=>by
 have hn:=x.fresh hp
 by_cases hb:b=a
 ·subst hb;rw[bW] at e;cases e;exact new
 ·rw[aO hb] at e
  exact (x b u e).fJ (fun c v _ q=>k c v q) (fun c q=>by rw[aO (di q hn)];exact q) fun c xs q=>by rw[aO (di q hn)];exact q
end
noncomputable def Rd (H:Hp) (a:Addr) (u:HO):Prop:=H a=some u\/∃ o,H a=some (.frz o u)
theorem Rd.ok {P:Program} {w:World} {H:Hp} {h:Heap} {a:Addr} {u:HO} (r:Rd H a u) (x:d4 P w H h):aJ P w H h a u:=by
 rcases r with r | ⟨o,r⟩
 ·exact x a u r
 ·obtain⟨_,q⟩:=x a _ r
  exact q
noncomputable def tJ:Option HO->Prop
 | some (.lst _)=>True
 | some (.dK _)=>True
 | some (.dT _)=>True
 | some (.set _ _)=>True
 | some (.ins _ _ _)=>True
 | some (.ext _)=>True
 | _=>False
section
variable {P:Program} {w:World} {H:Hp} {h h':Heap} {x e:Addr} {o':HO}
theorem d4.write (ok:d4 P w H h) (mu:tJ (H x)) (he:e=x\/H e=some (.own x)) (k:∀ b u,b≠e->h.get? b=some u->h'.get? b=some u) (mi:∃ u,h'.get? e=some u)
  (new:aJ P w (upd H x o') h' x o'):d4 P w (upd H x o') h':=fun b u q=>by
 have tK:∀ c y,H c=some (.own y)->c≠x:=fun c y r z=>by subst z;rw[r] at mu;exact mu
 have zu:∀ c xs,H c=some (.tup xs)->c≠x:=fun c xs r z=>by subst z;rw[r] at mu;exact mu
 by_cases hb:b=x
 ·subst hb;rw[bW] at q;cases q;exact new
 ·rw[aO hb] at q
  by_cases p_:b=e
  ·have q':H b=some (.own x):=by
    rcases he with z | z
    ·exact absurd (p_.trans z) hb
    ·rw[p_];exact z
   rw[q] at q';cases q'
   obtain⟨v,hv⟩:=mi
   exact⟨v,by rw[p_];exact hv⟩
  ·refine (ok b u q).fJ (fun c v hc r=>k c v ?_ r) (fun c r=>by rw[aO (tK c b r)];exact r) fun c xs r=>by rw[aO (zu c xs r)];exact r
   rcases hc with rfl | hc
   ·exact p_
   ·rintro rfl
    rcases he with z | z
    ·exact tK c b hc z
    ·rw[hc] at z;cases z;exact hb rfl
end
structure Un (fs ex:List Addr) (H H':Hp) (h h':Heap):Prop where
 keep:∀ b o,h.get? b=some o->H b=none->b∉fs->b∉ex->h'.get? b=some o
 slot:∀ b o,h.get? b=some o->H b=none->b∈fs->b∉ex->∃ sl,h'.get? b=some { o with slots:=sl }
 free:∀ b o,h.get? b=some o->H b=none->b∉ex->H' b=none
 there:∀ b o,h.get? b=some o->b∉ex->∃ o',h'.get? b=some o'
 fY:∀ b xs,H b=some (.tup xs)->H' b=some (.tup xs)
 gy:∀ b o u,H b=some (.frz o u)->H' b=some (.frz o u)
 gz:∀ b ps,H b=some (.tbl ps)->∃ more,H' b=some (.tbl (ps ++ more))
section
variable {fs rZ ex Vq:List Addr} {H H1 H2:Hp} {h h1 h2 h':Heap} {a x e:Addr} {o:HO}
theorem Un.any (u:Un fs ex H H1 h h1) {b:Addr} {ob:Obj} (q:h.get? b=some ob) (n:H b=none) (hx:b∉ex):∃ sl,h1.get? b=some { ob with slots:=sl }:=by
 by_cases hb:b∈fs
 ·exact u.slot b ob q n hb hx
 ·exact⟨ob.slots,u.keep b ob q n hb hx⟩
theorem Un.kept (k:∀ b u,h.get? b=some u->h'.get? b=some u):Un fs ex H H h h' :=
 ⟨fun b ob q _ _ _=>k b ob q,fun b ob q _ _ _=>⟨ob.slots,k b ob q⟩,fun _ _ _ n _=>n,fun b ob q _=>⟨ob,k b ob q⟩,fun _ _ q=>q,fun _ _ _ q=>q,fun _ ps q=>⟨#[],by rw[q];simp⟩⟩
theorem Un.refl:Un fs ex H H h h:=Un.kept fun _ _ q=>q
theorem Un.laid (k:∀ b u,h.get? b=some u->h'.get? b=some u) (hp:h.objs.size <= a) (hn:H a=none):Un fs ex H (upd H a o) h h' where
 keep:=fun b u q _ _ _=>k b u q
 slot:=fun b u q _ _ _=>⟨u.slots,k b u q⟩
 free:=fun b u q n _=>by rw[aO (Vx (V8 (My q) hp))];exact n
 there:=fun b u q _=>⟨u,k b u q⟩
 fY:=fun b xs q=>by rw[aO (di q hn)];exact q
 gy:=fun b u xs q=>by rw[aO (di q hn)];exact q
 gz:=fun b ps q=>⟨#[],by rw[aO (di q hn),q];simp⟩
theorem Un.write (mu:tJ (H x)) (he:e=x\/H e=some (.own x)) (k:∀ b u,b≠e->h.get? b=some u->h'.get? b=some u) (mi:∃ u,h'.get? e=some u):Un fs ex H (upd H x o) h h':=by
 have hx:∀ b,H b=none->b≠x:=fun b n z=>by subst z;rw[n] at mu;exact mu
 have hb:∀ b,H b=none->b≠e:=fun b n z=>by
  subst z
  rcases he with r | r
  ·exact hx b n r
  ·rw[n] at r;cases r
 have hm:∀ b u,H b=some u->¬ tJ (some u)->b≠x:=fun b u q nm z=>by subst z;rw[q] at mu;exact nm mu
 refine⟨fun b u q n _ _=>k b u (hb b n) q,fun b u q n _ _=>⟨u.slots,k b u (hb b n) q⟩,fun b u q n _=>by rw[aO (hx b n)];exact n,fun b u q _ => ?_,
  fun b xs q=>by rw[aO (hm b _ q fun z=>z)];exact q,fun b u xs q=>by rw[aO (hm b _ q fun z=>z)];exact q,fun b ps q=>⟨#[],by rw[aO (hm b _ q fun z=>z),q];simp⟩⟩
 by_cases p_:b=e
 ·subst p_;exact mi
 ·exact⟨u,k b u p_ q⟩
end
noncomputable def wm (h:Heap) (H:Hp):List Addr:=(List.range h.objs.size).filter fun a=>(H a).isSome
noncomputable def gA (h:Heap) (H:Hp):Heap:=PySem.W.hideAll h (wm h H)
theorem Kv (h:Heap) (H:Hp):(gA h H).objs.size=h.objs.size:=PySem.W.hideAll_size _ _
theorem Kw {h:Heap} {H:Hp} {b:Addr} {o:Obj} (e:h.get? b=some o) (n:H b=none):(gA h H).get? b=some o :=
 PySem.W.hideAll_get _ e fun hm=>by
  have q:(H b).isSome=true:=(Yu.mp hm).2
  rw[n] at q;simp at q
theorem Kx {h:Heap} {H:Hp} {b:Addr} {o:Obj} (e:(gA h H).get? b=some o):h.get? b=some o/\H b=none:=by
 have e':h.get? b=some o:=PySem.W.of_hideAll (wm h H) e
 refine⟨e',?_⟩
 cases q:H b with
 | none=>rfl
 | some x =>
  have hm:b∈wm h H:=Yu.mpr ⟨Wh.mpr (My e'),by simp[q]⟩
  have z:(gA h H).get? b=none:=PySem.W.hideAll_none (wm h H) hm
  rw[z] at e;cases e
structure Mod (K:PySem.W.Frag) (mg:Str->Option Value) (base:Heap):Prop where
 oU:K.In base
 glob:base.Ns mainGlobals mg
 blt:∃ mb,base.Ns builtinsNs mb/\∀ x:Str,x ≠ "__name__" -> mb x=bootBuiltins x
 nolimit:base.NoLimit
structure Cx where
 prog:Program
 w:World
 K:PySem.W.Frag
 mg:Str->Option Value
 base:Heap
 A:Around
 N:List Str
 s₀ : Shared
 H₀ : Hp
 env:Env
 outer:List Env
 stack:List Env
 ex:List Addr
 fn:Str->Bool
 calm:Bool
 pn:List (Addr × Obj)
 xe:Value->Shared->Prop
noncomputable def j9 (l:List Env):List Addr:=l.filterMap (·.frame)
noncomputable abbrev Cx.fs (X:Cx):List Addr:=j9 X.outer
noncomputable def qa (sc:Scope) (x:Str):Prop:=sc.names.lookup x=some .local\/sc.names.lookup x=some .cell\/sc.names.lookup x=some .free
noncomputable def Loc (sc:Scope) (x:Str):Prop:=sc.names.lookup x=some .local\/sc.names.lookup x=some .cell
noncomputable def Look (env:Env) (h:Heap) (m:Str->Option Value) (x:Str) (u:Value):Prop :=
 (env.kindOf x=some .local/\m x=some u)\/((env.kindOf x=some .cell\/env.kindOf x=some .free)/\∃ c,env.cells.lookup x=some c/\h.IsCell c (some u))
structure Cx.Ok (X:Cx):Prop where
 mod:Mod X.K X.mg X.base
 kind:X.env.scope.kind = .function
 glob:X.env.globals=mainGlobals
 blt:X.env.builtins=builtinsNs
 above:X.s₀.heap.objs.size <= X.env.locals
 inj:∀ x y c,X.env.cells.lookup x=some c->X.env.cells.lookup y=some c->x=y
 has:∀ x,(X.env.kindOf x=some .cell\/X.env.kindOf x=some .free)->∃ c,X.env.cells.lookup x=some c
 tL:∀ x c,X.fn x=true->X.env.cells.lookup x=some c->X.s₀.heap.objs.size <= c
 hd:X.calm=true->X.A.handled=none
 frames:X.A.frames=some X.stack
 wo:X.stack=X.outer\/(X.stack=X.env :: X.outer/\X.env.frame=some X.env.locals)
 Eb:∀ b∈X.ex,b≠X.env.locals/\∀ x c,X.env.cells.lookup x=some c->c≠b
 bs:∀ b o,X.base.get? b=some o->X.s₀.heap.get? b=some o/\X.H₀ b=none
 oV:X.base.objs.size <= X.s₀.heap.objs.size
 kP:∀ b o,X.base.get? b=some o->b∉X.ex
 mV:∀ b∈X.ex,b∉X.fs
 fK:X.s₀.heap.FunFrames X.base X.outer
 qb:∀ b∈X.fs,X.H₀ b=none
structure Inv (X:Cx) (pins:List (Addr × Obj)) (σ : List (Option V)) (H:Hp) (s:Shared):Prop where
 ok:X.Ok
 os:s.os=X.s₀.os
 bare:AllBare s.gens
 base:Un X.fs X.ex X.H₀ H X.s₀.heap s.heap
 loc:∃ m,s.heap.Ns X.env.locals m/\∀ (i:Nat) (x:Str) (v:V),X.N[i]? = some x -> σ[i]? = some (some v)->qa X.env.scope x->∃ u,RelV v u/\Look X.env s.heap m x u
 cell:∀ x c,X.env.cells.lookup x=some c->∃ v,s.heap.IsCell c v
 free:H X.env.locals=none
 c6:∀ x c,X.env.cells.lookup x=some c->H c=none
 pin:∀ p∈X.pn ++ pins,s.heap.get? p.1=some p.2/\H p.1=none/\p.1≠X.env.locals/\p.1∉X.fs/\∀ v,p.2.data ≠ .cell v
 aN:d4 X.prog X.w H s.heap
 len : σ.length=X.N.length
section
variable {X:Cx} {pins:List (Addr × Obj)} {σ : List (Option V)} {H H':Hp} {s:Shared} {h':Heap}
theorem Cx.Ok.zv (ok:X.Ok) {b:Addr} {o:Obj} (e:X.base.get? b=some o):b∉X.fs:=fun hb=>by
 have:=(ok.fK.mem hb).1
 rw[e] at this;cases this
theorem Inv.bs (I:Inv X pins σ H s):∀ b o,X.base.get? b=some o->s.heap.get? b=some o/\H b=none:=fun b o e =>
 ⟨I.base.keep b o (I.ok.bs b o e).1 (I.ok.bs b o e).2 (I.ok.zv e) (I.ok.kP b o e),I.base.free b o (I.ok.bs b o e).1 (I.ok.bs b o e).2 (I.ok.kP b o e)⟩
theorem Inv.bk (I:Inv X pins σ H s):∀ b o,X.base.get? b=some o->s.heap.get? b=some o:=fun b o e=>(I.bs b o e).1
theorem Inv.mod (I:Inv X pins σ H s):Mod X.K X.mg X.base:=I.ok.mod
theorem Inv.iy (I:Inv X pins σ H s):X.K.In s.heap:=I.ok.mod.oU.keeps I.bk
theorem Inv.nolimit (I:Inv X pins σ H s):s.heap.NoLimit:=I.ok.mod.nolimit.keeps I.bk
theorem Inv.lt (I:Inv X pins σ H s):X.env.locals < s.heap.objs.size:=let ⟨_,hn,_⟩:=I.loc;hn.lt
theorem Inv.sz (I:Inv X pins σ H s):X.s₀.heap.objs.size <= s.heap.objs.size:=WY I.ok.above (Xj I.lt)
theorem Inv.zw (I:Inv X pins σ H s) {a:Addr} (h:s.heap.objs.size <= a):a∉X.fs:=fun hb=>by
 obtain⟨_,o,ho,_⟩:=I.ok.fK.mem hb
 exact absurd (V8 (My ho) (WY I.sz h)) (XB _)
theorem Inv.qc (I:Inv X pins σ H s):∀ x c,X.env.cells.lookup x=some c->c≠X.env.locals:=fun x c e z=>by
 obtain⟨v,o,ho,hd⟩:=I.cell x c e
 obtain⟨m,⟨o',es,ep,jK,tM,_⟩,_⟩:=I.loc
 rw[z,jK] at ho;cases ho;rw[tM] at hd;cases hd
theorem Inv.fK (I:Inv X pins σ H s):s.heap.FunFrames X.base X.outer:=by
 have all:∀ (l:List Env),(∀ b∈j9 l,b∈X.fs)->X.s₀.heap.FunFrames X.base l->s.heap.FunFrames X.base l:=by
  intro l
  induction l with
  | nil=>intro _ _;trivial
  | cons env r ih =>
   intro hs hl
   obtain⟨hk,⟨L,o,hf,hn,ho,hd⟩,hr⟩:=hl
   have hL:L∈X.fs:=hs L (by unfold j9;rw[Yn,hf];exact Mz)
   obtain⟨sl,e⟩:=I.base.slot L o ho (I.ok.qb L hL) hL fun z=>I.ok.mV L z hL
   exact⟨hk,⟨L,_,hf,hn,e,hd⟩,ih (fun b hb=>hs b (by unfold j9;rw[Yn,hf];exact MB _ hb)) hr⟩
 exact all X.outer (fun _ hb=>hb) I.ok.fK
theorem Inv.stack (I:Inv X pins σ H s):s.heap.FunFrames X.base X.stack:=by
 rcases I.ok.wo with e | ⟨e,hf⟩
 ·rw[e];exact I.fK
 ·rw[e]
  obtain⟨m,hn,_⟩:=I.loc
  refine .cons (by rw[I.ok.kind];decide) hf hn ?_ I.fK
  exact Heap.get?_none_of_le (WY I.ok.oV I.ok.above)
theorem Inv.g7 (I:Inv X pins σ H s):∀ b∈j9 X.stack,b∈X.env.locals :: X.fs:=fun b hb=>by
 rcases I.ok.wo with e | ⟨e,hf⟩
 ·rw[e] at hb;exact MB _ hb
 ·rw[e] at hb
  unfold j9 at hb
  rw[Yn,hf] at hb
  exact hb
theorem Inv.jr (I:Inv X pins σ H s):∀ b∈j9 X.stack,H b=none:=fun b hb=>by
 rcases Fo.mp (I.g7 b hb) with e | hb
 ·rw[e];exact I.free
 ·obtain⟨_,o,ho,_⟩:=I.ok.fK.mem hb
  exact I.base.free b o ho (I.ok.qb b hb) fun z=>I.ok.mV b z hb
theorem Inv.step {g':Array GenState} {t':Nat} {d':Drawn} {ch:List Addr} (I:Inv X pins σ H s)
  (mn:∀ b∈ch,(b∈X.ex\/X.s₀.heap.objs.size <= b)/\b≠X.env.locals/\(∀ x c,X.env.cells.lookup x=some c->c≠b)/\∀ p∈X.pn ++ pins,p.1≠b)
  (keep:∀ b o,b≠X.env.locals->b∉X.fs->b∉ch->s.heap.get? b=some o->H b=none->h'.get? b=some o)
  (slot:∀ b o,b≠X.env.locals->b∈X.fs->b∉ch->s.heap.get? b=some o->H b=none->∃ sl,h'.get? b=some { o with slots:=sl }) (free:∀ b o,b∉ch->s.heap.get? b=some o->H b=none->H' b=none)
  (there:∀ b o,b∉ch->s.heap.get? b=some o->∃ o',h'.get? b=some o')
  (fY:∀ b xs,H b=some (.tup xs)->H' b=some (.tup xs)) (gy:∀ b o u,H b=some (.frz o u)->H' b=some (.frz o u)) (gz:∀ b ps,H b=some (.tbl ps)->∃ more,H' b=some (.tbl (ps ++ more)))
  (ns:∀ m,s.heap.Ns X.env.locals m->h'.Ns X.env.locals m) (aN:d4 X.prog X.w H' h') (hg:AllBare g') :
  Inv X pins σ H' { s with heap:=h',gens:=g',drawn:=d',toks:=t' }:=by
 have Ec:∀ b o,X.s₀.heap.get? b=some o->b≠X.env.locals:=fun b o e=>Vx (V8 (My e) I.ok.above)
 have wq:∀ b o,X.s₀.heap.get? b=some o->b∉X.ex->b∉ch:=fun b o e hx hb=>by
  rcases (mn b hb).1 with z | z
  ·exact hx z
  ·exact absurd (V8 (My e) z) (XB _)
 have cellK:∀ x c,X.env.cells.lookup x=some c->∀ v,s.heap.IsCell c v->h'.IsCell c v:=fun x c e v ⟨o,ho,hd⟩=>by
  have kQ:c∉ch:=fun z=>(mn c z).2.2.1 x c e rfl
  by_cases hc:c∈X.fs
  ·obtain⟨sl,q⟩:=slot c o (I.qc x c e) hc kQ ho (I.c6 x c e)
   exact⟨_,q,hd⟩
  ·exact⟨o,keep c o (I.qc x c e) hc kQ ho (I.c6 x c e),hd⟩
 refine⟨I.ok,I.os,hg,⟨fun b o e n hb hx => ?_,fun b o e n hb hx => ?_,fun b o e n hx => ?_,fun b o e hx => ?_,fun b xs e=>fY b xs (I.base.fY b xs e),fun b o xs e=>gy b o xs (I.base.gy b o xs e),fun b ps e => ?_⟩,?_,fun x c e => ?_,?_,fun x c e => ?_,fun p hp => ?_,aN,I.len⟩
 ·exact keep b o (Ec b o e) hb (wq b o e hx) (I.base.keep b o e n hb hx) (I.base.free b o e n hx)
 ·obtain⟨sl,e1⟩:=I.base.slot b o e n hb hx
  obtain⟨Ed,e2⟩:=slot b _ (Ec b o e) hb (wq b o e hx) e1 (I.base.free b o e n hx)
  exact⟨Ed,e2⟩
 ·obtain⟨o',e1⟩:=I.base.there b o e hx
  exact free b o' (wq b o e hx) e1 (I.base.free b o e n hx)
 ·obtain⟨o',e1⟩:=I.base.there b o e hx
  exact there b o' (wq b o e hx) e1
 ·obtain⟨m1,e1⟩:=I.base.gz b ps e
  obtain⟨m2,e2⟩:=gz b _ e1
  exact⟨m1 ++ m2,by rw[e2,Array.append_assoc]⟩
 ·obtain⟨m,hn,hl⟩:=I.loc
  refine⟨m,ns m hn,fun i x v e1 e2 e3 => ?_⟩
  obtain⟨u,r,l⟩:=hl i x v e1 e2 e3
  refine⟨u,r,?_⟩
  rcases l with l | ⟨k,c,e,z⟩
  ·exact .inl l
  ·exact .inr ⟨k,c,e,cellK x c e _ z⟩
 ·obtain⟨v,z⟩:=I.cell x c e
  exact⟨v,cellK x c e v z⟩
 ·obtain⟨m,⟨o,_,_,ho,_⟩,_⟩:=I.loc
  exact free _ o (fun z=>(mn _ z).2.1 rfl) ho I.free
 ·obtain⟨v,o,ho,hd⟩:=I.cell x c e
  exact free c o (fun z=>(mn c z).2.2.1 x c e rfl) ho (I.c6 x c e)
 ·obtain⟨e,n,ne,nf,d⟩:=I.pin p hp
  have kQ:p.1∉ch:=fun z=>(mn p.1 z).2.2.2 p hp rfl
  exact⟨keep p.1 p.2 ne nf kQ e n,free p.1 p.2 kQ e n,ne,nf,d⟩
theorem Inv.un {t':Nat} (I:Inv X pins σ H s) (u:Un X.fs [] H H' s.heap h') (aN:d4 X.prog X.w H' h'):Inv X pins σ H' { s with heap:=h',toks:=t' }:=by
 obtain⟨m,⟨o,es,ep,ho,r⟩,_⟩:=id I.loc
 obtain⟨sl,hL⟩:=u.any ho I.free (by simp)
 exact I.step (g':=s.gens) (d':=s.drawn) (ch:=[]) (fun _ z=>nomatch z) (fun b o _ hb _ e n=>u.keep b o e n hb (by simp)) (fun b o _ hb _ e n=>u.slot b o e n hb (by simp)) (fun b o _ e n=>u.free b o e n (by simp)) (fun b o _ e=>u.there b o e (by simp)) u.fY u.gy u.gz (fun m' hm=>by
  obtain⟨o',tN,zx,jK,r'⟩:=hm
  rw[ho] at jK;cases jK
  exact⟨_,tN,zx,hL,r'⟩) aN I.bare
theorem Inv.call {g':Array GenState} {t':Nat} {d':Drawn} {ch:List Addr} (I:Inv X pins σ H s) (u:Un (j9 X.stack) ch H H' s.heap h') (aN:d4 X.prog X.w H' h') (hg:AllBare g')
  (mn:∀ b∈ch,(b∈X.ex\/X.s₀.heap.objs.size <= b)/\b≠X.env.locals/\(∀ x c,X.env.cells.lookup x=some c->c≠b)/\∀ p∈X.pn ++ pins,p.1≠b) :
  Inv X pins σ H' { s with heap:=h',gens:=g',drawn:=d',toks:=t' }:=by
 obtain⟨m,⟨o,es,ep,ho,r⟩,_⟩:=id I.loc
 obtain⟨sl,hL⟩:=u.any ho I.free fun z=>(mn _ z).2.1 rfl
 exact I.step (ch:=ch) mn (fun b o hL hb hc e n=>u.keep b o e n (fun z=>(Fo.mp (I.g7 b z)).elim hL hb) hc) (fun b o _ _ hc e n=>u.any e n hc) (fun b o hc e n=>u.free b o e n hc) (fun b o hc e=>u.there b o e hc) u.fY u.gy u.gz (fun m' hm=>by
  obtain⟨o',tN,zx,jK,r'⟩:=hm
  rw[ho] at jK;cases jK
  exact⟨_,tN,zx,hL,r'⟩) aN hg
theorem Inv.turned {t':Nat} {it:Addr} (I:Inv X pins σ H s) (k:∀ b o,b≠it->s.heap.get? b=some o->h'.get? b=some o) (hn:H it=none) (hL:it≠X.env.locals)
  (h1:it∈X.ex\/X.s₀.heap.objs.size <= it) (h2:∀ x c,X.env.cells.lookup x=some c->c≠it) (h3:∀ p∈X.pn ++ pins,p.1≠it):Inv X pins σ H { s with heap:=h',toks:=t' }:=by
 have Ee:∀ b u,H b=some u->b≠it:=fun b u e z=>by rw[z,hn] at e;cases e
 refine I.step (g':=s.gens) (d':=s.drawn) (ch:=[it]) (fun b hb => ?_) (fun b o _ _ hc e _=>k b o (fun z=>hc (by simp[z])) e) (fun b o _ _ hc e _=>⟨o.slots,k b o (fun z=>hc (by simp[z])) e⟩) (fun _ _ _ _ n=>n)
  (fun b o hc e=>⟨o,k b o (fun z=>hc (by simp[z])) e⟩) (fun _ _ e=>e) (fun _ _ _ e=>e) (fun b ps e=>⟨#[],by rw[e];simp⟩) (fun m hm => ?_) (fun b u e => ?_) I.bare
 ·have e:b=it:=by simpa using hb
  subst e
  exact⟨h1,hL,h2,h3⟩
 ·obtain⟨o,es,ep,ho,r⟩:=hm
  exact⟨o,es,ep,k _ o (XA hL) ho,r⟩
 ·refine (I.aN b u e).fJ (fun c v hc q=>k c v ?_ q) (fun _ q=>q) fun _ _ q=>q
  rcases hc with z | z
  ·rw[z];exact Ee b u e
  ·exact Ee c _ z
theorem Inv.tok (I:Inv X pins σ H s) (t:Nat):Inv X pins σ H { s with toks:=t }:=I.un (h':=s.heap) (t':=t) Un.refl I.aN
theorem Inv.kept {t':Nat} (I:Inv X pins σ H s) (k:∀ b u,s.heap.get? b=some u->h'.get? b=some u):Inv X pins σ H { s with heap:=h',toks:=t' }:=I.un (Un.kept k) (I.aN.kept k)
theorem Inv.laid {a:Addr} {o:HO} {t':Nat} (I:Inv X pins σ H s) (k:∀ b u,s.heap.get? b=some u->h'.get? b=some u) (hp:s.heap.objs.size <= a) (new:aJ X.prog X.w (upd H a o) h' a o) :
  Inv X pins σ (upd H a o) { s with heap:=h',toks:=t' }:=I.un (Un.laid k hp (I.aN.fresh hp)) (I.aN.laid k hp new)
theorem Inv.write {x e:Addr} {o:HO} {t':Nat} (I:Inv X pins σ H s) (mu:tJ (H x)) (he:e=x\/H e=some (.own x)) (k:∀ b u,b≠e->s.heap.get? b=some u->h'.get? b=some u) (mi:∃ u,h'.get? e=some u)
  (new:aJ X.prog X.w (upd H x o) h' x o):Inv X pins σ (upd H x o) { s with heap:=h',toks:=t' }:=I.un (Un.write mu he k mi) (I.aN.write mu he k mi new)
theorem Inv.fR {dj:List (Addr × Obj)} (I:Inv X pins σ H s) (h:∀ p∈dj,s.heap.get? p.1=some p.2/\H p.1=none/\p.1≠X.env.locals/\p.1∉X.fs/\∀ v,p.2.data ≠ .cell v):Inv X dj σ H s :=
 ⟨I.ok,I.os,I.bare,I.base,I.loc,I.cell,I.free,I.c6,fun p hp=>(W7.mp hp).elim (fun z=>I.pin p (WZ _ z)) (h p),I.aN,I.len⟩
theorem Ef {N:List Str} (hN:N.Nodup) {i j:Nat} {x:Str} (a:N[i]? = some x) (b:N[j]? = some x):i=j:=by
 obtain⟨h1,e1⟩:=su.mp a
 obtain⟨h2,e2⟩:=su.mp b
 exact (YE hN).mp (e1.trans e2.symm)
theorem Eg {M:Model} {A:Around} {E:Value->Shared->Prop} {i:Nat} {x:Str} {v:V} {u:Value} {Q:Unit->Shared->Prop} (I:Inv X pins σ H s) (hN:X.N.Nodup) (hi:X.N[i]? = some x) (hx:Loc X.env.scope x) (r:RelV v u)
  (h:∀ s',Inv X pins (σ.set i (some v)) H s'->(∃ a,Heap.SameBut a s.heap s'.heap/\(a=X.env.locals\/X.env.cells.lookup x=some a))->Q () s') (hf:X.fn x=true\/X.env.scope.names.lookup x=some .local:=by first | exact .inl rfl | exact .inr rfl | assumption):wpAny M A (storeName X.env x u) Q E s:=by
 obtain⟨m,hn,hl⟩:=id I.loc
 have zy:(X.env.scope.kind == .class || (X.env.scope.kind == .module && X.env.locals != X.env.globals))=false:=by rw[I.ok.kind];rfl
 have Eh:i < σ.length:=by rw[I.len];exact (su.mp hi).1
 have qc:=I.qc
 have tracked:∀ {a:Addr} {h':Heap},(∃ o,s.heap.get? a=some o/\H a=none)->Heap.SameBut a s.heap h'->d4 X.prog X.w H h':=fun {a h'} ha hs b ob e=>by
  obtain⟨_,_,oW⟩:=ha
  refine (I.aN b ob e).fJ (fun c w' hc q=>(hs.2 c ?_).trans q) (fun _ q=>q) fun _ _ q=>q
  rintro rfl
  rcases hc with rfl | hc
  ·rw[oW] at e;cases e
  ·rw[oW] at hc;cases hc
 rcases hx with hk | hk
 ·refine wpAny_storeName_local hk hn (fun h' rS hs => ?_) zy
  obtain⟨oL,_,_,kR,_⟩:=id hn
  refine h _ ⟨I.ok,I.os,I.bare,⟨fun b o e n hb hx => ?_,fun b o e n hb hx => ?_,I.base.free,fun b o e hx => ?_,I.base.fY,I.base.gy,I.base.gz⟩,⟨_,rS,fun j y v' e1 e2 e3 => ?_⟩,fun y c e => ?_,I.free,I.c6,fun p hp => ?_,tracked ⟨oL,kR,I.free⟩ hs,by simpa using I.len⟩ ⟨_,hs,.inl rfl⟩
  ·exact (hs.2 b (Vx (V8 (My e) I.ok.above))).trans (I.base.keep b o e n hb hx)
  ·obtain⟨sl,e1⟩:=I.base.slot b o e n hb hx
   exact⟨sl,(hs.2 b (Vx (V8 (My e) I.ok.above))).trans e1⟩
  ·obtain⟨o',e1⟩:=I.base.there b o e hx
   exact⟨o',(hs.2 b (Vx (V8 (My e) I.ok.above))).trans e1⟩
  ·by_cases hj:j=i
   ·subst hj
    rw[hi] at e1;cases e1
    rw[WJ Eh] at e2
    cases e2
    exact⟨u,r,.inl ⟨hk,by simp⟩⟩
   ·rw[W0 (XA hj)] at e2
    obtain⟨u',r',q⟩:=hl j y v' e1 e2 e3
    refine⟨u',r',?_⟩
    rcases q with⟨k,e⟩ | ⟨k,c,e,z⟩
    ·refine .inl ⟨k,?_⟩
     have:y≠x:=fun e=>hj (Ef hN e1 (e ▸ hi))
     simp[this,e]
    ·exact .inr ⟨k,c,e,z.sameBut hs (qc y c e)⟩
  ·obtain⟨w',z⟩:=I.cell y c e
   exact⟨w',z.sameBut hs (qc y c e)⟩
  ·obtain⟨e,n,ne,nf,d⟩:=I.pin p hp
   exact⟨(hs.2 p.1 ne).trans e,n,ne,nf,d⟩
 ·have mW:X.fn x=true:=by
   rcases hf with z | z
   ·exact z
   ·rw[z] at hk;cases hk
  obtain⟨c,hc⟩:=I.ok.has x (.inl hk)
  obtain⟨w',z⟩:=I.cell x c hc
  refine wpAny_storeName_cell I.ok.kind hk hc z (fun h' j_ hs => ?_)
  obtain⟨oc,Ei,zz⟩:=id z
  refine h { s with heap:=h' } ⟨I.ok,I.os,I.bare,⟨fun b o e n hb hx => ?_,fun b o e n hb hx => ?_,I.base.free,fun b o e hx => ?_,I.base.fY,I.base.gy,I.base.gz⟩,⟨m,hn.sameBut hs (XA (qc x c hc)),fun j y v' e1 e2 e3 => ?_⟩,fun y c' e => ?_,I.free,I.c6,fun p hp => ?_,tracked ⟨oc,Ei,I.c6 x c hc⟩ hs,by simpa using I.len⟩ ⟨c,hs,.inr hc⟩
  ·exact (hs.2 b (Vx (V8 (My e) (I.ok.tL x c mW hc)))).trans (I.base.keep b o e n hb hx)
  ·obtain⟨sl,e1⟩:=I.base.slot b o e n hb hx
   exact⟨sl,(hs.2 b (Vx (V8 (My e) (I.ok.tL x c mW hc)))).trans e1⟩
  ·obtain⟨o',e1⟩:=I.base.there b o e hx
   exact⟨o',(hs.2 b (Vx (V8 (My e) (I.ok.tL x c mW hc)))).trans e1⟩
  ·by_cases hj:j=i
   ·subst hj
    rw[hi] at e1;cases e1
    rw[WJ Eh] at e2
    cases e2
    exact⟨u,r,.inr ⟨.inl hk,c,hc,j_⟩⟩
   ·rw[W0 (XA hj)] at e2
    obtain⟨u',r',q⟩:=hl j y v' e1 e2 e3
    refine⟨u',r',?_⟩
    rcases q with q | ⟨k,c',e,z'⟩
    ·exact .inl q
    ·refine .inr ⟨k,c',e,z'.sameBut hs ?_⟩
     rintro rfl
     exact hj (Ef hN e1 (I.ok.inj _ _ _ e hc ▸ hi))
  ·by_cases hcc:c'=c
   ·subst hcc;exact⟨_,j_⟩
   ·obtain⟨w2,z2⟩:=I.cell y c' e
    exact⟨w2,z2.sameBut hs hcc⟩
  ·obtain⟨e,n,ne,nf,d⟩:=I.pin p hp
   refine⟨(hs.2 p.1 ?_).trans e,n,ne,nf,d⟩
   intro q
   rw[q,Ei] at e
   have q':oc=p.2:=Wf e
   exact d w' (by rw[<-q'];exact zz)
theorem Ej {M:Model} {A:Around} {E:Value->Shared->Prop} {i:Nat} {x:Str} {v:V} {u:Value} {Q:Unit->Shared->Prop} (I:Inv X pins σ H s) (hN:X.N.Nodup) (hi:X.N[i]? = some x) (hx:Loc X.env.scope x) (r:RelV v u)
  (h:∀ s',Inv X pins (σ.set i (some v)) H s'->Q () s') (hf:X.fn x=true\/X.env.scope.names.lookup x=some .local:=by first | exact .inl rfl | exact .inr rfl | assumption):wpAny M A (storeName X.env x u) Q E s :=
 Eg I hN hi hx r (fun s' I' _=>h s' I') hf
theorem Inv.tO {s':Shared} {ch:List Addr} (I:Inv X pins σ H s) (ho:s'.os=s.os) (u:Un (j9 X.stack) ch H H' s.heap s'.heap) (aN:d4 X.prog X.w H' s'.heap) (hg:AllBare s'.gens)
  (mn:∀ b∈ch,(b∈X.ex\/X.s₀.heap.objs.size <= b)/\b≠X.env.locals/\(∀ x c,X.env.cells.lookup x=some c->c≠b)/\∀ p∈X.pn ++ pins,p.1≠b):Inv X pins σ H' s':=by
 obtain⟨h',g',d',t',o'⟩:=s'
 have e:o'=s.os:=ho
 subst e
 exact I.call (g':=g') (t':=t') (d':=d') u aN hg mn
end
noncomputable abbrev XK:=Value->Option Addr->Hp->Prop
noncomputable abbrev St:=List (Option V)
noncomputable abbrev VK:=V->Hp->Prop
noncomputable abbrev TE:=St->Hp->VK->Prop
noncomputable abbrev TT:=St->Hp->(Bool->Hp->Prop)->Prop
noncomputable abbrev TA:=St->Hp->(List V->Hp->Prop)->Prop
structure Ends where
 nx:St->Hp->Prop
 rt:VK
 bk:St->Hp->Prop:=fun _ _=>False
 ct:St->Hp->Prop:=fun _ _=>False
noncomputable abbrev TS:=Ends->St->Hp->Prop
noncomputable def EP (X:Cx) (pins:List (Addr × Obj)) (σ : St) (Q:VK) (u:Value) (s':Shared):Prop:=∃ v H',Inv X pins σ H' s'/\RelV v u/\Q v H'
noncomputable def TP (X:Cx) (pins:List (Addr × Obj)) (σ : St) (Q:Bool->Hp->Prop) (b:Bool) (s':Shared):Prop:=∃ H',Inv X pins σ H' s'/\Q b H'
noncomputable def AP (X:Cx) (pins:List (Addr × Obj)) (σ : St) (Q:List V->Hp->Prop) (us:List Value) (s':Shared):Prop:=∃ vs H',Inv X pins σ H' s'/\Vals vs us/\Q vs H'
noncomputable def SP (X:Cx) (pins:List (Addr × Obj)) (D:Ends) (f:Flow) (s':Shared):Prop :=
 match f with
 | .next=>∃ σ' H',Inv X pins σ' H' s'/\D.nx σ' H'
 | .brk=>∃ σ' H',Inv X pins σ' H' s'/\D.bk σ' H'
 | .cont=>∃ σ' H',Inv X pins σ' H' s'/\D.ct σ' H'
 | .ret u=>∃ v σ' H',Inv X pins σ' H' s'/\RelV v u/\D.rt v H'
noncomputable def PE (X:Cx) (e:Expr) (t:TE):Prop :=
 ∀ (pins:List (Addr × Obj)) (s:Shared) (σ : St) (H:Hp) (Q:VK),Inv X pins σ H s->t σ H Q->wpAny (model X.prog X.w) X.A (eval e X.env) (EP X pins σ Q) X.xe s
noncomputable def PT (X:Cx) (e:Expr) (t:TT):Prop :=
 ∀ (pins:List (Addr × Obj)) (s:Shared) (σ : St) (H:Hp) (Q:Bool->Hp->Prop),Inv X pins σ H s->t σ H Q->wpAny (model X.prog X.w) X.A (isTrue e X.env (eval e X.env)) (TP X pins σ Q) X.xe s
noncomputable def PW (X:Cx) (e:Expr) (t:TT):Prop :=
 ∀ (whole:Sem Value) (pins:List (Addr × Obj)) (s:Shared) (σ : St) (H:Hp) (Q:Bool->Hp->Prop),Inv X pins σ H s->t σ H Q->wpAny (model X.prog X.w) X.A (isTrue e X.env whole) (TP X pins σ Q) X.xe s
theorem PW.pt {X:Cx} {e:Expr} {t:TT} (h:PW X e t):PT X e t:=h _
noncomputable def PA (X:Cx) (es:List Expr) (t:TA):Prop :=
 ∀ (pos:Pos) (pins:List (Addr × Obj)) (s:Shared) (σ : St) (H:Hp) (Q:List V->Hp->Prop),Inv X pins σ H s->t σ H Q->wpAny (model X.prog X.w) X.A (spliced (backTo pos (starEach es X.env))) (AP X pins σ Q) X.xe s
noncomputable def PS (X:Cx) (st:Stmt) (t:TS):Prop :=
 ∀ (pins:List (Addr × Obj)) (s:Shared) (σ : St) (H:Hp) (D:Ends),Inv X pins σ H s->t D σ H->wpAny (model X.prog X.w) X.A (exec st X.env) (SP X pins D) X.xe s
noncomputable def iz (X:Cx) (st:List Stmt) (t:TS):Prop :=
 ∀ (pins:List (Addr × Obj)) (s:Shared) (σ : St) (H:Hp) (D:Ends),Inv X pins σ H s->t D σ H->wpAny (model X.prog X.w) X.A (execs st X.env) (SP X pins D) X.xe s
theorem bq {α : Type} {t:Sem α} {Q Q' : α -> Shared->Prop} {M:Model} {A:Around} {E:Value->Shared->Prop} {s:Shared} (h:wpAny M A t Q E s) (hQ:∀ a s,Q a s->Q' a s):wpAny M A t Q' E s:=XQ h hQ fun _ _ x=>x
section
variable {X:Cx}
noncomputable def d7 (i:Nat):TE:=fun σ H Q=>∃ v,σ[i]? = some (some v)/\Q v H
noncomputable def tC (v:V):TE:=fun _ H Q=>Q v H
theorem Ek {i:Nat} {x:Str} {pos:Pos} (hN:X.N[i]? = some x) (hv:qa X.env.scope x) (hd:(x == ("__debug__" : Str))=false:=by decide) (fZ:(x == ("__classdict__" : Str))=false:=by decide):PE X (.Name x pos) (d7 i):=by
 intro pins s σ H Q I h
 obtain⟨v,e,h⟩:=h
 obtain⟨m,hn,hl⟩:=I.loc
 obtain⟨u,r,l⟩:=hl i x v hN e hv
 have fin:EP X pins σ Q u s:=⟨v,H,I,r,h⟩
 rcases l with⟨hk,hm⟩ | ⟨hk,c,hc,oX⟩
 ·exact wpAny_Name (wpAny_loadName_local I.ok.kind hk hn hm fin) hd
 ·rcases hk with hk | hk
  ·exact wpAny_Name (wpAny_loadName_cell I.ok.kind hk hc oX fin) hd
  ·exact wpAny_Name (wpAny_loadName_free I.ok.kind hk hc oX fin fZ) hd
theorem El {i j pos}:PE X (.Constant (.int i) j pos) (tC (.int i)):=fun _ _ _ H _ I h=>wpAny_Constant_int ⟨.int i,H,I.tok _,⟨_,rfl⟩,h⟩
theorem Ky {b j pos}:PE X (.Constant (.bool b) j pos) (tC (.bl b)):=fun _ _ _ H _ I h=>Constant_bool ⟨.bl b,H,I,rfl,h⟩
theorem Kz {j pos}:PE X (.Constant .none j pos) (tC .non):=fun _ _ _ H _ I h=>Constant_none ⟨.non,H,I,rfl,h⟩
theorem KC {x j pos}:PE X (.Constant (.str x) j pos) (tC (.str x)):=fun _ _ _ H _ I h=>Calls.Constant_str ⟨.str x,H,I.tok _,⟨_,rfl⟩,h⟩
noncomputable def Gl (X:Cx) (x:Str):Prop:=X.env.kindOf x=some .globalImplicit
theorem Em {E:Value->Shared->Prop} {pins:List (Addr × Obj)} {s:Shared} {σ : St} {H:Hp} {x:Str} {u:Value} {pos:Pos} {Q:Value->Shared->Prop} (I:Inv X pins σ H s) (hg:Gl X x) (hm:X.mg x=some u) (h:Q u s)
  (hd:(x == ("__debug__" : Str))=false:=by decide):wpAny (model X.prog X.w) X.A (eval (.Name x pos) X.env) Q E s :=
 Calls.Name_function_global I.ok.kind hg (Calls.loadGlobal_global (by rw[I.ok.glob];exact I.mod.glob.keeps I.bk) hm h) hd
theorem mX {E:Value->Shared->Prop} {pins:List (Addr × Obj)} {s:Shared} {σ : St} {H:Hp} {x:Str} {u:Value} {pos:Pos} {Q:Value->Shared->Prop} (I:Inv X pins σ H s) (hg:Gl X x) (hm:X.mg x=none) (hv:bootBuiltins x=some u) (h:Q u s)
  (hn:x ≠ "__name__" := by decide) (hd:(x == ("__debug__" : Str))=false:=by decide):wpAny (model X.prog X.w) X.A (eval (.Name x pos) X.env) Q E s:=by
 obtain⟨mb,h1,h2⟩:=I.mod.blt
 exact Calls.Name_function_global I.ok.kind hg (Calls.loadGlobal_builtin (by rw[I.ok.glob];exact I.mod.glob.keeps I.bk) hm (by rw[I.ok.blt];exact h1.keeps I.bk) ((h2 x hn).trans hv) h) hd
theorem KD {x:Str} {v:V} {u:Value} {pos:Pos} (hg:Gl X x) (hm:X.mg x=some u) (r:RelV v u) (hd:(x == ("__debug__" : Str))=false:=by decide):PE X (.Name x pos) (tC v) :=
 fun _ _ _ H _ I h=>Em I hg hm ⟨v,H,I,r,h⟩ hd
theorem KG {x:Str} {v:V} {u:Value} {pos:Pos} (hg:Gl X x) (hm:X.mg x=none) (hv:bootBuiltins x=some u) (r:RelV v u) (hn:x ≠ "__name__" := by decide) (hd:(x == ("__debug__" : Str))=false:=by decide):PE X (.Name x pos) (tC v) :=
 fun _ _ _ H _ I h=>mX I hg hm hv ⟨v,H,I,r,h⟩ hn hd
variable {a b:Expr} {ta tb:TE} {pos:Pos}
noncomputable def PC (X:Cx) (op:CmpOp) (a b:Expr) (t:TE):Prop :=
 ∀ (pins:List (Addr × Obj)) (s:Shared) (σ : St) (H:Hp) (Q:VK),Inv X pins σ H s->t σ H Q →
  wpAny (model X.prog X.w) X.A (eval a X.env) (fun v s₁ => wpAny (model X.prog X.w) X.A (eval b X.env) (fun u s₂ => wpAny (model X.prog X.w) X.A (compareOp op v u) (EP X pins σ Q) X.xe s₂) X.xe s₁) X.xe s
noncomputable def tB (t:TE):TT:=fun σ H Q=>t σ H fun x H1=>∃ c,x = .bl c/\Q c H1
theorem KH {op:CmpOp} {t:TE} (h:PC X op a b t) (h1:behindInMarks op b=false:=by first | exact KI _ (by decide) (by decide) | rfl):PT X (.Compare a [op] [b] pos) (tB t):=by
 intro pins s σ H Q I hw
 refine wpAny_isTrue_Compare1 (bq (h pins s σ H _ I hw) fun v s1 h1=>bq h1 fun u s2 h2=>bq h2 fun c s3 h0_ => el5 h0_ fun x H1 I1 r1 q1 => ?_) h1
 obtain⟨d,rfl,q⟩:=q1
 cases r1
 exact XW ⟨H1,I1,q⟩
theorem KJ {e:Expr} {t:TE} (h:PE X e t) (he:∀ whole,isTrue e X.env whole=(do let v <- whole;standAt e.pos;holding [v] (truthy v)):=by intro _;rfl):PT X e (tB t):=by
 intro pins s σ H Q I hw
 refine isTrue_plain (bq (h pins s σ H _ I hw) fun v s1 h0_ => el5 h0_ fun x H1 I1 r1 q1 => ?_) (he _)
 obtain⟨d,rfl,q⟩:=q1
 cases r1
 exact XW ⟨H1,I1,q⟩
variable {tA mq:TT} {rest:List Expr}
noncomputable def qd (t u:TT):TT:=fun σ H Q=>t σ H fun c H1=>if c=true then u σ H1 Q else Q false H1
noncomputable def zA (t u:TT):TT:=fun σ H Q=>t σ H fun c H1=>if c=true then Q true H1 else u σ H1 Q
noncomputable def tP (t:TT):TT:=fun σ H Q=>t σ H fun c H1=>Q (!c) H1
theorem KN (ha:PT X a tA):PW X (.BoolOp .And [a] pos) tA:=by
 intro wh pins s σ H Q I h
 refine isTrue_and (bq (ha pins s σ H Q I h) fun c s1 e => ?_)
 cases c with
 | true=>exact isTrue_and_nil e
 | false=>exact e
theorem KO (ha:PT X a tA):PW X (.BoolOp .Or [a] pos) tA:=by
 intro wh pins s σ H Q I h
 refine isTrue_or (bq (ha pins s σ H Q I h) fun c s1 e => ?_)
 cases c with
 | false=>exact isTrue_or_nil e
 | true=>exact e
theorem KP (ha:PT X a tA) (hb:PW X (.BoolOp .And (b :: rest) pos) mq):PW X (.BoolOp .And (a :: b :: rest) pos) (qd tA mq):=by
 intro wh pins s σ H Q I h
 refine isTrue_and (bq (ha pins s σ H _ I h) fun c s1 h0_ => el3 h0_ fun H1 I1 q1 => ?_)
 cases c with
 | true=>exact hb wh pins s1 σ H1 Q I1 q1
 | false=>exact⟨H1,I1,q1⟩
theorem KQ (ha:PT X a tA) (hb:PW X (.BoolOp .Or (b :: rest) pos) mq):PW X (.BoolOp .Or (a :: b :: rest) pos) (zA tA mq):=by
 intro wh pins s σ H Q I h
 refine isTrue_or (bq (ha pins s σ H _ I h) fun c s1 h0_ => el3 h0_ fun H1 I1 q1 => ?_)
 cases c with
 | true=>exact⟨H1,I1,q1⟩
 | false=>exact hb wh pins s1 σ H1 Q I1 q1
theorem KR (ha:PT X a tA):PT X (.UnaryOp .Not a pos) (tP tA):=by
 intro pins s σ H Q I h
 exact isTrue_not (ha pins s σ H (fun c H1=>Q (!c) H1) I h)
noncomputable def En (ta tb:TE):TE:=fun σ H Q=>ta σ H fun x H1=>∃ c,x = .bl c/\if c=true then tb σ H1 Q else Q (.bl false) H1
noncomputable def Eo (ta:TE):TE:=fun σ H Q=>ta σ H fun x H1=>∃ c,x = .bl c/\Q (.bl (!c)) H1
theorem KU {op} {t:TE} (h:PE X a t):PE X (.BoolOp op [a] pos) t:=fun pins s σ H Q I hw=>BoolOp_one (h pins s σ H Q I hw)
theorem KW (ha:PE X a ta) (hb:PE X (.BoolOp .And (b :: rest) pos) tb):PE X (.BoolOp .And (a :: b :: rest) pos) (En ta tb):=by
 intro pins s σ H Q I h
 refine BoolOp_and (bq (ha pins s σ H _ I h) fun v s1 h0_ => el5 h0_ fun x H1 I1 r1 q1 => ?_)
 obtain⟨c,rfl,q1⟩:=q1
 cases r1
 refine XW ?_
 cases c with
 | true=>exact hb pins s1 σ H1 Q I1 q1
 | false=>exact⟨.bl false,H1,I1,rfl,q1⟩
theorem KY (ha:PE X a ta):PE X (.UnaryOp .Not a pos) (Eo ta):=by
 intro pins s σ H Q I h
 refine UnaryOp_ (bq (ha pins s σ H _ I h) fun v s1 h0_ => el5 h0_ fun x H1 I1 r1 q1 => ?_)
 obtain⟨c,rfl,q1⟩:=q1
 cases r1
 exact not_of (XW ⟨.bl (!c),H1,I1,rfl,q1⟩)
noncomputable def Ep (t:TT) (ta tb:TE):TE:=fun σ H Q=>t σ H fun c H1=>if c=true then ta σ H1 Q else tb σ H1 Q
theorem KZ {c:Expr} (hc:PT X c tA) (ha:PE X a ta) (hb:PE X b tb):PE X (.IfExp c a b pos) (Ep tA ta tb):=by
 intro pins s σ H Q I h
 refine wpAny_IfExp (bq (hc pins s σ H _ I h) fun d s1 h0_ => el3 h0_ fun H1 I1 q1 => ?_)
 cases d with
 | true=>exact ha pins s1 σ H1 Q I1 q1
 | false=>exact hb pins s1 σ H1 Q I1 q1
end
noncomputable def bx (K:PySem.W.Frag) (H:Hp) (a:Addr) (xs:List V):Prop :=
 Rd H a (.lst xs) ∨
  ∃ (o:Obj) (ag:Array Value) (n:Nat),K.lookup a=some o/\o.cls = .type "list" /\ o.dict=none/\o.data = .seq ag n/\ag.size <= sizeLine/\Vals xs ag.toList
noncomputable def bQ (K:PySem.W.Frag) (H:Hp) (a:Addr) (xs:List V):Prop :=
 Rd H a (.tup xs) ∨
  ∃ (o:Obj) (ag:Array Value) (n:Nat),K.lookup a=some o/\o.cls = .type "tuple" /\ o.data = .seq ag n/\ag.size <= sizeLine/\Vals xs ag.toList
noncomputable def zB:Value->Option V
 | .none=>some .non
 | .bool b=>some (.bl b)
 | .int i _=>some (.int i)
 | .str x _=>some (.str x)
 | .bytes b _=>some (.byt b)
 | .float b _=>some (.flt b)
 | .ref a=>some (.ref a)
 | .type n=>some (.ty n)
 | _=>none
theorem RelV.abs {x:V} {u:Value} (r:RelV x u):zB u=some x:=by
 cases x with
 | non=>cases r;rfl
 | bl _=>cases r;rfl
 | int _=>obtain⟨t,rfl⟩:=r;rfl
 | str _=>obtain⟨t,rfl⟩:=r;rfl
 | byt _=>obtain⟨t,rfl⟩:=r;rfl
 | flt _=>obtain⟨t,rfl⟩:=r;rfl
 | ref _=>cases r;rfl
 | ty _=>cases r;rfl
theorem RelV.inj {x y:V} {u:Value} (r:RelV x u) (q:RelV y u):x=y:=Wf (r.abs.symm.trans q.abs)
theorem Vals.inj:∀ {xs ys:List V} {us:List Value},Vals xs us->Vals ys us->xs=ys
 | _,_,_,.nil,.nil=>rfl
 | _,_,_,.cons r t,.cons r' t'=>by rw[r.inj r',Vals.inj t t']
section
variable {X:Cx} {pins:List (Addr × Obj)} {σ : St} {H:Hp} {s:Shared} {a:Addr} {xs ys:List V}
theorem bx.of {K:PySem.W.Frag} (h:H a=some (.lst xs)):bx K H a xs := .inl (.inl h)
theorem bQ.of {K:PySem.W.Frag} (h:H a=some (.tup xs)):bQ K H a xs := .inl (.inl h)
theorem Inv.list (I:Inv X pins σ H s) (h:bx X.K H a xs):∃ ag:List Value,Vals xs ag/\PlainL s.heap a ag.toArray/\xs.length <= sizeLine:=by
 rcases h with h | ⟨o,ag,n,hk,hc,hd,hs,hz,r⟩
 ·obtain⟨z,ag,n,r,e⟩:=h.ok I.aN
  exact⟨ag,r,⟨_,n,e,rfl,rfl,rfl⟩,z⟩
 ·refine⟨ag.toList,r,⟨o,n,I.iy a o hk,hc,hd,by simpa using hs⟩,?_⟩
  have e:=r.length
  simp only[Fj] at e
  omega
theorem Inv.tuple (I:Inv X pins σ H s) (h:bQ X.K H a xs):∃ ag:List Value,Vals xs ag/\IsTup s.heap a ag.toArray/\xs.length <= sizeLine:=by
 rcases h with h | ⟨o,ag,n,hk,hc,hs,hz,r⟩
 ·obtain⟨z,ag,r,p⟩:=h.ok I.aN
  exact⟨ag,r,p,z⟩
 ·refine⟨ag.toList,r,⟨o,I.iy a o hk,hc,n,by simpa using hs⟩,?_⟩
  have e:=r.length
  simp only[Fj] at e
  omega
theorem Inv.f6 (I:Inv X pins σ H s) (h:bx X.K H a xs) (h':bx X.K H a ys):xs=ys:=by
 obtain⟨ag,r,⟨o,n,e,_,_,d⟩,_⟩:=I.list h
 obtain⟨its',r',⟨o',n',e',_,_,d'⟩,_⟩:=I.list h'
 rw[e] at e';cases e'
 rw[d] at d'
 injection d' with d1 _
 have:ag=its':=by simpa using congrArg Array.toList d1
 subst this
 exact r.inj r'
theorem Inv.e7 (I:Inv X pins σ H s) (h:bQ X.K H a xs) (h':bQ X.K H a ys):xs=ys:=by
 obtain⟨ag,r,⟨o,e,_,n,d⟩,_⟩:=I.tuple h
 obtain⟨its',r',⟨o',e',_,n',d'⟩,_⟩:=I.tuple h'
 rw[e] at e';cases e'
 rw[d] at d'
 injection d' with d1 _
 have:ag=its':=by simpa using congrArg Array.toList d1
 subst this
 exact r.inj r'
end
noncomputable abbrev Cx.gB (X:Cx) (E:Value->Shared->Prop):Cx:={ X with xe:=E }
noncomputable abbrev Cx.mY (X:Cx):Cx:=X.gB fun _ _=>False
theorem Cx.Ok.gB {X:Cx} (ok:X.Ok) (E:Value->Shared->Prop):(X.gB E).Ok :=
 ⟨ok.mod,ok.kind,ok.glob,ok.blt,ok.above,ok.inj,ok.has,ok.tL,ok.hd,ok.frames,ok.wo,ok.Eb,ok.bs,ok.oV,ok.kP,ok.mV,ok.fK,ok.qb⟩
theorem Cx.Ok.dq {X:Cx} {E:Value->Shared->Prop} (ok:(X.gB E).Ok):X.Ok :=
 ⟨ok.mod,ok.kind,ok.glob,ok.blt,ok.above,ok.inj,ok.has,ok.tL,ok.hd,ok.frames,ok.wo,ok.Eb,ok.bs,ok.oV,ok.kP,ok.mV,ok.fK,ok.qb⟩
section
variable {X:Cx} {pins:List (Addr × Obj)} {σ : St} {H:Hp} {s:Shared} {E:Value->Shared->Prop}
theorem Inv.gB (I:Inv X pins σ H s) (E:Value->Shared->Prop):Inv (X.gB E) pins σ H s:=⟨I.ok.gB E,I.os,I.bare,I.base,I.loc,I.cell,I.free,I.c6,I.pin,I.aN,I.len⟩
theorem Inv.dq (I:Inv (X.gB E) pins σ H s):Inv X pins σ H s:=⟨I.ok.dq,I.os,I.bare,I.base,I.loc,I.cell,I.free,I.c6,I.pin,I.aN,I.len⟩
theorem SP.dq {D:Ends} {f:Flow} {s':Shared} (h:SP (X.gB E) pins D f s'):SP X pins D f s':=by
 cases f with
 | next=>obtain⟨σ',H',I,q⟩:=h;exact⟨σ',H',I.dq,q⟩
 | brk=>obtain⟨σ',H',I,q⟩:=h;exact⟨σ',H',I.dq,q⟩
 | cont=>obtain⟨σ',H',I,q⟩:=h;exact⟨σ',H',I.dq,q⟩
 | ret u=>obtain⟨v,σ',H',I,r,q⟩:=h;exact⟨v,σ',H',I.dq,r,q⟩
theorem iz.mY {st:List Stmt} {t:TS} (h:iz X.mY st t):iz X st t:=fun pins s σ H D I hw =>
 XQ (h pins s σ H D (I.gB _) hw) (fun _ _ q=>q.dq) fun _ _ z=>False.elim z
end
section
variable {X:Cx} {st:Stmt} {rest:List Stmt} {t u:TS} {e:Expr} {te:TE} {pos:Pos}
noncomputable def r_:TS:=fun D σ H=>D.nx σ H
noncomputable def d8 (t u:TS):TS:=fun D σ H=>t { D with nx:=u D } σ H
theorem K1:iz X [] r_:=fun _ _ σ H _ I h=>wpAny_execs_nil ⟨σ,H,I,h⟩
theorem K4 (h1:PS X st t) (h2:iz X rest u):iz X (st :: rest) (d8 t u):=by
 intro pins s σ H D I h
 refine wpAny_execs_cons (bq (h1 pins s σ H { D with nx:=u D } I h) fun f s1 q => ?_)
 cases f with
 | next =>
  obtain⟨σ',H',I',q⟩:=q
  exact h2 pins s1 σ' H' D I' q
 | ret v=>exact q
 | brk=>exact q
 | cont=>exact q
theorem K5 (h1:PS X st t):iz X [st] t:=by
 intro pins s σ H D I h
 refine wpAny_execs_cons (bq (h1 pins s σ H D I h) fun f s1 q => ?_)
 cases f with
 | next=>exact wpAny_execs_nil q
 | ret v=>exact q
 | brk=>exact q
 | cont=>exact q
theorem Inv.quiet {pins:List (Addr × Obj)} {σ : St} {H:Hp} {s:Shared} (I:Inv X pins σ H s):interactive X.env=false:=by simp[interactive,I.ok.kind]
noncomputable def wt (te:TE):TS:=fun D σ H=>te σ H fun _ H1=>D.nx σ H1
theorem K6 (he:PE X e te) (hs:swapsWith e none pos.line X.env=pure false:=by rfl):PS X (.Expr e pos) (wt te):=by
 intro pins s σ H D I h
 exact wpAny_Expr_any (bq (he pins s σ H _ I h) fun v s1 h0_ => el5 h0_ fun x H1 I1 r1 q1 =>⟨σ,H1,I1,q1⟩) I.quiet hs
noncomputable def mZ (te:TE):TS:=fun D σ H=>te σ H D.rt
theorem K7 (he:PE X e te):PS X (.Return (some e) pos) (mZ te):=by
 intro pins s σ H D I h
 exact wpAny_Return_some (bq (he pins s σ H _ I h) fun v s1 h0_ => el5 h0_ fun x H1 I1 r1 q1 =>⟨x,σ,H1,I1,r1,q1⟩)
noncomputable def jL (c:TT) (t u:TS):TS:=fun D σ H=>c σ H fun b H1=>if b=true then t D σ H1 else u D σ H1
theorem K8 {c:Expr} {a b:List Stmt} {tc:TT} (hc:PT X c tc) (ha:iz X a t) (hb:iz X b u):PS X (.If c a b pos) (jL tc t u):=by
 intro pins s σ H D I h
 refine wpAny_If (bq (hc pins s σ H _ I h) fun d s1 h0_ => el3 h0_ fun H1 I1 q1 => ?_)
 cases d with
 | true=>exact ha pins s1 σ H1 D I1 q1
 | false=>exact hb pins s1 σ H1 D I1 q1
end
noncomputable abbrev TG:=V->St->Hp->(St->Hp->Prop)->Prop
noncomputable abbrev ju:=List V->St->Hp->(St->Hp->Prop)->Prop
noncomputable def PG (X:Cx) (target:Expr) (t:TG):Prop :=
 ∀ (pins:List (Addr × Obj)) (s:Shared) (σ : St) (H:Hp) (v:V) (u:Value) (Q:St->Hp->Prop),Inv X pins σ H s->RelV v u->t v σ H Q →
  wpAny (model X.prog X.w) X.A (assign target X.env u) (fun _ s'=>∃ σ' H',Inv X pins σ' H' s'/\Q σ' H') X.xe s
noncomputable def tQ (X:Cx) (ts:List Expr) (t:ju):Prop :=
 ∀ (pins:List (Addr × Obj)) (s:Shared) (σ : St) (H:Hp) (vs:List V) (us:List Value) (Q:St->Hp->Prop),Inv X pins σ H s->Vals vs us->t vs σ H Q →
  wpAny (model X.prog X.w) X.A (assignInOrder ((assignEach ts X.env).map (·.2)) us) (fun _ s'=>∃ σ' H',Inv X pins σ' H' s'/\Q σ' H') X.xe s
noncomputable abbrev m8:=V->V->V->Hp->(Hp->Prop)->Prop
noncomputable def qe (X:Cx) (t:m8):Prop :=
 ∀ (pins:List (Addr × Obj)) (s:Shared) (σ : St) (H:Hp) (o i v:V) (ov iv u:Value) (Q:Hp->Prop),Inv X pins σ H s->RelV o ov->RelV i iv->RelV v u->t o i v H Q →
  wpAny (model X.prog X.w) X.A (setItem ov iv u) (fun _ s'=>∃ H',Inv X pins σ H' s'/\Q H') X.xe s
section
variable {X:Cx} {pos:Pos}
noncomputable def m9 (i:Nat):TG:=fun v σ H Q=>Q (σ.set i (some v)) H
theorem K9 {i:Nat} {x:Str} (hN:X.N.Nodup) (hi:X.N[i]? = some x) (hx:Loc X.env.scope x) (hf:X.fn x=true\/X.env.scope.names.lookup x=some .local:=by first | exact .inl rfl | exact .inr rfl | assumption):PG X (.Name x pos) (m9 i):=by
 intro pins s σ H v u Q I r h
 exact wpAny_assign_Name (Ej I hN hi hx r (fun s' I'=>⟨_,H,I',h⟩) hf)
noncomputable def tR:ju:=fun vs σ H Q=>vs=[]/\Q σ H
noncomputable def Er (t:TG) (u:ju):ju:=fun vs σ H Q=>∃ v r,vs=v :: r/\t v σ H fun σ' H'=>u r σ' H' Q
theorem K_:tQ X [] tR:=by
 intro pins s σ H vs us Q I r h
 obtain⟨e,h⟩:=h
 subst e
 cases r
 exact assignInOrder_nil ⟨σ,H,I,h⟩
theorem La {e:Expr} {es:List Expr} {t:TG} {u:ju} (h1:PG X e t) (h2:tQ X es u)
  (hs:(assignEach (e :: es) X.env).map (·.2)=assign e X.env :: (assignEach es X.env).map (·.2):=by rfl):tQ X (e :: es) (Er t u):=by
 intro pins s σ H vs us Q I r h
 obtain⟨v,vr,e1,h⟩:=h
 subst e1
 cases r with
 | cons r rr =>
  rw[hs]
  refine assignInOrder_cons (bq (h1 pins s σ H _ _ _ I r h) fun _ s1 ⟨σ1,H1,I1,q1⟩ => ?_)
  exact h2 pins s1 σ1 H1 _ _ Q I1 rr q1
noncomputable def tT (K:PySem.W.Frag) (n:Nat) (t:ju):TG:=fun v σ H Q=>∃ a xs,v = .ref a/\bQ K H a xs/\xs.length=n/\t xs σ H Q
theorem Lb {es:List Expr} {k:Nat} {t:ju} {n:Nat} (hc:X.calm=true) (h:tQ X es t)
  (hn:(assignEach es X.env).length=n:=by rfl) (kU:(assignEach es X.env).findIdx? (·.1)=none:=by rfl):PG X (.Tuple es k pos) (tT X.K n t):=by
 intro pins s σ H v u Q I r hw
 obtain⟨a,xs,e1,hq,hl,hw⟩:=hw
 subst e1
 cases r
 obtain⟨ag,rv,ht,hz⟩:=I.tuple hq
 refine assign_Tuple_tuple (I.ok.hd hc) ht (by simp[hn,<-hl,rv.length]) kU fun h' hx => ?_
 have I1:Inv X pins σ H { s with heap:=h' }:=I.kept (t':=s.toks) fun b o e=>hx b o (Vx (My e)) e
 exact h pins _ σ H xs _ Q I1 (by simpa using rv) hw
noncomputable def qf (to ti:TE) (t:m8):TG:=fun v σ H Q=>to σ H fun o H1=>ti σ H1 fun i H2=>t o i v H2 fun H3=>Q σ H3
theorem Lc {o i:Expr} {to ti:TE} {t:m8} (ho:PE X o to) (hi:PE X i ti) (hs:qe X t)
  (ha:∀ v,assign (.Subscript o i pos) X.env v=(do
   let ov <- holding [v] (eval o X.env)
   let iv <- holding [v,ov] (eval i X.env)
   standAt pos
   holding [v,ov,iv] (setItem ov iv v)
   release [v,ov,iv] []):=by intro _;rfl):PG X (.Subscript o i pos) (qf to ti t):=by
 intro pins s σ H v u Q I r h
 rw[ha]
 refine nG (Wo (bq (ho pins s σ H _ I h) fun ov s1 h0_ => el5 h0_ fun x H1 I1 r1 q1 => ?_))
 refine nG (Wo (bq (hi pins s1 σ H1 _ I1 q1) fun iv s2 h0_ => el5 h0_ fun y H2 I2 r2 q2 => ?_))
 refine nG (Zo (nG (Wo (bq (hs pins s2 σ H2 x y v ov iv u _ I2 r1 r2 r q2) fun _ s3 h0_ => el3 h0_ fun H3 I3 q3 => ?_))))
 exact wpAny_release ⟨σ,H3,I3,q3⟩
noncomputable def gC (te:TE) (g:TG):TS:=fun D σ H=>te σ H fun x H1=>g x σ H1 D.nx
theorem Ld {tg e:Expr} {te:TE} {g:TG} (he:PE X e te) (hg:PG X tg g) (hs:swapsWithSole [tg] e pos.line X.env=pure false:=by rfl) (hw:swappedStores [tg] e X.env=pure none:=by rfl)
  (h1:(assignEach [tg] X.env).map (·.2)=[assign tg X.env]:=by rfl):PS X (.Assign [tg] e pos) (gC te g):=by
 intro pins s σ H D I h
 refine wpAny_Assign_stores (bq (he pins s σ H _ I h) fun v s1 h0_ => el5 h0_ fun x H1 I1 r1 q1 => ?_) hs hw
 rw[h1]
 exact bq (hg pins s1 σ H1 x v _ I1 r1 q1) fun _ s2 q=>q
theorem Le {i:Nat} {x:Str} {e:Expr} {te:TE} {pos':Pos} (hN:X.N.Nodup) (hi:X.N[i]? = some x) (hx:Loc X.env.scope x) (he:PE X e te) (hs:swapsWith e (some (.Name x pos')) pos.line X.env=pure false:=by rfl) (hf:X.fn x=true\/X.env.scope.names.lookup x=some .local:=by first | exact .inl rfl | exact .inr rfl | assumption) :
  PS X (.Assign [.Name x pos'] e pos) (gC te (m9 i)):=by
 intro pins s σ H D I h
 refine wpAny_Assign_Name (bq (he pins s σ H _ I h) fun v s1 h0_ => el5 h0_ fun y H1 I1 r1 q1 => ?_) hs
 exact Ej I1 hN hi hx r1 (fun s2 I2=>⟨_,H1,I2,q1⟩) hf
end
structure It where
 go:Nat->Hp->Prop
 sd:Nat->Hp->V->Hp->Prop
 stop:Nat->Hp->Prop
noncomputable def bC (X:Cx) (pins:List (Addr × Obj)) (H:Hp) (b:Addr):Prop :=
 H b=none/\b≠X.env.locals/\b∉X.fs/\(b∈X.ex\/X.s₀.heap.objs.size <= b)/\(∀ x c,X.env.cells.lookup x=some c->c≠b)/\∀ p∈X.pn ++ pins,p.1≠b
theorem Inv.g8 {X:Cx} {pins:List (Addr × Obj)} {σ : St} {H H':Hp} {s:Shared} {b:Addr} (I:Inv X pins σ H s) (hb:s.heap.objs.size <= b) (hn:H' b=none):bC X pins H' b:=by
 refine⟨hn,Xq (V8 I.lt hb),I.zw hb,.inr (WY I.sz hb),fun x c e z => ?_,fun p hp z => ?_⟩
 ·obtain⟨v,q⟩:=I.cell x c e
  exact absurd (V8 q.lt (by rw[z];exact hb)) (XB _)
 ·exact absurd (V8 (My (I.pin p hp).1) (by rw[z];exact hb)) (XB _)
structure Turn (P:Program) (w:World) (K:PySem.W.Frag) (tg:Expr) (J:It) (fp:List Addr) (it:Addr) (tn:Nat->Heap->Prop):Prop where
 mem:it∈fp
 obj:∀ i h,tn i h->∀ b∈fp,∃ o,h.get? b=some o/\∀ v,o.data ≠ .cell v
 keep:∀ i h h',tn i h->(∀ b∈fp,∀ o,h.get? b=some o->h'.get? b=some o)->tn i h'
 item:∀ (X:Cx),X.prog=P->X.w=w->X.K=K->X.calm=true->∀ (i:Nat) (pins:List (Addr × Obj)) (s:Shared) (σ : St) (H:Hp) (E:Value->Shared->Prop),Inv X pins σ H s->(∀ b∈fp,bC X pins H b)->tn i s.heap->J.go i H →
  wpAny (model P w) X.A (pyNext (.ref it)) (fun r s1=>∃ u,r=some u ∧
   wpAny (model P w) X.A (letOwnedTupleGo tg (.ref it) u) (fun _ s2=>∃ x H',Inv X pins σ H' s2/\RelV x u/\J.sd i H x H'/\tn (i + 1) s2.heap/\∀ b∈fp,H' b=none) E s1) E s
 done:∀ (X:Cx),X.prog=P->X.w=w->X.K=K->X.calm=true->∀ (i:Nat) (pins:List (Addr × Obj)) (s:Shared) (σ : St) (H:Hp) (E:Value->Shared->Prop),Inv X pins σ H s->(∀ b∈fp,bC X pins H b)->tn i s.heap->J.stop i H →
  wpAny (model P w) X.A (pyNext (.ref it)) (fun r s1=>r=none/\Inv X pins σ H s1) E s
 self:∀ (A:Around) (i:Nat) (s:Shared) (Q:Value->Shared->Prop) (E:Value->Shared->Prop),tn i s.heap->Q (.ref it) s->wpAny (model P w) A (pyIter (.ref it)) Q E s
noncomputable abbrev TI:=St->Hp->(It->Hp->Prop)->Prop
noncomputable def Es (X:Cx) (pins:List (Addr × Obj)) (σ : St) (tg:Expr) (R:It->Hp->Prop) (zC:Value) (s2:Shared):Prop :=
 ∃ (it:Addr) (fp:List Addr) (tn:Nat->Heap->Prop) (J:It) (H':Hp),zC = .ref it/\Inv X pins σ H' s2/\Turn X.prog X.w X.K tg J fp it tn/\tn 0 s2.heap/\(∀ b∈fp,bC X pins H' b)/\R J H'
noncomputable def PI (X:Cx) (tg iter:Expr) (wi:TI):Prop :=
 ∀ (pins:List (Addr × Obj)) (s:Shared) (σ : St) (H:Hp) (R:It->Hp->Prop),Inv X pins σ H s->wi σ H R →
  wpAny (model X.prog X.w) X.A (eval iter X.env) (fun v s1=>wpAny (model X.prog X.w) X.A (pyIter v) (Es X pins σ tg R) X.xe s1) X.xe s
theorem zD {M:Model} {A:Around} {E:Value->Shared->Prop} {s:Shared} {tg:Expr} {it:Addr} {u:Value} {o:Obj} {n:String} {vs:Array Value} {Q:Unit->Shared->Prop} (ho:s.heap.get? it=some o) (hc:o.cls = .type n) (hd:o.data = .fields vs)
  (hn:["enumerate", "zip", "dict_itemiterator", "dict_reverseitemiterator", "odict_iterator", "itertools.zip_longest", "itertools.pairwise"].contains n=false) (hQ:Q () s):wpAny M A (letOwnedTupleGo tg (.ref it) u) Q E s:=by
 unfold letOwnedTupleGo
 cases tg<;>first
  | exact uk hQ
  | (cases u<;>first
    | exact uk hQ
    | (refine nG (wpAny_load ho ?_)
       rw[hc,hd]
       show wpAny M A (if (["enumerate", "zip", "dict_itemiterator", "dict_reverseitemiterator", "odict_iterator", "itertools.zip_longest", "itertools.pairwise"].contains n && vs[0]? == some (rawInt _))=true then _ else _) Q E s
       rw[MA (by intro h;rw[hn,q0I] at h;cases h)]
       exact uk hQ))
noncomputable def Et (K:PySem.W.Frag) (a:Addr):It :=
 ⟨fun i H=>∃ xs x,bx K H a xs/\xs[i]? = some x,fun i H x H'=>H'=H/\∀ xs,bx K H a xs->xs[i]? = some x,fun i H=>∃ xs,bx K H a xs/\xs.length <= i⟩
noncomputable def Eu (K:PySem.W.Frag) (a:Addr):It :=
 ⟨fun i H=>∃ xs x,bQ K H a xs/\xs[i]? = some x,fun i H x H'=>H'=H/\∀ xs,bQ K H a xs->xs[i]? = some x,fun i H=>∃ xs,bQ K H a xs/\xs.length <= i⟩
noncomputable def tU (lo:Int) (n:Nat):It:=⟨fun i _=>i < n,fun i H x H'=>H'=H/\x = .int (lo + i),fun i _=>n <= i⟩
theorem Lf {P:Program} {w:World} {K:PySem.W.Frag} {tg:Expr} (a it:Addr):Turn P w K tg (Et K a) [it] it (fun i h=>h.IsListIter it a i) where
 mem:=by simp
 obj:=fun i h st b hb=>by
  have e:b=it:=by simpa using hb
  subst e
  obtain⟨o,e,c,d⟩:=st
  exact⟨o,e,fun v z=>by rw[d] at z;cases z⟩
 keep:=fun i h h' st k=>st.at fun o e=>k it (by simp) o e
 item:=by
  intro X hP hw hK hc i pins s σ H E I hf st hg
  subst hP hw hK
  obtain⟨xs,x,hq,hx⟩:=hg
  obtain⟨ag,rv,p,hz⟩:=I.list hq
  obtain⟨u,hu,ru⟩:=rv.get hx
  obtain⟨f0,f1,f2,f3,f4,f5⟩:=hf it (by simp)
  refine wpAny_pyNext_list_item st p.isList (x:=u) (by simpa using hu) fun h' eT sb => ?_
  have I1:Inv X pins σ H { s with heap:=h' }:=I.turned (t':=s.toks) (fun b o hb e=>(sb.2 b hb).trans e) f0 f1 f3 f4 f5
  obtain⟨o,e,c,d⟩:=id eT
  exact⟨u,rfl,zD (s:={ s with heap:=h' }) e c d (by decide) ⟨x,H,I1,ru,⟨rfl,fun ys hy=>by rw[I.f6 hy hq];exact hx⟩,eT,fun b hb=>(hf b hb).1⟩⟩
 done:=by
  intro X hP hw hK hc i pins s σ H E I hf st hg
  subst hP hw hK
  obtain⟨xs,hq,hx⟩:=hg
  obtain⟨ag,rv,p,hz⟩:=I.list hq
  obtain⟨f0,f1,f2,f3,f4,f5⟩:=hf it (by simp)
  have hl:=rv.length
  exact wpAny_pyNext_list_end (I.ok.hd hc) st p.isList (by simp;omega) fun h' eb=>⟨rfl,I.turned (t':=s.toks) (fun b o hb e=>eb b o hb e) f0 f1 f3 f4 f5⟩
 self:=fun _ _ _ _ _ st h=>wpAny_pyIter_listiter st h
theorem Lg {P:Program} {w:World} {K:PySem.W.Frag} {tg:Expr} (a it:Addr):Turn P w K tg (Eu K a) [it] it (fun i h=>h.IsTupleIter it a i) where
 mem:=by simp
 obj:=fun i h st b hb=>by
  have e:b=it:=by simpa using hb
  subst e
  obtain⟨o,e,c,d⟩:=st
  exact⟨o,e,fun v z=>by rw[d] at z;cases z⟩
 keep:=fun i h h' st k=>st.at fun o e=>k it (by simp) o e
 item:=by
  intro X hP hw hK hc i pins s σ H E I hf st hg
  subst hP hw hK
  obtain⟨xs,x,hq,hx⟩:=hg
  obtain⟨ag,rv,p,hz⟩:=I.tuple hq
  obtain⟨u,hu,ru⟩:=rv.get hx
  obtain⟨f0,f1,f2,f3,f4,f5⟩:=hf it (by simp)
  refine wpAny_pyNext_tuple_item st (show s.heap.IsTuple a ag.toArray from p) (x:=u) (by simpa using hu) fun h' eT sb => ?_
  have I1:Inv X pins σ H { s with heap:=h' }:=I.turned (t':=s.toks) (fun b o hb e=>(sb.2 b hb).trans e) f0 f1 f3 f4 f5
  obtain⟨o,e,c,d⟩:=id eT
  exact⟨u,rfl,zD (s:={ s with heap:=h' }) e c d (by decide) ⟨x,H,I1,ru,⟨rfl,fun ys hy=>by rw[I.e7 hy hq];exact hx⟩,eT,fun b hb=>(hf b hb).1⟩⟩
 done:=by
  intro X hP hw hK hc i pins s σ H E I hf st hg
  subst hP hw hK
  obtain⟨xs,hq,hx⟩:=hg
  obtain⟨ag,rv,p,hz⟩:=I.tuple hq
  obtain⟨f0,f1,f2,f3,f4,f5⟩:=hf it (by simp)
  have hl:=rv.length
  exact wpAny_pyNext_tuple_end (I.ok.hd hc) st (show s.heap.IsTuple a ag.toArray from p) (by simp;omega) fun h' eb=>⟨rfl,I.turned (t':=s.toks) (fun b o hb e=>eb b o hb e) f0 f1 f3 f4 f5⟩
 self:=fun _ _ _ _ _ st h=>wpAny_pyIter_tupleiter st h
theorem Lh {P:Program} {w:World} {K:PySem.W.Frag} {tg:Expr} (it:Addr) (lo:Int) (n:Nat):Turn P w K tg (tU lo n) [it] it (fun i h=>IsRangeIter h it (lo + (i:Nat) * 1) ((n:Int) - (i:Nat)) 1) where
 mem:=by simp
 obj:=fun i h st b hb=>by
  have e:b=it:=by simpa using hb
  subst e
  exact⟨_,st,fun v z=>by
   have z':Data.fields _=Data.cell v:=z
   cases z'⟩
 keep:=fun i h h' st k=>k it (by simp) _ st
 item:=by
  intro X hP hw hK hc i pins s σ H E I hf st hg
  subst hP hw hK
  obtain⟨f0,f1,f2,f3,f4,f5⟩:=hf it (by simp)
  have W:=Walks.range (prog:=X.prog) (w:=X.w) (I.ok.hd hc) it lo 1 n
  refine W.item i s _ _ hg st fun v h' tk hv eT kk => ?_
  obtain⟨t,rfl⟩:=hv
  have I1:Inv X pins σ H { s with heap:=h',toks:=tk }:=I.turned (fun b o hb e=>kk b o (by simpa using hb) e) f0 f1 f3 f4 f5
  refine⟨_,rfl,zD (s:={ s with heap:=h',toks:=tk }) (n := "range_iterator") eT rfl rfl (by decide) ⟨.int (lo + i),H,I1,⟨t,?_⟩,⟨rfl,rfl⟩,eT,fun b hb=>(hf b hb).1⟩⟩
  rw[Int.mul_one]
 done:=by
  intro X hP hw hK hc i pins s σ H E I hf st hg
  subst hP hw hK
  obtain⟨f0,f1,f2,f3,f4,f5⟩:=hf it (by simp)
  exact wpAny_pyNext_range_end (I.ok.hd hc) st (by have:n <= i:=hg;omega) fun h' eb=>⟨rfl,I.turned (t':=s.toks) (fun b o hb e=>eb b o hb e) f0 f1 f3 f4 f5⟩
 self:=fun _ _ _ _ _ st h=>wpAny_pyIter_rangeiter st h
section
variable {X:Cx} {tg:Expr}
theorem Ew {pins:List (Addr × Obj)} {σ : St} {H:Hp} {s:Shared} {R:It->Hp->Prop} {E:Value->Shared->Prop} {lo hi:Int} {t u v:Tok} {tk:Nat} (I:Inv X pins σ H s) (h1 : -(2 ^ 62) <= lo) (h2:lo < 2 ^ 62) (h3 : -(2 ^ 62) <= hi) (h4:hi < 2 ^ 62)
  (q:R (tU lo (hi - lo).toNat) H):wpAny (model X.prog X.w) X.A (pyIter (.ref s.heap.objs.size)) (Es X pins σ tg R) E { s with heap:=s.heap.push { cls := .type "range",data := .fields #[.int lo t,.int hi u,.int 1 v] },toks:=tk }:=by
 refine wpAny_pyIter_range (IsRange.new ..) (small_one h1 h2 h3 h4) ?_
 have I1:Inv X pins σ H { s with heap:=s.heap.push { cls := .type "range",data := .fields #[.int lo t,.int hi u,.int 1 v] },toks:=tk }:=I.kept fun b o e=>qw _ e
 refine⟨(s.heap.push { cls := .type "range",data := .fields #[.int lo t,.int hi u,.int 1 v] }).objs.size,[(s.heap.push { cls := .type "range",data := .fields #[.int lo t,.int hi u,.int 1 v] }).objs.size],_,_,H,rfl,
  I1.kept (t':=tk) fun b o e=>qw _ e,Lh _ lo (hi - lo).toNat,?_,fun b hb => ?_,q⟩
 ·have e1:lo + ((0:Nat):Int) * 1=lo:=by simp
  have e2:(((hi - lo).toNat:Nat):Int) - ((0:Nat):Int)=Builtin.Range.rangeSize lo hi 1:=by rw[rangeSize_one];split<;>omega
  show IsRangeIter _ _ (lo + ((0:Nat):Int) * 1) ((((hi - lo).toNat:Nat):Int) - ((0:Nat):Int)) 1
  rw[e1,e2]
  exact MC _ rfl
 ·have e:b=(s.heap.push { cls := .type "range",data := .fields #[.int lo t,.int hi u,.int 1 v] }).objs.size:=by simpa using hb
  subst e
  exact I1.g8 (wG _) (I1.aN.fresh (wG _))
noncomputable def Ex (ta:TA):TI:=fun σ H R=>ta σ H fun vs H1=>∃ j:Int,vs=[.int j] /\ -(2 ^ 62) <= j/\j < 2 ^ 62/\R (tU 0 j.toNat) H1
noncomputable def Ey (ta:TA):TI:=fun σ H R=>ta σ H fun vs H1=>∃ i j:Int,vs=[.int i,.int j]/\(-(2 ^ 62) <= i/\i < 2 ^ 62 /\ -(2 ^ 62) <= j/\j < 2 ^ 62)/\R (tU i (j - i).toNat) H1
theorem Li {a:Expr} {ta:TA} {p pos:Pos} (hg:Gl X "range") (hm:X.mg "range" = none) (ha:PA X [a] ta) (hs:starEach [a] X.env=[(false,eval a X.env)]:=by rfl):PI X tg (.Call (.Name "range" p) [a] [] pos) (Ex ta):=by
 intro pins s σ H R I h
 refine Call_ (mX I hg hm boot_range (Xl (bq (ha pos pins s σ H _ I h) fun us s1 h0_ => el5 h0_ fun vs H1 I1 r1 q1 => ?_) hs rfl))
 obtain⟨j,e,q1,q2,q⟩:=q1
 subst e
 cases r1 with
 | cons r rr =>
  cases rr
  obtain⟨t,rfl⟩:=r
  exact call_range_1 (Ew I1 (by omega) (by omega) q1 q2 (by simpa using q))
theorem Lj {a b:Expr} {ta:TA} {p pos:Pos} (hg:Gl X "range") (hm:X.mg "range" = none) (ha:PA X [a,b] ta) (hs:starEach [a,b] X.env=[(false,eval a X.env),(false,eval b X.env)]:=by rfl) (eU:starEach [b] X.env=[(false,eval b X.env)]:=by rfl) :
  PI X tg (.Call (.Name "range" p) [a,b] [] pos) (Ey ta):=by
 intro pins s σ H R I h
 refine Call_ (mX I hg hm boot_range (Xl (bq (ha pos pins s σ H _ I h) fun us s1 h0_ => el5 h0_ fun vs H1 I1 r1 q1 => ?_) (by rw[hs,eU]) (by rw[eU];rfl)))
 obtain⟨i,j,e,⟨q1,q2,q3,q4⟩,q⟩:=q1
 subst e
 cases r1 with
 | cons r rr =>
  cases rr with
  | cons r' rr =>
   cases rr
   obtain⟨t,rfl⟩:=r
   obtain⟨t',rfl⟩:=r'
   exact call_range_2 (Ew I1 q1 q2 q3 q4 q)
noncomputable def tV (wi:TI) (g:TG) (tb:TS):TS:=fun D σ H=>wi σ H fun J H1=>∃ W:Nat->Nat->St->Hp->Prop,(∃ m,W 0 m σ H1)/\∀ i m σ H,W i m σ H →
 (J.stop i H/\D.nx σ H)\/(J.go i H/\∃ N:St->Hp->Prop,(∀ σ' H',N σ' H'->∃ m',m' < m/\W (i + 1) m' σ' H')/\∀ x H',J.sd i H x H'->g x σ H' fun σ2 H2=>tb { D with nx:=N,ct:=N,bk:=D.nx } σ2 H2)
noncomputable def tW (fp:List Addr) (h:Heap):List (Addr × Obj):=fp.filterMap fun b=>(h.get? b).map fun o=>(b,o)
theorem wu {fp:List Addr} {h:Heap} {b:Addr} {o:Obj} (hb:b∈fp) (e:h.get? b=some o):(b,o)∈tW fp h:=X8.mpr ⟨b,hb,by rw[e];rfl⟩
theorem Lk {fp:List Addr} {h:Heap} {p:Addr × Obj} (hp:p∈tW fp h):p.1∈fp/\h.get? p.1=some p.2:=by
 obtain⟨b,hb,e⟩:=X8.mp hp
 cases q:h.get? b with
 | none=>rw[q] at e;cases e
 | some o =>
  rw[q] at e
  have e':(b,o)=p:=Wf e
  subst e'
  exact⟨hb,q⟩
theorem Inv.pinned {pins:List (Addr × Obj)} {σ : St} {H:Hp} {s:Shared} {fp:List Addr} (I:Inv X pins σ H s) (hf:∀ b∈fp,bC X pins H b) (ho:∀ b∈fp,∃ o,s.heap.get? b=some o/\∀ v,o.data ≠ .cell v):Inv X (pins ++ tW fp s.heap) σ H s :=
 I.fR fun p hp=>(W7.mp hp).elim (fun z=>I.pin p (V9 _ z)) fun z=>by
  obtain⟨hb,e⟩:=Lk z
  obtain⟨f0,f1,f2,_⟩:=hf p.1 hb
  obtain⟨o,e',d⟩:=ho p.1 hb
  rw[e] at e';cases e'
  exact⟨e,f0,f1,f2,d⟩
theorem Inv.d9 {pins pl:List (Addr × Obj)} {σ : St} {H:Hp} {s:Shared} (I:Inv X (pins ++ pl) σ H s):Inv X pins σ H s:=I.fR fun p hp=>I.pin p (V9 _ (WZ _ hp))
theorem Ll {iter:Expr} {body:List Stmt} {wi:TI} {g:TG} {tb:TS} {pos:Pos} (hp:PassesOwn (model X.prog X.w) X.A X.env X.xe) (hc:X.calm=true) (hi:PI X tg iter wi) (hg:PG X tg g) (hb:iz X body tb)
  (hs:∀ x,foldedSetIterable iter X.env x=pure x:=by intro _;rfl):PS X (.For tg iter body [] pos) (tV wi g tb):=by
 intro pins s σ H D I h
 refine wpAny_For (bq (hi pins s σ H _ I h) fun v s1 h1=>bq h1 fun zC s2 h2 => ?_) hs
 obtain⟨it,fp,tn,J,H2,e,I2,T,g6,f2,W,⟨m0,w0⟩,turn⟩:=h2
 subst e
 have iR:∀ {H':Hp},(∀ b∈fp,H' b=none)->∀ b∈fp,bC X pins H' b:=fun hn b hb=>⟨hn b hb,(f2 b hb).2⟩
 refine codeAny_forLoop_any (fun n s'=>∃ i σ' H',Inv X pins σ' H' s'/\tn i s'.heap/\(∀ b∈fp,H' b=none)/\W i n σ' H') ?_ m0 ⟨0,σ,H2,I2,g6,fun b hb=>(f2 b hb).1,w0⟩
 rintro n s3 ⟨i,σ3,H3,I3,ka,tX,w3⟩
 rcases turn i n σ3 H3 w3 with⟨stop,qn⟩ | ⟨go,N,hN,step⟩
 ·refine YQ hp (bq (T.done X rfl rfl rfl hc i pins s3 σ3 H3 X.xe I3 (iR tX) ka stop) fun r s4 ⟨hr,I4⟩ => ?_)
  subst hr
  exact wpAny_execs_nil ⟨σ3,H3,I4,qn⟩
 ·refine YQ hp (bq (T.item X rfl rfl rfl hc i pins s3 σ3 H3 X.xe I3 (iR tX) ka go) fun r s4 ⟨u,hr,h4⟩ => ?_)
  subst hr
  refine YQ hp (bq h4 fun _ s5 ⟨x,H5,I5,r5,y5,qg,zE⟩ => ?_)
  have zF:=I5.pinned (iR zE) (T.obj _ _ qg)
  refine YQ hp (bq (hg _ s5 σ3 H5 x u _ zF r5 (step x H5 y5)) fun _ s6 ⟨σ6,H6,I6,q6⟩ => ?_)
  refine YQ hp (bq (hb _ s6 σ6 H6 _ I6 q6) fun f s7 q7 => ?_)
  have again:∀ {σ7:St} {H7:Hp},Inv X (pins ++ tW fp s5.heap) σ7 H7 s7->N σ7 H7->∃ m,m < n/\∃ i σ' H',Inv X pins σ' H' s7/\tn i s7.heap/\(∀ b∈fp,H' b=none)/\W i m σ' H':=fun {σ7 H7} I7 n7=>by
   obtain⟨m',hm,w7⟩:=hN σ7 H7 n7
   refine⟨m',hm,i + 1,σ7,H7,I7.d9,T.keep _ _ _ qg fun b hb o e=>(I7.pin (b,o) (V9 _ (V9 _ (wu hb e)))).1,fun b hb => ?_,w7⟩
   obtain⟨o,e,d⟩:=T.obj _ _ qg b hb
   exact (I7.pin (b,o) (V9 _ (V9 _ (wu hb e)))).2.1
  cases f with
  | next=>obtain⟨σ7,H7,I7,n7⟩:=q7;exact again I7 n7
  | cont=>obtain⟨σ7,H7,I7,n7⟩:=q7;exact again I7 n7
  | brk=>obtain⟨σ7,H7,I7,q7⟩:=q7;exact⟨σ7,H7,I7.d9,q7⟩
  | ret v=>obtain⟨x7,σ7,H7,I7,r7,q7⟩:=q7;exact⟨x7,σ7,H7,I7.d9,r7,q7⟩
end
noncomputable abbrev R2:=V->V->Hp->VK->Prop
noncomputable def dE (X:Cx) (f:Value->Value->Sem Value) (r:R2):Prop :=
 ∀ (pins:List (Addr × Obj)) (s:Shared) (σ : St) (H:Hp) (x y:V) (v u:Value) (Q:VK),Inv X pins σ H s->RelV x v->RelV y u->r x y H Q →
  wpAny (model X.prog X.w) X.A (f v u) (EP X pins σ Q) X.xe s
noncomputable def wx (X:Cx) (f:Value->Sem Value) (r:V->Hp->VK->Prop):Prop :=
 ∀ (pins:List (Addr × Obj)) (s:Shared) (σ : St) (H:Hp) (x:V) (v:Value) (Q:VK),Inv X pins σ H s->RelV x v->r x H Q →
  wpAny (model X.prog X.w) X.A (f v) (EP X pins σ Q) X.xe s
noncomputable def g9 (X:Cx) (f:Value) (r:List V->Hp->VK->Prop):Prop :=
 ∀ (pins:List (Addr × Obj)) (s:Shared) (σ : St) (H:Hp) (xs:List V) (us:List Value) (Q:VK),Inv X pins σ H s->Vals xs us->r xs H Q →
  wpAny (model X.prog X.w) X.A (call f us) (EP X pins σ Q) X.xe s
noncomputable def kW (r:R2) (ta tb:TE):TE:=fun σ H Q=>ta σ H fun x H1=>tb σ H1 fun y H2=>r x y H2 Q
noncomputable def Ez (r:V->Hp->VK->Prop) (ta:TE):TE:=fun σ H Q=>ta σ H fun x H1=>r x H1 Q
noncomputable def rI (C:Int->Int->Prop) (g:Int->Int->V):R2:=fun x y H Q=>∃ i j,x = .int i/\y = .int j/\C i j/\Q (g i j) H
noncomputable def m_ (g:Int->Int->V):R2:=fun x y H Q=>∃ i j,x = .int i/\y = .int j/\Q (g i j) H
noncomputable def rU (g:Int->V):V->Hp->VK->Prop:=fun x H Q=>∃ i,x = .int i/\Q (g i) H
section
variable {X:Cx} {a b c:Expr} {ta tb tc:TE} {pos:Pos}
theorem qh (ha:PE X a ta) (hb:PE X b tb) {pins:List (Addr × Obj)} {s:Shared} {σ : St} {H:Hp} {R:V->V->Hp->Prop} (I:Inv X pins σ H s)
  (h:ta σ H fun x H1=>tb σ H1 fun y H2=>R x y H2) {Q:Value->Shared->Prop} {f:Value->Value->Sem Value}
  (hf:∀ v u s2 x y H2,Inv X pins σ H2 s2->RelV x v->RelV y u->R x y H2->wpAny (model X.prog X.w) X.A (f v u) Q X.xe s2) :
  wpAny (model X.prog X.w) X.A (eval a X.env) (fun v s₁ => wpAny (model X.prog X.w) X.A (eval b X.env) (fun u s₂ => wpAny (model X.prog X.w) X.A (f v u) Q X.xe s₂) X.xe s₁) X.xe s:=by
 refine bq (ha pins s σ H _ I h) fun v s1 h0_ => el5 h0_ fun x H1 I1 r1 q1 => ?_
 refine bq (hb pins s1 σ H1 _ I1 q1) fun u s2 h0_ => el5 h0_ fun y H2 I2 r2 q2 => ?_
 exact hf v u s2 x y H2 I2 r1 r2 q2
theorem Lm {op:Operator} {r:R2} (ho:dE X (binaryOp op) r) (ha:PE X a ta) (hb:PE X b tb):PE X (.BinOp a op b pos) (kW r ta tb):=by
 intro pins s σ H Q I h
 exact wpAny_BinOp (qh ha hb I h fun v u s2 x y H2 I2 rx ry q=>ho pins s2 σ H2 x y v u Q I2 rx ry q)
theorem EA {op:UnaryOp} {r:V->Hp->VK->Prop} (ho:wx X (unaryOp op) r) (ha:PE X a ta):PE X (.UnaryOp op a pos) (Ez r ta):=by
 intro pins s σ H Q I h
 exact UnaryOp_ (bq (ha pins s σ H _ I h) fun v s1 h0_ => el5 h0_ fun x H1 I1 r1 q1 =>ho pins s1 σ H1 x v Q I1 r1 q1)
theorem wy {f:Value->Value->Sem Value} {C:Int->Int->Prop} {g:Int->Int->Int}
  (rule:∀ (i j:Int) (t u:Tok) (s:Shared) (Q:Value->Shared->Prop) (E:Value->Shared->Prop),C i j->Q (.int (g i j) s.toks) { s with toks:=s.toks + 1 }->wpAny (model X.prog X.w) X.A (f (.int i t) (.int j u)) Q E s) :
  dE X f (rI C fun i j => .int (g i j)):=by
 intro pins s σ H x y v u Q I rx ry h
 obtain⟨i,j,rfl,rfl,hc,q⟩:=h
 obtain⟨t,rfl⟩:=rx
 obtain⟨t',rfl⟩:=ry
 exact rule i j t t' s _ _ hc ⟨.int (g i j),H,I.tok _,⟨_,rfl⟩,q⟩
theorem tY {f:Value->Value->Sem Value} {g:Int->Int->Int}
  (rule:∀ (i j:Int) (t u:Tok) (s:Shared) (Q:Value->Shared->Prop) (E:Value->Shared->Prop),Q (.int (g i j) s.toks) { s with toks:=s.toks + 1 }->wpAny (model X.prog X.w) X.A (f (.int i t) (.int j u)) Q E s) :
  dE X f (m_ fun i j => .int (g i j)):=by
 intro pins s σ H x y v u Q I rx ry h
 obtain⟨i,j,rfl,rfl,q⟩:=h
 obtain⟨t,rfl⟩:=rx
 obtain⟨t',rfl⟩:=ry
 exact rule i j t t' s _ _ ⟨.int (g i j),H,I.tok _,⟨_,rfl⟩,q⟩
theorem nh {f:Value->Value->Sem Value} {g:Int->Int->Bool}
  (rule:∀ (i j:Int) (t u:Tok) (s:Shared) (Q:Value->Shared->Prop) (E:Value->Shared->Prop),Q (.bool (g i j)) s->wpAny (model X.prog X.w) X.A (f (.int i t) (.int j u)) Q E s) :
  dE X f (m_ fun i j => .bl (g i j)):=by
 intro pins s σ H x y v u Q I rx ry h
 obtain⟨i,j,rfl,rfl,q⟩:=h
 obtain⟨t,rfl⟩:=rx
 obtain⟨t',rfl⟩:=ry
 exact rule i j t t' s _ _ ⟨.bl (g i j),H,I,rfl,q⟩
noncomputable def tZ (i j:Int):Prop:=j≠0/\j.natAbs < 1073741824
noncomputable def g_ (i j:Int):Prop:=0 <= j/\j <= 1000000/\i.natAbs < 2 ^ 64
noncomputable def ni (i j:Int):Prop:=(-(2 ^ 64) < i/\i < 2 ^ 64)\/(-(2 ^ 64) < j/\j < 2 ^ 64)
theorem ni.ok {i j:Int} (h:ni i j):IntMulOk i j:=by
 rcases h with⟨h1,h2⟩ | ⟨h1,h2⟩
 ·exact .of_left (intBits_le_64 h1 h2)
 ·exact .of_right (intBits_le_64 h1 h2)
theorem EB:dE X (binaryOp .Add) (m_ fun i j => .int (i + j)):=tY fun _ _ _ _ _ _ _ q=>add_int q
theorem Ln:dE X (binaryOp .Sub) (m_ fun i j => .int (i - j)):=tY fun _ _ _ _ _ _ _ q=>sub_int q
theorem Lo:dE X (binaryOp .Mult) (rI ni fun i j => .int (i * j)):=wy fun _ _ _ _ _ _ _ hc q=>mul_int q hc.ok
theorem Lp:dE X (binaryOp .FloorDiv) (rI tZ fun i j => .int (i.fdiv j)):=wy fun _ _ _ _ _ _ _ hc q=>floordiv_int hc.1 q (.inl (PyProof.noPylong_small hc.2))
theorem zG:dE X (binaryOp .Mod) (rI (fun _ j=>0 < j) fun i j => .int (i % j)):=wy fun i j _ _ _ _ _ hc q=>by
 have h1:(0:Int) < j:=hc
 exact mod_int' (by omega) (by rw[Int.fmod_eq_emod_of_nonneg i (by omega)];exact q)
theorem Lq:dE X (binaryOp .Pow) (rI g_ fun i j => .int (i ^ j.toNat)):=wy fun _ _ _ _ _ _ _ hc q=>pow_int_small hc.1 hc.2.1 hc.2.2 q
theorem Lr {f:Value->Sem Value} {g:Int->Int}
  (rule:∀ (i:Int) (t:Tok) (s:Shared) (Q:Value->Shared->Prop) (E:Value->Shared->Prop),Q (.int (g i) s.toks) { s with toks:=s.toks + 1 }->wpAny (model X.prog X.w) X.A (f (.int i t)) Q E s) :
  wx X f (rU fun i => .int (g i)):=by
 intro pins s σ H x v Q I rx h
 obtain⟨i,rfl,q⟩:=h
 obtain⟨t,rfl⟩:=rx
 exact rule i t s _ _ ⟨.int (g i),H,I.tok _,⟨_,rfl⟩,q⟩
theorem EC:wx X (unaryOp .USub) (rU fun i => .int (-i)):=Lr fun _ _ _ _ _ q=>neg_int q
theorem Ls {pins:List (Addr × Obj)} {σ : St} {H:Hp} {s:Shared} {Q:VK} {k k':Bool} (I:Inv X pins σ H s) (q:Q (.bl k) H) (e:k=k'):EP X pins σ Q (.bool k') s:=by
 subst e
 exact⟨.bl k,H,I,rfl,q⟩
theorem Lu:dE X (compareOp .Lt) (m_ fun i j => .bl (decide (i < j))):=nh fun _ _ _ _ _ _ _ q=>lt_int q
theorem Lw:dE X (compareOp .LtE) (m_ fun i j => .bl (decide (i <= j))):=nh fun _ _ _ _ _ _ _ q=>le_int q
theorem Lx:dE X (compareOp .Gt) (m_ fun i j => .bl (decide (j < i))):=nh fun _ _ _ _ _ _ _ q=>gt_int q
theorem Ly:dE X (compareOp .GtE) (m_ fun i j => .bl (decide (j <= i))):=nh fun _ _ _ _ _ _ _ q=>ge_int q
theorem Lz:dE X (compareOp .Is) (fun x y H Q=>y = .non/\Q (.bl (decide (x = .non))) H):=by
 intro pins s σ H x y v u Q I rx ry h
 obtain⟨rfl,q⟩:=h
 cases ry
 refine is_none_gen (Ls I q ?_)
 cases x<;>first
  | (cases rx;rfl)
  | (obtain⟨t,rfl⟩:=rx;rfl)
theorem zH (b:Expr) {op:CmpOp} (h:op ≠ .In:=by decide) (h2:op ≠ .NotIn:=by decide):behindInMarks op b=false:=by
 have e1:(op == CmpOp.In)=false:=by cases op<;>first | rfl | exact absurd rfl h
 have e2:(op == CmpOp.NotIn)=false:=by cases op<;>first | rfl | exact absurd rfl h2
 cases b<;>simp[behindInMarks,e1,e2]
theorem LA {op:CmpOp} {r:R2} (ho:dE X (compareOp op) r) (ha:PE X a ta) (hb:PE X b tb) (hm:behindInMarks op b=false):PE X (.Compare a [op] [b] pos) (kW r ta tb):=by
 intro pins s σ H Q I h
 exact wpAny_Compare1 (qh ha hb I h fun v u s2 x y H2 I2 rx ry q=>ho pins s2 σ H2 x y v u Q I2 rx ry q) hm
noncomputable def ED (t:TE):TT:=fun σ H Q=>t σ H fun x H'=>∃ k,x = .bl k/\Q k H'
theorem LB {op:CmpOp} {r:R2} (ho:dE X (compareOp op) r) (ha:PE X a ta) (hb:PE X b tb) (hm:behindInMarks op b=false):PT X (.Compare a [op] [b] pos) (ED (kW r ta tb)):=by
 intro pins s σ H Q I h
 refine wpAny_isTrue_Compare1 (bq (ha pins s σ H _ I h) fun v s1 h0_ => el5 h0_ fun x H1 I1 r1 q1 =>bq (hb pins s1 σ H1 _ I1 q1) fun u s2 h0_ => el5 h0_ fun y H2 I2 r2 q2 =>
  bq (ho pins s2 σ H2 x y v u _ I2 r1 r2 q2) fun c s3 ⟨z,H3,I3,r3,k,e,q3⟩ => ?_) hm
 subst e
 cases r3
 exact XW ⟨H3,I3,q3⟩
noncomputable def EE (r r':R2) (ta tb tc:TE):TE:=fun σ H Q=>ta σ H fun x H1=>tb σ H1 fun y H2=>r x y H2 fun z H3=>∃ k,z = .bl k ∧
 (if k=true then tc σ H3 fun w' H4=>r' y w' H4 Q else Q (.bl false) H3)
theorem LC {op kX:CmpOp} {r r':R2} (ho:dE X (compareOp op) r) (jK:dE X (compareOp kX) r') (ha:PE X a ta) (hb:PE X b tb) (hc:PE X c tc)
  (hm:lastMarks [op,kX] [b,c]=false:=by with_unfolding_all rfl):PE X (.Compare a [op,kX] [b,c] pos) (EE r r' ta tb tc):=by
 intro pins s σ H Q I h
 refine Compare_chain (bq (ha pins s σ H _ I h) fun v s1 h0_ => el5 h0_ fun x H1 I1 r1 q1 =>chain_link (bq (hb pins s1 σ H1 _ I1 q1) fun u s2 h0_ => el5 h0_ fun y H2 I2 r2 q2 =>
  bq (ho pins s2 σ H2 x y v u _ I2 r1 r2 q2) fun d s3 ⟨z,H3,I3,r3,k,e,q3⟩ => ?_)) hm
 subst e
 cases r3
 refine XW ?_
 cases k with
 | false=>exact ite_ff ⟨.bl false,H3,I3,rfl,q3⟩
 | true=>exact ite_tt (chain_last (bq (hc pins s3 σ H3 _ I3 q3) fun w' s4 ⟨z',H4,I4,r4,q4⟩=>jK pins s4 σ H4 y z' u w' Q I4 r2 r4 q4))
theorem sg:(sizeLine:Nat) < 2 ^ 63:=by rw[WX];decide
theorem LF:dE X (binaryOp .Add) (fun x y H Q=>∃ i j,x = .str i/\y = .str j/\i.length + j.length <= sizeLine/\Q (.str (i ++ j)) H):=by
 intro pins s σ H x y v u Q I rx ry h
 obtain⟨i,j,rfl,rfl,hz,q⟩:=h
 obtain⟨t,rfl⟩:=rx
 obtain⟨t',rfl⟩:=ry
 exact add_str (fun t' tk=>⟨.str (i ++ j),H,I.tok _,⟨_,rfl⟩,q⟩) hz
theorem vals1 {x:V} {us:List Value} (r:Vals [x] us):∃ u,us=[u]/\RelV x u:=by
 cases r with
 | cons r1 r2=>cases r2;exact⟨_,rfl,r1⟩
theorem vals2 {x y:V} {us:List Value} (r:Vals [x,y] us):∃ u w',us=[u,w']/\RelV x u/\RelV y w':=by
 cases r with
 | cons r1 r2 =>
  cases r2 with
  | cons r3 r4=>cases r4;exact⟨_,_,rfl,r1,r3⟩
theorem LG (hc:X.calm=true):g9 X (.builtin "min") (fun xs H Q=>∃ i j,xs=[.int i,.int j]/\Q (.int (if j < i then j else i)) H):=by
 intro pins s σ H xs us Q I r h
 obtain⟨i,j,rfl,q⟩:=h
 obtain⟨u,w',rfl,⟨t,rfl⟩,⟨t',rfl⟩⟩:=vals2 r
 refine min_two_ints (I.ok.hd hc) fun h' tk k=>⟨_,H,I.kept k,?_,q⟩
 by_cases hj:j < i
 ·rw[MD hj,MD hj];exact⟨_,rfl⟩
 ·rw[MA hj,MA hj];exact⟨_,rfl⟩
end
structure qi (h:Heap) (x dx C:Addr) (mA:Str->Option Value):Prop where
 obj:h.get? x=some (PySem.W.instObj C dx)
 ns:h.Ns1 dx mA
 ne:dx≠x
theorem LH {h:Heap} {dx:Addr} {mA:Str->Option Value} (n:h.Ns1 dx mA):∃ od,h.get? dx=some od/\∀ name,PySem.W.lookIn name od=some (mA name):=by
 obtain⟨o,es,ep,ho,hd,hk,_,hm⟩:=n
 refine⟨o,ho,fun name => ?_⟩
 have e:=hm name
 unfold nsFind findBy at e
 rw[<-Array.find?_toList] at e
 unfold PySem.W.lookIn
 rw[hd]
 dsimp only
 split
 ·rename_i y q
  rw[q] at e
  exact congrArg some e
 ·rename_i q
  rw[q] at e
  have a:es.toList.any (·.refKey)=false:=by
   rw[Yh]
   intro y hy
   obtain⟨z,t,zI⟩:=hk y (Zs.mp hy)
   simp[DictEntry.refKey,zI]
  have a':¬ es.toList.any (·.refKey)=true:=by rw[a];exact Vy
  rw[MA a']
  exact congrArg some e
theorem qi.look {h:Heap} {x dx C:Addr} {mA:Str->Option Value} (I:qi h x dx C mA):∃ od,PySem.W.InstAt h x (PySem.W.instObj C dx) C (some od)/\∀ name,PySem.W.lookIn name od=some (mA name) :=
 let ⟨od,ho,hl⟩:=LH I.ns
 ⟨od,⟨I.obj,rfl,rfl,ho⟩,hl⟩
section
variable {prog:Program} {w:World} {A:Around} {E:Value->Shared->Prop} {s:Shared} {K:PySem.W.Frag} {x dx C f:Addr} {mA:Str->Option Value} {name:Str} {v:Value}
end
section
variable {P:Program} {w:World} {H H':Hp} {h h':Heap} {a C dx:Addr} {fs rZ:List (Str × V)}
theorem LI (aN:d4 P w H h) (e:H a=some (.ins C dx fs)):∃ mA,qi h a dx C mA/\(∀ f,iQ (fs.lookup f) (mA f))/\PySem.Within mA (fs.map (·.1))/\fs.length <= 1000/\H dx=some (.own a):=by
 obtain⟨d,z,ne,ob,mA,n,r,q⟩:=(show aJ P w H h a (.ins C dx fs) from aN a _ e)
 exact⟨mA,⟨ob,n,ne⟩,r,q,z,d⟩
end
structure zJ (K:PySem.W.Frag) (C:Addr):Prop where
 pg:PySem.W.plainGet K C Str.empty=true
 hd:PySem.W.hasDictIn K C=true
 po:PySem.W.plainOver K C=true
 sa:PySem.W.findIn K (.ref C) "__setattr__" = some (some (.builtin "object.__setattr__"))
theorem zJ.get {K:PySem.W.Frag} {C:Addr} (c:zJ K C) (f:Str):PySem.W.plainGet K C f=true:=c.pg
section
variable {X:Cx} {pins:List (Addr × Obj)} {σ : St} {H:Hp} {s:Shared} {a C dx:Addr} {fs:List (Str × V)} {f:Str} {v:V} {A:Around} {E:Value->Shared->Prop}
end
section
variable {X:Cx} {o e value:Expr} {f:Str} {pos pos' zK:Pos} {ta tv:TE}
end
section
variable {X:Cx} {pins:List (Addr × Obj)} {σ : St} {H:Hp} {s:Shared} {A:Around} {E:Value->Shared->Prop} {Q:Value->Shared->Prop} {c:Value} {b:Bool}
inductive d_ (K:PySem.W.Frag) (H:Hp):V->Value->Prop where
 | non:d_ K H .non (.type "NoneType")
 | bl (x:Bool):d_ K H (.bl x) (.type "bool")
 | int (i:Int):d_ K H (.int i) (.type "int")
 | str (x:Str):d_ K H (.str x) (.type "str")
 | flt (x:UInt64):d_ K H (.flt x) (.type "float")
 | lst {a:Addr} {xs:List V} (e:H a=some (.lst xs)):d_ K H (.ref a) (.type "list")
 | frz {a:Addr} {o:Obj} {xs:List V} (e:H a=some (.frz o (.lst xs))):d_ K H (.ref a) (.type "list")
 | tup {a:Addr} {xs:List V} (e:H a=some (.tup xs)):d_ K H (.ref a) (.type "tuple")
 | dK {a:Addr} {kvs:List (Key × V)} (e:H a=some (.dK kvs)):d_ K H (.ref a) (.type "dict")
 | dT {a:Addr} {kvs:List (List Key × V)} (e:H a=some (.dT kvs)):d_ K H (.ref a) (.type "dict")
 | ins {a C dx:Addr} {fs:List (Str × V)} (e:H a=some (.ins C dx fs)) (cl:zJ K C) (ha:PySem.W.findIn K (.ref C) "__class__" = some (some (.builtin "object.__class__")))
   (hn:PySem.W.specialIn K (.builtin "object.__class__") "__get__" = some (some (.builtin "getset_descriptor.__get__"))) (EF:PySem.W.takesIn K (.builtin "object.__class__")=some true)
   (hm:PySem.W.mroIn K C (.type "object")=some true):d_ K H (.ref a) (.ref C)
theorem LL {x:V} {u t:Value} (I:Inv X pins σ H s) (rx:RelV x u) (ty:d_ X.K H x t) (e:PySem.W.kitOne X.K t c=some b) (h:∀ tk,Q (.bool b) { s with toks:=tk }) :
  wpAny (model X.prog X.w) A (call (.builtin "isinstance") [u,c]) Q E s:=by
 cases ty with
 | non=>cases (show u=Value.none from rx);exact Xn PySem.W.kitx_none I.iy True.intro e (fun z=>nomatch z) h
 | bl y=>cases (show u=Value.bool y from rx);exact Xn PySem.W.kitx_bool I.iy True.intro e (fun z=>nomatch z) h
 | int i=>obtain⟨t,q⟩:=(show ∃ t,u=Value.int i t from rx);cases q;exact Xn PySem.W.kitx_int I.iy True.intro e (fun z=>nomatch z) h
 | str y=>obtain⟨t,q⟩:=(show ∃ t,u=Value.str y t from rx);cases q;exact Xn PySem.W.kitx_str I.iy True.intro e (fun z=>nomatch z) h
 | flt y=>obtain⟨t,q⟩:=(show ∃ t,u=Value.float y t from rx);cases q;exact Xn PySem.W.kitx_float I.iy True.intro e (fun z=>nomatch z) h
 | @lst a xs ea =>
  cases (show u=Value.ref a from rx)
  obtain⟨_,_,n,_,h1⟩:=(show aJ X.prog X.w H s.heap a (.lst xs) from I.aN a _ ea)
  exact Xn PySem.W.kitx_list I.iy ⟨_,h1,rfl⟩ e (fun z=>nomatch z) h
 | @frz a ob xs ea =>
  cases (show u=Value.ref a from rx)
  obtain⟨_,_,_,n,_,h1⟩:=(show aJ X.prog X.w H s.heap a (.frz ob (.lst xs)) from I.aN a _ ea)
  exact Xn PySem.W.kitx_list I.iy ⟨_,h1,rfl⟩ e (fun z=>nomatch z) h
 | @tup a xs ea =>
  cases (show u=Value.ref a from rx)
  obtain⟨_,_,_,p⟩:=(show aJ X.prog X.w H s.heap a (.tup xs) from I.aN a _ ea)
  obtain⟨o,h1,h2,_⟩:=p
  exact Xn PySem.W.kitx_tuple I.iy ⟨o,h1,h2⟩ e (fun z=>nomatch z) h
 | @dK a kvs ea =>
  cases (show u=Value.ref a from rx)
  obtain⟨_,_,vs,_,p⟩:=(show aJ X.prog X.w H s.heap a (.dK kvs) from I.aN a _ ea)
  obtain⟨o,es,ep,h1,h2,_⟩:=p
  exact Xn PySem.W.kitx_dict I.iy ⟨o,h1,h2.1⟩ e (fun z=>nomatch z) h
 | @dT a kvs ea =>
  cases (show u=Value.ref a from rx)
  obtain⟨_,_,xs,_,o,es,ep,h1,h2,_⟩:=(show aJ X.prog X.w H s.heap a (.dT kvs) from I.aN a _ ea)
  exact Xn PySem.W.kitx_dict I.iy ⟨o,h1,h2.1⟩ e (fun z=>nomatch z) h
 | @ins a C dx fs ea cl ha hn EF hm =>
  cases (show u=Value.ref a from rx)
  obtain⟨mA,O,_⟩:=LI I.aN ea
  obtain⟨od,J,_⟩:=O.look
  exact Xn (PySem.W.kitx_own (cl.get _) cl.hd ha hn EF hm) I.iy J e (fun z=>nomatch z) h
end
structure bG (k:Nat) (A:Around):Prop where
 hd:A.handled=none
 dp:A.depth + 3 * k + 5 < recursionLimit
 un:A.units + 16 * k + 200 < cLine
theorem bG.mono {j k:Nat} {A:Around} (r:bG k A) (h:j <= k):bG j A:=⟨r.hd,by have:=r.dp;omega,by have:=r.un;omega⟩
theorem bG.deeper {k:Nat} {A:Around} (r:bG (k + 1) A) (env:Env):bG k (A.deeper env) :=
 ⟨r.hd,by have:=r.dp;show A.depth + 1 + 3 * k + 5 < _;omega,by have:=r.un;show A.units + 3 + 16 * k + 200 < _;omega⟩
theorem bG.in1 {k:Nat} {A:Around} (r:bG (k + 1) A):bG k A.in1 :=
 ⟨r.hd,by have:=r.dp;show A.depth + 3 * k + 5 < _;omega,by have:=r.un;show A.units + 1 + 16 * k + 200 < _;omega⟩
theorem bG.depth {k:Nat} {A:Around} (r:bG k A):A.depth < recursionLimit:=by have:=r.dp;omega
theorem bG.units {k:Nat} {A:Around} (r:bG k A):A.units + 64 < cLine:=by have:=r.un;omega
noncomputable def iS:TA:=fun _ H Q=>Q [] H
noncomputable def fS (ta:TE) (tr:TA):TA:=fun σ H Q=>ta σ H fun x H1=>tr σ H1 fun xs H2=>Q (x :: xs) H2
section
variable {X:Cx} {e:Expr} {es:List Expr} {te:TE} {t:TA} {pos:Pos}
theorem LM:PA X [] iS:=fun _ _ _ _ H Q I h=>Calls.spliced_nil ⟨[],H,I,.nil,h⟩
theorem qj (ha:PE X e te) (hr:PA X es t) (hs:starEach (e :: es) X.env=(false,eval e X.env) :: starEach es X.env:=by rfl):PA X (e :: es) (fS te t):=by
 intro pos pins s σ H Q I h
 rw[hs]
 show wpAny _ _ (spliced ((false,eval e X.env) :: backTo pos (starEach es X.env))) _ _ s
 refine Calls.spliced_cons (bq (ha pins s σ H _ I h) fun u s1 h0_ => el5 h0_ fun x H1 I1 r1 q1 => ?_)
 exact bq (hr pos pins s1 σ H1 _ I1 q1) fun us s2 h0_ => el5 h0_ fun xs H2 I2 r2 q2 =>⟨x :: xs,H2,I2,.cons r1 r2,q2⟩
noncomputable def nk (t:TA):TE:=fun σ H Q=>t σ H fun xs H1=>xs.length <= sizeLine/\∀ p,H1 p=none->Q (.ref p) (upd H1 p (.tup xs))
noncomputable def t6 (t:TA):TE:=fun σ H Q=>t σ H fun xs H1=>xs.length <= sizeLine/\∀ p,H1 p=none->Q (.ref p) (upd H1 p (.lst xs))
theorem LN {x1} (h:PA X es t):PE X (.Tuple es x1 pos) (nk t):=by
 intro pins s σ H Q I hq
 refine wpAny_Tuple_spliced (bq (h pos pins s σ H _ I hq) fun us s1 ⟨xs,H1,I1,r,z,q⟩=>⟨by rw[<-r.length];exact z,?_⟩)
 have hf:H1 s1.heap.objs.size=none:=I1.aN.fresh (wG _)
 refine⟨.ref s1.heap.objs.size,upd H1 s1.heap.objs.size (.tup xs),I1.laid (t':=s1.toks) (fun b u e=>qw _ e) (wG _) ?_,rfl,q _ hf⟩
 exact⟨z,us,r,⟨_,MC _ rfl,rfl,_,rfl⟩⟩
theorem LO (h:PA X es t):PE X (.List es pos) (t6 t):=by
 intro pins s σ H Q I hq
 refine wpAny_List_spliced (bq (h pos pins s σ H _ I hq) fun us s1 ⟨xs,H1,I1,r,z,q⟩=>⟨by rw[<-r.length];exact z,?_⟩)
 have hf:H1 s1.heap.objs.size=none:=I1.aN.fresh (wG _)
 refine⟨.ref s1.heap.objs.size,upd H1 s1.heap.objs.size (.lst xs),I1.laid (t':=s1.toks) (fun b u e=>qw _ e) (wG _) ?_,rfl,q _ hf⟩
 exact⟨z,us,0,r,MC _ rfl⟩
end
noncomputable abbrev Sp:=List V->Hp->VK->XK->Prop
noncomputable abbrev jM:=List Env->Hp->Shared->XK->Value->Shared->Prop
structure nq (P:Program) (w:World) (K:PySem.W.Frag) (mg:Str->Option Value) (base:Heap) (A:Around) (outer:List Env) (s:Shared) (H:Hp):Prop where
 frames:A.frames=some outer
 mod:Mod K mg base
 bs:∀ b o,base.get? b=some o->s.heap.get? b=some o/\H b=none
 oV:base.objs.size <= s.heap.objs.size
 fK:s.heap.FunFrames base outer
 qb:∀ b∈j9 outer,H b=none
 aN:d4 P w H s.heap
 bare:AllBare s.gens
noncomputable def CE (outer:List Env) (P:Program) (w:World) (H:Hp) (s:Shared) (Q:VK) (u:Value) (s':Shared):Prop :=
 ∃ v H',s'.os=s.os/\AllBare s'.gens/\Un (j9 outer) [] H H' s.heap s'.heap/\d4 P w H' s'.heap/\RelV v u/\Q v H'
noncomputable def CR (CX:jM) (outer:List Env) (P:Program) (w:World) (H:Hp) (s:Shared) (Q:VK) (E:XK) (r:Result) (s':Shared):Prop :=
 match r with
 | .ok (.ret u)=>CE outer P w H s Q u s'
 | .ok _=>False
 | .error e=>CX outer H s E e s'
structure ba (P:Program) (w:World) (K:PySem.W.Frag) (mg:Str->Option Value) (base:Heap) (CX:jM) (k:Nat) (f:Addr) (fd:FuncData) (ps:List Str) (sp:Sp):Prop where
 len:∀ vs H Q E,sp vs H Q E->vs.length=ps.length
 run:∀ (A:Around) (outer:List Env) (s:Shared) (H:Hp) (args:Args) (us:List Value) (vs:List V) (Q:VK) (E:XK),bG k A->nq P w K mg base A outer s H->BindsTo s fd args (ps.zip us)->Vals vs us->sp vs H Q E →
  codeAny (model P w) A (.call (.ref f) args) (CR CX outer P w H s Q E) s
section
variable {X:Cx} {pins:List (Addr × Obj)} {σ : St} {H:Hp} {s s':Shared}
theorem Inv.t7 (I:Inv X pins σ H s):nq X.prog X.w X.K X.mg X.base X.A X.stack s H :=
 ⟨I.ok.frames,I.ok.mod,I.bs,WY I.ok.oV I.sz,I.stack,I.jr,I.aN,I.bare⟩
theorem Inv.after {Q:VK} {u:Value} (I:Inv X pins σ H s) (h:CE X.stack X.prog X.w H s Q u s'):EP X pins σ Q u s':=by
 obtain⟨v,H',os,bare,un,aN,r,q⟩:=h
 obtain⟨hh,g,d,t,tI⟩:=s'
 obtain rfl:tI=s.os:=os
 exact⟨v,H',I.call (h':=hh) (g':=g) (d':=d) (t':=t) (ch:=[]) un aN bare (fun b z=>absurd z (by simp)),r,q⟩
end
noncomputable def si (sp:Sp) (kY:List V) (E:XK) (t:TA):TE:=fun σ H Q=>t σ H fun vs H1=>sp (vs ++ kY) H1 Q E
noncomputable def Binds (K:PySem.W.Frag) (fd:FuncData) (ps:List Str) (ds:List Value):Prop :=
 ∀ (s:Shared) (us:List Value),K.In s.heap->(us ++ ds).length=ps.length->BindsTo s fd ⟨us,[]⟩ (ps.zip (us ++ ds))
theorem Binds.all {K:PySem.W.Frag} {fd:FuncData} {ps:List Str} (h:∀ us:List Value,us.length=ps.length->bindArgs fd ⟨us,[]⟩=pure (ps.zip us)):Binds K fd ps []:=fun s us _ hl=>by
 rw[YO] at hl ⊢
 exact .of_eq (h us hl)
noncomputable def wz (CX:jM) (X:Cx) (E:XK):Prop:=∀ (pins:List (Addr × Obj)) (σ : St) (H:Hp) (s:Shared) (e:Value) (s':Shared),Inv X pins σ H s->CX X.stack H s E e s'->X.xe e s'
section
variable {X:Cx} {CX:jM} {k:Nat} {f C:Addr} {fd:FuncData} {ps:List Str} {sp:Sp} {kY:List V} {ds:List Value} {E:XK} {x m:Str} {p pos apos:Pos} {e o:Expr} {es:List Expr} {ta:TE} {t:TA}
theorem LP {pins:List (Addr × Obj)} {σ : St} {H:Hp} {s:Shared} {Q:VK} {us:List Value} {vs:List V} (F:ba X.prog X.w X.K X.mg X.base CX k f fd ps sp) (hr:bG k X.A) (hb:Binds X.K fd ps ds) (hd:Vals kY ds) (hx:wz CX X E)
  (I:Inv X pins σ H s) (r:Vals vs us) (h:sp (vs ++ kY) H Q E):wpAny (model X.prog X.w) X.A (call (.ref f) us) (EP X pins σ Q) X.xe s:=by
 have r2:Vals (vs ++ kY) (us ++ ds):=r.append hd
 have hl:(us ++ ds).length=ps.length:=by rw[<-r2.length];exact F.len _ _ _ _ h
 refine wpAny_call (YC (F.run X.A X.stack s H ⟨us,[]⟩ (us ++ ds) (vs ++ kY) Q E hr I.t7 (hb s us I.iy hl) r2 h) fun r s' hq => ?_)
 cases r with
 | error e=>exact hx pins σ H s e s' I hq
 | ok fl =>
  cases fl with
  | ret u=>exact I.after hq
  | next=>exact False.elim hq
  | brk=>exact False.elim hq
  | cont=>exact False.elim hq
theorem LQ (F:ba X.prog X.w X.K X.mg X.base CX k f fd ps sp) (hr:bG k X.A) (hg:Gl X x) (hm:X.mg x=some (.ref f)) (hk:PySem.W.keepIn X.K (.ref f)=true) (hb:Binds X.K fd ps ds) (hd:Vals kY ds) (hx:wz CX X E)
  (ha:PA X (e :: es) t) (hJ:(x == ("__debug__" : Str))=false:=by decide) (he:starEach (e :: es) X.env=(false,eval e X.env) :: starEach es X.env:=by rfl) (gM:(backTo pos (starEach es X.env)).any (·.1)=false:=by rfl) :
  PE X (.Call (.Name x p) (e :: es) [] pos) (si sp kY E t):=by
 intro pins s σ H Q I h
 refine YV (Em I hg hm ?_ hJ)
 refine PySem.W.callWith_K (h₀ := X.base) I.ok.mod.oU hk (bq (ha pos pins s σ H _ I h) fun us s1 h0_ => el5 h0_ fun vs H1 I1 r q =>⟨I1.iy,?_⟩) he gM
 exact LP F hr hb hd hx I1 r q
end
section
variable {X:Cx} {CX:jM} {k:Nat} {f C:Addr} {fd:FuncData} {ps ks:List Str} {sp:Sp} {E:XK} {x m:Str} {p pos apos kZ:Pos} {e o:Expr} {es:List Expr} {Vr:List Keyword} {te ta:TE} {t tk:TA} {nm:Option Str}
variable {g:List Value->List Value->List Value} {gV:List V->List V->List V}
end
structure d5 (N P:List Str) (sc:Scope):Prop where
 kind:sc.kind = .function
 co:sc.isCoroutine=false
 gen:sc.isGenerator=false
 nd:N.Nodup
 pre:N.take P.length=P
 par:∀ x∈P,sc.names.lookup x=some .local\/sc.names.lookup x=some .cell
 qk:∀ y∈sc.names,y.2 ≠ .free
theorem EG {kindOf:Str->Option NameKind} {x:Str}:∀ {binds:List (Str × Value)} {m:Str->Option Value},(∀ v,(x,v)∉binds)->bindL kindOf binds m x=m x
 | [],_,_=>rfl
 | (n,v) :: r,m,h=>by
  unfold bindL
  rw[EG fun w hw=>h w (MB _ hw)]
  split
  ·have:x≠n:=by rintro rfl;exact h v Mz
   simp[this]
  ·rfl
theorem EH {kindOf:Str->Option NameKind} {x:Str}:∀ {binds:List (Str × Value)} {m:Str->Option Value},(∀ v,(x,v)∉binds)->bindC kindOf binds m x=m x
 | [],_,_=>rfl
 | (n,v) :: r,m,h=>by
  unfold bindC
  rw[EH fun w hw=>h w (MB _ hw)]
  split
  ·rfl
  ·have:x≠n:=by rintro rfl;exact h v Mz
   simp[this]
theorem EI {kindOf:Str->Option NameKind} {x:Str} {v:Value}:∀ {P:List Str} {vs:List Value} {i:Nat} {m:Str->Option Value},P.Nodup->P[i]? = some x->vs[i]? = some v->kindOf x=some .local →
  bindL kindOf (P.zip vs) m x=some v
 | [],_,_,_,_,h,_,_=>by simp at h
 | _ :: _,[],_,_,_,_,h,_=>by simp at h
 | p :: P,w :: vs,0,m,nd,h1,h2,hk=>by
  simp at h1 h2;subst h1;subst h2
  show bindL kindOf ((p,w) :: P.zip vs) m p=_
  unfold bindL
  rw[EG fun v hv=>(YM.mp nd).1 (q0u hv).1,MD hk]
  simp
 | p :: P,w :: vs,i + 1,m,nd,h1,h2,hk=>by
  show bindL kindOf ((p,w) :: P.zip vs) m x=_
  unfold bindL
  exact EI (i:=i) (YM.mp nd).2 (by simpa using h1) (by simpa using h2) hk
theorem EJ {kindOf:Str->Option NameKind} {x:Str} {v:Value}:∀ {P:List Str} {vs:List Value} {i:Nat} {m:Str->Option Value},P.Nodup->P[i]? = some x->vs[i]? = some v->kindOf x≠some .local →
  bindC kindOf (P.zip vs) m x=some v
 | [],_,_,_,_,h,_,_=>by simp at h
 | _ :: _,[],_,_,_,_,h,_=>by simp at h
 | p :: P,w :: vs,0,m,nd,h1,h2,hk=>by
  simp at h1 h2;subst h1;subst h2
  show bindC kindOf ((p,w) :: P.zip vs) m p=_
  unfold bindC
  rw[EH fun v hv=>(YM.mp nd).1 (q0u hv).1,MA hk]
  simp
 | p :: P,w :: vs,i + 1,m,nd,h1,h2,hk=>by
  show bindC kindOf ((p,w) :: P.zip vs) m x=_
  unfold bindC
  exact EJ (i:=i) (YM.mp nd).2 (by simpa using h1) (by simpa using h2) hk
noncomputable def start (N:List Str) (vs:List V):St:=vs.map some ++ List.replicate (N.length - vs.length) none
noncomputable def gD (CX:jM) (P:Program) (w:World) (K:PySem.W.Frag) (mg:Str->Option Value) (base:Heap) (N:List Str) (qual:Str) (scope:Scope) (f:Addr) (cd:Value) (A:Around) (outer:List Env) (s:Shared) (H:Hp) (E:XK):Cx where
 prog:=P
 w:=w
 K:=K
 mg:=mg
 base:=base
 A:=A.deeper (envOfC qual scope s.heap.objs.size f cd)
 N:=N
 s₀ := s
 H₀ := H
 env:=envOfC qual scope s.heap.objs.size f cd
 outer:=outer
 stack:=envOfC qual scope s.heap.objs.size f cd :: outer
 ex:=[]
 calm:=true
 fn:=fun _=>true
 pn:=[]
 xe:=fun e s'=>wpAny (model P w) (A.deeper (envOfC qual scope s.heap.objs.size f cd)) (leaving (envOfC qual scope s.heap.objs.size f cd) e) (fun _ iT=>CX outer H s E e iT) (fun e' iT=>CX outer H s E e' iT) s'
theorem EK {sc:Scope} {n:Nat} {x:Str} (h:sc.names.lookup x=some .cell):∃ c,(cellsFrom n sc.names []).lookup x=some c:=by
 have q:=Y8 sc.names n [] (.inl h)
 exact Yi.mp q
theorem LR {CX:jM} {P:Program} {w:World} {K:PySem.W.Frag} {mg:Str->Option Value} {base:Heap} {N ps:List Str} {qual:Str} {scope:Scope} {f:Addr} {cd:Value} {A:Around} {outer:List Env} {s s1:Shared} {H:Hp} {E:XK} {us:List Value} {vs:List V}
  (S:d5 N ps scope) (hd:A.handled=none) (e0:nq P w K mg base A outer s H) (hl:vs.length=ps.length) (r:Vals vs us)
  (x:InCallC s s.heap.objs.size (bindL (envOfC qual scope s.heap.objs.size f cd).kindOf (ps.zip us) fun _=>none) (cellsFrom (s.heap.objs.size + 1) scope.names []) (bindC (envOfC qual scope s.heap.objs.size f cd).kindOf (ps.zip us) fun _=>none) s1) :
  Inv (gD CX P w K mg base N qual scope f cd A outer s H E) [] (start N vs) H s1:=by
 have gM:ps.length <= N.length:=by have:=congrArg List.length S.pre;rw[Wn] at this;omega
 obtain⟨h1,tk,rfl,hk⟩:=x.done
 have nr:∀ b:Addr,b∉(gD CX P w K mg base N qual scope f cd A outer s H E).ex:=fun b z=>absurd (show b∈([]:List Addr) from z) (by simp)
 refine⟨⟨e0.mod,S.kind,rfl,rfl,wG _,fun y z c h1 h2 => ?_,fun y hy => ?_,fun y c _ h => ?_,fun _=>hd,Around.frames_deeper e0.frames,.inr ⟨rfl,rfl⟩,fun b z=>absurd z (nr b),e0.bs,e0.oV,fun b _ _=>nr b,fun b z=>absurd z (nr b),e0.fK,e0.qb⟩,
  rfl,e0.bare,Un.kept hk,⟨_,x.toInCall.ns,fun i y v h1 h2 h3 => ?_⟩,fun y c h=>⟨_,x.cell y c h⟩,e0.aN.fresh (wG _),fun y c h => ?_,fun p hp=>absurd (show p∈([]:List (Addr × Obj)) from hp) (by simp),e0.aN.kept hk,?_⟩
 ·exact name_of_addr x.apart (Xi h1) (Xi h2)
 ·have hy:scope.names.lookup y=some .cell\/scope.names.lookup y=some .free:=hy
  rcases hy with hy | hy
  ·exact EK hy
  ·exact absurd rfl (S.qk _ (Xi hy))
 ·exact Xj (x.above y c (Xi h))
 ·have hi:i < vs.length:=by
   unfold start at h2
   by_cases hi:i < vs.length
   ·exact hi
   ·rw[VZ (by simpa using hi)] at h2
    rw[XX] at h2
    split at h2<;>cases h2
  have ha:vs[i]? = some v:=by
   unfold start at h2
   rw[Vz (by simpa using hi),Fl] at h2
   cases e:vs[i]? with
   | none=>rw[e] at h2;cases h2
   | some a=>rw[e] at h2;cases h2;rfl
  obtain⟨u,hu,rv⟩:=r.get ha
  have hp:ps[i]? = some y:=by
   rw[<-S.pre,WL (by omega)];exact h1
  have EL:ps.Nodup:=by rw[<-S.pre];exact S.nd.sublist (ZU _ _)
  refine⟨u,rv,?_⟩
  rcases S.par y (Wk hp) with k | k
  ·exact .inl ⟨k,EI EL hp hu k⟩
  ·obtain⟨c,e⟩:=EK (n:=s.heap.objs.size + 1) k
   refine .inr ⟨.inl k,c,e,?_⟩
   have q:=x.cell y c e
   rw[EJ EL hp hu (by show scope.names.lookup y≠_;rw[k];decide)] at q
   exact q
 ·exact e0.aN.fresh (Xj (x.above y c (Xi h)))
 ·unfold start
  show _=N.length
  rw[Vw,qx,Yx]
  omega
theorem EM {CX:jM} {P:Program} {w:World} {K:PySem.W.Frag} {mg:Str->Option Value} {base:Heap} {k:Nat} {f:Addr} {name qual:Str} {params:Arguments} {body:List Stmt} {scope:Scope} {dV kV doc pm bD ct oc:Value} {an od:Option Addr}
  {nv:Array (Option Value)} {N ps:List Str} {sp:Sp} (lk:K.lookup f=some ⟨oc,od,.func (PySem.W.fnOf name qual params body scope dV kV doc pm an bD ct),nv⟩) (fZ:PySem.W.codeIn K bD qual=true) (S:d5 N ps scope)
  (len:∀ vs H Q E,sp vs H Q E->vs.length=ps.length)
  (eg:∀ (A:Around) (outer:List Env) (s:Shared) (H:Hp) (vs:List V) (Q:VK) (E:XK),bG k (A.deeper (envOfC qual scope s.heap.objs.size f bD))->sp vs H Q E →
   ∃ t,iz (gD CX P w K mg base N qual scope f bD A outer s H E) body t/\t { nx:=fun _ H'=>Q .non H',rt:=Q } (start N vs) H) :
  ba P w K mg base CX (k + 1) f (PySem.W.fnOf name qual params body scope dV kV doc pm an bD ct) ps sp:=by
 refine⟨len,fun A outer s H args us vs Q E hr e0 hb r oY => ?_⟩
 have hl:=len _ _ _ _ oY
 have KX:K.In s.heap:=e0.mod.oU.keeps fun b o e=>(e0.bs b o e).1
 have lim:s.heap.NoLimit:=e0.mod.nolimit.keeps fun b o e=>(e0.bs b o e).1
 have t8:∀ y∈ps.zip us,scope.names.lookup y.1=some .local\/(scope.names.lookup y.1=some .cell/\((cellsFrom (s.heap.objs.size + 1) scope.names []).lookup y.1).isSome=true):=fun ⟨n,v⟩ hy=>by
  rcases S.par n (q0u hy).1 with q | q
  ·exact .inl q
  ·exact .inr ⟨q,Y8 _ _ _ (.inl q)⟩
 refine codeAny_call_function hr.depth (KX _ _ lk) rfl S.co S.gen rfl (PySem.W.codeRec_of KX fZ) (hb _ _ _ _ ?_)
 refine wpAny_newFunctionEnv_cells S.kind t8 fun env he s1 x => ?_
 subst he
 refine⟨lim.keeps x.toInCall.keep,codeAny_func ?_⟩
 obtain⟨t,ht,hq⟩:=eg A outer s H vs Q E (hr.deeper _) oY
 have I:Inv (gD CX P w K mg base N qual scope f bD A outer s H E) [] (start N vs) H s1:=LR S hr.hd e0 hl r x
 refine XQ (ht [] s1 (start N vs) H _ I hq) (fun fl s' hs => ?_) fun e s' hs=>hs
 have fin:∀ {σ':St} {H':Hp} {v:V} {u:Value},Inv (gD CX P w K mg base N qual scope f bD A outer s H E) [] σ' H' s'->RelV v u->Q v H'->CE outer P w H s Q u s' :=
  fun {σ' H' v u} J rv q=>⟨v,H',J.os,J.bare,J.base,J.aN,rv,q⟩
 cases fl with
 | ret u =>
  obtain⟨v,σ',H',J,rv,q⟩:=hs
  exact fin J rv q
 | next =>
  obtain⟨σ',H',J,q⟩:=hs
  exact fin (v:=V.non) (u:=Value.none) J rfl q
 | brk =>
  obtain⟨_,_,_,q⟩:=hs
  exact False.elim q
 | cont =>
  obtain⟨_,_,_,q⟩:=hs
  exact False.elim q
section
variable {X:Cx} {x:Str} {p pos:Pos} {e:Expr} {es:List Expr} {t:TA} {id T:String} {r:List V->Hp->VK->Prop}
noncomputable def t9 (r:List V->Hp->VK->Prop) (t:TA):TE:=fun σ H Q=>t σ H fun vs H1=>r vs H1 Q
theorem LS (hc:g9 X (.builtin id) r) (hg:Gl X x) (hm:X.mg x=none) (hv:bootBuiltins x=some (.builtin id)) (ha:PA X (e :: es) t) (hn:x ≠ "__name__" := by decide) (hJ:(x == ("__debug__" : Str))=false:=by decide)
  (he:starEach (e :: es) X.env=(false,eval e X.env) :: starEach es X.env:=by rfl) (gM:(backTo pos (starEach es X.env)).any (·.1)=false:=by rfl):PE X (.Call (.Name x p) (e :: es) [] pos) (t9 r t):=by
 intro pins s σ H Q I h
 refine YV (mX I hg hm hv ?_ hn hJ)
 exact PyProof.Rows.callWith_builtin1 (bq (ha pos pins s σ H _ I h) fun us s1 h0_ => el5 h0_ fun vs H1 I1 r1 q1 =>hc pins s1 σ H1 vs us Q I1 r1 q1) he gM
theorem LU (hc:g9 X (.type T) r) (hg:Gl X x) (hm:X.mg x=none) (hv:bootBuiltins x=some (.type T)) (ha:PA X (e :: es) t) (hn:x ≠ "__name__" := by decide) (hJ:(x == ("__debug__" : Str))=false:=by decide)
  (he:starEach (e :: es) X.env=(false,eval e X.env) :: starEach es X.env:=by rfl) (gM:(backTo pos (starEach es X.env)).any (·.1)=false:=by rfl):PE X (.Call (.Name x p) (e :: es) [] pos) (t9 r t):=by
 intro pins s σ H Q I h
 refine YV (mX I hg hm hv ?_ hn hJ)
 exact Xl (bq (ha pos pins s σ H _ I h) fun us s1 h0_ => el5 h0_ fun vs H1 I1 r1 q1 =>hc pins s1 σ H1 vs us Q I1 r1 q1) he gM
end
end L2
namespace HT
open PySem PyProof.Rows
noncomputable def lexLt:List Int->List Int->Bool
 | [],[]=>false
 | [],_ :: _=>true
 | _ :: _,[]=>false
 | x :: xs,y :: ys=>if x=y then lexLt xs ys else decide (x < y)
theorem mx (x y:Int) (xs ys:List Int):lexLt (x :: xs) (y :: ys)=if x=y then lexLt xs ys else decide (x < y):=rfl
theorem LV:lexLt [] []=false:=rfl
theorem LW (y:Int) (ys:List Int):lexLt [] (y :: ys)=true:=rfl
theorem LX (x:Int) (xs:List Int):lexLt (x :: xs) []=false:=rfl
theorem LY (A:Around) (s:Shared) (a:Int) (t:Tok) (c:Int) (u:Tok):∃ e,SeqAt.EqAt A s (.int a t) (.int c u) e/\(e=true↔a=c) :=
 ⟨(a == c),ZL a t c u,by simp⟩
theorem LZ (A:Around) (s:Shared) (a:Int) (t:Tok) (c:Int) (u:Tok) (prog:Program) (w:World) (E:Value->Shared->Prop) (Q:Value->Shared->Prop) (h:Q (.bool (decide (a < c))) s) :
  wpAny (model prog w) A (richCompare .Lt (.int a t) (.int c u)) Q E s :=
 (ZA h:wpAny (model prog w) A (compareOp .Lt (.int a t) (.int c u)) Q E s)
section
open PySem.SeqAt
open PySem.AutoSeq1 (wpAny_loadPart')
open PySem.MeetsSeq PySem.MeetsSeq2 PySem.MeetsSeq3
theorem L0 (l b:Addr) (items cw:Array Value) (n n2:Nat) (dd oZ:Option Addr) (sl o6:Array (Option Value)) (ns ms:List Int) (hi:IntsAre items.toList ns) (hj:IntsAre cw.toList ms) :
  Meets (Builtin.«tuple.__lt__» ⟨[.ref l,.ref b],[]⟩)
   (fun _ R s=>s.heap.get? l=some { cls := .type "tuple",dict:=dd,data := .seq items n,slots:=sl }/\s.heap.get? b=some { cls := .type "tuple",dict:=oZ,data := .seq cw n2,slots:=o6 } ∧
    R (.ok (.ret (.bool (lexLt ns ms)))) s) :=
 .of_wp fun prog w A R s h=>by
  obtain⟨hp,g,d,tk,os⟩:=s;obtain⟨hl,hb,h⟩:=h
  have f2:=AutoSeq1.sub_tuple_tuple
  have z1:items.size=ns.length:=by rw[<-hi.length];simp
  have z2:cw.size=ms.length:=by rw[<-hj.length];simp
  wp_walk using XI hl,XI hb,Zj _ (fun rest b s'=>b.1=none/\s'=⟨hp,g,d,tk,os⟩/\∃ (vs ws:List Value) (eV sj:List Int),rest=vs.zip ws ∧
   IntsAre vs eV/\IntsAre ws sj/\eV.length + cw.size=sj.length + items.size/\R (.ok (.ret (.bool (lexLt eV sj)))) ⟨hp,g,d,tk,os⟩) _
  case turn =>
   rintro ⟨y,x⟩ rest b s' ⟨d6,rfl,vs,ws,eV,sj,hz,zL,wA,hlen,hR⟩
   cases zL with
   | nil=>rw[Y9] at hz;cases hz
   | cons a t zM =>
    cases wA with
    | nil=>rw[List.zip_nil_right] at hz;cases hz
    | cons c u zN =>
     rw[Yr] at hz
     injection hz with L1 t_
     injection L1 with hy hx
     subst hy hx
     rw[mx] at hR
     simp only[Fm] at hlen
     obtain⟨e,he,uc⟩:=LY A.in1 ⟨hp,g,d,tk,os⟩ a t c u
     refine nG (he prog w _ _ ?_)
     cases e with
     | true =>
      rw[MD (uc.mp rfl)] at hR
      wp_walk
      exact⟨rfl,rfl,_,_,_,_,t_,zM,zN,by omega,hR⟩
     | false =>
      rw[MA (fun q=>absurd (uc.mpr q) Vy)] at hR
      have L4:=LZ A.in1 ⟨hp,g,d,tk,os⟩ a t c u prog w
      wp_walk using L4
      exact⟨_,rfl,by simpa using hR⟩
  case fin =>
   rintro ⟨b1,b2⟩ s' ⟨d6,rfl,vs,ws,eV,sj,hz,zL,wA,hlen,hR⟩
   simp only at d6
   subst d6
   have hv:lexLt eV sj=decide (items.size < cw.size):=by
    cases zL with
    | nil =>
     cases wA with
     | nil =>
      simp only[X0] at hlen
      rw[LV]
      exact (We (by omega)).symm
     | cons c u hw =>
      simp only[X0,Fm] at hlen
      rw[LW]
      exact (V_ (by omega)).symm
    | cons a t hv =>
     cases wA with
     | nil =>
      simp only[X0,Fm] at hlen
      rw[LX]
      exact (We (by omega)).symm
     | cons c u hw =>
      rw[Yr] at hz
      cases hz
   rw[hv] at hR
   wp_walk
   exact⟨_,rfl,by simpa [Builtin.Tuple.tupleCompareSizes] using hR⟩
  case h =>
   exact⟨rfl,rfl,items.toList,cw.toList,ns,ms,rfl,hi,hj,by omega,h⟩
end
section
variable {prog:Program} {w:World} {A:Around} {E:Value->Shared->Prop} {s:Shared}
theorem EN {l b:Addr} {items cw:Array Value} {ns ms:List Int} {Q:Value->Shared->Prop} (hl:IsTup s.heap l items) (hb:IsTup s.heap b cw) (hi:IntsAre items.toList ns) (hj:IntsAre cw.toList ms)
  (hu:A.units < cLine) (h:Q (.bool (lexLt ns ms)) s):wpAny (model prog w) A (compareOp .Lt (.ref l) (.ref b)) Q E s:=by
 obtain⟨⟨cls,dd,data,sl⟩,ho,hc,n,hd⟩:=id hl
 obtain⟨⟨ud,oZ,data2,o6⟩,fI,jw,n2,hd2⟩:=id hb
 simp only at hc hd jw hd2
 subst hc hd jw hd2
 exact richCompare_meets_room (op := .Lt) ⟨_,ho,rfl⟩ ⟨_,fI,rfl⟩ PySem.F.slot_tuple_lt PySem.F.entry_tuple_lt (PySem.F.args_tuple_lt_2 _ _) (L0 l b items cw n n2 dd oZ sl o6 ns ms hi hj)
  ⟨ho,fI,show Value.bool (lexLt ns ms)≠Value.notImplemented/\Q (.bool (lexLt ns ms)) s from ⟨(fun x=>nomatch x),h⟩⟩ hu
theorem L5 {t b:Addr} {vs ws:List Value} {Q:Value->Shared->Prop} (ht:IsTup s.heap t vs.toArray) (hb:IsTup s.heap b ws.toArray) (hv:vs≠[])
  (h1:ws=[]->Q (.ref t) s) (h2:ws≠[]->Q (.ref s.heap.objs.size) { s with heap:=s.heap.push { cls := .type "tuple",data := .seq (vs ++ ws).toArray } })
  (hsz:vs.length + ws.length <= sizeLine):wpAny (model prog w) A (binaryOp .Add (.ref t) (.ref b)) Q E s:=by
 obtain⟨⟨cls,dd,data,sl⟩,ho,hc,n,hd⟩:=id ht
 obtain⟨⟨ud,oZ,data2,o6⟩,fI,jw,n2,hd2⟩:=id hb
 simp only at hc hd jw hd2
 subst hc hd jw hd2
 have e:vs.toArray ++ ws.toArray=(vs ++ ws).toArray:=by simp
 by_cases hw:ws=[]
 ·exact concat_meets ⟨_,ho,rfl⟩ ⟨_,fI,rfl⟩ noFill_tuple_add seq_tuple_add Y_ YX (YJ _ _)
   (tuple_addW1 t b vs.toArray ws.toArray n n2 dd oZ sl o6 (by simpa using hv) (by simp[hw])) ⟨ho,fI,h1 hw⟩
 ·refine concat_meets ⟨_,ho,rfl⟩ ⟨_,fI,rfl⟩ noFill_tuple_add seq_tuple_add Y_ YX (YJ _ _)
   (tuple_addW2 t b vs.toArray ws.toArray n n2 dd oZ sl o6 (by simpa using hv) (by simpa using hw) (by rw[Ad,Ad];exact hsz)) ⟨ho,fI,?_⟩
  rw[e]
  exact h2 hw
noncomputable def bo (n d:Nat):Option Int->Nat
 | none=>d
 | some v=>if v < 0 then (v + (n:Int)).toNat else min v.toNat n
theorem EO (n d:Nat):bo n d none=d:=rfl
theorem wB (n d k:Nat):bo n d (some (k:Int))=min k n:=by
 show (if (k:Int) < 0 then ((k:Int) + (n:Int)).toNat else min (k:Int).toNat n)=min k n
 rw[MA (by omega),V7]
theorem L6 (n d:Nat) (hd:d <= n) (o:Option Int):bo n d o <= n:=by
 cases o with
 | none=>exact hd
 | some v =>
  show (if v < 0 then (v + (n:Int)).toNat else min v.toNat n) <= n
  by_cases hv:v < 0
  ·rw[MD hv];omega
  ·rw[MA hv];exact Nat.min_le_right _ _
theorem ER (v:Int) (n d:Nat):(if v < 0 then max (v + (n:Int)) 0 else min v (n:Int))=((bo n d (some v):Nat):Int):=by
 show (if v < 0 then max (v + (n:Int)) 0 else min v (n:Int))=(((if v < 0 then (v + (n:Int)).toNat else min v.toNat n):Nat):Int)
 by_cases hv:v < 0
 ·simp only[MD hv];omega
 ·simp only[MA hv];omega
theorem L7 (lo hi:Option Int) (n:Nat):Builtin.Slice.sliceAdjust lo hi 1 (n:Int)=(((bo n 0 lo:Nat):Int),((bo n n hi:Nat):Int)):=by
 have h1:¬ ((1:Int) < 0):=by omega
 unfold Builtin.Slice.sliceAdjust
 simp only[h1,W9]
 refine Prod.ext ?_ ?_
 ·cases lo with
  | none=>rfl
  | some v=>exact ER v n 0
 ·cases hi with
  | none=>rfl
  | some v=>exact ER v n n
theorem L8 (i j:Nat):Builtin.Slice.slicePlaces (i:Int) (j:Int) 1=j - i:=by
 unfold Builtin.Slice.slicePlaces
 have h1:(1:Int) > 0:=by omega
 simp only[h1,Ym,Int.ediv_one]
 split<;>omega
theorem ue {v:Value} {o:Option Int} {Q:Option Int->Shared->Prop} (p:IsPart v o) (h:Q o s):wpAny (model prog w) A (Builtin.Slice.slicePartIndex v) Q E s:=by
 cases p with
 | none=>exact slicePart_none h
 | int i t=>exact slicePart_int h
theorem ES {sl:Addr} {vl vu:Value} {lo hi:Option Int} {n:Nat} {Q:Int × Int × Nat->Shared->Prop} (hs:s.heap.IsSliceOf sl vl vu .none) (pl:IsPart vl lo) (pu:IsPart vu hi)
  (h:Q (((bo n 0 lo:Nat):Int),1,bo n n hi - bo n 0 lo) s):wpAny (model prog w) A (Builtin.Slice.sliceApplied (.ref sl) (pure (n:Int))) Q E s:=by
 obtain⟨os,jN,ny,my⟩:=id hs
 unfold Builtin.Slice.sliceApplied Builtin.Slice.sliceFields
 refine nG (nG (Xb jN my (x:=vl) rfl (nG (Xb jN my (x:=vu) rfl (nG (Xb jN my (x := .none) rfl (uk ?_)))))))
 refine nG (slicePart_none ?_)
 show wpAny _ _ (if ((1:Int) == 0)=true then _ else _) _ _ s
 rw[MA (by decide)]
 refine nG (ue pl (nG (ue pu (nG (uk ?_)))))
 show wpAny _ _ (match Builtin.Slice.sliceAdjust lo hi 1 (n:Int) with | (lo,hi)=>pure (lo,(1:Int),Builtin.Slice.slicePlaces lo hi 1)) _ _ s
 rw[L7 lo hi n]
 show wpAny _ _ (pure (((bo n 0 lo:Nat):Int),(1:Int),Builtin.Slice.slicePlaces ((bo n 0 lo:Nat):Int) ((bo n n hi:Nat):Int) 1)) _ _ s
 rw[L8]
 exact uk h
theorem L9 (xs:Array Value) (i k:Nat):((List.range k).filterMap fun (m:Nat)=>xs[((i:Int) + (m:Int) * 1).toNat]?).toArray=((xs.toList.drop i).take k).toArray:=by
 have e:(fun (m:Nat)=>xs[((i:Int) + (m:Int) * 1).toNat]?)=fun m=>xs[i + m]? := by
  funext m
  have:((i:Int) + (m:Int) * 1).toNat=i + m:=by omega
  rw[this]
 rw[e]
 have:=pick_run xs i k
 rw[ZH] at this
 have e2:((fun x=>xs[x]?) ∘ fun x=>i + x)=fun m=>xs[i + m]? := rfl
 rw[e2] at this
 rw[this]
theorem L_ {t sl:Addr} {items:Array Value} {vl vu:Value} {lo hi:Option Int} {Q:Value->Shared->Prop} (ht:IsTup s.heap t items) (hs:s.heap.IsSliceOf sl vl vu .none) (pl:IsPart vl lo) (pu:IsPart vu hi)
  (hw:¬ (bo items.size 0 lo=0/\bo items.size items.size hi=items.size))
  (h:Q (.ref s.heap.objs.size) { s with heap:=s.heap.push { cls := .type "tuple",data := .seq ((items.toList.drop (bo items.size 0 lo)).take (bo items.size items.size hi - bo items.size 0 lo)).toArray } })
  (hsz:items.size <= sizeLine):wpAny (model prog w) A (getItem (.ref t) (.ref sl)) Q E s:=by
 have eu:sizeOk (.seq ((items.toList.drop (bo items.size 0 lo)).take (bo items.size items.size hi - bo items.size 0 lo)).toArray):=by
  show ((items.toList.drop (bo items.size 0 lo)).take (bo items.size items.size hi - bo items.size 0 lo)).toArray.size <= sizeLine
  rw[Ad,Wn,XM,Fj]
  omega
 have hj:bo items.size items.size hi <= items.size:=L6 _ _ (wG _) hi
 obtain⟨os,jN,ny,my⟩:=id hs
 have uf:s.TypeIs (.ref sl) "slice" := ⟨os,jN,ny⟩
 unfold getItem
 try with_reducible refine Wo ?_
 first | refine nG (uk ?_) | skip
 refine nG (ZX ht.typeIs (by decide) ?_)
 refine nG (WU (name:=Str.ofString "__getitem__") ht.typeIs Wq
  (WW Wq ht.typeIs ZC ?_ (args_tuple_getitem _ _)))
 show wpAny _ _ (Builtin.Tuple.tupleItemsOf (.ref t) >>= _) _ _ s
 refine nG (tupleItemsOf_ ht ?_)
 refine nG (YD uf ?_)
 rw[MD (by decide)]
 refine nG (ES hs pl pu ?_)
 have Ma:¬ ((((bo items.size 0 lo:Nat):Int) == 0 && (1:Int) == 1 && (bo items.size items.size hi - bo items.size 0 lo) == items.size)=true):=by
  intro q
  rw[Wl,Wl] at q
  have q1:((bo items.size 0 lo:Nat):Int)=0:=Xm q.1.1
  have q2:bo items.size items.size hi - bo items.size 0 lo=items.size:=Xm q.2
  exact hw ⟨by omega,by omega⟩
 show wpAny _ _ (if (((bo items.size 0 lo:Nat):Int) == 0 && (1:Int) == 1 && (bo items.size items.size hi - bo items.size 0 lo) == items.size)=true then _ else _) _ _ s
 rw[MA Ma,L9]
 first
  | exact nG (m:=Builtin.Tuple.tupleExact _) (Wz (uk ⟨_,rfl,uk h⟩) eu)
  | exact nG (m:=Builtin.Tuple.tupleExact _) (Wz (nG (uk (uk ⟨_,rfl,uk h⟩))) eu)
  | exact nG (nG (m:=Builtin.Tuple.tupleExact _) (Wz (uk (uk ⟨_,rfl,uk h⟩)) eu))
  | exact nG (nG (m:=Builtin.Tuple.tupleExact _) (Wz (uk ⟨_,rfl,uk h⟩) eu))
end
end HT
namespace L2
open PySem PySem.Spec PyProof.Rows
noncomputable abbrev TO:=St->Hp->(Option Int->Hp->Prop)->Prop
noncomputable def PO (X:Cx) (e:Option Expr) (t:TO):Prop :=
 ∀ (pins:List (Addr × Obj)) (s:Shared) (σ : St) (H:Hp) (Q:Option Int->Hp->Prop),Inv X pins σ H s->t σ H Q →
  wpAny (model X.prog X.w) X.A (evalPart e X.env) (fun u s'=>∃ o H',Inv X pins σ H' s'/\IsPart u o/\Q o H') X.xe s
noncomputable def Mb:TO:=fun _ H Q=>Q none H
noncomputable def Mc (t:TE):TO:=fun σ H Q=>t σ H fun x H1=>∃ i,x = .int i/\Q (some i) H1
theorem intsAre_of {ns:List Int}:∀ {us:List Value},Vals (ns.map V.int) us->IntsAre us ns:=by
 induction ns with
 | nil=>intro us r;rw[X1] at r;cases r;exact .nil
 | cons n ns ih =>
  intro us r
  rw[Wb] at r
  cases r with
  | cons r1 r2 =>
   obtain⟨t,e⟩:=r1
   subst e
   exact .cons n t (ih r2)
section
variable {X:Cx} {e:Expr} {te:TE} {lo hi:Option Expr} {tl th:TO} {pos p2:Pos}
theorem EU:PO X none Mb:=by
 intro pins s σ H Q I h
 rw[evalPart_none]
 exact uk ⟨none,H,I,.none,h⟩
theorem wC (h:PE X e te):PO X (some e) (Mc te):=by
 intro pins s σ H Q I hw
 rw[evalPart_some]
 refine bq (h pins s σ H _ I hw) fun u s1 h0_ => el5 h0_ fun x H1 I1 r1 q1 => ?_
 obtain⟨i,rfl,q⟩:=q1
 obtain⟨t,rfl⟩:=r1
 exact⟨some i,H1,I1,.int i t,q⟩
noncomputable def nA (X:Cx) (r:V->Option Int->Option Int->Hp->VK->Prop):Prop :=
 ∀ (pins:List (Addr × Obj)) (s:Shared) (σ : St) (H:Hp) (x:V) (v vl vu:Value) (lo hi:Option Int) (sl:Addr) (Q:VK),Inv X pins σ H s->RelV x v->s.heap.IsSliceOf sl vl vu .none->IsPart vl lo->IsPart vu hi->r x lo hi H Q →
  ∃ T id,typeLookup (.type T) "__getitem__" = pure (some (.builtin id))/\s.TypeIs v T/\wpAny (model X.prog X.w) X.A (getItem v (.ref sl)) (EP X pins σ Q) X.xe s
theorem nA.or {r r':V->Option Int->Option Int->Hp->VK->Prop} (h:nA X r) (h':nA X r'):nA X (fun x lo hi H Q=>r x lo hi H Q\/r' x lo hi H Q):=by
 intro pins s σ H x v vl vu lo hi sl Q I rx hs pl pu q
 rcases q with q | q
 ·exact h pins s σ H x v vl vu lo hi sl Q I rx hs pl pu q
 ·exact h' pins s σ H x v vl vu lo hi sl Q I rx hs pl pu q
noncomputable def EV (r:V->Option Int->Option Int->Hp->VK->Prop) (te:TE) (tl th:TO):TE:=fun σ H Q=>te σ H fun x H1=>tl σ H1 fun l H2=>th σ H2 fun u H3=>r x l u H3 Q
theorem Md {r:V->Option Int->Option Int->Hp->VK->Prop} (hr:nA X r) (he:PE X e te) (hl:PO X lo tl) (hu:PO X hi th):PE X (.Subscript e (.Slice lo hi none p2) pos) (EV r te tl th):=by
 intro pins s σ H Q I h
 refine Subscript_ (bq (he pins s σ H _ I h) fun v s1 h0_ => el5 h0_ fun x H1 I1 r1 q1 => ?_)
 refine wpAny_Slice (bq (hl pins s1 σ H1 _ I1 q1) fun vl s2 h0_ => el5 h0_ fun l H2 I2 pl q2 =>bq (hu pins s2 σ H2 _ I2 q2) fun vu s3 h0_ => el5 h0_ fun u H3 I3 pu q3 => ?_)
 rw[evalPart_none]
 refine uk ?_
 have I4:Inv X pins σ H3 { s3 with heap:=s3.heap.push { cls := .type "slice",data := .fields #[vl,vu,.none] } }:=I3.kept (t':=s3.toks) fun b ob q=>qw _ q
 obtain⟨T,id,hT,ht,hg⟩:=hr pins { s3 with heap:=s3.heap.push { cls := .type "slice",data := .fields #[vl,vu,.none] } } σ H3 x v vl vu l u s3.heap.objs.size Q I4 r1 (ZN ..) pl pu q3
 show wpAny (model X.prog X.w) X.A (subscriptTail e (.Slice lo hi none p2) v (.ref s3.heap.objs.size)) (EP X pins σ Q) X.xe { s3 with heap:=s3.heap.push { cls := .type "slice",data := .fields #[vl,vu,.none] } }
 exact tail_any (ops:=[.ref s3.heap.objs.size,v]) ht hT hg (by with_unfolding_all rfl)
noncomputable def dr (xs:List V) (lo hi:Option Int):List V:=(xs.drop (HT.bo xs.length 0 lo)).take (HT.bo xs.length xs.length hi - HT.bo xs.length 0 lo)
theorem EW (xs:List V) (lo hi:Option Int):(dr xs lo hi).length <= xs.length:=by
 unfold dr
 rw[Wn,XM]
 omega
noncomputable def zO (K:PySem.W.Frag):V->Option Int->Option Int->Hp->VK->Prop:=fun x lo hi H Q=>∃ a xs,x = .ref a/\bQ K H a xs ∧
 ¬ (HT.bo xs.length 0 lo=0/\HT.bo xs.length xs.length hi=xs.length)/\∀ p,H p=none->Q (.ref p) (upd H p (.tup (dr xs lo hi)))
theorem Me:nA X (zO X.K):=by
 intro pins s σ H x v vl vu lo hi sl Q I rx hs pl pu h
 obtain⟨a,xs,rfl,hx,hw,q⟩:=h
 cases rx
 obtain⟨ag,r,ht,hz⟩:=I.tuple hx
 have hlen:ag.toArray.size=xs.length:=by rw[Ad];exact r.length.symm
 refine⟨"tuple",_,Wq.lookup,ht.typeIs,?_⟩
 refine HT.L_ ht hs pl pu (by rw[hlen];exact hw) ?_ (by rw[hlen];exact hz)
 rw[hlen]
 refine⟨.ref s.heap.objs.size,_,I.laid (t':=s.toks) (o := .tup (dr xs lo hi)) (fun b ob q=>qw _ q) (wG _) ?_,rfl,q _ (I.aN.fresh (wG _))⟩
 exact⟨WY (EW xs lo hi) hz,_,(r.drop (HT.bo xs.length 0 lo)).take (HT.bo xs.length xs.length hi - HT.bo xs.length 0 lo),IsTup.new _ _⟩
noncomputable def zP (K:PySem.W.Frag):R2:=fun x y H Q=>∃ a b ns ms,x = .ref a/\y = .ref b/\bQ K H a (ns.map V.int)/\bQ K H b (ms.map V.int)/\Q (.bl (HT.lexLt ns ms)) H
theorem Mf (hu:X.A.units < cLine):dE X (compareOp .Lt) (zP X.K):=by
 intro pins s σ H x y v u Q I rx ry h
 obtain⟨a,b,ns,ms,rfl,rfl,ha,hb,q⟩:=h
 cases rx
 cases ry
 obtain⟨ag,r1,p1,_⟩:=I.tuple ha
 obtain⟨bc,r2,p2,_⟩:=I.tuple hb
 have i1:IntsAre ag.toArray.toList ns:=intsAre_of r1
 have i2:IntsAre bc.toArray.toList ms:=intsAre_of r2
 exact HT.EN p1 p2 i1 i2 hu ⟨.bl (HT.lexLt ns ms),H,I,rfl,q⟩
noncomputable def Mg (K:PySem.W.Frag):R2:=fun x y H Q=>∃ a b xs ys,x = .ref a/\y = .ref b/\bQ K H a xs/\bQ K H b ys/\xs≠[]/\xs.length + ys.length <= sizeLine ∧
 (ys=[]->Q (.ref a) H)/\(ys≠[]->∀ p,H p=none->Q (.ref p) (upd H p (.tup (xs ++ ys))))
theorem Vals.fU {xs:List V} {us:List Value} (r:Vals xs us):us=[]↔xs=[]:=by
 cases r with
 | nil=>simp
 | cons _ _=>simp
theorem Mh:dE X (binaryOp .Add) (Mg X.K):=by
 intro pins s σ H x y v u Q I rx ry h
 obtain⟨a,b,xs,ys,rfl,rfl,ha,hb,hx,hz,q1,q2⟩:=h
 cases rx
 cases ry
 obtain⟨ag,r1,p1,_⟩:=I.tuple ha
 obtain⟨bc,r2,p2,_⟩:=I.tuple hb
 refine HT.L5 p1 p2 (fun z=>hx (r1.fU.mp z)) (fun z=>⟨.ref a,H,I,rfl,q1 (r2.fU.mp z)⟩) (fun z => ?_) (by rw[<-r1.length,<-r2.length];exact hz)
 refine⟨.ref s.heap.objs.size,_,I.laid (t':=s.toks) (o := .tup (xs ++ ys)) (fun b ob q=>qw _ q) (wG _) ?_,rfl,q2 (fun w=>z (r2.fU.mpr w)) _ (I.aN.fresh (wG _))⟩
 exact⟨by rw[Vw];exact hz,_,r1.append r2,IsTup.new _ _⟩
end
noncomputable def iU (n:Nat) (i:Int):Option Nat:=if 0 <= i then (if i < n then some i.toNat else none) else if -(n:Int) <= i then some (i + n).toNat else none
noncomputable def dF {α : Type} (xs:List α) (i:Int):Option α := (iU xs.length i).bind fun j=>xs[j]?
theorem EX {n:Nat} {i:Int} {j:Nat} (h:iU n i=some j):seqIndex? i n=some j/\j < n /\ -(n:Int) <= i/\i < n:=by
 unfold iU at h
 by_cases h0:0 <= i
 ·rw[MD h0] at h
  by_cases h1:i < n
  ·rw[MD h1] at h
   have e:i.toNat=j:=Wf h
   exact⟨by rw[seqIndex_of h0 h1,e],by omega,by omega,h1⟩
  ·rw[MA h1] at h;cases h
 ·rw[MA h0] at h
  by_cases h1 : -(n:Int) <= i
  ·rw[MD h1] at h
   have e:(i + n).toNat=j:=Wf h
   exact⟨by rw[seqIndex_neg (by omega) h1,e],by omega,h1,by omega⟩
  ·rw[MA h1] at h;cases h
theorem zQ {α : Type} {xs:List α} {i:Int} {v : α} (h:dF xs i=some v):∃ j,seqIndex? i xs.length=some j/\xs[j]? = some v/\j < xs.length /\ -(xs.length:Int) <= i/\i < xs.length:=by
 unfold dF at h
 cases e:iU xs.length i with
 | none=>rw[e] at h;cases h
 | some j =>
  rw[e] at h
  obtain⟨h1,h2,h3,h4⟩:=EX e
  exact⟨j,h1,h,h2,h3,h4⟩
theorem o7 {α : Type} {xs:List α} {j:Nat} {v : α} (h:xs[j]? = some v):dF xs (j:Int)=some v:=by
 have hj:j < xs.length:=(su.mp h).1
 have e:iU xs.length (j:Int)=some j:=by
  unfold iU
  rw[MD (by omega),MD (by omega)];simp
 unfold dF;rw[e];exact h
noncomputable def zR (b:Expr):Prop:=∀ o i,subscripted b false o i=operate [o,i] (getItem o i)
noncomputable def sk (X:Cx) (r:R2):Prop :=
 ∀ (value slice:Expr) (pins:List (Addr × Obj)) (s:Shared) (σ : St) (H:Hp) (x y:V) (v u:Value) (Q:VK),Inv X pins σ H s->RelV x v->RelV y u->r x y H Q →
  subscripted slice false v u=operate [v,u] (getItem v u)->wpAny (model X.prog X.w) X.A (subscriptTail value slice v u) (EP X pins σ Q) X.xe s
noncomputable def ug (X:Cx) (id:String) (r:V->List V->Hp->VK->Prop):Prop :=
 ∀ (pins:List (Addr × Obj)) (s:Shared) (σ : St) (H:Hp) (x:V) (xs:List V) (v:Value) (us:List Value) (Q:VK),Inv X pins σ H s->RelV x v->Vals xs us->r x xs H Q →
  wpAny (model X.prog X.w) X.A (call (.builtin id) (v :: us)) (EP X pins σ Q) X.xe s
section
variable {X:Cx} {a b:Expr} {ta tb:TE} {pos:Pos}
theorem Mi {r:R2} (hr:sk X r) (ha:PE X a ta) (hb:PE X b tb) (hs:zR b):PE X (.Subscript a b pos) (kW r ta tb):=by
 intro pins s σ H Q I h
 exact Subscript_ (qh ha hb I h fun v u s2 x y H2 I2 rx ry q=>hr a b pins s2 σ H2 x y v u Q I2 rx ry q (hs _ _))
noncomputable def zS (K:PySem.W.Frag):R2:=fun x y H Q=>∃ p xs i v,x = .ref p/\y = .int i/\bx K H p xs/\dF xs i=some v/\Q v H
noncomputable def ql (K:PySem.W.Frag):R2:=fun x y H Q=>∃ p xs i v,x = .ref p/\y = .int i/\bQ K H p xs/\dF xs i=some v/\Q v H
noncomputable def zT:R2:=fun x y H Q=>∃ z i c,x = .str z/\y = .int i/\z.length <= sizeLine/\dF z.cps.toList i=some c/\Q (.str ⟨#[c]⟩) H
theorem EY:sk X (zS X.K):=by
 intro value slice pins s σ H x y v u Q I rx ry h hs
 obtain⟨p,xs,i,z,rfl,rfl,hq,he,q⟩:=h
 cases rx
 obtain⟨t,rfl⟩:=ry
 obtain⟨ag,r,pl,hz⟩:=I.list hq
 obtain⟨j,h1,h2,h3,h4,h5⟩:=zQ he
 obtain⟨w,ew,uh⟩:=r.get h2
 have hl:=r.length
 have hn:=sg
 have fin:EP X pins σ Q w s:=⟨z,H,I,uh,q⟩
 by_cases h0:0 <= i
 ·have hj:i.toNat=j:=by
   rw[seqIndex_of h0 h5] at h1
   exact Wf h1
  exact item_listR pl.isList h0 (by omega) (by rw[hj];simpa using ew) fin hs
 ·have hj:(i + (ag.toArray.size:Int)).toNat=j:=by
   rw[seqIndex_neg (by omega) h4] at h1
   rw[Ad,<-hl]
   exact Wf h1
  exact subscriptTail_builtinR (x:=w) pl.isList.typeIs ZY.lookup
   (wpAny_getItem_list_neg (Q:=fun r s'=>r=w/\EP X pins σ Q r s') pl.isList (by omega) (by rw[Ad]<;>omega) (by omega) (by rw[hj];simpa using ew) ⟨rfl,fin⟩) hs
theorem zU:sk X (ql X.K):=by
 intro value slice pins s σ H x y v u Q I rx ry h hs
 obtain⟨p,xs,i,z,rfl,rfl,hq,he,q⟩:=h
 cases rx
 obtain⟨t,rfl⟩:=ry
 obtain⟨ag,r,pl,hz⟩:=I.tuple hq
 obtain⟨j,h1,h2,h3,h4,h5⟩:=zQ he
 obtain⟨w,ew,uh⟩:=r.get h2
 have hl:=r.length
 have hn:=sg
 have fin:EP X pins σ Q w s:=⟨z,H,I,uh,q⟩
 exact subscriptTail_builtinR (x:=w) pl.typeIs slot_tuple_getitem.lookup
  (getItem_tuple (j:=j) (Q:=fun r s'=>r=w/\EP X pins σ Q r s') pl (by omega) (by omega) (by rw[Ad,<-hl];exact h1) (by simpa using ew) ⟨rfl,fin⟩) hs
theorem Mj:sk X zT:=by
 intro value slice pins s σ H x y v u Q I rx ry h hs
 obtain⟨z,i,c,rfl,rfl,hz,he,q⟩:=h
 obtain⟨t,rfl⟩:=rx
 obtain⟨t',rfl⟩:=ry
 obtain⟨j,h1,h2,h3,h4,h5⟩:=zQ he
 have hl:z.cps.toList.length=z.length:=by simp[Str.length]
 rw[hl] at h1 h4 h5
 have hn:=sg
 exact tail_any (typeIs_str s z t) slot_str_getitem.lookup (getItem_str (c:=c) (by
  have e1:decide (i < -(2 ^ 63:Int))=false:=We (by omega)
  have e2:decide (i ≥ 2 ^ 63)=false:=We (by omega)
  rw[e1,e2,Bool.or_false]) (by rw[h1];simpa using h2) ⟨.str ⟨#[c]⟩,H,I.tok _,⟨_,rfl⟩,q⟩) hs
theorem Ml (ag:List Value) (n j:Nat) (u:Value):Obj.mapSeq (·.setIfInBounds j u) { cls := .type "list",data := .seq ag.toArray n }={ cls := .type "list",data := .seq (ag.set j u).toArray n }:=by
 simp[Obj.mapSeq]
theorem Inv.lst {pins:List (Addr × Obj)} {σ : St} {H:Hp} {s:Shared} {p:Addr} {xs:List V} (I:Inv X pins σ H s) (h:H p=some (.lst xs)) :
  ∃ (ag:List Value) (n:Nat),Vals xs ag/\s.heap.get? p=some { cls := .type "list",data := .seq ag.toArray n }/\xs.length <= sizeLine:=by
 obtain⟨z,ag,n,r,e⟩:=I.aN p _ h
 exact⟨ag,n,r,e,z⟩
theorem Inv.qm {pins:List (Addr × Obj)} {σ : St} {H:Hp} {s:Shared} {p:Addr} {xs ys:List V} {ag its':List Value} {n n':Nat} {f:Obj->Obj} (I:Inv X pins σ H s) (h:H p=some (.lst xs))
  (ho:s.heap.get? p=some { cls := .type "list",data := .seq ag.toArray n }) (hf:f { cls := .type "list",data := .seq ag.toArray n }={ cls := .type "list",data := .seq its'.toArray n' }) (r:Vals ys its') (hz:ys.length <= sizeLine) (t:Nat) :
  Inv X pins σ (upd H p (.lst ys)) { s with heap:=s.heap.update p f,toks:=t }:=by
 have e:(s.heap.update p f).get? p=some { cls := .type "list",data := .seq its'.toArray n' }:=by
  rw[WR f ho (by rw[hf]<;>rfl),hf]
 refine I.write (x:=p) (e:=p) (by rw[h];trivial) (.inl rfl) (fun b u hb q=>(Xg _ _ (XA hb)).trans q) ⟨_,e⟩ ?_
 exact⟨hz,its',n',r,e⟩
noncomputable def EZ:V->V->V->Hp->(Hp->Prop)->Prop:=fun o i v H Q=>∃ p xs k j,o = .ref p/\i = .int k/\H p=some (.lst xs)/\iU xs.length k=some j/\Q (upd H p (.lst (xs.set j v)))
theorem set_list:qe X EZ:=by
 intro pins s σ H o i v ov iv u Q I ro ri rv h
 obtain⟨p,xs,k,j,rfl,rfl,hp,hj,q⟩:=h
 cases ro
 obtain⟨t,rfl⟩:=ri
 obtain⟨ag,n,r,ho,hz⟩:=I.lst hp
 obtain⟨h1,h2,h3,h4⟩:=EX hj
 have hl:=r.length
 have hn:=sg
 have I':Inv X pins σ (upd H p (.lst (xs.set j v))) { s with heap:=s.heap.update p (Obj.mapSeq (·.setIfInBounds j u)) } :=
  I.qm hp ho (Ml ag n j u) (r.set rv j) (by rw[Xo];exact hz) s.toks
 by_cases h0:0 <= k
 ·have hk:k.toNat=j:=by
   rw[seqIndex_of h0 h4] at h1
   exact Wf h1
  exact PySem.W.ki_setAt ho h0 (by omega) (by rw[Ad,<-hl];exact h4) (by rw[hk];exact⟨_,I',q⟩)
 ·have hk:(k + (ag.toArray.size:Int)).toNat=j:=by
   rw[seqIndex_neg (by omega) h3] at h1
   rw[Ad,<-hl]
   exact Wf h1
  exact PySem.W.ki_setBack ho (by omega) (by rw[Ad,<-hl];exact h3) (by omega) (by rw[hk];exact⟨_,I',q⟩)
theorem Mm (lo hi:Option Int) (n:Nat):(sliceBounds lo hi none n).1=((HT.bo n 0 lo:Nat):Int)/\(sliceBounds lo hi none n).2.1=((HT.bo n n hi:Nat):Int)/\(sliceBounds lo hi none n).2.2=1:=by
 refine⟨?_,?_,rfl⟩
 ·cases lo with
  | none=>simp[sliceBounds,HT.bo]
  | some i =>
   simp only[sliceBounds,HT.bo,Zk,show (1:Int) > 0 by decide,Ym]
   by_cases h:i < 0
   ·simp only[h,Ym]<;>omega
   ·simp only[h,W9]<;>omega
 ·cases hi with
  | none=>simp[sliceBounds,HT.bo]
  | some i =>
   simp only[sliceBounds,HT.bo,Zk,show (1:Int) > 0 by decide,Ym]
   by_cases h:i < 0
   ·simp only[h,Ym]<;>omega
   ·simp only[h,W9]<;>omega
theorem Mn (ag:List Value) (lo hi:Option Int):slicePick ag.toArray lo hi none=((ag.drop (HT.bo ag.length 0 lo)).take (HT.bo ag.length ag.length hi - HT.bo ag.length 0 lo)).toArray:=by
 obtain⟨h1,h2,h3⟩:=Mm lo hi ag.toArray.size
 unfold slicePick
 rw[h1,h2,h3]
 simp only[sliceRange_one,pick_run,Ad]<;>rfl
noncomputable def zV (K:PySem.W.Frag):V->Option Int->Option Int->Hp->VK->Prop:=fun x lo hi H Q=>∃ a xs,x = .ref a/\bx K H a xs/\∀ p,H p=none->Q (.ref p) (upd H p (.lst (dr xs lo hi)))
theorem hU:nA X (zV X.K):=by
 intro pins s σ H x v vl vu lo hi sl Q I rx hs pl pu h
 obtain⟨a,xs,rfl,hx,q⟩:=h
 cases rx
 obtain⟨ag,r,ht,hz⟩:=I.list hx
 have hlen:=r.length
 refine⟨"list",_,ZY.lookup,ht.isList.typeIs,?_⟩
 refine wpAny_getItem_list_slice ht.isList hs pl pu .none (by simp) ?_ (by rw[Ad]<;>omega)
 rw[Mn,<-hlen]
 refine⟨.ref s.heap.objs.size,_,I.laid (t':=s.toks) (o := .lst (dr xs lo hi)) (fun b ob q=>qw _ q) (wG _) ?_,rfl,q _ (I.aN.fresh (wG _))⟩
 exact⟨WY (EW xs lo hi) hz,_,0,(r.drop (HT.bo xs.length 0 lo)).take (HT.bo xs.length xs.length hi - HT.bo xs.length 0 lo),MC _ rfl⟩
noncomputable def mz:V->Bool
 | .non=>true
 | .bl _=>true
 | .int _=>true
 | .str _=>true
 | _=>false
noncomputable def kg:V->V->Bool
 | .non,.non=>true
 | .bl a,.bl b=>a == b
 | .bl a,.int b=>(if a then 1 else 0) == b
 | .int a,.bl b=>a == (if b then 1 else 0)
 | .int a,.int b=>a == b
 | .str a,.str b=>a == b
 | _,_=>false
theorem Mo {A:Around} {s:Shared} {y x:V} {u v:Value} (ry:RelV y u) (rx:RelV x v) (fy:mz y=true) (fx:mz x=true):SeqAt.EqAt A s u v (kg y x):=by
 cases y with
 | non =>
  cases ry
  cases x with
  | non=>cases rx;exact Zw _
  | bl b=>cases rx;exact SeqAt.EqAt.none_bool b
  | int b=>obtain⟨t,rfl⟩:=rx;exact SeqAt.EqAt.none_int b t
  | str b=>obtain⟨t,rfl⟩:=rx;exact SeqAt.EqAt.none_str b t
  | _=>exact absurd (show false=true from fx) Vy
 | bl a =>
  cases ry
  cases x with
  | non=>cases rx;exact SeqAt.EqAt.bool_none a
  | bl b=>cases rx;exact SeqAt.EqAt.bool_bool a b
  | int b=>obtain⟨t,rfl⟩:=rx;exact SeqAt.EqAt.bool_int a b t
  | str b=>obtain⟨t,rfl⟩:=rx;exact SeqAt.EqAt.bool_str a b t
  | _=>exact absurd (show false=true from fx) Vy
 | int a =>
  obtain⟨t',rfl⟩:=ry
  cases x with
  | non=>cases rx;exact SeqAt.EqAt.int_none a t'
  | bl b=>cases rx;exact SeqAt.EqAt.int_bool a t' b
  | int b=>obtain⟨t,rfl⟩:=rx;exact ZL a t' b t
  | str b=>obtain⟨t,rfl⟩:=rx;exact ZI a t' b t
  | _=>exact absurd (show false=true from fx) Vy
 | str a =>
  obtain⟨t',rfl⟩:=ry
  cases x with
  | non=>cases rx;exact SeqAt.EqAt.str_none a t'
  | bl b=>cases rx;exact SeqAt.EqAt.str_bool a t' b
  | int b=>obtain⟨t,rfl⟩:=rx;exact ZJ a t' b t
  | str b=>obtain⟨t,rfl⟩:=rx;exact SeqAt.EqAt.str_str a t' b t
  | _=>exact absurd (show false=true from fx) Vy
 | _=>exact absurd (show false=true from fy) Vy
noncomputable def ui (x:V) (u:Value):Bool:=match u with
 | .none=>kg .non x
 | .bool b=>kg (.bl b) x
 | .int i _=>kg (.int i) x
 | .str z _=>kg (.str z) x
 | _=>false
theorem E6 {x y:V} {u:Value} (r:RelV y u) (f:mz y=true):ui x u=kg y x:=by
 cases y with
 | non=>cases r;rfl
 | bl b=>cases r;rfl
 | int i=>obtain⟨t,rfl⟩:=r;rfl
 | str z=>obtain⟨t,rfl⟩:=r;rfl
 | _=>exact absurd (show false=true from f) Vy
theorem E7 {A:Around} {s:Shared} {x:V} {v:Value} (rx:RelV x v) (fx:mz x=true):∀ {xs:List V} {us:List Value},Vals xs us->xs.all mz=true->∀ u∈us,SeqAt.EqAt A s u v (ui x u)
 | _,_,.nil,_=>fun u hu=>by cases hu
 | y :: xs,u :: us,.cons r t,f=>fun u' hu=>by
  rw[YK,Wl] at f
  rcases Fo.mp hu with rfl | hu
  ·rw[E6 r f.1];exact Mo r rx f.1 fx
  ·exact E7 rx fx t f.2 u' hu
theorem E8:g9 X (.builtin "len") (fun xs H Q=>∃ p ys,xs=[.ref p]/\(bx X.K H p ys\/bQ X.K H p ys)/\Q (.int ys.length) H):=by
 intro pins s σ H xs us Q I r h
 obtain⟨p,ys,rfl,hq,q⟩:=h
 obtain⟨u,rfl,rx⟩:=vals1 r
 cases rx
 have hn:=sg
 rcases hq with hq | hq
 ·obtain⟨ag,r',pl,hz⟩:=I.list hq
  have hlen:=r'.length
  exact Calls.call_len_list pl.isList (by simp only[Ad]<;>omega) ⟨.int ys.length,H,I.tok _,⟨s.toks + 1,by rw[Ad,hlen]⟩,q⟩
 ·obtain⟨ag,r',pl,hz⟩:=I.tuple hq
  have hlen:=r'.length
  exact len_tuple pl (by simp only[Ad]<;>omega) ⟨.int ys.length,H,I.tok _,⟨s.toks + 1,by rw[Ad,hlen]⟩,q⟩
theorem Mp:g9 X (.builtin "len") (fun xs H Q=>∃ z,xs=[.str z]/\z.length <= sizeLine/\Q (.int z.length) H):=by
 intro pins s σ H xs us Q I r h
 obtain⟨z,rfl,hz,q⟩:=h
 obtain⟨u,rfl,t,rfl⟩:=vals1 r
 have hn:=sg
 exact len_str (by omega) ⟨.int z.length,H,I.tok _,⟨_,rfl⟩,q⟩
theorem zW:g9 X (.type "list") (fun xs H Q=>∃ p ys,xs=[.ref p]/\(bx X.K H p ys\/bQ X.K H p ys)/\∀ l,H l=none->Q (.ref l) (upd H l (.lst ys))):=by
 intro pins s σ H xs us Q I r h
 obtain⟨p,ys,rfl,hq,q⟩:=h
 obtain⟨u,rfl,rx⟩:=vals1 r
 cases rx
 have fin:∀ (ag:List Value),Vals ys ag->ys.length <= sizeLine->∀ (h':Heap) (c':Nat),(∀ b o',s.heap.get? b=some o'->h'.get? b=some o') →
   h'.get? s.heap.objs.size=some { cls := .type "list",dict:=none,data := .seq ag.toArray c',slots := #[] }->EP X pins σ Q (.ref s.heap.objs.size) { s with heap:=h' }:=fun ag r' hz h' c' kp e =>
  ⟨.ref s.heap.objs.size,_,I.laid (t':=s.toks) kp (wG _) (show aJ X.prog X.w _ h' _ (.lst ys) from ⟨hz,ag,c',r',e⟩),rfl,q _ (I.aN.fresh (wG _))⟩
 rcases hq with hq | hq
 ·obtain⟨ag,r',pl,hz⟩:=I.list hq
  have hlen:=r'.length
  obtain⟨o,ho,hc,n,hd⟩:=pl.isList
  exact call_list_seq p (.inl rfl) ho hc hd (fun h' c' kp e=>fin ag r' hz h' c' kp e) (by simp only[Ad]<;>omega)
 ·obtain⟨ag,r',pl,hz⟩:=I.tuple hq
  have hlen:=r'.length
  obtain⟨o,ho,hc,n,hd⟩:=pl
  exact call_list_seq p (.inr rfl) ho hc hd (fun h' c' kp e=>fin ag r' hz h' c' kp e) (by simp only[Ad]<;>omega)
theorem E9:g9 X (.type "tuple") (fun xs H Q=>∃ p ys,xs=[.ref p]/\((bx X.K H p ys/\∀ l,H l=none->Q (.ref l) (upd H l (.tup ys)))\/(bQ X.K H p ys/\Q (.ref p) H))):=by
 intro pins s σ H xs us Q I r h
 obtain⟨p,ys,rfl,h⟩:=h
 obtain⟨u,rfl,rx⟩:=vals1 r
 cases rx
 rcases h with⟨hq,q⟩ | ⟨hq,q⟩
 ·obtain⟨ag,r',pl,hz⟩:=I.list hq
  have hlen:=r'.length
  refine call_tuple_list pl.isList (fun h' kp => ?_) (by simp only[Ad]<;>omega)
  have I1:Inv X pins σ H { s with heap:=h' }:=I.kept (t':=s.toks) kp
  have I2:Inv X pins σ (upd H h'.objs.size (.tup ys)) { s with heap:=h'.push { cls := .type "tuple",data := .seq ag.toArray } } :=
   I1.laid (t':=s.toks) (fun b o e=>qw _ e) (wG _) (show aJ X.prog X.w _ _ _ (.tup ys) from ⟨hz,ag,r',IsTup.new _ _⟩)
  exact⟨.ref h'.objs.size,_,I2,rfl,q _ (I1.aN.fresh (wG _))⟩
 ·obtain⟨ag,r',pl,hz⟩:=I.tuple hq
  exact call_tuple_same pl ⟨.ref p,H,I,rfl,q⟩
noncomputable def wD (K:PySem.W.Frag) (T:String) (x:V) (H:Hp):Prop:=match x with
 | .str _=>T = "str"
 | .int _=>T = "int"
 | .ref p=>(T = "list" /\ ∃ xs,bx K H p xs)\/(T = "tuple" /\ ∃ o,K.lookup p=some o/\o.cls = .type "tuple" /\ o.dict=none) ∨
   (T = "dict" /\ ((∃ kvs,H p=some (.dK kvs))\/∃ kvs,H p=some (.dT kvs)))\/(T = "set" /\ ∃ S n,H p=some (.set S n))
 | _=>False
theorem E_ {pins:List (Addr × Obj)} {σ : St} {H:Hp} {s:Shared} {T:String} {x:V} {v:Value} (I:Inv X pins σ H s) (r:RelV x v) (ty:wD X.K T x H) :
  s.TypeIs v T/\∀ a,v = .ref a->∃ ob,s.heap.get? a=some ob/\ob.dict=none:=by
 cases x with
 | str z =>
  obtain⟨t,rfl⟩:=r
  cases (show T = "str" from ty)
  exact⟨typeIs_str s z t,fun _ e=>nomatch e⟩
 | int i =>
  obtain⟨t,rfl⟩:=r
  cases (show T = "int" from ty)
  exact⟨typeIs_int s i t,fun _ e=>nomatch e⟩
 | ref p =>
  cases r
  rcases ty with⟨rfl,xs,hq⟩ | ⟨rfl,o,hk,hc,hd⟩ | ⟨rfl,hk⟩ | ⟨rfl,S,n,hk⟩
  ·obtain⟨ag,_,pl,_⟩:=I.list hq
   refine⟨pl.isList.typeIs,fun a e => ?_⟩
   cases e
   obtain⟨o,n,e,c,hd,_⟩:=pl
   exact⟨o,e,hd⟩
  ·refine⟨⟨o,I.iy p o hk,hc⟩,fun a e => ?_⟩
   cases e
   exact⟨o,I.iy _ o hk,hd⟩
  ·have z:∃ o,s.heap.get? p=some o/\o.ExactDict:=by
    rcases hk with⟨kvs,hk⟩ | ⟨kvs,hk⟩
    ·obtain⟨_,_,_,_,o,_,_,e,ex,_⟩:=I.aN p _ hk
     exact⟨o,e,ex⟩
    ·obtain⟨_,_,_,_,o,_,_,e,ex,_⟩:=I.aN p _ hk
     exact⟨o,e,ex⟩
   obtain⟨o,e,ex⟩:=z
   refine⟨⟨o,e,ex.1⟩,fun a e2 => ?_⟩
   cases e2
   exact⟨o,e,ex.2.1⟩
  ·obtain⟨o,_,_,_,e,ex,_⟩:=I.aN p _ hk
   refine⟨⟨o,e,ex.1⟩,fun a e2 => ?_⟩
   cases e2
   exact⟨o,e,ex.2.1⟩
 | _=>exact False.elim ty
noncomputable def qq (K:PySem.W.Frag) (T:String) (r:V->List V->Hp->VK->Prop) (to:TE):TE:=fun σ H Q=>to σ H fun x H1=>wD K T x H1/\r x [] H1 Q
noncomputable def o8 (K:PySem.W.Frag) (T:String) (r:V->List V->Hp->VK->Prop) (to:TE) (t:TA):TE:=fun σ H Q=>to σ H fun x H1=>wD K T x H1/\t σ H1 fun xs H2=>r x xs H2 Q
variable {o e:Expr} {es:List Expr} {to:TE} {t:TA} {name:Str} {apos cN:Pos} {T id:String} {r:V->List V->Hp->VK->Prop}
theorem Mq (pa:PlainAttrs T) (slot:Slot T name id) (qr:typeOf (.builtin id)=pure (.type "method_descriptor")) (hm:ug X id r) (ho:PE X o to)
  (f7:attributeBase o name X.env (eval o X.env)=eval o X.env:=by rfl) (f9:(apos.endLine == cN.line)=true:=by rfl):PE X (.Call (.Attribute o name apos) [] [] cN) (qq X.K T r to):=by
 intro pins s σ H Q I h
 refine wpAny_Call_method0_late f7 f9 (bq (ho pins s σ H _ I h) fun v s1 ⟨x,H1,I1,r1,ty,q1⟩ => ?_)
 obtain⟨h1,h2⟩:=E_ I1 r1 ty
 exact⟨T,id,pa,slot,qr,h1,h2,Calls.callWith_builtin rfl (PySem.evalArgs_none (hm pins s1 σ H1 x [] v [] Q I1 r1 .nil q1))⟩
theorem Mr (pa:PlainAttrs T) (slot:Slot T name id) (qr:typeOf (.builtin id)=pure (.type "method_descriptor")) (hm:ug X id r) (ho:PE X o to) (ha:PA X (e :: es) t)
  (f7:attributeBase o name X.env (eval o X.env)=eval o X.env:=by rfl)
  (qt:((backTo cN (starEach (e :: es) X.env)).all (fun x => !x.1) && (backToKw cN (keywordEach [] X.env)).all (fun x=>x.1.isSome)
   && decide ((e :: es).length + ([]:List Keyword).length + (if ([]:List Keyword).isEmpty then 0 else 1) < 30))=true:=by rfl)
  (f9:(apos.endLine == cN.line)=true:=by rfl) (hs:starEach (e :: es) X.env=(false,eval e X.env) :: starEach es X.env:=by rfl) (hplain:(backTo cN (starEach es X.env)).any (·.1)=false:=by rfl) :
  PE X (.Call (.Attribute o name apos) (e :: es) [] cN) (o8 X.K T r to t):=by
 intro pins s σ H Q I h
 refine wpAny_Call_method_late f7 qt f9 rfl (bq (ho pins s σ H _ I h) fun v s1 ⟨x,H1,I1,r1,ty,q1⟩ => ?_)
 obtain⟨h1,h2⟩:=E_ I1 r1 ty
 refine⟨T,id,pa,slot,qr,h1,h2,?_⟩
 have hA:=ha cN pins s1 σ H1 _ I1 q1
 rw[hs] at hA ⊢
 refine Calls.callWith_builtin (by show (false || (backTo cN (starEach es X.env)).any (·.1))=false;rw[hplain]<;>rfl) (Calls.evalArgs_plain ?_)
 exact bq hA fun us s2 h0_ => el5 h0_ fun vs H2 I2 r2 q2 =>hm pins s2 σ H2 x vs v us Q I2 r1 r2 q2
end
noncomputable def um (X:Cx) (id:String) (r:V->List V->Hp->VK->Prop):Prop :=
 ∀ (pins:List (Addr × Obj)) (s:Shared) (σ : St) (H:Hp) (x:V) (xs:List V) (v:Value) (us:List Value) (Q:VK),Inv X pins σ H s->RelV x v->Vals xs us->r x xs H Q →
  wpAny (model X.prog X.w) X.A (call (.builtin id) (v :: us)) (EP X pins σ Q) X.xe s
theorem Vals.one:∀ {x:V} {us:List Value},Vals [x] us->∃ u,us=[u]/\RelV x u:=by
 intro x us h
 cases h with
 | cons r h=>cases h;exact⟨_,rfl,r⟩
theorem Vals.two:∀ {x y:V} {us:List Value},Vals [x,y] us->∃ u v,us=[u,v]/\RelV x u/\RelV y v:=by
 intro x y us h
 cases h with
 | cons r h =>
  obtain⟨v,rfl,q⟩:=Vals.one h
  exact⟨_,_,rfl,r,q⟩
theorem Vals.zero:∀ {us:List Value},Vals [] us->us=[]
 | _,.nil=>rfl
theorem Vals.eraseIdx:∀ {xs:List V} {us:List Value} (i:Nat),Vals xs us->Vals (xs.eraseIdx i) (us.eraseIdx i)
 | _,_,_,.nil => .nil
 | _,_,0,.cons _ t=>t
 | _,_,i + 1,.cons r t => .cons r (Vals.eraseIdx i t)
theorem Vals.rep {xs:List V} {us:List Value} (h:Vals xs us):∀ k:Nat,Vals (List.replicate k xs).flatten (List.replicate k us).flatten
 | 0 => .nil
 | k + 1=>by
  rw[WV,WV,XY,XY]
  exact Vals.append h (Vals.rep h k)
theorem Fb {α : Type}:∀ (l:List α) (i:Nat),(l.eraseIdx i).length <= l.length
 | [],_=>wG _
 | _ :: _,0=>ZZ _
 | _ :: r,i + 1=>Nat.succ_le_succ (Fb r i)
theorem foldl_rep (ag:List Value):∀ (k:Nat) (acc:List Value),
  List.foldl (fun x1 x2=>x1 ++ x2) acc.toArray (List.replicate k ag.toArray)=(acc ++ (List.replicate k ag).flatten).toArray
 | 0,acc=>by simp
 | k + 1,acc=>by
  have e:acc.toArray ++ ag.toArray=(acc ++ ag).toArray:=by simp
  have e2:(acc ++ ag) ++ (List.replicate k ag).flatten=acc ++ (List.replicate (k + 1) ag).flatten:=by
   rw[WV,XY,XS]
  rw[<-e2,<-foldl_rep ag k (acc ++ ag),<-e,WV,q0q]
section
variable {X:Cx} {pins:List (Addr × Obj)} {σ : St} {H:Hp} {s:Shared} {l b:Addr} {xs ys zs:List V}
theorem Inv.nB {ag its':List Value} {n:Nat} {f:Array Value->Array Value} {t':Nat} (I:Inv X pins σ H s) (hH:H l=some (.lst xs))
  (e:s.heap.get? l=some { cls := .type "list",data := .seq ag.toArray n }) (hf:f ag.toArray=its'.toArray) (hv:Vals ys its') (hz:ys.length <= sizeLine) :
  Inv X pins σ (upd H l (.lst ys)) { s with heap:=s.heap.update l (Obj.mapSeq f),toks:=t' }:=by
 have q:=PySem.IsL.update e f
 rw[hf] at q
 refine I.write (x:=l) (e:=l) (by rw[hH];exact trivial) (.inl rfl) (fun b' u hb hu=>(Xg s.heap (Obj.mapSeq f) (XA hb)).trans hu) ⟨_,q⟩ ?_
 exact⟨hz,its',_,hv,q⟩
theorem Inv.cB {ag:List Value} {t':Nat} (I:Inv X pins σ H s) (hv:Vals ys ag) (hz:ys.length <= sizeLine) :
  Inv X pins σ (upd H s.heap.objs.size (.lst ys)) { s with heap:=s.heap.push { cls := .type "list",data := .seq ag.toArray },toks:=t' } :=
 I.laid (fun _ _ q=>qw _ q) (wG _) ⟨hz,ag,0,hv,MC _ rfl⟩
theorem Inv.fresh (I:Inv X pins σ H s):H s.heap.objs.size=none:=I.aN.fresh (wG _)
theorem Inv.iA (I:Inv X pins σ H s) (hH:H l=some (.lst xs)):xs.length <= sizeLine/\∃ (ag:List Value) (n:Nat),Vals xs ag/\xs.length=ag.length/\s.heap.get? l=some { cls := .type "list",data := .seq ag.toArray n }:=by
 obtain⟨z,ag,n,r,e⟩:=I.aN l _ hH
 exact⟨z,ag,n,r,r.length,e⟩
theorem Fc {n:Nat} (h:n <= sizeLine):Builtin.List.listTooLong n=false:=by
 unfold Builtin.List.listTooLong
 exact We (by omega)
end
section
variable {X:Cx}
noncomputable def zX:V->List V->Hp->VK->Prop:=fun x vs H Q=>∃ l xs y,x = .ref l/\vs=[y]/\H l=some (.lst xs)/\xs.length < sizeLine/\Q .non (upd H l (.lst (xs ++ [y])))
theorem uo:um X "list.append" zX:=by
 intro pins s σ H x vs v us Q I rx rv h
 obtain⟨l,xs,y,rfl,rfl,hH,hz,q⟩:=h
 cases rx
 obtain⟨u,rfl,ru⟩:=rv.one
 obtain⟨z,ag,n,r,hl,e⟩:=I.iA hH
 refine Zl F.slot_list_append ⟨_,e,rfl⟩ F.entry_list_append (F.args_list_append_2 _ _) (PySem.list_append l ag.toArray n u (by rw[Ad];omega)) ⟨e,?_⟩
 refine⟨.non,_,I.nB (its':=ag ++ [u]) hH e (by simp) (r.append (.cons ru .nil)) ?_,rfl,q⟩
 rw[Vw,Wx]
 omega
noncomputable def Fd:V->List V->Hp->VK->Prop:=fun x vs H Q=>∃ l b xs zs,x = .ref l/\vs=[.ref b]/\H l=some (.lst xs)/\H b=some (.lst zs)/\xs.length + zs.length <= sizeLine/\Q .non (upd H l (.lst (xs ++ zs)))
theorem Ms:um X "list.extend" Fd:=by
 intro pins s σ H x vs v us Q I rx rv h
 obtain⟨l,b,xs,zs,rfl,rfl,hH,hB,hz,q⟩:=h
 cases rx
 obtain⟨u,rfl,ru⟩:=rv.one
 cases ru
 obtain⟨z,ag,n,r,hl,e⟩:=I.iA hH
 obtain⟨z2,bc,n2,r2,so,e2⟩:=I.iA hB
 have hsz:ag.toArray.size + bc.toArray.size <= sizeLine:=by rw[Ad,Ad];omega
 have k6:¬ (!ag.toArray.isEmpty && Builtin.List.listTooLong (ag.toArray.size + bc.toArray.size))=true:=by
  rw[Fc hsz,Bool.and_false]
  exact Vy
 refine Zl F.slot_list_extend ⟨_,e,rfl⟩ F.entry_list_extend (F.args_list_extend_2 _ _)
  (AutoSeq1.list_extend_list_list_0 l ag.toArray n b bc.toArray n2 k6 (by rw[Ad];omega) (by omega)) ⟨e,e2,?_⟩
 refine⟨.non,_,I.nB (its':=ag ++ bc) hH e (by simp) (r.append r2) ?_,rfl,q⟩
 rw[Vw]
 omega
noncomputable def Fe:V->List V->Hp->VK->Prop:=fun x vs H Q=>∃ l xs i k y,x = .ref l/\vs=[.int i]/\H l=some (.lst xs) /\ -(2 ^ 63) <= i/\i < 2 ^ 63/\seqIndex? i xs.length=some k/\xs[k]? = some y/\Q y (upd H l (.lst (xs.eraseIdx k)))
theorem Ff:um X "list.pop" Fe:=by
 intro pins s σ H x vs v us Q I rx rv h
 obtain⟨l,xs,i,k,y,rfl,rfl,hH,h1,h2,hk,hy,q⟩:=h
 cases rx
 obtain⟨u,rfl,ru⟩:=rv.one
 obtain⟨t,rfl⟩:=ru
 obtain⟨z,ag,n,r,hl,e⟩:=I.iA hH
 obtain⟨w,hw,uh⟩:=r.get hy
 refine Zl F.slot_list_pop ⟨_,e,rfl⟩ F.entry_list_pop (F.args_list_pop_2 _ _)
  (MeetsSeq.list_pop_at l ag.toArray n i t k w (fitsIndex_both h1 h2) (by rw[Ad,<-hl];exact hk) (by rw[<-Wa];exact hw) (by rw[Ad];omega)) ⟨e,?_⟩
 refine⟨y,_,I.nB (its':=ag.eraseIdx k) hH e ?_ (r.eraseIdx k) ?_,uh,q⟩
 ·show ag.toArray.eraseIdxIfInBounds k=(ag.eraseIdx k).toArray
  rw[List.eraseIdxIfInBounds_toArray]
 ·have:=Fb xs k
  omega
noncomputable def Fg:V->List V->Hp->VK->Prop:=fun x vs H Q=>∃ l xs,x = .ref l/\vs=[]/\H l=some (.lst xs)/\Q .non (upd H l (.lst []))
theorem Mt:um X "list.clear" Fg:=by
 intro pins s σ H x vs v us Q I rx rv h
 obtain⟨l,xs,rfl,rfl,hH,q⟩:=h
 cases rx
 have Mu:=rv.zero
 subst Mu
 obtain⟨z,ag,n,r,hl,e⟩:=I.iA hH
 refine Zl F.slot_list_clear ⟨_,e,rfl⟩ F.entry_list_clear (F.args_list_clear_1 _) (AutoSeq1.list_clear_list_0 l ag.toArray n (by rw[Ad];omega)) ⟨e,?_⟩
 exact⟨.non,_,I.nB (its':=[]) (ys:=[]) hH e rfl .nil (WK _),rfl,q⟩
noncomputable def zY:R2:=fun x y H Q=>∃ l b xs zs,x = .ref l/\y = .ref b/\H l=some (.lst xs)/\H b=some (.lst zs)/\xs.length + zs.length <= sizeLine/\∀ p,H p=none->Q (.ref p) (upd H p (.lst (xs ++ zs)))
theorem Fh:dE X (binaryOp .Add) zY:=by
 intro pins s σ H x y v u Q I rx ry h
 obtain⟨l,b,xs,zs,rfl,rfl,hH,hB,hz,q⟩:=h
 cases rx
 cases ry
 obtain⟨z,ag,n,r,hl,e⟩:=I.iA hH
 obtain⟨z2,bc,n2,r2,so,e2⟩:=I.iA hB
 refine PySem.P.add_list e e2 ?_ (by rw[Ad,Ad];omega)
 have ea:ag.toArray ++ bc.toArray=(ag ++ bc).toArray:=by simp
 rw[ea]
 exact⟨.ref _,_,I.cB (t':=s.toks) (r.append r2) (by rw[Vw];omega),rfl,q _ I.fresh⟩
noncomputable def zZ:R2:=fun x y H Q=>∃ l k xs,x = .ref l/\y = .int k/\H l=some (.lst xs) /\ -(2 ^ 63) <= k/\k < 2 ^ 63/\xs.length * k.toNat <= sizeLine ∧
 ∀ p,H p=none->Q (.ref p) (upd H p (.lst (List.replicate k.toNat xs).flatten))
theorem len_rep {α : Type} (xs:List α) (k:Nat):(List.replicate k xs).flatten.length=k * xs.length:=by
 induction k with
 | zero=>simp
 | succ k ih=>rw[WV,XY,Vw,ih,Nat.succ_mul,Nat.add_comm]
theorem Mv:dE X (binaryOp .Mult) zZ:=by
 intro pins s σ H x y v u Q I rx ry h
 obtain⟨l,k,xs,rfl,rfl,hH,h1,h2,hz,q⟩:=h
 cases rx
 obtain⟨t,rfl⟩:=ry
 obtain⟨z,ag,n,r,hl,e⟩:=I.iA hH
 have hlen:ag.toArray.size * k.toNat <= sizeLine:=by rw[Ad,<-hl];exact hz
 have z_:¬ ag.toArray.size * k.toNat > (2 ^ 63 - 1) / 8:=by
  have:(sizeLine:Nat) <= (2 ^ 63 - 1) / 8:=by decide
  omega
 have Aa:¬ (!Builtin.List.listFitsIndex k)=true:=by
  rw[fitsIndex_both h1 h2]
  exact Vy
 have k6:¬ Builtin.List.listTooLong (ag.toArray.size * k.toNat)=true:=by
  rw[Fc hlen]
  exact Vy
 have Ab:List.foldl (fun x1 x2=>x1 ++ x2) #[] (List.replicate (if ag.toArray.isEmpty=true then 0 else k.toNat) ag.toArray)=(List.replicate k.toNat ag).flatten.toArray:=by
  have f0:∀ m:Nat,List.foldl (fun x1 x2=>x1 ++ x2) #[] (List.replicate m ag.toArray)=(List.replicate m ag).flatten.toArray:=fun m=>by
   have:=foldl_rep ag m []
   rw[List.nil_append] at this
   exact this
  rw[f0]
  cases ag with
  | nil=>simp
  | cons a r'=>rw[MA (by simp)]
 refine wpAny_binaryOp_repeat_ref (T := "list") (U := "int") (by decide) ⟨_,e,rfl⟩ (fun s'=>typeIs_int s' k t) noFill_list_mul F.fills_int_mul F.slot_int_rmul repeat_list F.slot_int_index.lookup
  (Zl F.slot_int_rmul (typeIs_int s k t) F.entry_int_rmul (F.args_int_rmul_2 _ _) (int___rmul___int_list k t l ag.toArray n)
   ⟨e,rfl,⟨_,e,rfl⟩,Zl F.slot_list_mul ⟨_,e,rfl⟩ F.entry_list_mul (F.args_list_mul_2 _ _) (AutoListH.list___mul___list_int_3 l ag.toArray n k t Aa z_ k6) ⟨e,?_⟩⟩)
 rw[Ab]
 exact⟨.ref _,_,I.cB (t':=s.toks) (r.rep k.toNat) (by rw[len_rep,Nat.mul_comm];exact hz),rfl,q _ I.fresh⟩
end
section
variable {prog:Program} {w:World} {A:Around} {E:Value->Shared->Prop} {s:Shared}
end
section
variable {X:Cx}
end
end L2
namespace Att
open PySem PySem.W PySem.Calls PyProof.Rows
theorem fL {P:Params} {h:Heap}:∀ (ns:List Int) (vs:List Value),WellAll P h vs (ns.map WData.int)->IntsAre vs ns:=by
 intro ns
 induction ns with
 | nil =>
  intro vs w
  rw[X1] at w
  cases w
  exact .nil
 | cons n ns ih =>
  intro vs w
  rw[Wb] at w
  cases w with
  | cons a b =>
   cases a
   exact .cons _ _ (ih _ b)
theorem jO {l:OpenLaw} {n:Nat} (hn:l.most=some n) {P:Params} {h:Heap} {args:List WData} {vals:List Value}
  (nD:l.row.toRowW.claim.pre args=true) (Ac:WellAll P h vals args) :
  ∃ a vs ns,vals=[Value.ref a]/\args=[WData.list (ns.map WData.int)]/\h.get? a=some { cls := .type "list",data := .seq vs.toArray }/\IntsAre vs ns/\ns.length <= n:=by
 have Mw:WShape.hasAll [] args [.list .int]=true:=(pre_splitW nD).1
 have hc:l.pre.holds [] { args:=args }=true:=(pre_splitW nD).2
 obtain⟨d,r,rfl,h1,h2⟩:=hasAllW_cons Mw
 obtain rfl:=hasAllW_nil h2
 obtain⟨xs,rfl,h3⟩:=hasW_list h1
 obtain⟨ns,rfl⟩:=items_int h3
 have hlen:ns.length <= n:=by
  unfold OpenLaw.pre at hc
  have h4:(WTm.not (.lt (.lit (.int (n:Int))) (.len (.arg 0)))).holds [] { args:=[.list (ns.map .int)] }=true:=by
   have h4:=(holds_andW hc).1
   rw[hn] at h4
   exact h4
  have h5:=condW_of h4 (w_not (w_lt w_lit (w_len_list (w_arg rfl))))
  rw[qx] at h5
  refine Zf fun q => ?_
  have q':(n:Int) < ((ns.length:Nat):Int):=by omega
  first
   | (rw[V_ q'] at h5;exact absurd h5 (by decide))
   | (simp at h5;omega)
 cases Ac with
 | cons w1 w2 =>
  cases w2
  cases w1 with
  | list ho gx=>exact⟨_,_,ns,rfl,rfl,ho,fL ns _ gx,hlen⟩
theorem jP (l:OpenLaw) (args:List WData):l.row.toRowW.claim.post args (.bool true) args=true :=
 postW_of (r:=l.row.toRowW) (X:=(true == true))
  (show WShape.has [] (.bool true) .bool=true by first | rfl | decide | simp[WShape.has,WShape.arms,WShape.armsAll])
  (show (WTm.eq .res (.lit (.bool true))).value [] { args:=args,res:=some (.bool true),after:=args }=some (.bool (true == true)) from w_eq_bool (w_res rfl) w_lit) rfl
theorem iB {l:OpenLaw} {n:Nat} {q:Program} {loose:List Str} {XP:(Str->Option Value)->Heap->Prop} {YP:World->Heap->Prop} {d:DefRec}
  (hn:l.most=some n) (uq:d.params.defaults=[])
  (call:∀ (w:World) (s₀ s₁ : Shared) (mg mb:Str->Option Value) (fa:Addr) (o:Obj) (pm cd doc:Value) (a:Addr) (vs:List Value) (ns:List Int),
   Ground q loose [] XP w s₀ mg mb s₁.heap->YP w s₁.heap →
   s₁.heap.get? fa=some o->o.data = .func (docDef d.name d.params d.body d.scope pm cd doc)->s₁.heap.CodeRec cd d.name->mg d.name=some (.ref fa) →
   s₁.heap.get? a=some { cls := .type "list",data := .seq vs.toArray }->IntsAre vs ns->ns.length <= n->s₁.gens = #[] →
   codeAny (model l.prog w) callerA (.call (.ref fa) ⟨[.ref a],[]⟩) (fun r s'=>r = .ok (.ret (.bool true))/\OldK s₁.heap s'.heap/\s'.os=s₁.os/\AllBare s'.gens) s₁) :
  WalkO q loose XP YP l.row.toRowW d [] (fun f vs=>PySem.call f vs):=by
 intro w s₀ s₁ mg mb G Y fa o pm cd doc dV kV ho hd fZ hD nE hg args vals as nD Mx Vs Ac Vt
 obtain rfl:dV = .none:=Dflts.none hD uq
 obtain rfl:kV = .none:=Dflts.noKw hD
 obtain⟨a,vs,ns,rfl,rfl,qu,hints,hlen⟩:=jO hn nD Ac
 refine enter_call (YC (call w s₀ s₁ mg mb fa o pm cd doc a vs ns G Y ho (fd_plain hd) fZ nE qu hints hlen hg) fun r s' hq => ?_)
 obtain⟨rfl,h2,h3,h4⟩:=hq
 exact⟨.inl ⟨.bool true,.bool true,[],rfl,fun _=>rfl,.bool true,jP l _,fun _=>⟨List.Pairwise.nil,fun _ hm=>(nomatch hm)⟩⟩,h2,h3,h4⟩
section
variable {prog:Program} {w:World} {A:Around} {E:Value->Shared->Prop} {s:Shared} {K:Frag}
end
end Att
namespace L2
open PySem PySem.Spec PyProof.Rows
theorem Fi:∀ {vs:List Value} {ns:List Int},IntsAre vs ns->Vals (ns.map V.int) vs
 | _,_,.nil => .nil
 | _,_,.cons n t h => .cons ⟨t,rfl⟩ (Fi h)
noncomputable def o9 (s:Stmt):Arguments:=match s with
 | .FunctionDef _ a _ _ _ _ _ _ _ _=>a
 | _=>{ posonlyargs:=[],args:=[],vararg:=none,kwonlyargs:=[],kw_defaults:=[],kwarg:=none,defaults:=[] }
noncomputable def jQ (s:Stmt):List Stmt:=match s with
 | .FunctionDef _ _ b _ _ _ _ _ _ _=>b
 | _=>[]
noncomputable def cb (s:Stmt):Scope:=match s with
 | .FunctionDef _ _ _ _ _ _ sc _ _ _=>sc
 | _=>{ kind := .function,names:=[],isGenerator:=false,isCoroutine:=false }
noncomputable abbrev cz:jM:=fun _ _ _ _ _ _=>False
noncomputable abbrev E0:XK:=fun _ _ _=>False
theorem wH {X:Cx}:wz cz X E0:=fun _ _ _ _ _ _ _ h=>h.elim
structure c_ (K:PySem.W.Frag) (x qual:Str) (st:Stmt) (f:Addr) (fd:FuncData):Prop where
 ex:∃ (oc:Value) (od:Option Addr) (kV doc pm:Value) (an:Option Addr) (bD ct:Value) (nv:Array (Option Value)),
  fd=PySem.W.fnOf x qual (o9 st) (jQ st) (cb st) .none kV doc pm an bD ct/\K.lookup f=some ⟨oc,od,.func fd,nv⟩/\PySem.W.codeIn K bD qual=true
 kp:PySem.W.keepIn K (.ref f)=true
section
variable {P:Program} {w:World} {K:PySem.W.Frag} {mg:Str->Option Value} {base:Heap}
theorem c_.ok {x qual:Str} {st:Stmt} {f:Addr} {fd:FuncData} {N ps:List Str} {k:Nat} {sp:Sp} (F:c_ K x qual st f fd) (S:d5 N ps (cb st)) (len:∀ vs H Q E,sp vs H Q E->vs.length=ps.length)
  (eg:∀ (bD:Value) (A:Around) (outer:List Env) (s:Shared) (H:Hp) (vs:List V) (Q:VK) (E:XK),bG k (A.deeper (envOfC qual (cb st) s.heap.objs.size f bD))->sp vs H Q E →
   ∃ t,iz (gD cz P w K mg base N qual (cb st) f bD A outer s H E).mY (jQ st) t/\t { nx:=fun _ H'=>Q .non H',rt:=Q } (start N vs) H):ba P w K mg base cz (k + 1) f fd ps sp:=by
 obtain⟨oc,od,kV,doc,pm,an,bD,ct,nv,rfl,lk,fZ⟩:=F.ex
 refine EM lk fZ S len fun A outer s H vs Q E hr oY => ?_
 obtain⟨t,h,q⟩:=eg bD A outer s H vs Q E hr oY
 exact⟨t,h.mY,q⟩
theorem c_.binds {x qual:Str} {st:Stmt} {f:Addr} {fd:FuncData} {ps:List Str} (F:c_ K x qual st f fd)
  (h:∀ (kV doc pm:Value) (an:Option Addr) (bD ct:Value) (us:List Value),us.length=ps.length->bindArgs (PySem.W.fnOf x qual (o9 st) (jQ st) (cb st) .none kV doc pm an bD ct) ⟨us,[]⟩=pure (ps.zip us)):Binds K fd ps []:=by
 obtain⟨oc,od,kV,doc,pm,an,bD,ct,nv,rfl,lk,fZ⟩:=F.ex
 exact .all (h kV doc pm an bD ct)
theorem ME {x qual:Str} {st:Stmt} {f:Addr} {oc:Value} {od an:Option Addr} {nv:Array (Option Value)} {kV doc pm bD ct:Value} (l:K.lookup f=some ⟨oc,od,.func (PySem.W.fnOf x qual (o9 st) (jQ st) (cb st) .none kV doc pm an bD ct),nv⟩)
  (c:PySem.W.codeIn K bD qual=true) (k:PySem.W.keepIn K (.ref f)=true):c_ K x qual st f (PySem.W.fnOf x qual (o9 st) (jQ st) (cb st) .none kV doc pm an bD ct):=⟨⟨oc,od,kV,doc,pm,an,bD,ct,nv,rfl,l,c⟩,k⟩
end
theorem o_ {n:Nat} (h:n <= 1000):n < sizeLine:=YT h (by decide)
section
variable {X:Cx}
theorem pv (i:Nat) {x:Str} {pos:Pos} (hN:X.N[i]? = some x:=by rfl) (hv:qa X.env.scope x:=by first | exact Or.inl rfl | exact Or.inr (Or.inl rfl) | exact Or.inr (Or.inr rfl)) (hd:(x == ("__debug__" : Str))=false:=by decide)
  (fZ:(x == ("__classdict__" : Str))=false:=by decide):PE X (.Name x pos) (d7 i):=Ek hN hv hd fZ
end
noncomputable def az (H H':Hp):Prop:=∀ b o,H b=some o->H' b=some o
theorem az.trans {H H1 H2:Hp} (a:az H H1) (b:az H1 H2):az H H2:=fun c o h=>b c o (a c o h)
theorem az.free {H H':Hp} (e:az H H') {l:Addr} (h:H' l=Option.none):H l=Option.none:=by
 cases q:H l with
 | none=>rfl
 | some o =>
  rw[e l o q] at h
  cases h
theorem az.seq {K:PySem.W.Frag} {H H':Hp} {a:Addr} {xs:List V} (e:az H H') (h:bx K H a xs):bx K H' a xs:=by
 rcases h with (h | ⟨o,h⟩) | h
 ·exact .inl (.inl (e _ _ h))
 ·exact .inl (.inr ⟨o,e _ _ h⟩)
 ·exact .inr h
theorem MF {prog:Program} {w:World} {A:Around} {R:Result->Shared->Prop} {s:Shared} {elt target iter:Expr} {ifs:List Expr} {scope:Scope} {pos:Pos} {it acc:Value} {env:Env} (I:Nat->Shared->Prop)
  (turn:∀ n s,I n s->wpAny (model prog w) A (pyNext it) (fun r s₁ => match r with
   | none=>R (.ok .next) s₁
   | some v=>wpAny (model prog w) A (letOwnedTupleGo target it v) (fun _ s₂ => wpAny (model prog w) A (assign target env v) (fun _ s₃ =>
     wpAny (model prog w) A (forIn ifs true fun c r=>if r=true then do let ok <- isTrue c env (eval c env);pure (ForInStep.yield ok) else pure (ForInStep.yield r)) (fun ok s₄ =>
      if ok=true then wpAny (model prog w) A (eval elt env) (fun x s₅ =>
       wpAny (model prog w) A (call (.builtin "list.append") [acc,x]) (fun _ s₆ => ∃ m,m < n/\I m s₆) (fun _ _=>False) s₅) (fun _ _=>False) s₄
      else ∃ m,m < n/\I m s₄) (fun _ _=>False) s₃) (fun _ _=>False) s₂) (fun _ _=>False) s₁) (fun _ _=>False) s)
  (n:Nat) (h:I n s) :
  codeAny (model prog w) A (.compLoop (.ListComp elt [⟨target,iter,ifs,0⟩] scope pos) 0 it acc env) R s:=by
 refine codeAny_loop rfl I (fun n s hI => ?_) n h
 show wpAny _ A ((compTurn (.ListComp elt [⟨target,iter,ifs,0⟩] scope pos) 0 it acc env).onRaise (fun x=>do noteFrame x env;theTreesLotGoes x)) _ _ s
 refine wpAny_noted ?_
 rw[compTurn_list]
 refine nG (Zo (nG (XQ (turn n s hI) (fun r s₁ h₁ => ?_) fun _ _ h'=>False.elim h')))
 cases r with
 | none=>exact uk h₁
 | some v =>
  refine nG (XQ h₁ (fun _ s₂ h₂ => ?_) fun _ _ h'=>False.elim h')
  refine nG (XQ h₂ (fun _ s₃ h₃ => nG (XQ h₃ (fun ok s₄ h₄ => ?_) fun _ _ h'=>False.elim h')) fun _ _ h'=>False.elim h')
  cases ok with
  | false=>exact uk ⟨rfl,h₄⟩
  | true =>
   exact nG (nG (XQ h₄ (fun x s₄ h₄ => nG (XQ h₄ (fun _ s₅ h₅ => uk (uk ⟨rfl,h₅⟩)) fun _ _ h'=>False.elim h')) fun _ _ h'=>False.elim h'))
theorem Ae {env:Env}:∀ (names:List (Str × NameKind)) (acc:List (Str × Addr)),(∀ y∈names,y.2 = .free->∃ c,env.cells.lookup y.1=some c)->(∀ x c,acc.lookup x=some c->env.cells.lookup x=some c) →
  ∃ cl,(forIn names acc (fun (x:Str × NameKind) (cs:List (Str × Addr))=>if x.2 == NameKind.free then cellOf env x.1 >>= fun a=>pure (ForInStep.yield ((x.1,a) :: cs)) else pure (ForInStep.yield cs)):Sem (List (Str × Addr)))=pure cl ∧
   (∀ x c,cl.lookup x=some c->env.cells.lookup x=some c)/\(∀ y∈names,y.2 = .free->∃ c,cl.lookup y.1=some c)/\(∀ x c,acc.lookup x=some c->∃ c,cl.lookup x=some c)
 | [],acc,_,h2=>⟨acc,rfl,h2,fun _ hy=>absurd hy (by simp),fun x c e=>⟨c,e⟩⟩
 | (n,k) :: r,acc,h1,h2=>by
  rw[q0v]
  by_cases hk:k = .free
  ·subst hk
   obtain⟨c,hc⟩:=h1 (n,.free) Mz rfl
   have j_:env.cells.lookup n=some c:=hc
   have ec:cellOf env n=pure c:=by unfold cellOf;rw[j_]
   have iu:∀ x d,((n,c) :: acc).lookup x=some d->env.cells.lookup x=some d:=fun x d e=>by
    rw[Wj] at e
    cases q:x == n with
    | true =>
     rw[q] at e
     cases e
     rw[Xm q];exact j_
    | false =>
     rw[q] at e
     exact h2 x d e
   obtain⟨cl,e,p1,p2,p3⟩:=Ae r ((n,c) :: acc) (fun y hy=>h1 y (MB _ hy)) iu
   refine⟨cl,?_,p1,fun y hy hf => ?_,fun x d e => ?_⟩
   ·dsimp only
    rw[MD (by decide),ec]
    exact e
   ·rcases Fo.mp hy with rfl | hy
    ·exact p3 n c (by simp)
    ·exact p2 y hy hf
   ·cases q:x == n with
    | true=>exact p3 x c (by rw[Wj,q])
    | false=>exact p3 x d (by rw[Wj,q];exact e)
  ·obtain⟨cl,e,p1,p2,p3⟩:=Ae r acc (fun y hy=>h1 y (MB _ hy)) h2
   refine⟨cl,?_,p1,fun y hy hf => ?_,p3⟩
   ·dsimp only
    rw[MA (by simpa using hk)]
    exact e
   ·rcases Fo.mp hy with rfl | hy
    ·exact absurd hf hk
    ·exact p2 y hy hf
theorem Fp {scope:Scope} {env:Env} (h:∀ y∈scope.names,y.2 = .free->∃ c,env.cells.lookup y.1=some c) :
  ∃ cl,closureFor scope env=pure cl/\(∀ x c,cl.lookup x=some c->env.cells.lookup x=some c)/\∀ y∈scope.names,y.2 = .free->∃ c,cl.lookup y.1=some c:=by
 obtain⟨cl,e,p1,p2,_⟩:=Ae scope.names [] h (fun x c e=>by simp at e)
 refine⟨cl,?_,p1,p2⟩
 have e':closureFor scope env=(forIn scope.names ([]:List (Str × Addr)) (fun (x:Str × NameKind) (cs:List (Str × Addr))=>if x.2 == NameKind.free then cellOf env x.1 >>= fun a=>pure (ForInStep.yield ((x.1,a) :: cs)) else pure (ForInStep.yield cs)):Sem (List (Str × Addr))) >>= pure:=rfl
 rw[e',e]
 rfl
structure BD where
 cl:List (Str × Addr)
 C:Addr
 s:Shared
 H:Hp
 fp:List Addr
@[reducible] noncomputable def cO (X:Cx) (scope:Scope) (Nb:List Str) (d:BD):Cx where
 prog:=X.prog
 w:=X.w
 K:=X.K
 mg:=X.mg
 base:=X.base
 A:=X.A
 N:=Nb
 s₀ := d.s
 H₀ := d.H
 env:=compEnvC scope d.cl d.C X.env
 outer:=X.stack
 stack:=X.stack
 ex:=d.fp
 fn:=fun x=>decide (scope.names.lookup x=some .cell)
 calm:=X.calm
 pn:=[]
 xe:=fun _ _=>False
noncomputable def iM (cp:List (Option Nat)) (σ : St):St:=cp.map fun o=>match o with
 | some i=>(σ[i]?).join
 | none=>none
noncomputable def mB (N:List Str) (wI scope:Scope) (Nb:List Str) (cp:List (Option Nat)):Bool :=
 (scope.names.all fun y=>(decide (y.2 ≠ .cell) || decide (scope.names.lookup y.1=some .cell)) && (decide (y.2 ≠ .local) || decide (scope.names.lookup y.1=some .local)) && (decide (y.2 ≠ .free) || decide (wI.names.lookup y.1=some .cell) || decide (wI.names.lookup y.1=some .free))) &&
 decide (cp.length=Nb.length) && (cp.zip Nb).all fun z=>match z.1 with
  | none=>true
  | some i=>decide (N[i]? = some z.2) && decide (scope.names.lookup z.2=some .free)
structure wJ (X:Cx) (scope:Scope) (Nb:List Str) (cp:List (Option Nat)):Prop where
 kind:scope.kind = .function
 cell:∀ y∈scope.names,y.2 = .cell->scope.names.lookup y.1=some .cell
 names:∀ y∈scope.names,y.2 = .local->scope.names.lookup y.1=some .local
 free:∀ y∈scope.names,y.2 = .free->(X.env.kindOf y.1=some .cell\/X.env.kindOf y.1=some .free)
 len:cp.length=Nb.length
 ur:∀ (j i:Nat) (x:Str),cp[j]? = some (some i)->Nb[j]? = some x->X.N[i]? = some x/\scope.names.lookup x=some .free
theorem x1c {X:Cx} {scope:Scope} {Nb:List Str} {cp:List (Option Nat)} (hk:scope.kind = .function) (h:mB X.N X.env.scope scope Nb cp=true):wJ X scope Nb cp:=by
 unfold mB at h
 simp only[Wl,Xw,Bool.or_eq_true,Xs] at h
 obtain⟨⟨h1,h2⟩,h3⟩:=h
 refine⟨hk,fun y hy e=>(h1 y hy).1.1.resolve_left (fun z=>z e),fun y hy e => ?_,fun y hy e => ?_,h2,fun j i x e1 e2 => ?_⟩
 ·rcases (h1 y hy).1.2 with z | z
  ·exact absurd e z
  ·exact z
 ·rcases (h1 y hy).2 with (z | z) | z
  ·exact absurd e z
  ·exact .inl z
  ·exact .inr z
 ·have hm:(some i,x)∈cp.zip Nb:=by
   have:(cp.zip Nb)[j]? = some (some i,x):=by
    rw[List.getElem?_zip_eq_some];exact⟨e1,e2⟩
   exact Wk this
  have:=h3 _ hm
  simpa using this
theorem Af {env:Env} {x:Str}:∀ {names:List (Str × NameKind)} {k:NameKind},names.lookup x=some k →
  (names.map fun (n,k)=>if (k == NameKind.free && env.scope.kind == .function && env.kindOf n == some .cell) then (n,NameKind.cell) else (n,k)).lookup x =
   some (if (k == NameKind.free && env.scope.kind == .function && env.kindOf x == some .cell) then NameKind.cell else k)
 | [],k,h=>by simp at h
 | (n,k') :: r,k,h=>by
  have ih:=@Af env x r k
  show List.lookup x ((if (k' == NameKind.free && env.scope.kind == .function && env.kindOf n == some .cell)=true then (n,NameKind.cell) else (n,k')) :: _)=_
  cases hx:x == n with
  | true =>
   simp only[Wj,hx] at h
   cases h
   have e:x=n:=Xm hx
   subst e
   by_cases hc:(k' == NameKind.free && env.scope.kind == .function && env.kindOf x == some .cell)=true
   ·rw[MD hc,MD hc];simp[Wj]
   ·rw[MA hc,MA hc];simp[Wj]
  | false =>
   simp only[Wj,hx] at h
   by_cases hc:(k' == NameKind.free && env.scope.kind == .function && env.kindOf n == some .cell)=true
   ·rw[MD hc];simp only[Wj,hx];exact ih h
   ·rw[MA hc];simp only[Wj,hx];exact ih h
theorem Fq {env:Env} {x:Str}:∀ {names:List (Str × NameKind)},names.lookup x=none →
  (names.map fun (n,k)=>if (k == NameKind.free && env.scope.kind == .function && env.kindOf n == some .cell) then (n,NameKind.cell) else (n,k)).lookup x=none
 | [],h=>by simp
 | (n,k') :: r,h=>by
  have ih:=@Fq env x r
  show List.lookup x ((if (k' == NameKind.free && env.scope.kind == .function && env.kindOf n == some .cell)=true then (n,NameKind.cell) else (n,k')) :: _)=_
  cases hx:x == n with
  | true=>simp only[Wj,hx] at h;cases h
  | false =>
   simp only[Wj,hx] at h
   by_cases hc:(k' == NameKind.free && env.scope.kind == .function && env.kindOf n == some .cell)=true
   ·rw[MD hc];simp only[Wj,hx];exact ih h
   ·rw[MA hc];simp only[Wj,hx];exact ih h
noncomputable def PF (X:Cx) (ifs:List Expr) (t:TT):Prop :=
 ∀ (pins:List (Addr × Obj)) (s:Shared) (σ : St) (H:Hp) (Q:Bool->Hp->Prop),Inv X pins σ H s->t σ H Q →
  wpAny (model X.prog X.w) X.A (forIn ifs true fun c r=>if r=true then do let ok <- isTrue c X.env (eval c X.env);pure (ForInStep.yield ok) else pure (ForInStep.yield r)) (TP X pins σ Q) X.xe s
noncomputable def uu:TT:=fun _ H Q=>Q true H
theorem MG {X:Cx}:PF X [] uu:=fun _ _ _ H _ I h=>wpAny_tests_nil ⟨H,I,h⟩
theorem MH {X:Cx} {c:Expr} {t:TT} (h:PT X c t):PF X [c] t:=fun pins s σ H Q I hw=>wpAny_tests_one (h pins s σ H Q I hw)
noncomputable def MI (g:TG) (tf:TT) (te:TE) (l:Addr) (x:V) (τ : St) (H:Hp) (N:St->Hp->Prop):Prop :=
 g x τ H fun τ2 H2=>tf τ2 H2 fun b H3=>if b=true then te τ2 H3 fun y H4=>∃ ys,H4 l=some (.lst ys)/\ys.length < sizeLine/\N τ2 (upd H4 l (.lst (ys ++ [y]))) else N τ2 H3
noncomputable def Fs (J:It) (g:TG) (tf:TT) (te:TE) (l:Addr) (τ0:St) (H0:Hp) (Q:VK):Prop :=
 ∃ W:Nat->Nat->St->Hp->Prop,(∃ m,W 0 m τ0 H0)/\∀ i m τ H,W i m τ H →
  (J.stop i H/\Q (.ref l) H)\/(J.go i H/\∃ N:St->Hp->Prop,(∀ τ' H',N τ' H'->∃ m',m' < m/\W (i + 1) m' τ' H')/\∀ x H',J.sd i H x H'->MI g tf te l x τ H' N)
noncomputable def qy (wi:TI) (cp:List (Option Nat)) (g:BD->TG) (tf:BD->TT) (te:BD->TE):TE:=fun σ H Q=>wi σ H fun J H1=>∀ (d:BD) (l:Addr),H1 l=none->Fs J (g d) (tf d) (te d) l (iM cp σ) (upd H1 l (.lst [])) Q
theorem sv:∀ {names:List (Str × NameKind)} {n:Nat} {acc:List (Str × Addr)} {x:Str} {c:Addr},(cellsFrom n names acc).lookup x=some c->acc.lookup x=some c\/(n <= c/\(x,NameKind.cell)∈names)
 | [],n,acc,x,c,h => .inl h
 | (y,k) :: r,n,acc,x,c,h=>by
  unfold cellsFrom at h
  split at h
  ·rename_i hk
   have ek:k = .cell:=Xm hk
   subst ek
   rcases sv h with h | ⟨h,m⟩
   ·rw[Wj] at h
    cases q:x == y with
    | true=>rw[q] at h;cases h;rw[Xm q];exact .inr ⟨wG _,Mz ..⟩
    | false=>rw[q] at h;exact .inl h
   ·exact .inr ⟨by omega,MB _ m⟩
  ·rcases sv h with h | ⟨h,m⟩
   ·exact .inl h
   ·exact .inr ⟨h,MB _ m⟩
theorem Ag:∀ {names:List (Str × NameKind)} {n:Nat} {acc:List (Str × Addr)} {x:Str} {c:Addr},(x,NameKind.cell)∈names->(cellsFrom n names acc).lookup x=some c->n <= c
 | [],n,acc,x,c,m,h=>by cases m
 | (y,k) :: r,n,acc,x,c,m,h=>by
  unfold cellsFrom at h
  by_cases mr:(x,NameKind.cell)∈r
  ·split at h
   ·have:=Ag mr h;omega
   ·exact Ag mr h
  ·have e:(x,NameKind.cell)=(y,k):=by
    rcases Fo.mp m with e | e
    ·exact e
    ·exact absurd e mr
   cases e
   rw[MD (by decide)] at h
   rcases sv h with h | ⟨h,_⟩
   ·rw[Wj,beq_self_eq_true] at h
    cases h;exact wG _
   ·omega
theorem Ah:∀ {names:List (Str × NameKind)} {n:Nat} {acc:List (Str × Addr)} {x y:Str} {c:Addr},(∀ u v c,acc.lookup u=some c->acc.lookup v=some c->u=v)->(∀ u c,acc.lookup u=some c->c < n)->(cellsFrom n names acc).lookup x=some c->(cellsFrom n names acc).lookup y=some c->x=y
 | [],n,acc,x,y,c,hi,_,h1,h2=>hi x y c h1 h2
 | (z,k) :: r,n,acc,x,y,c,hi,hb,h1,h2=>by
  unfold cellsFrom at h1 h2
  split at h1
  ·rename_i hk
   rw[MD hk] at h2
   refine Ah (fun u v c q1 q2 => ?_) (fun u c q => ?_) h1 h2
   ·rw[Wj] at q1 q2
    cases e1:u == z with
    | true =>
     rw[e1] at q1;cases q1
     cases e2:v == z with
     | true=>rw[Xm e1,Xm e2]
     | false=>rw[e2] at q2;exact absurd (hb v _ q2) (XB _)
    | false =>
     rw[e1] at q1
     cases e2:v == z with
     | true=>rw[e2] at q2;cases q2;exact absurd (hb u _ q1) (XB _)
     | false=>rw[e2] at q2;exact hi u v c q1 q2
   ·rw[Wj] at q
    cases e1:u == z with
    | true=>rw[e1] at q;cases q;exact XJ _
    | false=>rw[e1] at q;exact WC (hb u c q)
  ·rename_i hk
   rw[MA hk] at h2
   exact Ah hi hb h1 h2
theorem Ai:∀ {names:List (Str × NameKind)} {n:Nat} {acc:List (Str × Addr)} {x:Str},(x,NameKind.cell)∉names->(cellsFrom n names acc).lookup x=acc.lookup x
 | [],n,acc,x,_=>rfl
 | (y,k) :: r,n,acc,x,m=>by
  unfold cellsFrom
  split
  ·rename_i hk
   have ek:k = .cell:=Xm hk
   subst ek
   rw[Ai fun z=>m (MB _ z),Wj]
   cases q:x == y with
   | true=>exact absurd (by rw[Xm q];exact Mz ..) m
   | false=>rfl
  ·exact Ai fun z=>m (MB _ z)
theorem Aj:∀ {names:List (Str × NameKind)} {h:Heap} {acc:List (Str × Addr)} {x:Str} {c:Addr},(∀ u c,acc.lookup u=some c->∃ v,h.IsCell c v)->(cellsFrom h.objs.size names acc).lookup x=some c->∃ v,(pushCells h names).IsCell c v
 | [],h,acc,x,c,hc,e=>hc x c e
 | (y,k) :: r,h,acc,x,c,hc,e=>by
  unfold cellsFrom at e
  unfold pushCells
  split at e
  ·rename_i hk
   rw[MD hk]
   have hz:(h.push { cls := .type "cell",data := .cell none }).objs.size=h.objs.size + 1:=Xh ..
   rw[<-hz] at e
   refine Aj (fun u c q => ?_) e
   rw[Wj] at q
   cases e1:u == y with
   | true=>rw[e1] at q;cases q;exact⟨none,_,MC _ rfl,rfl⟩
   | false =>
    rw[e1] at q
    obtain⟨v,o,g1,g2⟩:=hc u c q
    exact⟨v,o,qw _ g1,g2⟩
  ·rename_i hk
   rw[MA hk]
   exact Aj hc e
theorem MJ {M:Model} {A:Around} {E:Value->Shared->Prop} {s:Shared} {scope:Scope} {g:Addr} {cl:List (Str × Addr)} {qual:Str} {env:Env} {Q:Env->Shared->Prop}
  (h:Q (newEnv scope s.heap.objs.size g (cellsFrom (s.heap.objs.size + 1) scope.names cl) qual none .none (some env) builtinsNs) { s with heap:=pushCells (s.heap.push { cls := .type "dict",data := .dict #[] }) scope.names }) :
  wpAny M A (newFunctionEnv scope g cl [] qual none .none (some env)) Q E s:=by
 simp only[newFunctionEnv,Option.isSome_some,Ym]
 refine nG (wpAny_alloc ?_)
 refine nG (wpAny_layCells _ (fun name kind cells=>by cases MK:kind == NameKind.cell<;>simp[MK]) _ _ _ _ ?_)
 rw[show ({ s with heap:=s.heap.push { cls := .type "dict",data := .dict #[] } }:Shared).heap.objs.size=s.heap.objs.size + 1 from Xh ..]
 refine nG ?_
 rw[q0J]
 exact uk (uk h)
section
variable {X:Cx} {elt tg iter:Expr} {ifs:List Expr} {scope:Scope} {pos:Pos} {Nb:List Str} {cp:List (Option Nat)} {wi:TI} {g:BD->TG} {tf:BD->TT} {te:BD->TE}
variable {pins:List (Addr × Obj)} {σ : St} {H:Hp} {s:Shared}
noncomputable abbrev uv (scope:Scope) (s:Shared) (cl:List (Str × Addr)):List (Str × Addr):=cellsFrom (s.heap.objs.size + 1) scope.names cl
theorem ML {fp:List Addr} {cl:List (Str × Addr)} (S:wJ X scope Nb cp) (I:Inv X pins σ H s) (hf:∀ b∈fp,bC X pins H b) (ho:∀ b∈fp,∃ o,s.heap.get? b=some o)
  (c1:∀ x c,cl.lookup x=some c->X.env.cells.lookup x=some c) (c2:∀ y∈scope.names,y.2 = .free->∃ c,cl.lookup y.1=some c):(cO X scope Nb ⟨uv scope s cl,s.heap.objs.size,s,H,fp⟩).Ok:=by
 have MM:∀ b∈fp,b∉j9 X.stack:=fun b hb z=>by
  obtain⟨_,f1,f2,_⟩:=hf b hb
  rcases Fo.mp (I.g7 b z) with e | e
  ·exact f1 e
  ·exact f2 e
 have lt:∀ u c,cl.lookup u=some c->c < s.heap.objs.size:=fun u c e=>by
  obtain⟨v,q⟩:=I.cell u c (c1 _ _ e)
  exact q.lt
 refine⟨I.ok.mod,?_,I.ok.glob,I.ok.blt,wG _,fun x y c h1 h2 => ?_,fun x hx => ?_,fun x c h hc => ?_,I.ok.hd,I.ok.frames,.inl rfl,fun b hb=>⟨?_,fun x c e => ?_⟩,I.bs,WY I.ok.oV I.sz,fun b o e hb => ?_,MM,I.stack,I.jr⟩
 ·exact S.kind
 ·exact Ah (fun u v c q1 q2=>I.ok.inj u v c (c1 _ _ q1) (c1 _ _ q2)) (fun u c e=>WC (lt u c e)) h1 h2
 ·cases q:scope.names.lookup x with
  | none =>
   have z:(relabel scope X.env).names.lookup x=none:=Fq q
   have kh:(relabel scope X.env).names.lookup x=some .cell\/(relabel scope X.env).names.lookup x=some .free:=hx
   rw[z] at kh
   rcases kh with h | h<;>cases h
  | some k =>
   have hm:=Xi q
   have z:(relabel scope X.env).names.lookup x=_:=Af (env:=X.env) q
   have kh:(relabel scope X.env).names.lookup x=some .cell\/(relabel scope X.env).names.lookup x=some .free:=hx
   rw[z] at kh
   have kf:k = .free\/k = .cell:=by
    by_cases hk:k = .free
    ·exact .inl hk
    ·have:(k == NameKind.free)=false:=by simpa using hk
     simp only[this,q0I,V6,W9] at kh
     rcases kh with h | h
     ·exact .inr (Wf h)
     ·exact absurd (Wf h) hk
   refine Yi.mp (Y8 scope.names _ cl ?_)
   rcases kf with rfl | rfl
   ·obtain⟨c,e⟩:=c2 (x,.free) hm rfl
    exact .inr (by rw[show cl.lookup x=some c from e];rfl)
   ·exact .inl q
 ·have hl:scope.names.lookup x=some .cell:=XT h
  have:=Ag (Xi hl) hc
  exact Nat.le_of_succ_le this
 ·obtain⟨o,e⟩:=ho b hb
  exact Vx (My e)
 ·rcases sv e with e | ⟨e,_⟩
  ·exact (hf b hb).2.2.2.2.1 x c (c1 _ _ e)
  ·obtain⟨o,eo⟩:=ho b hb
   have Ak:=My eo
   intro z
   subst z
   exact absurd (Nat.lt_of_succ_le e) (Nat.not_lt.mpr (Xj Ak))
 ·rcases (hf b hb).2.2.2.1 with z | z
  ·exact I.ok.kP b o e z
  ·exact absurd (V8 (My (I.ok.bs b o e).1) z) (XB _)
theorem MN {cp:List (Option Nat)} {σ : St} {j:Nat} {v:V} (h:(iM cp σ)[j]? = some (some v)):∃ i,cp[j]? = some (some i) /\ σ[i]? = some (some v):=by
 unfold iM at h
 rw[Fl] at h
 cases e:cp[j]? with
 | none=>rw[e] at h;cases h
 | some o =>
  rw[e] at h
  cases o with
  | none=>cases h
  | some i =>
   refine⟨i,rfl,?_⟩
   have h':(σ[i]?).join=some v:=Wf h
   cases q : σ[i]? with
   | none=>rw[q] at h';cases h'
   | some z =>
    rw[q] at h'
    have:z=some v:=h'
    rw[this]
theorem MO {fp:List Addr} {cl:List (Str × Addr)} {h1:Heap} {tk:Nat} (S:wJ X scope Nb cp) (I:Inv X pins σ H s) (hf:∀ b∈fp,bC X pins H b) (ho:∀ b∈fp,∃ o,s.heap.get? b=some o)
  (c1:∀ x c,cl.lookup x=some c->X.env.cells.lookup x=some c) (c2:∀ y∈scope.names,y.2 = .free->∃ c,cl.lookup y.1=some c)
  (hn:h1.Ns s.heap.objs.size (fun x=>([]:List (Str × Value)).reverse.lookup x)) (hk:∀ b o,s.heap.get? b=some o->h1.get? b=some o) (ny:∀ x c,(uv scope s cl).lookup x=some c->∃ v,h1.IsCell c v) :
  Inv (cO X scope Nb ⟨uv scope s cl,s.heap.objs.size,s,H,fp⟩) [] (iM cp σ) H { s with heap:=h1,toks:=tk }:=by
 refine⟨ML S I hf ho c1 c2,rfl,I.bare,Un.kept hk,⟨_,hn,fun j x v e1 e2 e3 => ?_⟩,ny,I.aN.fresh (wG _),fun x c e => ?_,fun p hp=>absurd (show p∈([]:List (Addr × Obj)) from hp) (by simp),I.aN.kept hk,?_⟩
 ·obtain⟨i,q1,q2⟩:=MN e2
  obtain⟨q3,q4⟩:=S.ur j i x q1 e1
  have hm:=Xi q4
  have pd:=S.free _ hm rfl
  obtain⟨m,_,hl⟩:=I.loc
  have MP:qa X.env.scope x:=by
   rcases pd with h | h
   ·exact .inr (.inl h)
   ·exact .inr (.inr h)
  obtain⟨u,ru,lk⟩:=hl i x v q3 q2 MP
  refine⟨u,ru,?_⟩
  have nl:X.env.kindOf x≠some .local:=by
   rcases pd with h | h
   ·intro z;rw[h] at z;cases z
   ·intro z;rw[h] at z;cases z
  rcases lk with⟨k,_⟩ | ⟨_,c,ec,hc⟩
  ·exact absurd k nl
  ·obtain⟨c',Ft⟩:=c2 (x,.free) hm rfl
   have Fu:=c1 _ _ Ft
   rw[ec] at Fu;cases Fu
   have nc:(x,NameKind.cell)∉scope.names:=fun z=>by have:=S.cell _ z rfl;rw[show scope.names.lookup x=some .free from q4] at this;cases this
   refine .inr ⟨?_,c,(Ai nc).trans Ft,?_⟩
   ·have z:(relabel scope X.env).names.lookup x=_:=Af (env:=X.env) q4
    show (relabel scope X.env).names.lookup x=some .cell\/(relabel scope X.env).names.lookup x=some .free
    rw[z]
    split
    ·exact .inl rfl
    ·exact .inr rfl
   ·obtain⟨o,e,d⟩:=hc
    exact⟨o,hk _ _ e,d⟩
 ·rcases sv e with e | ⟨e,_⟩
  ·exact I.c6 x c (c1 _ _ e)
  ·exact I.aN.fresh (Nat.le_of_succ_le e)
 ·unfold iM
  rw[qx]
  exact S.len
theorem MQ {fp:List Addr} {d:BD} {it l:Addr} {tn:Nat->Heap->Prop} {J:It} {R:Result->Shared->Prop} {Q:VK} {H1:Hp} {s1:Shared} {τ : St} (hc:X.calm=true)
  (hg:PG (cO X scope Nb d) tg (g d)) (hf:PF (cO X scope Nb d) ifs (tf d)) (he:PE (cO X scope Nb d) elt (te d)) (T:Turn X.prog X.w X.K tg J fp it tn)
  (VA:d.fp=fp) (I1:Inv (cO X scope Nb d) [] τ H1 s1) (kU:tn 0 s1.heap) (Fv:∀ b∈fp,bC (cO X scope Nb d) [] H1 b)
  (W:Nat->Nat->St->Hp->Prop) (w0:∃ m,W 0 m τ H1)
  (turn:∀ i m τ H,W i m τ H->(J.stop i H/\Q (.ref l) H)\/(J.go i H/\∃ N:St->Hp->Prop,(∀ τ' H',N τ' H'->∃ m',m' < m/\W (i + 1) m' τ' H')/\∀ x H',J.sd i H x H'->g d x τ H' fun τ2 H2=>tf d τ2 H2 fun b H3 =>
   if b=true then te d τ2 H3 fun y H4=>∃ ys,H4 l=some (.lst ys)/\ys.length < sizeLine/\N τ2 (upd H4 l (.lst (ys ++ [y]))) else N τ2 H3))
  (fin:∀ τ' H' s',Inv (cO X scope Nb d) [] τ' H' s'->Q (.ref l) H'->R (.ok .next) s') :
  codeAny (model X.prog X.w) X.A (.compStart (.ListComp elt [⟨tg,iter,ifs,0⟩] scope pos) 0 (.ref it) (.ref l) (compEnvC scope d.cl d.C X.env)) R s1:=by
 have iR:∀ {H':Hp},(∀ b∈fp,H' b=none)->∀ b∈fp,bC (cO X scope Nb d) [] H' b:=fun hn b hb=>⟨hn b hb,(Fv b hb).2⟩
 have loop:codeAny (model X.prog X.w) X.A (.compLoop (.ListComp elt [⟨tg,iter,ifs,0⟩] scope pos) 0 (.ref it) (.ref l) (compEnvC scope d.cl d.C X.env)) R s1:=by
  obtain⟨m0,w0⟩:=w0
  refine MF (fun n s'=>∃ i τ' H',Inv (cO X scope Nb d) [] τ' H' s'/\tn i s'.heap/\(∀ b∈fp,H' b=none)/\W i n τ' H') ?_ m0 ⟨0,τ,H1,I1,kU,fun b hb=>(Fv b hb).1,w0⟩
  rintro n s3 ⟨i,σ3,H3,I3,ka,tX,w3⟩
  rcases turn i n σ3 H3 w3 with⟨stop,qn⟩ | ⟨go,N,hN,step⟩
  ·refine bq (T.done (cO X scope Nb d) rfl rfl rfl hc i [] s3 σ3 H3 (fun _ _=>False) I3 (iR tX) ka stop) fun r s4 ⟨hr,I4⟩ => ?_
   subst hr
   exact fin σ3 H3 s4 I4 qn
  ·refine bq (T.item (cO X scope Nb d) rfl rfl rfl hc i [] s3 σ3 H3 (fun _ _=>False) I3 (iR tX) ka go) fun r s4 ⟨u,hr,h4⟩ => ?_
   subst hr
   refine bq h4 fun _ s5 ⟨x,H5,I5,r5,y5,qg,zE⟩ => ?_
   have zF:=I5.pinned (iR zE) (T.obj _ _ qg)
   refine bq (hg _ s5 σ3 H5 x u _ zF r5 (step x H5 y5)) fun _ s6 ⟨σ6,H6,I6,q6⟩ => ?_
   have again:∀ {σ7:St} {H7:Hp} {s7:Shared} {m':Nat},Inv (cO X scope Nb d) ([] ++ tW fp s5.heap) σ7 H7 s7->m' < n->W (i + 1) m' σ7 H7->∃ m,m < n/\∃ i σ' H',Inv (cO X scope Nb d) [] σ' H' s7/\tn i s7.heap/\(∀ b∈fp,H' b=none)/\W i m σ' H':=fun {σ7 H7 s7 m'} I7 hm w7=>by
    refine⟨m',hm,i + 1,σ7,H7,I7.d9,T.keep _ _ _ qg fun b hb o e=>(I7.pin (b,o) (V9 _ (V9 _ (wu hb e)))).1,fun b hb => ?_,w7⟩
    obtain⟨o,e,d⟩:=T.obj _ _ qg b hb
    exact (I7.pin (b,o) (V9 _ (V9 _ (wu hb e)))).2.1
   refine bq (hf _ s6 σ6 H6 _ I6 q6) fun ok s7 h0_ => el3 h0_ fun H7 I7 q7 => ?_
   cases ok with
   | false =>
    rw[MA Vy] at q7 ⊢
    obtain⟨m',hm,w7⟩:=hN _ _ q7
    exact again I7 hm w7
   | true =>
    rw[MD rfl] at q7 ⊢
    refine bq (he _ s7 σ6 H7 _ I7 q7) fun y s8 ⟨yv,H8,I8,r8,ys,hy,hz,q8⟩ => ?_
    obtain⟨m',hm,w8⟩:=hN _ _ q8
    refine bq (uo _ s8 σ6 H8 (.ref l) [yv] (.ref l) [y] (fun _ H9=>H9=upd H8 l (.lst (ys ++ [yv]))) I8 rfl (.cons r8 .nil) ⟨l,ys,yv,rfl,rfl,hy,hz,rfl⟩) fun _ s9 h0_ => el5 h0_ fun _ H9 I9 _ e9 => ?_
    subst e9
    exact again I9 hm w8
 exact codeAny_compStart_list loop (T.self _ 0 s1 _ _ kU loop)
theorem MR {fp:List Addr} {d:BD} {τ : St} {H1 H':Hp} {s1 s':Shared} (I1:Inv X pins σ H1 s1) (hs:d.s=s1) (hH:d.H=H1) (hd:d.fp=fp) (hf:∀ b∈fp,bC X pins H1 b) (J:Inv (cO X scope Nb d) [] τ H' s'):Inv X pins σ H' s':=by
 subst hs hH hd
 exact I1.tO (ch:=d.fp) J.os J.base J.aN J.bare fun b hb=>⟨(hf b hb).2.2.2.1,(hf b hb).2.1,(hf b hb).2.2.2.2.1,(hf b hb).2.2.2.2.2⟩
theorem Fw {use:Option (Value->Sem Unit)} {P:Value->Shared->Prop} {Q:VK} (hc:X.calm=true) (S:wJ X scope Nb cp) (hi:PI X tg iter wi) (hg:∀ d,PG (cO X scope Nb d) tg (g d)) (hf:∀ d,PF (cO X scope Nb d) ifs (tf d)) (he:∀ d,PE (cO X scope Nb d) elt (te d))
  (hs:∀ x,foldedSetIterable iter X.env x=pure x) (I:Inv X pins σ H s) (h:qy wi cp g tf te σ H Q)
  (fin:∀ (l C:Addr) (H':Hp) (s':Shared) (m:Str->Option Value),Inv X pins σ H' s'->bC X pins H' C->(∀ p c,X.env.cells.lookup p=some c->c≠C)->s'.heap.Ns C m->Q (.ref l) H'->compPost (model X.prog X.w) X.A X.xe use P (.ref l) C (.ok .next) s') :
  wpAny (model X.prog X.w) X.A (comprehension (.ListComp elt [⟨tg,iter,ifs,0⟩] scope pos) scope X.env (firstIterPos [⟨tg,iter,ifs,0⟩] pos) (newList []) false (eval iter X.env) use) P X.xe s:=by
 obtain⟨cl,MS,c1,c2⟩:=Fp (scope:=scope) (env:=X.env) fun y hy MT=>by
  rcases S.free y hy MT with z | z
  ·exact I.ok.has _ (.inl z)
  ·exact I.ok.has _ (.inr z)
 refine wpAny_comprehension_free (cl:=cl) rfl hs MS S.kind S.names (bq (hi pins s σ H _ I h) fun v s1 h1=>bq h1 fun zC s2 h2 => ?_)
 obtain⟨it,fp,tn,J,H2,e,I2,T,g6,f2,q2⟩:=h2
 subst e
 refine Wz ?_
 have hl:H2 s2.heap.objs.size=none:=I2.fresh
 have I3:Inv X pins σ (upd H2 s2.heap.objs.size (.lst [])) { s2 with heap:=s2.heap.push { cls := .type "list",data := .seq ([]:List Value).toArray } }:=I2.cB (t':=s2.toks) (ys:=[]) .nil (WK _)
 have k3:∀ b o,s2.heap.get? b=some o->(s2.heap.push { cls := .type "list",data := .seq ([]:List Value).toArray }).get? b=some o:=fun b o e=>qw _ e
 have f3:∀ b∈fp,bC X pins (upd H2 s2.heap.objs.size (.lst [])) b:=fun b hb=>by
  obtain⟨o,e,_⟩:=T.obj _ _ g6 b hb
  refine⟨?_,(f2 b hb).2⟩
  rw[aO (Vx (My e))]
  exact (f2 b hb).1
 generalize MU:upd H2 s2.heap.objs.size (.lst [])=H3 at I3 f3
 generalize MV:({ s2 with heap:=s2.heap.push { cls := .type "list",data := .seq ([]:List Value).toArray } }:Shared)=s3 at I3
 have Fx:∀ b o,s2.heap.get? b=some o->s3.heap.get? b=some o:=by rw[<-MV];exact k3
 have o3:∀ b∈fp,∃ o,s3.heap.get? b=some o:=fun b hb=>let ⟨o,e,_⟩:=T.obj _ _ g6 b hb; ⟨o,Fx b o e⟩
 refine MJ ?_
 have k4:∀ b o,s3.heap.get? b=some o->(pushCells (s3.heap.push { cls := .type "dict",data := .dict #[] }) scope.names).get? b=some o:=fun b o e=>pushCells_keeps _ _ _ _ (qw _ e)
 have uw:(pushCells (s3.heap.push { cls := .type "dict",data := .dict #[] }) scope.names).Ns s3.heap.objs.size (fun x=>([]:List (Str × Value)).reverse.lookup x):=(Heap.Ns.new s3.heap (.type "dict")).keeps (pushCells_keeps _ _)
 have I4:=MO (Nb:=Nb) (tk:=s3.toks) S I3 f3 o3 c1 c2 uw k4 fun x c e=>by
  have hz:(s3.heap.push { cls := .type "dict",data := .dict #[] }).objs.size=s3.heap.objs.size + 1:=Xh ..
  have e':(cellsFrom (s3.heap.push { cls := .type "dict",data := .dict #[] }).objs.size scope.names cl).lookup x=some c:=by rw[hz];exact e
  refine Aj (fun u c q => ?_) e'
  obtain⟨v,o,g1,g2⟩:=I3.cell u c (c1 _ _ q)
  exact⟨v,o,qw _ g1,g2⟩
 generalize VB:pushCells (s3.heap.push { cls := .type "dict",data := .dict #[] }) scope.names=h₁ at k4 uw I4 ⊢
 obtain⟨W,w0,turn⟩:=q2 ⟨uv scope s3 cl,s3.heap.objs.size,s3,H3,fp⟩ s2.heap.objs.size hl
 rw[MU] at w0
 refine MQ (d:=⟨uv scope s3 cl,s3.heap.objs.size,s3,H3,fp⟩) (fp:=fp) (tn:=tn) (J:=J) (Q:=Q) hc (hg _) (hf _) (he _) T rfl I4 (T.keep _ _ _ g6 fun b hb o e=>k4 b o (Fx b o e)) (fun b hb => ?_) W w0 turn fun τ' H' s' I5 q5 => ?_
 ·obtain⟨o,e⟩:=o3 b hb
  refine⟨(f3 b hb).1,Vx (My e),fun z => ?_,.inl hb,fun x c ec => ?_,fun p hp=>absurd (show p∈([]:List (Addr × Obj)) from hp) (by simp)⟩
  ·rcases Fo.mp (I3.g7 b z) with r | r
   ·exact (f3 b hb).2.1 r
   ·exact (f3 b hb).2.2.1 r
  ·rcases sv ec with q | ⟨q,_⟩
   ·exact (f3 b hb).2.2.2.2.1 x c (c1 _ _ q)
   ·have Ak:=My e
    intro z
    subst z
    exact absurd (Nat.lt_of_succ_le q) (Nat.not_lt.mpr (Xj Ak))
 ·have I6:Inv X pins σ H' s':=MR I3 rfl rfl rfl f3 I5
  obtain⟨m,hn,_⟩:=I5.loc
  have fC:bC X pins H' s3.heap.objs.size:=I3.g8 (wG _) I5.free
  exact fin _ _ _ _ m I6 fC (fun p c e=>fC.2.2.2.2.1 p c e) hn q5
theorem MW (cp:List (Option Nat)) (Nb:List Str) (hc:X.calm=true) (hi:PI X tg iter wi) (hg:∀ d,PG (cO X scope Nb d) tg (g d)) (hf:∀ d,PF (cO X scope Nb d) ifs (tf d)) (he:∀ d,PE (cO X scope Nb d) elt (te d))
  (hk:scope.kind = .function:=by rfl) (ho:mB X.N X.env.scope scope Nb cp=true:=by first | rfl | kernel_rfl) (hs:∀ x,foldedSetIterable iter X.env x=pure x:=by intro _;rfl) :
  PE X (.ListComp elt [⟨tg,iter,ifs,0⟩] scope pos) (qy wi cp g tf te):=by
 intro pins s σ H Q I h
 rw[eval_ListComp]
 refine Fw (use:=none) hc (x1c hk ho) hi hg hf he hs I h fun l C H' s' m I' fC hcc hn q=>⟨m,hn,fun h' ux=>⟨.ref l,H',?_,rfl,q⟩⟩
 exact I'.turned (t':=s'.toks) (fun b o hb e=>(ux.2 b hb).trans e) fC.1 fC.2.1 fC.2.2.2.1 fC.2.2.2.2.1 fC.2.2.2.2.2
theorem MX (cp:List (Option Nat)) (Nb:List Str) {i:Nat} {x:Str} {pos' iC:Pos} (hN:X.N.Nodup) (hi:X.N[i]? = some x) (hx:Loc X.env.scope x) (hc:X.calm=true) (hit:PI X tg iter wi) (hg:∀ d,PG (cO X scope Nb d) tg (g d)) (hf:∀ d,PF (cO X scope Nb d) ifs (tf d)) (he:∀ d,PE (cO X scope Nb d) elt (te d))
  (hk:scope.kind = .function:=by rfl) (ho:mB X.N X.env.scope scope Nb cp=true:=by first | rfl | kernel_rfl) (hs:∀ x,foldedSetIterable iter X.env x=pure x:=by intro _;rfl)
  (uy:swapsWith (.ListComp elt [⟨tg,iter,ifs,0⟩] scope pos) (some (.Name x pos')) iC.line X.env=pure true:=by rfl)
  (mW:X.fn x=true\/X.env.scope.names.lookup x=some .local:=by first | exact .inl rfl | exact .inr rfl | assumption) :
  PS X (.Assign [.Name x pos'] (.ListComp elt [⟨tg,iter,ifs,0⟩] scope pos) iC) (gC (qy wi cp g tf te) (m9 i)):=by
 intro pins s σ H D I h
 rw[exec_Assign_Name_used _ _ _ _ uy]
 refine nG (Zo (nG ?_))
 show wpAny _ X.A (do let _ <- comprehension (.ListComp elt [⟨tg,iter,ifs,0⟩] scope pos) scope X.env _ (newList []) false (eval iter X.env) (some (assign (.Name x pos') X.env))) _ _ s
 refine nG (bq (Fw (use:=some (assign (.Name x pos') X.env)) (P:=fun _ s'=>SP X pins D .next s') hc (x1c hk ho) hit hg hf he hs I h fun l C H' s' m I' fC hcc hn q => ?_) fun _ s' hq=>uk (uk hq))
 show wpAny _ X.A (assign (.Name x pos') X.env (.ref l)) _ _ s'
 refine wpAny_assign_Name (Eg I' hN hi hx (v := .ref l) rfl (fun iT MY ⟨a,sb,ha⟩ => ?_) mW)
 have nC:C≠a:=by
  rcases ha with e | e
  ·rw[e];exact fC.2.1
  ·exact XA (hcc _ _ e)
 refine⟨m,hn.sameBut sb nC,fun h' ux=>⟨_,H',?_,q⟩⟩
 exact MY.turned (t':=iT.toks) (fun b o hb e=>(ux.2 b hb).trans e) fC.1 fC.2.1 fC.2.2.2.1 fC.2.2.2.2.1 fC.2.2.2.2.2
end
section
variable {g:TG} {tf:TT} {te:TE}
end
section
variable {X:Cx} {pins:List (Addr × Obj)} {σ : St} {H:Hp} {s:Shared} {h':Heap} {T:Addr} {o:HO} {ch:List Addr} {t':Nat}
theorem Inv.f_ (I:Inv X pins σ H s) (hf:∀ b∈ch,bC X pins H b) (k:∀ b u,b∉ch->s.heap.get? b=some u->h'.get? b=some u) (hT:s.heap.objs.size <= T) (new:aJ X.prog X.w (upd H T o) h' T o) :
  Inv X pins σ (upd H T o) { s with heap:=h',toks:=t' }:=by
 have hn:H T=none:=I.aN.fresh hT
 have kQ:∀ b u,H b=some u->b∉ch:=fun b u e hb=>by rw[(hf b hb).1] at e;cases e
 refine I.step (g':=s.gens) (d':=s.drawn) (ch:=ch) (fun b hb=>⟨(hf b hb).2.2.2.1,(hf b hb).2.1,(hf b hb).2.2.2.2.1,(hf b hb).2.2.2.2.2⟩) (fun b u _ _ hc e _=>k b u hc e) (fun b u _ _ hc e _=>⟨u.slots,k b u hc e⟩)
  (fun b u _ e n=>by rw[aO (Vx (V8 (My e) hT))];exact n) (fun b u hc e=>⟨u,k b u hc e⟩) (fun b xs e=>by rw[aO (di e hn)];exact e)
  (fun b u xs e=>by rw[aO (di e hn)];exact e) (fun b ps e=>⟨#[],by rw[aO (di e hn),e];simp⟩) (fun m hm => ?_) (fun b u e => ?_) I.bare
 ·obtain⟨u,es,ep,ho,r⟩:=hm
  exact⟨u,es,ep,k _ u (fun hb=>(hf _ hb).2.1 rfl) ho,r⟩
 ·by_cases hb:b=T
  ·subst hb;rw[bW] at e;cases e;exact new
  ·rw[aO hb] at e
   refine (I.aN b u e).fJ (fun c v hc q=>k c v ?_ q) (fun c q=>by rw[aO (di q hn)];exact q) fun c xs q=>by rw[aO (di q hn)];exact q
   rcases hc with z | z
   ·rw[z];exact kQ b u e
   ·exact kQ c _ z
theorem Inv.jR (I:Inv X pins σ H s) (hf:∀ b∈ch,bC X pins H b) (k:∀ b u,b∉ch->s.heap.get? b=some u->h'.get? b=some u):Inv X pins σ H { s with heap:=h',toks:=t' }:=by
 have kQ:∀ b u,H b=some u->b∉ch:=fun b u e hb=>by rw[(hf b hb).1] at e;cases e
 refine I.step (g':=s.gens) (d':=s.drawn) (ch:=ch) (fun b hb=>⟨(hf b hb).2.2.2.1,(hf b hb).2.1,(hf b hb).2.2.2.2.1,(hf b hb).2.2.2.2.2⟩) (fun b u _ _ hc e _=>k b u hc e) (fun b u _ _ hc e _=>⟨u.slots,k b u hc e⟩)
  (fun b u _ e n=>n) (fun b u hc e=>⟨u,k b u hc e⟩) (fun b xs e=>e)
  (fun b u xs e=>e) (fun b ps e=>⟨#[],by rw[e];simp⟩) (fun m hm => ?_) (fun b u e => ?_) I.bare
 ·obtain⟨u,es,ep,ho,r⟩:=hm
  exact⟨u,es,ep,k _ u (fun hb=>(hf _ hb).2.1 rfl) ho,r⟩
 ·refine (I.aN b u e).fJ (fun c v hc q=>k c v ?_ q) (fun c q=>q) fun c xs q=>q
  rcases hc with z | z
  ·rw[z];exact kQ b u e
  ·exact kQ c _ z
end
noncomputable def sx (K:PySem.W.Frag) (a:Addr):It :=
 ⟨fun i H=>∃ xs x,bx K H a xs/\xs[i]? = some x,fun i H x H'=>∃ T v,x = .ref T/\H T=none/\H'=upd H T (.tup [.int (i:Nat),v])/\∀ xs,bx K H a xs->xs[i]? = some v,fun i H=>∃ xs,bx K H a xs/\xs.length <= i⟩
theorem Fy {P:Program} {w:World} {K:PySem.W.Frag} {elts:List Expr} {x1} {tp:Pos} (a e it:Addr) (fX:e≠it) :
  Turn P w K (.Tuple elts x1 tp) (sx K a) [e,it] e (fun i h=>(∃ old,IsEnum h e it (i:Nat) old)/\h.IsListIter it a i) where
 mem:=by simp
 obj:=fun i h st b hb=>by
  obtain⟨⟨old,he⟩,o,hi,hc,hd⟩:=st
  rcases Fo.mp hb with rfl | hb
  ·exact⟨_,he,fun v z=>by cases z⟩
  ·have z:b=it:=by simpa using hb
   subst z
   exact⟨o,hi,fun v z=>by rw[hd] at z;cases z⟩
 keep:=fun i h h' st k=>by
  obtain⟨⟨old,he⟩,hi⟩:=st
  exact⟨⟨old,k e (by simp) _ he⟩,hi.at fun o q=>k it (by simp) o q⟩
 item:=by
  intro X hP hw hK hc i pins s σ H E I hf st hg
  subst hP hw hK
  obtain⟨⟨old,he⟩,hi⟩:=st
  obtain⟨xs,x,hq,hx⟩:=hg
  obtain⟨ag,rv,p,hz⟩:=I.list hq
  obtain⟨u,hu,ru⟩:=rv.get hx
  refine wpAny_pyNext_enum_item he hi p.isList (x:=u) (by simpa using hu) fX fun h1 mi uz uA hsz hk=>⟨_,rfl,?_⟩
  refine wpAny_letOwnedTupleGo_enum mi fun h2 uB eU => ?_
  have hT:s.heap.objs.size≠e:=Xq (My he)
  have k9:h2.get? s.heap.objs.size=some { cls := .type "tuple",data := .seq #[.int i s.toks,u] }:=(eU.2 _ hT).trans uA
  have k2:∀ b o,b∉[e,it]->s.heap.get? b=some o->h2.get? b=some o:=fun b o hb q=>by
   have nH:b≠e:=fun z=>hb (by simp[z])
   have iu:b≠it:=fun z=>hb (by simp[z])
   exact (eU.2 _ nH).trans (hk b o nH iu q)
  have hn:H s.heap.objs.size=none:=I.aN.fresh (wG _)
  refine⟨.ref s.heap.objs.size,upd H s.heap.objs.size (.tup [.int i,x]),I.f_ (ch:=[e,it]) (t':=s.toks + 1) hf k2 (wG _) ?_,rfl,⟨_,x,rfl,hn,rfl,fun ys hy=>by rw[I.f6 hy hq];exact hx⟩,⟨⟨u,?_⟩,?_⟩,fun b hb => ?_⟩
  ·exact⟨by show 2 <= sizeLine;decide,[.int i s.toks,u],.cons ⟨_,rfl⟩ (.cons ru .nil),_,k9,rfl,_,rfl⟩
  ·have e3:((i:Int) + 1)=(((i + 1:Nat)):Int):=by omega
   rw[e3] at uB
   exact uB
  ·exact uz.at fun o q=>(eU.2 _ (XA fX)).trans q
  ·have:b < s.heap.objs.size:=by
    obtain⟨o,q,_⟩:=hi
    rcases Fo.mp hb with rfl | hb
    ·exact My he
    ·have z:b=it:=by simpa using hb
     subst z;exact My q
   rw[aO (Vx this)]
   exact (hf b hb).1
 done:=by
  intro X hP hw hK hc i pins s σ H E I hf st hg
  subst hP hw hK
  obtain⟨⟨old,he⟩,hi⟩:=st
  obtain⟨xs,hq,hx⟩:=hg
  obtain⟨ag,rv,p,hz⟩:=I.list hq
  have hl:=rv.length
  refine wpAny_pyNext_enum_end (I.ok.hd hc) he hi p.isList (by simp;omega) fun h1 eb=>⟨rfl,?_⟩
  obtain⟨f0,f1,f2,f3,f4,f5⟩:=hf it (by simp)
  exact I.turned (t':=s.toks) (fun b o hb q=>eb b o hb q) f0 f1 f3 f4 f5
 self:=fun A i s Q E st h=>by
  obtain⟨⟨old,he⟩,hi⟩:=st
  have hT:s.TypeIs (.ref e) "enumerate" := ⟨_,he,rfl⟩
  exact XZ he h
section
variable {X:Cx} {elts:List Expr} {x1:Nat} {tp:Pos}
noncomputable def FA (K:PySem.W.Frag) (ta:TA):TI:=fun σ H R=>ta σ H fun vs H1=>∃ a,vs=[.ref a]/\(∃ xs,bx K H1 a xs)/\R (sx K a) H1
theorem FC:bootBuiltins "enumerate" = some (.type "enumerate"):=by decide +kernel
theorem MZ:bootBuiltins "zip" = some (.type "zip"):=by decide +kernel
theorem M0 {a:Expr} {ta:TA} {p pos:Pos} (hg:Gl X "enumerate") (hm:X.mg "enumerate" = none) (ha:PA X [a] ta) (hs:starEach [a] X.env=[(false,eval a X.env)]:=by rfl) :
  PI X (.Tuple elts x1 tp) (.Call (.Name "enumerate" p) [a] [] pos) (FA X.K ta):=by
 intro pins s σ H R I h
 refine Call_ (mX I hg hm FC (Xl (bq (ha pos pins s σ H _ I h) fun us s1 h0_ => el5 h0_ fun vs H1 I1 r1 q1 => ?_) hs rfl))
 obtain⟨l,e,⟨xs,hq⟩,q⟩:=q1
 subst e
 cases r1 with
 | cons r rr =>
  cases rr
  cases r
  obtain⟨ag,rv,p,hz⟩:=I1.list hq
  refine call_enumerate_list p.isList fun h' he hi hsz hk => ?_
  have I2:Inv X pins σ H1 { s1 with heap:=h' }:=I1.kept (t':=s1.toks) hk
  refine XZ he ?_
  refine⟨_,_,_,_,H1,rfl,I2,Fy l (s1.heap.objs.size + 1) s1.heap.objs.size (q0d _),⟨⟨_,he⟩,hi⟩,fun b hb => ?_,q⟩
  have d6:s1.heap.objs.size <= b:=by
   rcases Fo.mp hb with rfl | hb
   ·exact ZZ _
   ·have z:b=s1.heap.objs.size:=by simpa using hb
    rw[z];exact wG _
  exact I1.g8 d6 (I1.aN.fresh d6)
end
section
variable {X:Cx} {nm:Str} {tp:Pos}
end
end L2
namespace L2
open PySem PySem.Spec PyProof.Rows PySem.W
open Builtin Builtin.ObjectAttr
section
variable {prog:Program} {w:World} {A:Around} {E:Value->Shared->Prop} {s:Shared} {K:Frag} {x D:Addr} {ox:Obj} {VC:Option Obj} {name:Str}
variable {h:Heap} {g:Array GenState} {d:Drawn} {t:Nat} {os:OsState} {nm q:Str} {C N:Addr} {bs bm VD:List Value} {M1:Bool} {sn:List Str} {sub:List Value} {ab:Bool} {col:Option Bool} {dd:Option Addr} {k0 k1 k2 k3 k5:Option Value} {B newId Al:String}
end
end L2
namespace L2
open PySem PySem.Spec PyProof.Rows
section
variable {X:Cx} {pins:List (Addr × Obj)} {σ : St} {H:Hp} {s:Shared} {C f:Addr} {CX:jM} {k:Nat} {fd:FuncData} {ps:List Str} {sp:Sp} {E:XK} {x:Str} {p pos pos':Pos} {e o value:Expr} {es:List Expr} {ta tv:TE} {t:TA}
end
section
variable {X:Cx}
noncomputable def uC:V->Option Value
 | .ty n=>some (.type n)
 | .ref a=>some (.ref a)
 | _=>none
theorem M3 {y:V} {u c:Value} (r:RelV y u) (e:uC y=some c):u=c:=by
 cases y with
 | ty n=>cases e;exact r
 | ref a=>cases e;exact r
 | _=>cases e
theorem M4:g9 X (.builtin "isinstance") (fun xs H Q=>∃ x y c t b,xs=[x,y]/\uC y=some c/\d_ X.K H x t/\PySem.W.kitOne X.K t c=some b/\Q (.bl b) H):=by
 intro pins s σ H xs us Q I rv h
 obtain⟨x,y,c,t,b,rfl,hc,ty,e,q⟩:=h
 obtain⟨u,w',rfl,rx,ry⟩:=rv.two
 rw[M3 ry hc]
 exact LL I rx ty e fun tk=>⟨.bl b,H,I.tok tk,rfl,q⟩
theorem FD {x:V}:∀ {xs:List V} {us:List Value},Vals xs us->xs.all mz=true->us.countP (ui x)=xs.countP fun y=>kg y x
 | _,_,.nil,_=>rfl
 | y :: xs,u :: us,.cons r t,f=>by
  rw[YK,Wl] at f
  rw[WB,WB,FD t f.2,E6 r f.1]
theorem IsList.parts {h:Heap} {l:Addr} {items:Array Value} (x:h.IsList l items):∃ dd n sl,h.get? l=some { cls := .type "list",dict:=dd,data := .seq items n,slots:=sl }:=by
 obtain⟨⟨cls,dd,data,sl⟩,ho,hc,n,hd⟩:=x
 simp only at hc hd
 subst hc hd
 exact⟨dd,n,sl,ho⟩
noncomputable def FE (K:PySem.W.Frag):V->List V->Hp->VK->Prop:=fun x vs H Q=>∃ l xs y,x = .ref l/\vs=[y]/\bx K H l xs/\mz y=true/\xs.all mz=true/\Q (.int (xs.countP fun z=>kg z y:Nat)) H
theorem Am:um X "list.count" (FE X.K):=by
 intro pins s σ H x vs v us Q I rx rv h
 obtain⟨l,xs,y,rfl,rfl,hq,fy,fs,q⟩:=h
 cases rx
 obtain⟨u,rfl,ru⟩:=rv.one
 obtain⟨ag,r,pl,hz⟩:=I.list hq
 obtain⟨dd,n,sl,e⟩:=IsList.parts pl.isList
 refine Zl F.slot_list_count ⟨_,e,rfl⟩ F.entry_list_count (F.args_list_count_2 _ _) (SeqAt.list_countAt l ag.toArray n dd sl u (ui y)) ⟨e,fun w hw=>E7 ru fy r fs w (by simpa using hw),?_⟩
 refine⟨.int _,H,I.tok _,⟨_,rfl⟩,?_⟩
 have e2:ag.toArray.toList.countP (ui y)=xs.countP fun z=>kg z y:=by rw[List.toList_toArray];exact FD r fs
 rw[e2]
 exact q
end
theorem M5 {K:PySem.W.Frag} {a:Addr} {xs:List V} {g:TG} {tb:TS} {D:Ends} {σ : St} {H:Hp} (Pv:Nat->St->Hp->Prop) (h0:Pv 0 σ H) (hl:∀ i σ H,i <= xs.length->Pv i σ H->bx K H a xs)
  (hs:∀ i x T σ H,xs[i]? = some x->Pv i σ H->H T=none->g (.ref T) σ (upd H T (.tup [.int (i:Nat),x])) fun σ2 H2=>tb { D with nx:=Pv (i + 1),ct:=Pv (i + 1),bk:=D.nx } σ2 H2) (hd:∀ σ H,Pv xs.length σ H->D.nx σ H) :
  ∃ W:Nat->Nat->St->Hp->Prop,(∃ m,W 0 m σ H)/\∀ i m σ H,W i m σ H →
   ((sx K a).stop i H/\D.nx σ H)\/((sx K a).go i H/\∃ N:St->Hp->Prop,(∀ σ' H',N σ' H'->∃ m',m' < m/\W (i + 1) m' σ' H')/\∀ x H',(sx K a).sd i H x H'->g x σ H' fun σ2 H2=>tb { D with nx:=N,ct:=N,bk:=D.nx } σ2 H2):=by
 refine⟨fun i m σ H=>m=xs.length - i/\i <= xs.length/\Pv i σ H,⟨xs.length,by simp,WK _,h0⟩,?_⟩
 rintro i m σ H ⟨rfl,hi,p⟩
 have q:=hl i σ H hi p
 by_cases cK:i < xs.length
 ·refine .inr ⟨⟨xs,xs[i],q,by simp[cK]⟩,Pv (i + 1),fun σ' H' p'=>⟨xs.length - (i + 1),by omega,rfl,cK,p'⟩,fun x H' y => ?_⟩
  obtain⟨T,v,rfl,hT,rfl,y⟩:=y
  exact hs i v T σ H (y xs q) p hT
 ·have e:i=xs.length:=by omega
  subst e
  exact .inl ⟨⟨xs,q,wG _⟩,hd σ H p⟩
section
variable {g:TG} {tf:TT} {te:TE} {l:Addr} {τ0:St} {H0:Hp} {Q:VK}
end
section
variable {X:Cx} {es:List Expr} {te:TE} {t:TA}
theorem An {c j p} (ha:PE X (.Constant c j p) te) (hr:PA X es t):PA X (.Constant c j p :: es) (fS te t):=qj ha hr rfl
theorem Ao {x p} (ha:PE X (.Name x p) te) (hr:PA X es t):PA X (.Name x p :: es) (fS te t):=qj ha hr rfl
theorem Ap {f a k p} (ha:PE X (.Call f a k p) te) (hr:PA X es t):PA X (.Call f a k p :: es) (fS te t):=qj ha hr rfl
theorem Aq {a p} (ha:PE X (.List a p) te) (hr:PA X es t):PA X (.List a p :: es) (fS te t):=qj ha hr rfl
theorem Ar {a k p} (ha:PE X (.Tuple a k p) te) (hr:PA X es t):PA X (.Tuple a k p :: es) (fS te t):=qj ha hr rfl
theorem As {a k p} (ha:PE X (.Subscript a k p) te) (hr:PA X es t):PA X (.Subscript a k p :: es) (fS te t):=qj ha hr rfl
end
inductive D where
 | non | bl (b:Bool) | int (i:Int) | str (x:Str) | tup (xs:List D) | lst (xs:List D)
mutual
noncomputable def Is (H:Hp):D->V->Prop
 | .non,v=>v = .non
 | .bl b,v=>v = .bl b
 | .int i,v=>v = .int i
 | .str x,v=>v = .str x
 | .tup ds,v=>∃ a vs,v = .ref a/\H a=some (.tup vs)/\af H ds vs
 | .lst ds,v=>∃ a vs,v = .ref a/\H a=some (.lst vs)/\af H ds vs
noncomputable def af (H:Hp):List D->List V->Prop
 | [],vs=>vs=[]
 | d :: ds,vs=>∃ v r,vs=v :: r/\Is H d v/\af H ds r
end
mutual
theorem Is.same {H H':Hp} (s:az H H'):∀ {d:D} {v:V},Is H d v->Is H' d v
 | .non,_,h=>h
 | .bl _,_,h=>h
 | .int _,_,h=>h
 | .str _,_,h=>h
 | .tup _,_,h=>by
  simp only[Is] at h ⊢
  obtain⟨a,vs,e,h1,h2⟩:=h
  exact⟨a,vs,e,s _ _ h1,af.same s h2⟩
 | .lst _,_,h=>by
  simp only[Is] at h ⊢
  obtain⟨a,vs,e,h1,h2⟩:=h
  exact⟨a,vs,e,s _ _ h1,af.same s h2⟩
theorem af.same {H H':Hp} (s:az H H'):∀ {d:List D} {v:List V},af H d v->af H' d v
 | [],_,h=>h
 | _ :: _,_,h=>by
  simp only[af] at h ⊢
  obtain⟨v,r,e,h1,h2⟩:=h
  exact⟨v,r,e,Is.same s h1,af.same s h2⟩
end
theorem af.length {H:Hp}:∀ {ds:List D} {vs:List V},af H ds vs->vs.length=ds.length
 | [],_,h=>by simp only[af] at h;rw[h];rfl
 | _ :: _,_,h=>by
  simp only[af] at h
  obtain⟨v,r,rfl,_,h2⟩:=h
  rw[Fm,Fm,af.length h2]
theorem af.get {H:Hp}:∀ {ds:List D} {vs:List V} {i:Nat} {v:V},af H ds vs->vs[i]? = some v->∃ d,ds[i]? = some d/\Is H d v
 | [],_,i,v,h,e=>by simp only[af] at h;rw[h] at e;simp at e
 | d :: ds,_,i,v,h,e=>by
  simp only[af] at h
  obtain⟨v',r,rfl,h1,h2⟩:=h
  cases i with
  | zero=>simp at e;subst e;exact⟨d,rfl,h1⟩
  | succ i=>simp at e;simpa using af.get h2 e
theorem af.nil {H:Hp}:af H [] []:=by simp only[af]
theorem af.cons {H:Hp} {d:D} {ds:List D} {v:V} {vs:List V} (h:Is H d v) (r:af H ds vs):af H (d :: ds) (v :: vs):=by
 simp only[af]
 exact⟨v,vs,rfl,h,r⟩
theorem af.snoc {H:Hp} {d:D} {v:V}:∀ {ds:List D} {vs:List V},af H ds vs->Is H d v->af H (ds ++ [d]) (vs ++ [v])
 | [],_,h,q=>by simp only[af] at h;subst h;exact .cons q .nil
 | _ :: _,_,h,q=>by
  simp only[af] at h
  obtain⟨v',r,rfl,h1,h2⟩:=h
  exact .cons h1 (af.snoc h2 q)
mutual
noncomputable def dep:D->Nat
 | .tup ds=>bH ds + 1
 | .lst ds=>bH ds + 1
 | _=>0
noncomputable def bH:List D->Nat
 | []=>0
 | d :: ds=>max (dep d) (bH ds)
end
mutual
noncomputable def M6:D->Bool
 | .tup _=>false
 | .lst ds=>decide (ds.length <= 1000) && FF ds
 | _=>true
noncomputable def FF:List D->Bool
 | []=>true
 | d :: ds=>M6 d && FF ds
end
theorem Au:∀ {ds:List D} {i:Nat} {d:D},ds[i]? = some d->dep d <= bH ds
 | [],i,d,e=>by simp at e
 | d' :: ds,0,d,e=>by simp at e;subst e;simp only[bH];exact Nat.le_max_left _ _
 | d' :: ds,i + 1,d,e=>by simp at e;simp only[bH];exact WY (Au e) (Nat.le_max_right _ _)
noncomputable def cA:D->String
 | .non => "NoneType" | .bl _ => "bool" | .int _ => "int" | .str _ => "str" | .tup _ => "tuple" | .lst _ => "list"
theorem Is.ty {K:PySem.W.Frag} {H:Hp}:∀ {d:D} {v:V},Is H d v->d_ K H v (.type (cA d))
 | .non,_,h=>by cases (show _=_ from h);exact .non
 | .bl b,_,h=>by cases (show _=_ from h);exact .bl b
 | .int i,_,h=>by cases (show _=_ from h);exact .int i
 | .str x,_,h=>by cases (show _=_ from h);exact .str x
 | .tup _,_,h=>by
  simp only[Is] at h
  obtain⟨a,vs,rfl,h1,_⟩:=h
  exact .tup h1
 | .lst _,_,h=>by
  simp only[Is] at h
  obtain⟨a,vs,rfl,h1,_⟩:=h
  exact .lst h1
noncomputable def aS (T c:String):Bool:=T == c || (T == "bool" && c == "int")
section
variable {K:PySem.W.Frag}
theorem M7:∀ T∈["NoneType", "bool", "int", "str", "tuple", "list"],PySem.W.kitOne K (.type T) (.type "bool")=some (aS T "bool"):=by
 intro T hT
 simp only[Fo,Wd,Xr] at hT
 rcases hT with rfl | rfl | rfl | rfl | rfl | rfl<;>kernel_rfl
theorem M8:∀ T∈["NoneType", "bool", "int", "str", "tuple", "list"],PySem.W.kitOne K (.type T) (.type "int")=some (aS T "int"):=by
 intro T hT
 simp only[Fo,Wd,Xr] at hT
 rcases hT with rfl | rfl | rfl | rfl | rfl | rfl<;>kernel_rfl
theorem M9:∀ T∈["NoneType", "bool", "int", "str", "tuple", "list"],PySem.W.kitOne K (.type T) (.type "str")=some (aS T "str"):=by
 intro T hT
 simp only[Fo,Wd,Xr] at hT
 rcases hT with rfl | rfl | rfl | rfl | rfl | rfl<;>kernel_rfl
theorem kit_tuple:∀ T∈["NoneType", "bool", "int", "str", "tuple", "list"],PySem.W.kitOne K (.type T) (.type "tuple")=some (aS T "tuple"):=by
 intro T hT
 simp only[Fo,Wd,Xr] at hT
 rcases hT with rfl | rfl | rfl | rfl | rfl | rfl<;>kernel_rfl
theorem M_:∀ T∈["NoneType", "bool", "int", "str", "tuple", "list"],PySem.W.kitOne K (.type T) (.type "list")=some (aS T "list"):=by
 intro T hT
 simp only[Fo,Wd,Xr] at hT
 rcases hT with rfl | rfl | rfl | rfl | rfl | rfl<;>kernel_rfl
theorem uD (d:D):cA d∈["NoneType", "bool", "int", "str", "tuple", "list"]:=by cases d<;>simp[cA]
end
section
variable {X:Cx}
theorem PE.weak {e:Expr} {t t':TE} (h:PE X e t) (k:∀ σ H Q,t' σ H Q->t σ H Q):PE X e t':=fun pins s σ H Q I q=>h pins s σ H Q I (k σ H Q q)
theorem PT.weak {e:Expr} {t t':TT} (h:PT X e t) (k:∀ σ H Q,t' σ H Q->t σ H Q):PT X e t':=fun pins s σ H Q I q=>h pins s σ H Q I (k σ H Q q)
theorem PA.weak {es:List Expr} {t t':TA} (h:PA X es t) (k:∀ σ H Q,t' σ H Q->t σ H Q):PA X es t':=fun pos pins s σ H Q I q=>h pos pins s σ H Q I (k σ H Q q)
theorem PS.weak {st:Stmt} {t t':TS} (h:PS X st t) (k:∀ D σ H,t' D σ H->t D σ H):PS X st t':=fun pins s σ H D I q=>h pins s σ H D I (k D σ H q)
theorem iz.weak {st:List Stmt} {t t':TS} (h:iz X st t) (k:∀ D σ H,t' D σ H->t D σ H):iz X st t':=fun pins s σ H D I q=>h pins s σ H D I (k D σ H q)
end
section
variable {κ : Type} [DecidableEq κ]
noncomputable def eA (kvs:List (κ × V)) (k : κ):Option V:=(kvs.find? fun kv=>decide (kv.1=k)).map (·.2)
noncomputable def putK (kvs:List (κ × V)) (k : κ) (v:V):List (κ × V) :=
 if (kvs.any fun kv=>decide (kv.1=k))=true then kvs.map (fun kv=>if kv.1=k then (kv.1,v) else kv) else kvs ++ [(k,v)]
theorem wK {p : κ × V} {r:List (κ × V)} {k : κ} (e:p.1=k):eA (p :: r) k=some p.2:=by simp[eA,Yv,e]
theorem wL {p : κ × V} {r:List (κ × V)} {k : κ} (e:¬ p.1=k):eA (p :: r) k=eA r k:=by simp[eA,Yv,e]
theorem FG (k : κ):∀ kvs:List (κ × V),(kvs.any fun kv=>decide (kv.1=k))=(eA kvs k).isSome
 | []=>rfl
 | p :: r=>by
  rw[Yj]
  by_cases e:p.1=k
  ·simp only[wK e,V_ e,Bool.true_or,Option.isSome_some]
  ·rw[wL e,We e,Bool.false_or];exact FG k r
theorem FH (kvs:List (κ × V)) (k : κ) (v:V):(putK kvs k v).length <= kvs.length + 1:=by
 unfold putK
 split
 ·rw[qx];omega
 ·rw[Vw,Fm,X0];omega
theorem iQ.e8 {o:Option V} {u:Option Value} (r:iQ o u):o.isSome=u.isSome:=by
 cases o with
 | none=>cases u with
  | none=>rfl
  | some _=>exact (show False from r).elim
 | some _=>cases u with
  | none=>exact (show False from r).elim
  | some _=>rfl
theorem KV.val {kvs:List (κ × V)} {vs:List (κ × Value)} (r:KV kvs vs) (k : κ):iQ (eA kvs k) (valueAt vs k):=by
 unfold KV at r
 induction r with
 | nil=>exact True.intro
 | @cons p q ps qs h t ih =>
  obtain⟨h1,h2⟩:=h
  by_cases e:p.1=k
  ·have e':q.1=k:=h1.symm.trans e
   have b:valueAt (q :: qs) k=some q.2:=by simp[valueAt,Yv,e']
   rw[wK e,b];exact h2
  ·have e':¬ q.1=k:=fun z=>e (h1.trans z)
   have b:valueAt (q :: qs) k=valueAt qs k:=by simp[valueAt,Yv,e']
   rw[wL e,b];exact ih
theorem KV.any {kvs:List (κ × V)} {vs:List (κ × Value)} (r:KV kvs vs) (k : κ):(kvs.any fun kv=>decide (kv.1=k))=vs.any fun kv=>decide (kv.1=k):=by
 unfold KV at r
 induction r with
 | nil=>rfl
 | cons h t ih=>rw[Yj,Yj,ih,h.1]
theorem KV.iV {kvs:List (κ × V)} {vs:List (κ × Value)} (r:KV kvs vs) (k : κ) {y:V} {u:Value} (ry:RelV y u) :
  KV (kvs.map fun kv=>if kv.1=k then (kv.1,y) else kv) (vs.map fun kv=>if kv.1=k then (kv.1,u) else kv):=by
 unfold KV at r ⊢
 induction r with
 | nil=>exact .nil
 | @cons p q ps qs h t ih =>
  rw[Wb,Wb]
  refine .cons ?_ ih
  obtain⟨h1,h2⟩:=h
  by_cases e:p.1=k
  ·rw[MD e,MD (h1.symm.trans e)];exact⟨h1,ry⟩
  ·rw[MA e,MA (fun z=>e (h1.trans z))];exact⟨h1,h2⟩
theorem KV.put {kvs:List (κ × V)} {vs:List (κ × Value)} (r:KV kvs vs) (k : κ) {y:V} {u:Value} (ry:RelV y u):KV (putK kvs k y) (stored vs k u):=by
 unfold putK stored
 rw[r.any k]
 by_cases e:(vs.any fun kv=>decide (kv.1=k))=true
 ·rw[MD e,MD e];exact r.iV k ry
 ·rw[MA e,MA e];exact Paired.snoc r ⟨rfl,ry⟩
theorem KV.length {kvs:List (κ × V)} {vs:List (κ × Value)} (r:KV kvs vs):kvs.length=vs.length:=Paired.length r
end
theorem Av {P:Program} {w:World} {k:Key} {u:Value} (r:RelV (kV k) u):(jJ P w).is k u=true:=by
 cases k with
 | inl i=>obtain⟨t,e⟩:=(show ∃ t,u=Value.int i t from r);subst e;exact Ks P w i t
 | inr x=>obtain⟨t,e⟩:=(show ∃ t,u=Value.str x t from r);subst e;exact Kt P w x t
theorem FI {P:Program} {w:World}:∀ {ks:List Key} {us:List Value},Vals (ks.map kV) us->ItemsAre (jJ P w) ks us
 | [],_,r=>by rw[X1] at r;cases r;exact .nil
 | k :: ks,_,r=>by
  rw[Wb] at r
  cases r with
  | cons h t=>exact .cons (Av h) (FI t)
noncomputable abbrev KT (H:Hp):List (List Key × V)->List (List Key × Addr × Value)->Prop:=Paired fun p q=>p.1=q.1/\H q.2.1=some (.tup (p.1.map kV))/\RelV p.2 q.2.2
theorem KT.val {H:Hp} {kvs:List (List Key × V)} {xs:List (List Key × Addr × Value)} (r:KT H kvs xs) (k:List Key):iQ (eA kvs k) ((atKey xs k).map (·.2)):=by
 induction r with
 | nil=>exact True.intro
 | @cons p q ps qs h t ih =>
  obtain⟨h1,_,h2⟩:=h
  by_cases e:p.1=k
  ·have e':q.1=k:=h1.symm.trans e
   have b:atKey (q :: qs) k=some q.2:=by simp[atKey,Yv,e']
   rw[wK e,b];exact h2
  ·have e':¬ q.1=k:=fun z=>e (h1.trans z)
   have b:atKey (q :: qs) k=atKey qs k:=by simp[atKey,Yv,e']
   rw[wL e,b];exact ih
theorem KT.iV {H:Hp} {kvs:List (List Key × V)} {xs:List (List Key × Addr × Value)} (r:KT H kvs xs) (k:List Key) {y:V} {u:Value} (ry:RelV y u) :
  KT H (kvs.map fun kv=>if kv.1=k then (kv.1,y) else kv) (xs.map (putAt k u)):=by
 induction r with
 | nil=>exact .nil
 | @cons p q ps qs h t ih =>
  rw[Wb,Wb]
  refine .cons ?_ ih
  obtain⟨h1,h2,h3⟩:=h
  unfold putAt
  by_cases e:p.1=k
  ·rw[MD e,MD (h1.symm.trans e)];exact⟨h1,h2,ry⟩
  ·rw[MA e,MA (fun z=>e (h1.trans z))];exact⟨h1,h2,h3⟩
theorem KT.put {H:Hp} {kvs:List (List Key × V)} {xs:List (List Key × Addr × Value)} (r:KT H kvs xs) (k:List Key) {b:Addr} {y:V} {u:Value} (hb:H b=some (.tup (k.map kV))) (ry:RelV y u) :
  KT H (putK kvs k y) (storedH xs k b u):=by
 have e:(kvs.any fun kv=>decide (kv.1=k))=(atKey xs k).isSome:=by
  rw[FG,(r.val k).e8,Option.isSome_map]
 unfold putK storedH
 rw[e]
 by_cases q:(atKey xs k).isSome=true
 ·rw[MD q,MD q];exact r.iV k ry
 ·rw[MA q,MA q];exact Paired.snoc r ⟨rfl,hb,ry⟩
theorem KT.keeps {H H':Hp} {kvs:List (List Key × V)} {xs:List (List Key × Addr × Value)} (r:KT H kvs xs) (ht:∀ b ys,H b=some (.tup ys)->H' b=some (.tup ys)):KT H' kvs xs :=
 Paired.p9 r fun _ _ z=>⟨z.1,ht _ _ z.2.1,z.2.2⟩
section
variable {P:Program} {w:World} {H:Hp} {h:Heap} {a:Addr}
theorem FJ {u:HO} (ok:d4 P w H h) (e:Rd H a u):aJ P w H h a u:=e.ok ok
theorem FK {kvs:List (Key × V)} (ok:d4 P w H h) (e:Rd H a (.dK kvs)):kvs.length <= sizeLine/\(a == sysModules)=false/\∃ vs,KV kvs vs/\h.DictOf (jJ P w) a vs :=
 show aJ P w H h a (.dK kvs) from FJ ok e
theorem Na {kvs:List (Key × V)} (ok:d4 P w H h) (e:H a=some (.dK kvs)):kvs.length <= sizeLine/\(a == sysModules)=false/\∃ vs,KV kvs vs/\h.DictOf (jJ P w) a vs:=FK ok (.inl e)
theorem Aw {ks:List Key} (ok:d4 P w H h) (e:H a=some (.tup (ks.map kV))):(tupleKind (jJ P w)).is h ks a:=by
 obtain⟨_,ag,r,o,h1,h2,n,h3⟩:=(show aJ P w H h a (.tup (ks.map kV)) from ok a _ e)
 exact⟨o,ag.toArray,n,h1,h2,h3,by simpa using FI r⟩
theorem FL {kvs:List (List Key × V)} (ok:d4 P w H h) (e:Rd H a (.dT kvs)):kvs.length <= sizeLine/\(a == sysModules)=false ∧
  ∃ xs,KT H kvs xs/\h.DictOfH (tupleKind (jJ P w)) a xs:=by
 obtain⟨z,y,xs,r,o,es,ep,h1,h2,h3,h4,h5⟩:=(show aJ P w H h a (.dT kvs) from FJ ok e)
 refine⟨z,y,xs,r,o,es,ep,h1,h2,h3,h4,fun x hx => ?_,h5⟩
 have all:∀ {l:List (List Key × V)} {m:List (List Key × Addr × Value)},KT H l m->∀ x∈m,(tupleKind (jJ P w)).is h x.1 x.2.1:=by
  intro l m q
  induction q with
  | nil=>intro x hx;exact nomatch hx
  | @cons p q ps qs hq t ih =>
   intro x hx
   rcases Fo.mp hx with e | hx
   ·subst e
    exact Aw ok (by rw[<-hq.1];exact hq.2.1)
   ·exact ih x hx
 exact all r x hx
theorem Nc {kvs:List (List Key × V)} (ok:d4 P w H h) (e:H a=some (.dT kvs)):kvs.length <= sizeLine/\(a == sysModules)=false ∧
  ∃ xs,KT H kvs xs/\h.DictOfH (tupleKind (jJ P w)) a xs:=FL ok (.inl e)
end
noncomputable def jS (H:Hp) (a:Addr) (y:V) (r:Option V):Prop :=
 (∃ kvs k,Rd H a (.dK kvs)/\y=kV k/\r=eA kvs k)\/∃ kvs k b,Rd H a (.dT kvs)/\y = .ref b/\H b=some (.tup (k.map kV))/\r=eA kvs k
noncomputable def k_ (H:Hp) (a:Addr) (y v:V) (H':Hp):Prop :=
 (∃ kvs k,H a=some (.dK kvs)/\y=kV k/\kvs.length < sizeLine/\H'=upd H a (.dK (putK kvs k v))) ∨
 ∃ kvs k b,H a=some (.dT kvs)/\y = .ref b/\H b=some (.tup (k.map kV))/\kvs.length < sizeLine/\H'=upd H a (.dT (putK kvs k v))
theorem jS.k {H:Hp} {a:Addr} {kvs:List (Key × V)} {k:Key} (e:H a=some (.dK kvs)):jS H a (kV k) (eA kvs k) := .inl ⟨kvs,k,.inl e,rfl,rfl⟩
theorem k_.k {H:Hp} {a:Addr} {kvs:List (Key × V)} {k:Key} {v:V} (e:H a=some (.dK kvs)) (hl:kvs.length < sizeLine):k_ H a (kV k) v (upd H a (.dK (putK kvs k v))) := .inl ⟨kvs,k,e,rfl,hl,rfl⟩
section
variable {X:Cx} {pins:List (Addr × Obj)} {σ : St} {H:Hp} {s:Shared} {a:Addr} {y v:V} {u r:Value} {o:Option V} {A:Around} {E:Value->Shared->Prop}
theorem Inv.big (I:Inv X pins σ H s):sysModules < s.heap.objs.size:=by
 have h:mainGlobals < s.heap.objs.size:=(I.mod.glob.keeps I.bk).lt
 exact q0f (by decide) h
theorem Ax {Q:Value->Shared->Prop} (hu:A.units + 1 < cLine) (I:Inv X pins σ H s) (g:jS H a y o) (ry:RelV y u) (h:∀ s',Inv X pins σ H s'->Q (.bool o.isSome) s') :
  wpAny (model X.prog X.w) A (compareOp .In u (.ref a)) Q E s:=by
 rcases g with⟨kvs,k,e,ey,l⟩ | ⟨kvs,k,b,e,ey,eb,l⟩
 ·subst ey
  obtain⟨z,hd,vs,rel,dd⟩:=FK I.aN e
  refine wpAny_in_of (Av ry) hd dd.mapOf ?_
  rw[<-(rel.val k).e8,<-l]
  exact h _ (I.tok _)
 ·subst ey
  cases (show u=Value.ref b from ry)
  obtain⟨z,hd,xs,rel,dd⟩:=FL I.aN e
  refine wpAny_in_heap (tupleKind_room_in1 hu) (Aw I.aN eb) hd dd ?_
  have q:=(rel.val k).e8
  rw[Option.isSome_map] at q
  rw[<-q,<-l]
  exact h _ (I.tok _)
theorem FN {h':Heap} {t':Nat} {ob:HO} (I:Inv X pins σ H s) (mu:tJ (H a)) (hs:Heap.SameBut a s.heap h') (he:∃ q,h'.get? a=some q) (new:aJ X.prog X.w (upd H a ob) h' a ob) :
  Inv X pins σ (upd H a ob) { s with heap:=h',toks:=t' } :=
 I.write (x:=a) (e:=a) mu (.inl rfl) (fun b q hb z=>(hs.2 b hb).trans z) he new
theorem Nd {P:Program} {w:World} {H':Hp} {h':Heap} {kvs:List (Key × V)} {vs:List (Key × Value)} (z:kvs.length <= sizeLine) (hd:(a == sysModules)=false) (rel:KV kvs vs) (dd:h'.DictOf (jJ P w) a vs) :
  aJ P w H' h' a (.dK kvs):=⟨z,hd,vs,rel,dd⟩
theorem Nf {H':Hp} {Q:Unit->Shared->Prop} (hu:A.units + 1 < cLine) (I:Inv X pins σ H s) (g:k_ H a y v H') (ry:RelV y u) (rv:RelV v r) (h:∀ s',Inv X pins σ H' s'->Q () s') :
  wpAny (model X.prog X.w) A (setItem (.ref a) u r) Q E s:=by
 rcases g with⟨kvs,k,e,ey,l,eH⟩ | ⟨kvs,k,b,e,ey,eb,l,eH⟩
 ·subst ey eH
  obtain⟨z,hd,vs,rel,dd⟩:=Na I.aN e
  have hz:vs.length <= sizeLine:=by rw[<-rel.length];exact z
  have hl:(putK kvs k v).length <= sizeLine:=by have:=FH kvs k v;omega
  refine wpAny_setItem_pairs (hsz:=hz) (Av ry) dd fun h' wM hs=>h _ ?_
  have he:∃ q,h'.get? a=some q:=let ⟨q,_,_,hq,_⟩:=wM; ⟨q,hq⟩
  exact FN I (by rw[e];exact True.intro) hs he (Nd hl hd (rel.put k rv) wM)
 ·subst ey eH
  cases (show u=Value.ref b from ry)
  obtain⟨z,hd,xs,rel,dd⟩:=Nc I.aN e
  have hz:xs.length <= sizeLine:=by rw[<-Paired.length rel];exact z
  have hl:(putK kvs k v).length <= sizeLine:=by have:=FH kvs k v;omega
  refine wpAny_setItem_heap (hsz:=hz) (tupleKind_room_in1 hu) (Aw I.aN eb) dd fun h' wM hs=>h _ ?_
  obtain⟨q,es,ep,hq,h2,h3,h4,_,h5⟩:=wM
  refine FN I (by rw[e];exact True.intro) hs ⟨q,hq⟩ ⟨hl,hd,_,(rel.put k eb rv).keeps fun c ys ec => ?_,q,es,ep,hq,h2,h3,h4,h5⟩
  rw[aO (Ku ec e (fun z=>nomatch z))]
  exact ec
end
section
variable {X:Cx} {pins:List (Addr × Obj)} {σ : St} {H:Hp} {s:Shared} {a:Addr} {kvs:List (Key × V)} {k:Key} {u:Value} {A:Around} {E:Value->Shared->Prop}
end
noncomputable def qz (ty td:TE):TE:=fun σ H Q=>ty σ H fun y H1=>td σ H1 fun x H2=>∃ a o,x = .ref a/\jS H2 a y o/\Q (.bl o.isSome) H2
noncomputable def FO (td ty tv:TE):TS:=fun D σ H=>tv σ H fun v H1=>td σ H1 fun x H2=>ty σ H2 fun y H3=>∃ a H4,x = .ref a/\k_ H3 a y v H4/\D.nx σ H4
section
variable {X:Cx} {o i e value:Expr} {pos pos' zK:Pos} {td ty tv:TE}
theorem Ng (hu:X.A.units + 1 < cLine) (hi:PE X i ty) (ho:PE X o td):PC X .In i o (qz ty td):=by
 intro pins s σ H Q I h
 refine bq (hi pins s σ H _ I h) fun iv s1 h0_ => el5 h0_ fun y H1 I1 ry q1 =>bq (ho pins s1 σ H1 _ I1 q1) fun u s2 ⟨x,H2,I2,rx,a,ov,ex,g,q2⟩ => ?_
 subst ex
 obtain rfl:u=Value.ref a:=rx
 exact Ax hu I2 g ry fun s3 I3=>⟨.bl ov.isSome,H2,I3,rfl,q2⟩
theorem Nh (hu:X.A.units + 1 < cLine) (ho:PE X o td) (hi:PE X i ty) (hv:PE X value tv) (hs:swapsWith value (some (.Subscript o i pos')) pos.line X.env=pure false) :
  PS X (.Assign [.Subscript o i pos'] value pos) (FO td ty tv):=by
 intro pins s σ H D I h
 refine wpAny_Assign_Subscript (bq (hv pins s σ H _ I h) fun r s1 h0_ => el5 h0_ fun v H1 I1 rv q1 =>bq (ho pins s1 σ H1 _ I1 q1) fun u s2 h0_ => el5 h0_ fun x H2 I2 rx q2 =>bq (hi pins s2 σ H2 _ I2 q2) fun iv s3 ⟨y,H3,I3,ry,a,H4,ex,g,q3⟩ => ?_) hs
 subst ex
 obtain rfl:u=Value.ref a:=rx
 exact Nf hu I3 g ry rv fun s4 I4=>⟨σ,H4,I4,q3⟩
end
theorem Ni {P:Program} {w:World} {H:Hp} (h:Heap) (hb:sysModules < h.objs.size):aJ P w H (h.push { cls := .type "dict",data := .dict #[] }) h.objs.size (.dK []) :=
 ⟨WK _,beq_eq_false_iff_ne.mpr (XA (Vx hb)),[],.nil,Heap.DictOf.new h⟩
noncomputable def FP:TE:=fun _ H Q=>∀ p,H p=none->Q (.ref p) (upd H p (.dK []))
section
variable {X:Cx} {pos:Pos}
theorem Nj:PE X (.Dict [] [] pos) FP:=fun pins s σ H Q I h =>
 wpAny_Dict_empty ⟨.ref s.heap.objs.size,_,I.laid (a:=s.heap.objs.size) (o := .dK []) (t':=s.toks) (fun _ _ q=>qw _ q) (wG _) (Ni s.heap I.big),rfl,h _ (I.aN.fresh (wG _))⟩
end
section
variable {X:Cx} {pins:List (Addr × Obj)} {σ : St} {H:Hp} {s:Shared} {a:Addr} {y d:V} {u r:Value} {o:Option V} {A:Around} {E:Value->Shared->Prop}
end
section
variable {X:Cx} {o e f:Expr} {apos cN:Pos} {td ty tx:TE}
end
section
variable {X:Cx} {pins:List (Addr × Obj)} {σ : St} {H:Hp} {s:Shared} {a:Addr} {kvs:List (Key × V)} {A:Around} {E:Value->Shared->Prop}
end
section
variable {X:Cx} {pins:List (Addr × Obj)} {σ : St} {H:Hp} {s:Shared} {a:Addr} {y:V} {u:Value} {A:Around} {E:Value->Shared->Prop}
end
end L2
namespace L2
section
variable {κ : Type} [DecidableEq κ]
end
end L2
namespace L2
open PySem PySem.Spec PyProof.Rows
structure JE (X:Cx) (e:Expr) (t:TE):Prop where
 out:PE X e t
structure JT (X:Cx) (e:Expr) (t:TT):Prop where
 out:PT X e t
structure JW (X:Cx) (e:Expr) (t:TT):Prop where
 out:PW X e t
structure JA (X:Cx) (es:List Expr) (t:TA):Prop where
 out:PA X es t
structure JS (X:Cx) (st:Stmt) (t:TS):Prop where
 out:PS X st t
structure gn (X:Cx) (st:List Stmt) (t:TS):Prop where
 out:iz X st t
structure JF (X:Cx) (ifs:List Expr) (t:TT):Prop where
 out:PF X ifs t
structure JG (X:Cx) (tg:Expr) (t:TG):Prop where
 out:PG X tg t
structure ki (X:Cx) (ts:List Expr) (t:ju):Prop where
 out:tQ X ts t
structure JI (X:Cx) (tg iter:Expr) (wi:TI):Prop where
 out:PI X tg iter wi
structure JC (X:Cx) (op:CmpOp) (a b:Expr) (t:TE):Prop where
 out:PC X op a b t
theorem JE.weak {X:Cx} {e:Expr} {t t':TE} (h:JE X e t) (k:∀ σ H Q,t' σ H Q->t σ H Q):JE X e t':=⟨PE.weak h.out k⟩
theorem JT.weak {X:Cx} {e:Expr} {t t':TT} (h:JT X e t) (k:∀ σ H Q,t' σ H Q->t σ H Q):JT X e t':=⟨PT.weak h.out k⟩
theorem JA.weak {X:Cx} {es:List Expr} {t t':TA} (h:JA X es t) (k:∀ σ H Q,t' σ H Q->t σ H Q):JA X es t':=⟨PA.weak h.out k⟩
theorem JS.weak {X:Cx} {st:Stmt} {t t':TS} (h:JS X st t) (k:∀ D σ H,t' D σ H->t D σ H):JS X st t':=⟨PS.weak h.out k⟩
theorem gn.weak {X:Cx} {st:List Stmt} {t t':TS} (h:gn X st t) (k:∀ D σ H,t' D σ H->t D σ H):gn X st t':=⟨iz.weak h.out k⟩
theorem JW.jt {X:Cx} {e:Expr} {t:TT} (h:JW X e t):JT X e t:=⟨PW.pt h.out⟩
theorem Nk {X:Cx} {i:Nat} {x:Str} {pos:Pos} (hN:X.N[i]? = some x) (hv:qa X.env.scope x) (hd:(x == ("__debug__" : Str))=false:=by decide) (fZ:(x == ("__classdict__" : Str))=false:=by decide):JE X (.Name x pos) (d7 i):=⟨L2.Ek hN hv hd fZ⟩
theorem b7 {X:Cx} {i j pos}:JE X (.Constant (.int i) j pos) (tC (.int i)):=⟨L2.El⟩
theorem Nl {X:Cx} {b j pos}:JE X (.Constant (.bool b) j pos) (tC (.bl b)):=⟨L2.Ky⟩
theorem Nm {X:Cx} {j pos}:JE X (.Constant .none j pos) (tC .non):=⟨L2.Kz⟩
theorem Nn {X:Cx} {x j pos}:JE X (.Constant (.str x) j pos) (tC (.str x)):=⟨L2.KC⟩
theorem Np {X:Cx} {x:Str} {v:V} {u:Value} {pos:Pos} (hg:Gl X x) (hm:X.mg x=some u) (r:RelV v u) (hd:(x == ("__debug__" : Str))=false:=by decide):JE X (.Name x pos) (tC v):=⟨L2.KD hg hm r hd⟩
theorem Nq {X:Cx} {x:Str} {v:V} {u:Value} {pos:Pos} (hg:Gl X x) (hm:X.mg x=none) (hv:bootBuiltins x=some u) (r:RelV v u) (hn:x ≠ "__name__" := by decide) (hd:(x == ("__debug__" : Str))=false:=by decide):JE X (.Name x pos) (tC v):=⟨L2.KG hg hm hv r hn hd⟩
theorem Nr {X:Cx} {a b:Expr} {pos:Pos} {op:CmpOp} {t:TE} (h:JC X op a b t) (h1:behindInMarks op b=false:=by first | exact KI _ (by decide) (by decide) | rfl):JT X (.Compare a [op] [b] pos) (tB t):=⟨L2.KH h.out h1⟩
theorem Nt {X:Cx} {e:Expr} {t:TE} (h:JE X e t) (he:∀ whole,isTrue e X.env whole=(do let v <- whole;standAt e.pos;holding [v] (truthy v)):=by intro _;rfl):JT X e (tB t):=⟨L2.KJ h.out he⟩
theorem Nu {X:Cx} {a:Expr} {pos:Pos} {tA:TT} (ha:JT X a tA):JW X (.BoolOp .And [a] pos) tA:=⟨L2.KN ha.out⟩
theorem Nv {X:Cx} {a:Expr} {pos:Pos} {tA:TT} (ha:JT X a tA):JW X (.BoolOp .Or [a] pos) tA:=⟨L2.KO ha.out⟩
theorem Nx {X:Cx} {a b:Expr} {pos:Pos} {tA mq:TT} {rest:List Expr} (ha:JT X a tA) (hb:JW X (.BoolOp .And (b :: rest) pos) mq):JW X (.BoolOp .And (a :: b :: rest) pos) (qd tA mq):=⟨L2.KP ha.out hb.out⟩
theorem Ny {X:Cx} {a b:Expr} {pos:Pos} {tA mq:TT} {rest:List Expr} (ha:JT X a tA) (hb:JW X (.BoolOp .Or (b :: rest) pos) mq):JW X (.BoolOp .Or (a :: b :: rest) pos) (zA tA mq):=⟨L2.KQ ha.out hb.out⟩
theorem Nz {X:Cx} {a:Expr} {pos:Pos} {tA:TT} (ha:JT X a tA):JT X (.UnaryOp .Not a pos) (tP tA):=⟨L2.KR ha.out⟩
theorem NA {X:Cx} {a:Expr} {pos:Pos} {op} {t:TE} (h:JE X a t):JE X (.BoolOp op [a] pos) t:=⟨L2.KU h.out⟩
theorem NB {X:Cx} {a b:Expr} {ta tb:TE} {pos:Pos} {rest:List Expr} (ha:JE X a ta) (hb:JE X (.BoolOp .And (b :: rest) pos) tb):JE X (.BoolOp .And (a :: b :: rest) pos) (En ta tb):=⟨L2.KW ha.out hb.out⟩
theorem NC {X:Cx} {a:Expr} {ta:TE} {pos:Pos} (ha:JE X a ta):JE X (.UnaryOp .Not a pos) (Eo ta):=⟨L2.KY ha.out⟩
theorem ND {X:Cx} {a b:Expr} {ta tb:TE} {pos:Pos} {tA:TT} {c:Expr} (hc:JT X c tA) (ha:JE X a ta) (hb:JE X b tb):JE X (.IfExp c a b pos) (Ep tA ta tb):=⟨L2.KZ hc.out ha.out hb.out⟩
theorem hV {X:Cx}  : gn X [] r_:=⟨L2.K1⟩
theorem kj {X:Cx} {st:Stmt} {rest:List Stmt} {t u:TS} (h1:JS X st t) (h2:gn X rest u):gn X (st :: rest) (d8 t u):=⟨L2.K4 h1.out h2.out⟩
theorem uE {X:Cx} {st:Stmt} {t:TS} (h1:JS X st t):gn X [st] t:=⟨L2.K5 h1.out⟩
theorem Az {X:Cx} {e:Expr} {te:TE} {pos:Pos} (he:JE X e te) (hs:swapsWith e none pos.line X.env=pure false:=by rfl):JS X (.Expr e pos) (wt te):=⟨L2.K6 he.out hs⟩
theorem AA {X:Cx} {e:Expr} {te:TE} {pos:Pos} (he:JE X e te):JS X (.Return (some e) pos) (mZ te):=⟨L2.K7 he.out⟩
theorem AB {X:Cx} {t u:TS} {pos:Pos} {c:Expr} {a b:List Stmt} {tc:TT} (hc:JT X c tc) (ha:gn X a t) (hb:gn X b u):JS X (.If c a b pos) (jL tc t u):=⟨L2.K8 hc.out ha.out hb.out⟩
theorem AD {X:Cx} {pos:Pos} {i:Nat} {x:Str} (hN:X.N.Nodup) (hi:X.N[i]? = some x) (hx:Loc X.env.scope x) (hf:X.fn x=true\/X.env.scope.names.lookup x=some .local:=by first | exact .inl rfl | exact .inr rfl | assumption):JG X (.Name x pos) (m9 i):=⟨L2.K9 hN hi hx hf⟩
theorem jx {X:Cx}  : ki X [] tR:=⟨L2.K_⟩
theorem AE {X:Cx} {e:Expr} {es:List Expr} {t:TG} {u:ju} (h1:JG X e t) (h2:ki X es u) (hs:(assignEach (e :: es) X.env).map (·.2)=assign e X.env :: (assignEach es X.env).map (·.2):=by rfl):ki X (e :: es) (Er t u):=⟨L2.La h1.out h2.out hs⟩
theorem FQ {X:Cx} {pos:Pos} {es:List Expr} {k:Nat} {t:ju} {n:Nat} (hc:X.calm=true) (h:ki X es t) (hn:(assignEach es X.env).length=n:=by rfl) (kU:(assignEach es X.env).findIdx? (·.1)=none:=by rfl):JG X (.Tuple es k pos) (tT X.K n t):=⟨L2.Lb hc h.out hn kU⟩
theorem uF {X:Cx} {pos:Pos} {o i:Expr} {to ti:TE} {t:m8} (ho:JE X o to) (hi:JE X i ti) (hs:qe X t) (ha:∀ v,assign (.Subscript o i pos) X.env v=(do
   let ov <- holding [v] (eval o X.env)
   let iv <- holding [v,ov] (eval i X.env)
   standAt pos
   holding [v,ov,iv] (setItem ov iv v)
   release [v,ov,iv] []):=by intro _;rfl):JG X (.Subscript o i pos) (qf to ti t):=⟨L2.Lc ho.out hi.out hs ha⟩
theorem sy {X:Cx} {pos:Pos} {tg e:Expr} {te:TE} {g:TG} (he:JE X e te) (hg:JG X tg g) (hs:swapsWithSole [tg] e pos.line X.env=pure false:=by rfl) (hw:swappedStores [tg] e X.env=pure none:=by rfl) (h1:(assignEach [tg] X.env).map (·.2)=[assign tg X.env]:=by rfl):JS X (.Assign [tg] e pos) (gC te g):=⟨L2.Ld he.out hg.out hs hw h1⟩
theorem wN {X:Cx} {pos:Pos} {i:Nat} {x:Str} {e:Expr} {te:TE} {pos':Pos} (hN:X.N.Nodup) (hi:X.N[i]? = some x) (hx:Loc X.env.scope x) (he:JE X e te) (hs:swapsWith e (some (.Name x pos')) pos.line X.env=pure false:=by rfl) (hf:X.fn x=true\/X.env.scope.names.lookup x=some .local:=by first | exact .inl rfl | exact .inr rfl | assumption):JS X (.Assign [.Name x pos'] e pos) (gC te (m9 i)):=⟨L2.Le hN hi hx he.out hs hf⟩
theorem NF {X:Cx} {tg:Expr} {a:Expr} {ta:TA} {p pos:Pos} (hg:Gl X "range") (hm:X.mg "range" = none) (ha:JA X [a] ta) (hs:starEach [a] X.env=[(false,eval a X.env)]:=by rfl):JI X tg (.Call (.Name "range" p) [a] [] pos) (Ex ta):=⟨L2.Li hg hm ha.out hs⟩
theorem NG {X:Cx} {tg:Expr} {a b:Expr} {ta:TA} {p pos:Pos} (hg:Gl X "range") (hm:X.mg "range" = none) (ha:JA X [a,b] ta) (hs:starEach [a,b] X.env=[(false,eval a X.env),(false,eval b X.env)]:=by rfl) (eU:starEach [b] X.env=[(false,eval b X.env)]:=by rfl):JI X tg (.Call (.Name "range" p) [a,b] [] pos) (Ey ta):=⟨L2.Lj hg hm ha.out hs eU⟩
theorem FR {X:Cx} {tg:Expr} {iter:Expr} {body:List Stmt} {wi:TI} {g:TG} {tb:TS} {pos:Pos} (hp:PassesOwn (model X.prog X.w) X.A X.env X.xe) (hc:X.calm=true) (hi:JI X tg iter wi) (hg:JG X tg g) (hb:gn X body tb) (hs:∀ x,foldedSetIterable iter X.env x=pure x:=by intro _;rfl):JS X (.For tg iter body [] pos) (tV wi g tb):=⟨L2.Ll hp hc hi.out hg.out hb.out hs⟩
theorem uG {X:Cx} {a b:Expr} {ta tb:TE} {pos:Pos} {op:Operator} {r:R2} (ho:dE X (binaryOp op) r) (ha:JE X a ta) (hb:JE X b tb):JE X (.BinOp a op b pos) (kW r ta tb):=⟨L2.Lm ho ha.out hb.out⟩
theorem NH {X:Cx} {a:Expr} {ta:TE} {pos:Pos} {op:UnaryOp} {r:V->Hp->VK->Prop} (ho:wx X (unaryOp op) r) (ha:JE X a ta):JE X (.UnaryOp op a pos) (Ez r ta):=⟨L2.EA ho ha.out⟩
theorem NI {X:Cx} {a b:Expr} {ta tb:TE} {pos:Pos} {op:CmpOp} {r:R2} (ho:dE X (compareOp op) r) (ha:JE X a ta) (hb:JE X b tb) (hm:behindInMarks op b=false):JE X (.Compare a [op] [b] pos) (kW r ta tb):=⟨L2.LA ho ha.out hb.out hm⟩
theorem NJ {X:Cx} {a b:Expr} {ta tb:TE} {pos:Pos} {op:CmpOp} {r:R2} (ho:dE X (compareOp op) r) (ha:JE X a ta) (hb:JE X b tb) (hm:behindInMarks op b=false):JT X (.Compare a [op] [b] pos) (ED (kW r ta tb)):=⟨L2.LB ho ha.out hb.out hm⟩
theorem NK {X:Cx} {a b c:Expr} {ta tb tc:TE} {pos:Pos} {op kX:CmpOp} {r r':R2} (ho:dE X (compareOp op) r) (jK:dE X (compareOp kX) r') (ha:JE X a ta) (hb:JE X b tb) (hc:JE X c tc) (hm:lastMarks [op,kX] [b,c]=false:=by with_unfolding_all rfl):JE X (.Compare a [op,kX] [b,c] pos) (EE r r' ta tb tc):=⟨L2.LC ho jK ha.out hb.out hc.out hm⟩
theorem bS {X:Cx}  : JA X [] iS:=⟨L2.LM⟩
theorem qA {X:Cx} {e:Expr} {es:List Expr} {te:TE} {t:TA} (ha:JE X e te) (hr:JA X es t) (hs:starEach (e :: es) X.env=(false,eval e X.env) :: starEach es X.env:=by rfl):JA X (e :: es) (fS te t):=⟨L2.qj ha.out hr.out hs⟩
theorem FT {X:Cx} {es:List Expr} {t:TA} {pos:Pos} {x1} (h:JA X es t):JE X (.Tuple es x1 pos) (nk t):=⟨L2.LN h.out⟩
theorem AF {X:Cx} {es:List Expr} {t:TA} {pos:Pos} (h:JA X es t):JE X (.List es pos) (t6 t):=⟨L2.LO h.out⟩
theorem wO {X:Cx} {CX:jM} {k:Nat} {f:Addr} {fd:FuncData} {ps:List Str} {sp:Sp} {kY:List V} {ds:List Value} {E:XK} {x:Str} {p pos:Pos} {e:Expr} {es:List Expr} {t:TA} (F:ba X.prog X.w X.K X.mg X.base CX k f fd ps sp) (hr:bG k X.A) (hg:Gl X x) (hm:X.mg x=some (.ref f)) (hk:PySem.W.keepIn X.K (.ref f)=true) (hb:Binds X.K fd ps ds) (hd:Vals kY ds) (hx:wz CX X E) (ha:JA X (e :: es) t) (hJ:(x == ("__debug__" : Str))=false:=by decide) (he:starEach (e :: es) X.env=(false,eval e X.env) :: starEach es X.env:=by rfl) (gM:(backTo pos (starEach es X.env)).any (·.1)=false:=by rfl):JE X (.Call (.Name x p) (e :: es) [] pos) (si sp kY E t):=⟨L2.LQ F hr hg hm hk hb hd hx ha.out hJ he gM⟩
theorem wQ {X:Cx} {x:Str} {p pos:Pos} {e:Expr} {es:List Expr} {t:TA} {id:String} {r:List V->Hp->VK->Prop} (hc:g9 X (.builtin id) r) (hg:Gl X x) (hm:X.mg x=none) (hv:bootBuiltins x=some (.builtin id)) (ha:JA X (e :: es) t) (hn:x ≠ "__name__" := by decide) (hJ:(x == ("__debug__" : Str))=false:=by decide) (he:starEach (e :: es) X.env=(false,eval e X.env) :: starEach es X.env:=by rfl) (gM:(backTo pos (starEach es X.env)).any (·.1)=false:=by rfl):JE X (.Call (.Name x p) (e :: es) [] pos) (t9 r t):=⟨L2.LS hc hg hm hv ha.out hn hJ he gM⟩
theorem pf {X:Cx} {x:Str} {p pos:Pos} {e:Expr} {es:List Expr} {t:TA} {T:String} {r:List V->Hp->VK->Prop} (hc:g9 X (.type T) r) (hg:Gl X x) (hm:X.mg x=none) (hv:bootBuiltins x=some (.type T)) (ha:JA X (e :: es) t) (hn:x ≠ "__name__" := by decide) (hJ:(x == ("__debug__" : Str))=false:=by decide) (he:starEach (e :: es) X.env=(false,eval e X.env) :: starEach es X.env:=by rfl) (gM:(backTo pos (starEach es X.env)).any (·.1)=false:=by rfl):JE X (.Call (.Name x p) (e :: es) [] pos) (t9 r t):=⟨L2.LU hc hg hm hv ha.out hn hJ he gM⟩
theorem AG {X:Cx} {e:Expr} {te:TE} {lo hi:Option Expr} {tl th:TO} {pos p2:Pos} {r:V->Option Int->Option Int->Hp->VK->Prop} (hr:nA X r) (he:JE X e te) (hl:PO X lo tl) (hu:PO X hi th):JE X (.Subscript e (.Slice lo hi none p2) pos) (EV r te tl th):=⟨L2.Md hr he.out hl hu⟩
theorem wR {X:Cx} {a b:Expr} {ta tb:TE} {pos:Pos} {r:R2} (hr:sk X r) (ha:JE X a ta) (hb:JE X b tb) (hs:zR b):JE X (.Subscript a b pos) (kW r ta tb):=⟨L2.Mi hr ha.out hb.out hs⟩
theorem NL {X:Cx} {o:Expr} {to:TE} {name:Str} {apos cN:Pos} {T id:String} {r:V->List V->Hp->VK->Prop} (pa:PlainAttrs T) (slot:Slot T name id) (qr:typeOf (.builtin id)=pure (.type "method_descriptor")) (hm:ug X id r) (ho:JE X o to) (f7:attributeBase o name X.env (eval o X.env)=eval o X.env:=by rfl) (f9:(apos.endLine == cN.line)=true:=by rfl):JE X (.Call (.Attribute o name apos) [] [] cN) (qq X.K T r to):=⟨L2.Mq pa slot qr hm ho.out f7 f9⟩
theorem mC {X:Cx} {o e:Expr} {es:List Expr} {to:TE} {t:TA} {name:Str} {apos cN:Pos} {T id:String} {r:V->List V->Hp->VK->Prop} (pa:PlainAttrs T) (slot:Slot T name id) (qr:typeOf (.builtin id)=pure (.type "method_descriptor")) (hm:ug X id r) (ho:JE X o to) (ha:JA X (e :: es) t) (f7:attributeBase o name X.env (eval o X.env)=eval o X.env:=by rfl) (qt:((backTo cN (starEach (e :: es) X.env)).all (fun x => !x.1) && (backToKw cN (keywordEach [] X.env)).all (fun x=>x.1.isSome)
   && decide ((e :: es).length + ([]:List Keyword).length + (if ([]:List Keyword).isEmpty then 0 else 1) < 30))=true:=by rfl) (f9:(apos.endLine == cN.line)=true:=by rfl) (hs:starEach (e :: es) X.env=(false,eval e X.env) :: starEach es X.env:=by rfl) (hplain:(backTo cN (starEach es X.env)).any (·.1)=false:=by rfl):JE X (.Call (.Attribute o name apos) (e :: es) [] cN) (o8 X.K T r to t):=⟨L2.Mr pa slot qr hm ho.out ha.out f7 qt f9 hs hplain⟩
theorem jv {X:Cx} (i:Nat) {x:Str} {pos:Pos} (hN:X.N[i]? = some x:=by rfl) (hv:qa X.env.scope x:=by first | exact Or.inl rfl | exact Or.inr (Or.inl rfl) | exact Or.inr (Or.inr rfl)) (hd:(x == ("__debug__" : Str))=false:=by decide) (fZ:(x == ("__classdict__" : Str))=false:=by decide):JE X (.Name x pos) (d7 i):=⟨L2.pv i hN hv hd fZ⟩
theorem NM {X:Cx} {o i:Expr} {td ty:TE} (hu:X.A.units + 1 < cLine) (hi:JE X i ty) (ho:JE X o td):JC X .In i o (qz ty td):=⟨L2.Ng hu hi.out ho.out⟩
theorem NN {X:Cx} {o i value:Expr} {pos pos':Pos} {td ty tv:TE} (hu:X.A.units + 1 < cLine) (ho:JE X o td) (hi:JE X i ty) (hv:JE X value tv) (hs:swapsWith value (some (.Subscript o i pos')) pos.line X.env=pure false):JS X (.Assign [.Subscript o i pos'] value pos) (FO td ty tv):=⟨L2.Nh hu ho.out hi.out hv.out hs⟩
theorem la {X:Cx} {pos:Pos}  : JE X (.Dict [] [] pos) FP:=⟨L2.Nj⟩
theorem qB {X:Cx}:JF X [] uu:=⟨L2.MG⟩
theorem NO {X:Cx} {c:Expr} {t:TT} (h:JT X c t):JF X [c] t:=⟨L2.MH h.out⟩
theorem FU {X:Cx} {elt tg iter:Expr} {ifs:List Expr} {scope:Scope} {pos:Pos} {wi:TI} {g:BD->TG} {tf:BD->TT} {te:BD->TE} (cp:List (Option Nat)) (Nb:List Str) (hc:X.calm=true) (hi:JI X tg iter wi) (hg:∀ d,JG (cO X scope Nb d) tg (g d)) (hf:∀ d,JF (cO X scope Nb d) ifs (tf d)) (he:∀ d,JE (cO X scope Nb d) elt (te d)) (hk:scope.kind = .function:=by rfl) (ho:mB X.N X.env.scope scope Nb cp=true:=by first | rfl | kernel_rfl) (hs:∀ x,foldedSetIterable iter X.env x=pure x:=by intro _;rfl):JE X (.ListComp elt [⟨tg,iter,ifs,0⟩] scope pos) (qy wi cp g tf te):=⟨L2.MW cp Nb hc hi.out (fun dd=>(hg dd).out) (fun dd=>(hf dd).out) (fun dd=>(he dd).out) hk ho hs⟩
theorem NP {X:Cx} {elt tg iter:Expr} {ifs:List Expr} {scope:Scope} {pos:Pos} {wi:TI} {g:BD->TG} {tf:BD->TT} {te:BD->TE} (cp:List (Option Nat)) (Nb:List Str) {i:Nat} {x:Str} {pos' iC:Pos} (hN:X.N.Nodup) (hi:X.N[i]? = some x) (hx:Loc X.env.scope x) (hc:X.calm=true) (hit:JI X tg iter wi) (hg:∀ d,JG (cO X scope Nb d) tg (g d)) (hf:∀ d,JF (cO X scope Nb d) ifs (tf d)) (he:∀ d,JE (cO X scope Nb d) elt (te d)) (hk:scope.kind = .function:=by rfl) (ho:mB X.N X.env.scope scope Nb cp=true:=by first | rfl | kernel_rfl) (hs:∀ x,foldedSetIterable iter X.env x=pure x:=by intro _;rfl) (uy:swapsWith (.ListComp elt [⟨tg,iter,ifs,0⟩] scope pos) (some (.Name x pos')) iC.line X.env=pure true:=by rfl) (mW:X.fn x=true\/X.env.scope.names.lookup x=some .local:=by first | exact .inl rfl | exact .inr rfl | assumption):JS X (.Assign [.Name x pos'] (.ListComp elt [⟨tg,iter,ifs,0⟩] scope pos) iC) (gC (qy wi cp g tf te) (m9 i)):=⟨L2.MX cp Nb hN hi hx hc hit.out (fun dd=>(hg dd).out) (fun dd=>(hf dd).out) (fun dd=>(he dd).out) hk ho hs uy mW⟩
theorem NQ {X:Cx} {elts:List Expr} {x1:Nat} {tp:Pos} {a:Expr} {ta:TA} {p pos:Pos} (hg:Gl X "enumerate") (hm:X.mg "enumerate" = none) (ha:JA X [a] ta) (hs:starEach [a] X.env=[(false,eval a X.env)]:=by rfl):JI X (.Tuple elts x1 tp) (.Call (.Name "enumerate" p) [a] [] pos) (FA X.K ta):=⟨L2.M0 hg hm ha.out hs⟩
theorem uH {X:Cx} {es:List Expr} {te:TE} {t:TA} {c j p} (ha:JE X (.Constant c j p) te) (hr:JA X es t):JA X (.Constant c j p :: es) (fS te t):=⟨L2.An ha.out hr.out⟩
theorem iW {X:Cx} {es:List Expr} {te:TE} {t:TA} {x p} (ha:JE X (.Name x p) te) (hr:JA X es t):JA X (.Name x p :: es) (fS te t):=⟨L2.Ao ha.out hr.out⟩
theorem lb {X:Cx} {es:List Expr} {te:TE} {t:TA} {f a k p} (ha:JE X (.Call f a k p) te) (hr:JA X es t):JA X (.Call f a k p :: es) (fS te t):=⟨L2.Ap ha.out hr.out⟩
theorem AH {X:Cx} {es:List Expr} {te:TE} {t:TA} {a p} (ha:JE X (.List a p) te) (hr:JA X es t):JA X (.List a p :: es) (fS te t):=⟨L2.Aq ha.out hr.out⟩
theorem AI {X:Cx} {es:List Expr} {te:TE} {t:TA} {a k p} (ha:JE X (.Tuple a k p) te) (hr:JA X es t):JA X (.Tuple a k p :: es) (fS te t):=⟨L2.Ar ha.out hr.out⟩
theorem AJ {X:Cx} {es:List Expr} {te:TE} {t:TA} {a k p} (ha:JE X (.Subscript a k p) te) (hr:JA X es t):JA X (.Subscript a k p :: es) (fS te t):=⟨L2.As ha.out hr.out⟩
theorem c_.wU {P:Program} {w:World} {K:PySem.W.Frag} {mg:Str->Option Value} {base:Heap} {x qual:Str} {st:Stmt} {f:Addr} {fd:FuncData} {N ps:List Str} {k:Nat} {sp:Sp} (F:c_ K x qual st f fd) (S:d5 N ps (cb st)) (len:∀ vs H Q E,sp vs H Q E->vs.length=ps.length)
  (eg:∀ (bD:Value) (A:Around) (outer:List Env) (s:Shared) (H:Hp) (vs:List V) (Q:VK) (E:XK),bG k (A.deeper (envOfC qual (cb st) s.heap.objs.size f bD))->sp vs H Q E →
   ∃ t,gn (gD cz P w K mg base N qual (cb st) f bD A outer s H E).mY (jQ st) t/\t { nx:=fun _ H'=>Q .non H',rt:=Q } (start N vs) H):ba P w K mg base cz (k + 1) f fd ps sp :=
 F.ok S len fun bD A outer s H vs Q E hr h=>let ⟨t,g,q⟩:=eg bD A outer s H vs Q E hr h; ⟨t,g.out,q⟩
end L2
namespace LJS
open PySem
noncomputable def hp (i j:Int):Int:=reduceHash (Builtin.Tuple.tupleHashOf [hashInt i,hashInt j])
theorem FV {prog:Program} {w:World} (i j:Int):hT prog w [i,j]=hp i j:=rfl
noncomputable def wV:List (Int × Int):=(List.range 12).flatMap fun j=>(List.range j).map fun i:Nat=>(Int.ofNat i,Int.ofNat j)
theorem NR:∀ a∈wV,∀ b∈wV,hp a.1 a.2=hp b.1 b.2->a=b:=by decide +kernel
theorem FW {i j:Int} (h0:0 <= i) (h1:i < j) (h2:j < 12):(i,j)∈wV:=by
 obtain⟨a,rfl⟩:∃ a:Nat,i=a:=⟨i.toNat,by omega⟩
 obtain⟨b,rfl⟩:∃ b:Nat,j=b:=⟨j.toNat,by omega⟩
 unfold wV
 exact List.mem_flatMap.mpr ⟨b,Wh.mpr (by omega),Wg.mpr ⟨a,Wh.mpr (by omega),rfl⟩⟩
end LJS
namespace L2
open PySem PySem.Spec PyProof.Rows
noncomputable def lg (S:Addr) (n:Nat):HO := .ext fun h=>∃ hs:List Int,hs.length=n/\LJS.kJ h S hs
theorem NS {P:Program} {w:World} {H:Hp} {h:Heap} {S:Addr} {hs:List Int} {n:Nat} (e:LJS.kJ h S hs) (hn:hs.length=n):aJ P w H h S (lg S n) :=
 ⟨⟨hs,hn,e⟩,let ⟨o,_,_,_,ho,_⟩:=e; ⟨o,ho⟩,fun h1 h2 ⟨wW,en,e1⟩ k=>⟨wW,en,LJS.JY e1 fun o eo=>k o eo⟩⟩
section
variable {X:Cx}
theorem FX:∀ {ps:List Addr} {ag:List Value},Vals (ps.map V.ref) ag->ag=ps.map Value.ref
 | [],_,.nil=>rfl
 | _ :: _,_,.cons r rs=>by cases r;rw[FX rs];rfl
theorem NT:g9 X (.builtin "len") (fun xs H Q=>∃ (p:Addr) (n:Nat),xs=[.ref p]/\H p=some (lg p n)/\n < 1000/\Q (.int n) H):=by
 intro pins s σ H xs us Q I r h
 obtain⟨p,n,rfl,hp,hn,q⟩:=h
 obtain⟨u,rfl,rx⟩:=vals1 r
 cases rx
 obtain⟨⟨hs,hl,o,es,ep,t,ho,hex,hd,T⟩,_⟩:=I.aN p _ hp
 have e:es.size=n:=by rw[T.num,hl]
 refine call_len_set ho hex hd T.fits (by omega) ⟨.int n,H,I.tok _,⟨_,by rw[e]⟩,q⟩
theorem FY:∀ {bs:List Bool} {ag:List Value},Vals (bs.map V.bl) ag->ag=bs.map Value.bool
 | [],_,.nil=>rfl
 | _ :: _,_,.cons r rs=>by cases r;rw[FY rs];rfl
theorem all_range (bs:List Bool):(List.range bs.length).all (fun i=>bs.getD i true)=bs.all id:=by
 rw[Bool.eq_iff_iff,Xw,Xw]
 constructor
 ·intro h b hb
  obtain⟨i,hi⟩:=V0.mp hb
  have hl:=(su.mp hi).1
  have:=h i (Wh.mpr hl)
  rw[wF,hi] at this
  exact this
 ·intro h i hi
  have hl:=Wh.mp hi
  rw[wF,qv hl]
  exact h _ (XN hl)
theorem NU (hc:X.calm=true):g9 X (.builtin "all") (fun xs H Q=>∃ (l:Addr) (bs:List Bool),xs=[.ref l]/\bx X.K H l (bs.map V.bl)/\Q (.bl (bs.all id)) H):=by
 intro pins s σ H xs us Q I r h
 obtain⟨l,bs,rfl,hq,q⟩:=h
 obtain⟨u,rfl,rx⟩:=vals1 r
 cases rx
 obtain⟨ag,r',pl,_⟩:=I.list hq
 obtain rfl:=FY r'
 have hL:=pl.isList
 have ll:l < s.heap.objs.size:=by obtain⟨o,e,_⟩:=hL;exact My e
 have nI:l≠s.heap.objs.size:=Vx ll
 refine call_all_walk (Yg hL ?_)
 refine⟨s.heap.objs.size,_,_,_,_,_,fun i=>bs.getD i true,rfl,Walks.list (by rw[Ys];exact I.ok.hd hc) s.heap.objs.size l nI _,⟨⟨_,MC _ rfl,rfl,rfl⟩,hL.push _⟩,fun i v s' Q' E' hv wX => ?_,fun h' tk kp => ?_⟩
 ·have hv:(bs.map Value.bool).toArray[i]? = some v:=hv
  have wX:Q' (bs.getD i true) s':=wX
  rw[Xt,Fl] at hv
  obtain⟨b,eb,rfl⟩:=Vu.mp hv
  rw[wF,eb] at wX
  exact XW wX
 ·refine⟨.bl (bs.all id),H,I.kept (t':=tk) fun b o e=>kp b o (fun z => ?_) (qw _ e),?_,q⟩
  ·have:=My e
   rw[Wc.mp z] at this
   exact XB _ this
  ·show Value.bool _=Value.bool _
   rw[Ad,qx,all_range]
end
end L2
namespace LJ
open PySem L2
structure Fn (P:Program) (w:World) (K:PySem.W.Frag) (mg:Str->Option Value) (base:Heap) (k:Nat) (x:Str) (ps:List Str) (sp:Sp) (f:Addr) (fd:FuncData):Prop where
 ok:ba P w K mg base cz k f fd ps sp
 bU:mg x=some (.ref f)
 kp:PySem.W.keepIn K (.ref f)=true
 bd:Binds K fd ps []
theorem uI:bootBuiltins "bool" = some (.type "bool"):=by decide +kernel
theorem wY:bootBuiltins "int" = some (.type "int"):=by decide +kernel
theorem FZ:bootBuiltins "str" = some (.type "str"):=by decide +kernel
theorem uJ:bootBuiltins "tuple" = some (.type "tuple"):=by decide +kernel
theorem nJ:bootBuiltins "list" = some (.type "list"):=by decide +kernel
theorem F7:bootBuiltins "set" = some (.type "set"):=by decide +kernel
theorem NV:bootBuiltins "all" = some (.builtin "all"):=by decide +kernel
section
variable {K:PySem.W.Frag}
end
structure gb (many:Int) (ys:List (Int × Int × Int)):Prop where
 m1:1 <= many
 jy:many <= 12
 mf:ys.length <= 30
 ends:∀ y∈ys,0 <= y.1/\y.1 < y.2.1/\y.2.1 < many/\0 <= y.2.2/\y.2.2 <= 1000000000
 unlike:(ys.map fun y=>(y.1,y.2.1)).Nodup
end LJ
namespace L2
open PySem PySem.Spec PyProof.Rows
section
variable {X:Cx}
end
end L2
namespace LJ
open PySem L2
noncomputable def jz:Nat->List (Int × Int)
 | 0=>[]
 | n + 1=>jz n ++ (List.range n).map fun a:Nat=>(Int.ofNat a,Int.ofNat n)
theorem AK:∀ {n:Nat} {k:Int × Int},k∈jz n->0 <= k.1/\k.1 < k.2/\k.2 < n
 | 0,_,h=>nomatch h
 | n + 1,k,h=>by
  rcases W7.mp h with h | h
  ·have:=AK h;omega
  ·obtain⟨a,ha,rfl⟩:=Wg.mp h
   have:=Wh.mp ha
   refine⟨Int.natCast_nonneg a,?_,?_⟩
   ·show (a:Int) < (n:Int);omega
   ·show (n:Int) < ((n + 1:Nat):Int);omega
theorem F8:∀ n:Nat,(jz n).Nodup
 | 0=>Y6
 | n + 1=>by
  refine XU.mpr ⟨F8 n,?_,fun k h1 k' h2 e => ?_⟩
  ·refine Yf.mpr (Ze.imp fun {a b} ne e=>ne ?_)
   exact Int.ofNat.inj (congrArg Prod.fst e)
  ·subst e
   obtain⟨a,ha,rfl⟩:=Wg.mp h2
   have:=(AK h1).2.2
   have:(n:Int) < (n:Int):=this
   omega
theorem F9:∀ n:Nat,n <= 12->(jz n).length <= 66:=by
 intro n h
 rcases n with _ | _ | _ | _ | _ | _ | _ | _ | _ | _ | _ | _ | _ | n
 all_goals first | decide | omega
end LJ
namespace LJ
open PySem
theorem F_ {j n:Nat} (h:j < n):seqIndex? (j:Int) n=some j:=by
 unfold seqIndex?
 first | (simp;omega) | skip
end LJ
namespace L2
open PySem PySem.Spec PyProof.Rows
section
variable {X:Cx}
theorem Ga:g9 X (.type "range") (fun xs H Q=>∃ j:Int,xs=[.int j]/\∀ r,H r=none->Q (.ref r) (upd H r (.rng 0 j))):=by
 intro pins s σ H xs us Q I r h
 obtain⟨j,rfl,q⟩:=h
 obtain⟨u,rfl,t,rfl⟩:=vals1 r
 refine call_range_1 ⟨.ref s.heap.objs.size,_,I.laid (t':=s.toks + 1 + 1) (o := .rng 0 j) (fun b o e=>qw _ e) (wG _) ?_,rfl,q _ (I.aN.fresh (wG _))⟩
 exact⟨_,_,_,MC _ rfl⟩
noncomputable def bO (n:Nat):List Int:=(List.range n).map fun a:Nat=>(a:Int)
theorem Gb:∀ {ns:List Int} {us:List Value},us.length=ns.length->(∀ (i:Nat) (u:Value),us[i]? = some u->∃ t,u = .int (ns.getD i 0) t)->Vals (ns.map V.int) us
 | [],[],_,_ => .nil
 | [],_ :: _,h,_=>by simp at h
 | _ :: _,[],h,_=>by simp at h
 | n :: ns,u :: us,h,g=>by
  obtain⟨t,e⟩:=g 0 u rfl
  refine .cons ⟨t,e⟩ (Gb (by simpa using h) fun i v e2 => ?_)
  obtain⟨t,e⟩:=g (i + 1) v (by simpa using e2)
  exact⟨t,by simpa using e⟩
theorem Gd (hc:X.calm=true):g9 X (.type "list") (fun xs H Q=>∃ (r:Addr) (n:Nat),xs=[.ref r]/\H r=some (.rng 0 (n:Int))/\n <= 1000/\∀ l,H l=none->Q (.ref l) (upd H l (.lst ((bO n).map V.int)))):=by
 intro pins s σ H xs us Q I r h
 obtain⟨a,n,rfl,ha,hn,q⟩:=h
 obtain⟨u,rfl,rx⟩:=vals1 r
 cases rx
 obtain⟨t,u,v,e⟩:=(show ∃ t u v,s.heap.get? a=some { cls := .type "range",data := .fields #[.int 0 t,.int (n:Int) u,.int 1 v] } from I.aN a _ ha)
 have hs:Builtin.Range.rangeSize 0 (n:Int) 1=n:=by rw[rangeSize_one];split<;>omega
 refine call_list_range (n:=n) (I.ok.hd hc) e (small_one (by omega) (by omega) (by omega) (by omega)) hs (by omega) fun h' tk acc c' kp e' it => ?_
 refine⟨.ref s.heap.objs.size,_,I.laid (t':=tk) (o := .lst ((bO n).map V.int)) kp (wG _) ?_,rfl,q _ (I.aN.fresh (wG _))⟩
 refine⟨Xj (o_ (by rw[qx,bO,qx,Ws];exact hn)),acc.toList,c',?_,by simpa using e'⟩
 refine Gb ?_ fun i u e => ?_
 ·rw[Fj,it.1,bO,qx,Ws]
 ·rw[Wa] at e
  obtain⟨t',e2⟩:=it.2 i u e
  have hi:i < n:=by rw[<-it.1];exact (XC.mp e).1
  refine⟨t',e2.trans ?_⟩
  rw[bO,wF,Fl,WH hi]
  show Value.int (0 + (i:Int) * 1) t'=Value.int (i:Int) t'
  rw[Int.zero_add,Int.mul_one]
theorem AL:∀ {us:List Value} {ns:List Int},IntsAre us ns->Vals (ns.map V.int) us
 | _,_,.nil => .nil
 | _,_,.cons n t r => .cons ⟨t,rfl⟩ (AL r)
theorem NW:g9 X (.builtin "sorted") (fun xs H Q=>∃ (l:Addr) (ns:List Int),xs=[.ref l]/\bx X.K H l (ns.map V.int)/\ns.length < 64/\∀ (r:Addr) (eV:List Int),eV.Perm ns->eV.Pairwise (· <= ·)->H r=none->Q (.ref r) (upd H r (.lst (eV.map V.int)))):=by
 intro pins s σ H xs us Q I r h
 obtain⟨l,ns,rfl,hq,iN,q⟩:=h
 obtain⟨u,rfl,rx⟩:=vals1 r
 cases rx
 obtain⟨ag,r',pl,_⟩:=I.list hq
 have hl:=r'.length
 rw[qx] at hl
 refine sorted_ints pl.isList (by simpa using intsAre_of r') (by omega) fun out eV hI pm pw => ?_
 have hf:H (s.heap.objs.size + 1)=none:=I.aN.fresh (ZZ _)
 obtain⟨e,he⟩:=sortedAll_at s.heap ag out
 refine⟨.ref (s.heap.objs.size + 1),_,I.laid (t':=s.toks) (o := .lst (eV.map V.int)) (fun b o e=>sortedAll_old e) (ZZ _) ?_,rfl,q _ eV pm pw hf⟩
 refine⟨Xj (o_ (by rw[qx,pm.length_eq];omega)),out.toList,e,AL hI,?_⟩
 simpa [seqObj] using he
theorem Ge {prog:Program} {w:World} {A:Around} {E:Value->Shared->Prop} {I l:Addr} {items:Array Value} (W:Walks prog w A I [I,l] [I] items.size (fun i v=>items[i]? = some v) (fun i h=>h.IsListIter I l i/\h.IsList l items)) :
  ∀ (k i:Nat) (s:Shared) (Q:List Value->Shared->Prop),i + k <= items.size->(s.heap.IsListIter I l i/\s.heap.IsList l items) →
   (∀ h' tk,(h'.IsListIter I l (i + k)/\h'.IsList l items)->(∀ b o,b∉[I]->s.heap.get? b=some o->h'.get? b=some o)->Q ((items.toList.drop i).take k) { s with heap:=h',toks:=tk })->wpAny (model prog w) A (draw (.ref I) k) Q E s
 | 0,i,s,Q,_,st,g=>by
  show wpAny _ _ (pure []) Q E s
  refine uk ?_
  have:=g s.heap s.toks st fun _ _ _ e=>e
  rw[ZP] at this
  exact this
 | k + 1,i,s,Q,hk,st,g=>by
  have hi:i < items.size:=by omega
  show wpAny _ _ (pyNext (.ref I) >>= _) Q E s
  refine nG (W.item i s _ _ hi st fun v h1 lh hv iL sA => ?_)
  refine nG (Wo (Ge W k (i + 1) _ _ (by omega) iL fun h2 AM g6 pX=>uk ?_))
  have e:items.toList.drop i=v :: items.toList.drop (i + 1):=by
   rw[Yc (by rw[Fj];exact hi)]
   congr 1
   have Gf:items[i]? = some v:=hv
   rw[Vv hi] at Gf
   simpa using Gf
  have:=g h2 AM (by rw[show i + (k + 1)=i + 1 + k by omega];exact g6) fun b o hb e=>pX b o hb (sA b o hb e)
  rw[e,List.take_succ_cons] at this
  exact this
theorem NX {prog:Program} {w:World} {A:Around} {E:Value->Shared->Prop} {s:Shared} {l:Addr} {items:Array Value} {Q:List Value->Shared->Prop} (hh:A.handled=none) (hl:s.heap.IsList l items)
  (g:∀ h' tk,(∀ b o,b≠s.heap.objs.size->s.heap.get? b=some o->h'.get? b=some o)->Q items.toList { s with heap:=h',toks:=tk }):wpAny (model prog w) A (unpackItems (.ref l) items.size none) Q E s:=by
 have ll:l < s.heap.objs.size:=by obtain⟨o,e,_⟩:=hl;exact My e
 have W:=Walks.list (prog:=prog) (w:=w) hh s.heap.objs.size l (Vx ll) items
 unfold unpackItems
 refine nG ?_
 unfold notIterableAtAll
 refine nG (wpAny_specialOf hl.typeIs slot_list_iter.lookup (uk ?_))
 simp only[V6,W9]
 refine nG (Wo (Yg hl ?_))
 refine nG (Wo (Ge W items.size 0 _ _ (by omega) ⟨⟨_,MC _ rfl,rfl,rfl⟩,hl.push _⟩ fun h1 lh iL sA => ?_))
 rw[Y1,Xd (by rw[Fj];exact wG _),MA (by rw[Fj];exact XB _)]
 rw[Wv] at iL
 refine nG (Wo (W.done _ _ _ iL fun h2 AM pX => ?_))
 simp only[Option.isSome_none,V6,W9]
 refine uk (g h2 AM fun b o hb e=>pX b o (by simpa using hb) (sA b o (by simpa using hb) (qw _ e)))
noncomputable def NY (K:PySem.W.Frag) (n:Nat) (t:ju):TG:=fun v σ H Q=>∃ a xs,v = .ref a/\bx K H a xs/\xs.length=n/\t xs σ H Q
theorem NZ {es:List Expr} {k:Nat} {t:ju} {n:Nat} {pos:Pos} (hc:X.calm=true) (h:ki X es t)
  (hn:(assignEach es X.env).length=n:=by rfl) (kU:(assignEach es X.env).findIdx? (·.1)=none:=by rfl):JG X (.Tuple es k pos) (NY X.K n t):=by
 refine⟨?_⟩
 intro pins s σ H v u Q I r hw
 obtain⟨a,xs,e1,hq,hl,hw⟩:=hw
 subst e1
 cases r
 obtain⟨ag,rv,ht,hz⟩:=I.list hq
 have hlen:=rv.length
 rw[assign_Tuple]
 refine nG (Zo ?_)
 unfold unpack
 rw[kU,show (assignEach es X.env).length=ag.toArray.size by rw[hn,<-hl,hlen];simp]
 refine nG (Wo (NX (I.ok.hd hc) ht.isList fun h' tk kp => ?_))
 have I1:Inv X pins σ H { s with heap:=h',toks:=tk }:=I.kept fun b o e=>kp b o (Vx (My e)) e
 exact h.out pins _ σ H xs _ Q I1 (by simpa using rv) hw
end
theorem N0 (ag:List Value):slicePick ag.toArray none none (some (-1))=ag.reverse.toArray:=by
 unfold slicePick
 congr 1
 have e:sliceBounds none none (some (-1)) ag.toArray.size=((ag.length:Int) - 1,-1,-1):=by
  unfold sliceBounds
  simp
 rw[e]
 unfold sliceRange
 simp only
 have ec:(if (-1:Int) > 0 then (if (ag.length:Int) - 1 < -1 then (-1 - ((ag.length:Int) - 1) + -1 - 1) / -1 else 0) else (if (ag.length:Int) - 1 > -1 then ((ag.length:Int) - 1 - -1 - -1 - 1) / (- -1) else 0))=(ag.length:Int):=by
  rw[MA (by decide)]
  split
  ·rw[show (- -1:Int)=1 by decide,Int.ediv_one];omega
  ·omega
 rw[ec,V7]
 rw[ZH]
 have hc:∀ (n:Nat),(∀ k∈List.range n,k < ag.length)->(List.range n).filterMap ((fun k:Nat=>ag.toArray[k]?) ∘ fun k:Nat=>((ag.length:Int) - 1 + -1 * (k:Int)).toNat)=(List.range n).map fun k=>ag.getD (ag.length - 1 - k) .none:=by
  intro n hn
  generalize hr:List.range n=l at hn
  clear hr
  induction l with
  | nil=>rfl
  | cons k l ih =>
   have hk:=hn k (Mz ..)
   have e1:((ag.length:Int) - 1 + -1 * (k:Int)).toNat=ag.length - 1 - k:=by omega
   have hl:ag.length - 1 - k < ag.length:=by omega
   rw[List.filterMap_cons_some (b:=ag.getD (ag.length - 1 - k) .none),Wb,ih fun x hx=>hn x (MB _ hx)]
   show ag.toArray[((ag.length:Int) - 1 + -1 * (k:Int)).toNat]? = _
   rw[e1,Xt,qv hl,wF,qv hl];rfl
 rw[hc ag.length fun k hk=>Wh.mp hk]
 refine List.ext_getElem (by simp) fun i h1 h2 => ?_
 rw[X7,List.getElem_range,List.getElem_reverse]
 have hi:i < ag.length:=by simpa using h1
 rw[wF,qv (by omega)];rfl
section
variable {X:Cx} {e:Expr} {te:TE} {pos p2 p3 p4:Pos}
theorem AN:∀ {xs:List V} {us:List Value},Vals xs us->Vals xs.reverse us.reverse
 | [],_,.nil => .nil
 | x :: xs,_,.cons r rs=>by
  rw[Za,Za]
  exact Vals.append (AN rs) (.cons r .nil)
end
inductive DV where
 | p (d:D) | o (k:Nat)
inductive OV where
 | lst (ds:List D) | dct (kvs:List (Key × D))
structure ay where
 sl:List (Option DV)
 mu:List (Option OV)
noncomputable def gf (F:Hp):List (Key × D)->List (Key × V)->Prop
 | [],ws=>ws=[]
 | kd :: r,ws=>∃ v t,ws=(kd.1,v) :: t/\Is F kd.2 v/\gf F r t
noncomputable def gq (F:Hp):OV->HO->Prop
 | .lst ds,o=>∃ vs,o = .lst vs/\af F ds vs
 | .dct kvs,o=>∃ ws,o = .dK ws/\gf F kvs ws
theorem gf.same {F F':Hp} (s:az F F'):∀ {gE:List (Key × D)} {ws:List (Key × V)},gf F gE ws->gf F' gE ws
 | [],_,h=>h
 | _ :: _,_,⟨v,t,e,h1,h2⟩=>⟨v,t,e,h1.same s,gf.same s h2⟩
theorem gq.same {F F':Hp} (s:az F F'):∀ {ov:OV} {o:HO},gq F ov o->gq F' ov o
 | .lst _,_,⟨vs,e,h⟩=>⟨vs,e,h.same s⟩
 | .dct _,_,⟨ws,e,h⟩=>⟨ws,e,h.same s⟩
noncomputable def gF (F:Hp) (ad:List Addr):DV->V->Prop
 | .p d,v=>Is F d v
 | .o k,v=>∃ a,ad[k]? = some a/\v = .ref a
noncomputable def Lv (ad:List Addr) (mu:List (Option OV)) (a:Addr):Prop:=∃ (k:Nat) (ov:OV),ad[k]? = some a/\mu[k]? = some (some ov)
class aI where
 ad:List Addr
 ok:Hp->Prop
 same:∀ {H H':Hp},ok H->az H H'->ok H'
 put:∀ {H:Hp} {a:Addr} {o o':HO},ok H->H a=some o->((∃ vs,o = .lst vs)\/∃ ws,o = .dK ws)->ok (upd H a o')
 tb:∀ {H:Hp} {a:Addr},ok H->a∈ad->∃ ps,H a=some (.tbl ps)
theorem gq.kind {F:Hp}:∀ {ov:OV} {o:HO},gq F ov o->(∃ vs,o = .lst vs)\/∃ ws,o = .dK ws
 | .lst _,_,⟨vs,e,_⟩ => .inl ⟨vs,e⟩
 | .dct _,_,⟨ws,e,_⟩ => .inr ⟨ws,e⟩
variable [aI]
structure SR (F:Hp) (ad:List Addr) (δ : ay) (σ : St) (H:Hp):Prop where
 sub:az F H
 off:∀ a,Lv ad δ.mu a->F a=none
 cP:ad.length = δ.mu.length
 inj:∀ (k l:Nat) (a:Addr) (ov ow:OV),ad[k]? = some a->ad[l]? = some a -> δ.mu[k]? = some (some ov) -> δ.mu[l]? = some (some ow)->k=l
 mu:∀ (k:Nat) (ov:OV),δ.mu[k]? = some (some ov)->∃ a o,ad[k]? = some a/\H a=some o/\gq F ov o
 sl:∀ (i:Nat) (x:DV),δ.sl[i]? = some (some x)->∃ v,σ[i]? = some (some v)/\gF F ad x v
 len : σ.length = δ.sl.length
 tab:aI.ok H
 nt:∀ a∈aI.ad,F a=none
structure Ext (F:Hp) (ad:List Addr) (mu:List (Option OV)) (H:Hp) (F':Hp) (aC:List Addr) (dP:List (Option OV)) (H':Hp):Prop where
 same:az F F'
 new:∀ a o,F' a=some o->F a=some o\/H a=none\/Lv ad mu a
 keep:∀ a o,H a=some o->¬ Lv ad mu a->a∉aI.ad->H' a=some o
 pre:∀ (k:Nat) (a:Addr),ad[k]? = some a->aC[k]? = some a
 cB:∀ a,Lv aC dP a->Lv ad mu a\/H a=none
 iO:∀ a o,H a=some o->∃ o',H' a=some o'
section
variable {F F' Gg H H' km:Hp} {ad aC uK:List Addr} {mu dP uL:List (Option OV)} {δ : ay} {σ : St}
theorem cj {H:Hp} {a:Addr} {o:HO} (h:H a=none):az H (upd H a o):=fun b u e=>by rw[aO (di e h)];exact e
theorem Ext.refl:Ext F ad mu H F ad mu H:=⟨fun _ _ e=>e,fun _ _ e => .inl e,fun _ _ e _ _=>e,fun _ _ e=>e,fun _ e => .inl e,fun _ o e=>⟨o,e⟩⟩
theorem Ext.trans (x:Ext F ad mu H F' aC dP H') (y:Ext F' aC dP H' Gg uK uL km):Ext F ad mu H Gg uK uL km where
 same:=x.same.trans y.same
 new:=fun a o e=>by
  rcases y.new a o e with h | h | h
  ·exact x.new a o h
  ·refine .inr (.inl ?_)
   cases q:H a with
   | none=>rfl
   | some u=>obtain⟨u',h'⟩:=x.iO a u q;rw[h] at h';cases h'
  ·rcases x.cB a h with h | h
   ·exact .inr (.inr h)
   ·exact .inr (.inl h)
 keep:=fun a o e n t=>y.keep a o (x.keep a o e n t) (fun l=>by
  rcases x.cB a l with h | h
  ·exact n h
  ·rw[e] at h;cases h) t
 pre:=fun k a e=>y.pre k a (x.pre k a e)
 cB:=fun a l=>by
  rcases y.cB a l with h | h
  ·exact x.cB a h
  ·refine .inr ?_
   cases q:H a with
   | none=>rfl
   | some u=>obtain⟨u',h'⟩:=x.iO a u q;rw[h] at h';cases h'
 iO:=fun a o e=>let ⟨o1,e1⟩:=x.iO a o e;y.iO a o1 e1
theorem gF.ext {x:DV} {v:V} (h:gF F ad x v) (e:Ext F ad mu H F' aC dP H'):gF F' aC x v:=by
 cases x with
 | p d=>exact Is.same e.same h
 | o k=>obtain⟨a,h1,h2⟩:=h;exact⟨a,e.pre k a h1,h2⟩
noncomputable def Nw (F H H':Hp):Hp:=fun a=>match H a with
 | none=>H' a
 | some _=>F a
theorem Nw.same (s:az F H):az F (Nw F H H'):=fun a o e=>by
 unfold Nw;rw[s a o e];exact e
theorem Nw.sub (s:az F H) (k:az H H'):az (Nw F H H') H':=fun a o e=>by
 unfold Nw at e
 cases q:H a with
 | none=>rw[q] at e;exact e
 | some u=>rw[q] at e;exact k a o (s a o e)
theorem Nw.upd {p:Addr} {o:HO} (s:az F H) (hp:H p=none):Nw F H (upd H p o)=upd F p o:=by
 funext a
 unfold Nw L2.upd
 by_cases c:a=p
 ·subst c;rw[hp,MD rfl];simp
 ·rw[MA c,MA c]
  cases q:H a with
  | none =>
   cases q2:F a with
   | none=>rfl
   | some u=>rw[s a u q2] at q;cases q
  | some u=>rfl
theorem Nw.refl (s:az F H):Nw F H H=F:=by
 funext a
 unfold Nw
 cases q:H a with
 | none =>
  cases q2:F a with
  | none=>rfl
  | some u=>rw[s a u q2] at q;cases q
 | some u=>rfl
theorem SR.al (S:SR F ad δ σ H) (k:az H H'):SR (Nw F H H') ad δ σ H':=by
 have sm:=Nw.same (H':=H') S.sub
 refine⟨Nw.sub S.sub k,fun a l => ?_,S.cP,S.inj,fun i ov e => ?_,fun i x e => ?_,S.len,aI.same S.tab k,fun a ha=>by obtain⟨ps,q⟩:=aI.tb S.tab ha;unfold Nw;rw[q];exact S.nt a ha⟩
 ·obtain⟨i,ov,e1,e2⟩:=l
  obtain⟨a',o,e3,e4,_⟩:=S.mu i ov e2
  rw[e1] at e3;cases e3
  unfold Nw;rw[e4];exact S.off a ⟨i,ov,e1,e2⟩
 ·obtain⟨a,o,e1,e2,h⟩:=S.mu i ov e
  exact⟨a,o,e1,k a o e2,h.same sm⟩
 ·obtain⟨v,e1,h⟩:=S.sl i x e
  refine⟨v,e1,?_⟩
  cases x with
  | p d=>exact Is.same sm h
  | o k=>exact h
theorem Ext.al (S:SR F ad δ σ H) (k:az H H'):Ext F ad δ.mu H (Nw F H H') ad δ.mu H' where
 same:=Nw.same S.sub
 new:=fun a o e=>by
  unfold Nw at e
  cases q:H a with
  | none=>exact .inr (.inl rfl)
  | some u=>rw[q] at e;exact .inl e
 keep:=fun a o e _ _=>k a o e
 pre:=fun _ _ e=>e
 cB:=fun _ l => .inl l
 iO:=fun a o e=>⟨o,k a o e⟩
theorem SR.own {p:Addr} {o:HO} {ov:OV} (S:SR F ad δ σ H) (hp:H p=none) (h:gq F ov o):SR F (ad ++ [p]) ⟨δ.sl,δ.mu ++ [some ov]⟩ σ (upd H p o):=by
 have old:∀ {k:Nat} {w:OV},(δ.mu ++ [some ov])[k]? = some (some w)->(k < δ.mu.length /\ δ.mu[k]? = some (some w))\/(k = δ.mu.length/\w=ov):=fun {k w} e=>by
  by_cases c:k < δ.mu.length
  ·rw[Vz c] at e;exact .inl ⟨c,e⟩
  ·have hl:=(su.mp e).1
   rw[Vw,Wx] at hl
   have ek:k = δ.mu.length:=by omega
   subst ek
   rw[VZ (wG _),W6] at e
   exact .inr ⟨rfl,by simpa using e.symm⟩
 have pre:∀ {k:Nat},k < δ.mu.length->(ad ++ [p])[k]? = ad[k]? := fun {k} c=>Vz (by rw[S.cP];exact c)
 have last:(ad ++ [p])[δ.mu.length]? = some p:=by rw[<-S.cP,VZ (wG _),W6];rfl
 have np:∀ {k:Nat} {a:Addr} {w:OV},ad[k]? = some a -> δ.mu[k]? = some (some w)->a≠p:=fun {k a w} e1 e2=>by
  obtain⟨a',u,e3,e4,_⟩:=S.mu k w e2
  rw[e1] at e3;cases e3
  exact di e4 hp
 refine⟨fun a u e => ?_,fun a l => ?_,by rw[Vw,Vw,S.cP];rfl,fun k l a w w' e1 e2 e3 e4 => ?_,fun k w e => ?_,fun i x e => ?_,S.len,aI.same S.tab (cj hp),S.nt⟩
 ·have:=S.sub a u e
  rw[aO (di this hp)];exact this
 ·obtain⟨k,w,e1,e2⟩:=l
  rcases old e2 with⟨c,e3⟩ | ⟨c,e3⟩
  ·rw[pre c] at e1;exact S.off a ⟨k,w,e1,e3⟩
  ·subst c;rw[last] at e1;cases e1
   cases q:F p with
   | none=>rfl
   | some u=>rw[S.sub p u q] at hp;cases hp
 ·rcases old e3 with⟨c,q⟩ | ⟨c,q⟩
  ·rw[pre c] at e1
   rcases old e4 with⟨c',q'⟩ | ⟨c',q'⟩
   ·rw[pre c'] at e2;exact S.inj k l a w w' e1 e2 q q'
   ·subst c';rw[last] at e2;cases e2;exact absurd rfl (np e1 q)
  ·subst c;rw[last] at e1;cases e1
   rcases old e4 with⟨c',q'⟩ | ⟨c',q'⟩
   ·rw[pre c'] at e2;exact absurd rfl (np e2 q')
   ·exact c'.symm
 ·rcases old e with⟨c,q⟩ | ⟨c,q⟩
  ·obtain⟨a,u,e1,e2,h'⟩:=S.mu k w q
   exact⟨a,u,by rw[pre c];exact e1,by rw[aO (np e1 q)];exact e2,h'⟩
  ·subst c;subst q;exact⟨p,o,last,bW,h⟩
 ·obtain⟨v,e1,h'⟩:=S.sl i x e
  refine⟨v,e1,?_⟩
  cases x with
  | p d=>exact h'
  | o k =>
   obtain⟨a,e2,e3⟩:=h'
   exact⟨a,by rw[Vz (su.mp e2).1];exact e2,e3⟩
theorem Ext.own {p:Addr} {o:HO} {ov:OV} (S:SR F ad δ σ H) (hp:H p=none):Ext F ad δ.mu H F (ad ++ [p]) (δ.mu ++ [some ov]) (upd H p o) where
 same:=fun _ _ e=>e
 new:=fun _ _ e => .inl e
 keep:=fun a u e _ _=>by rw[aO (di e hp)];exact e
 pre:=fun k a e=>by rw[Vz (su.mp e).1];exact e
 cB:=fun a l=>by
  obtain⟨k,w,e1,e2⟩:=l
  by_cases c:k < δ.mu.length
  ·rw[Vz c] at e2
   rw[Vz (by rw[S.cP];exact c)] at e1
   exact .inl ⟨k,w,e1,e2⟩
  ·have hl:=(su.mp e2).1
   rw[Vw,Wx] at hl
   have ek:k=ad.length:=by rw[S.cP];omega
   subst ek
   rw[VZ (wG _),W6] at e1
   have:p=a:=by simpa using e1
   subst this;exact .inr hp
 iO:=fun a u e=>⟨u,by rw[aO (di e hp)];exact e⟩
theorem SR.put {k:Nat} {a:Addr} {o:HO} {ov ow:OV} (S:SR F ad δ σ H) (hk : δ.mu[k]? = some (some ow)) (ha:ad[k]? = some a) (h:gq F ov o):SR F ad ⟨δ.sl,δ.mu.set k (some ov)⟩ σ (upd H a o):=by
 have kl:=(su.mp hk).1
 have old:∀ {l:Nat} {w:OV},(δ.mu.set k (some ov))[l]? = some (some w)->(l≠k /\ δ.mu[l]? = some (some w))\/(l=k/\w=ov):=fun {l w} e=>by
  by_cases c:k=l
  ·subst c;rw[WJ kl] at e;exact .inr ⟨rfl,by simpa using e.symm⟩
  ·rw[W0 c] at e;exact .inl ⟨fun z=>c z.symm,e⟩
 have lv:∀ {l:Nat} {w:OV} {b:Addr},ad[l]? = some b->(δ.mu.set k (some ov))[l]? = some (some w)->Lv ad δ.mu b:=fun {l w b} e1 e2=>by
  rcases old e2 with⟨_,q⟩ | ⟨c,_⟩
  ·exact⟨l,w,e1,q⟩
  ·subst c;exact⟨l,ow,e1,hk⟩
 have tk:aI.ok (upd H a o):=by
  obtain⟨a',u,e1,e2,h'⟩:=S.mu k ow hk
  rw[ha] at e1;cases e1
  exact aI.put S.tab e2 h'.kind
 refine⟨fun b u e => ?_,fun b l => ?_,by rw[Xo];exact S.cP,fun l l' b w w' e1 e2 e3 e4 => ?_,fun l w e => ?_,fun i x e => ?_,S.len,tk,S.nt⟩
 ·have nb:b≠a:=fun z=>by
   subst z
   rw[S.off b ⟨k,ow,ha,hk⟩] at e;cases e
  rw[aO nb];exact S.sub b u e
 ·obtain⟨l,w,e1,e2⟩:=l
  exact S.off b (lv e1 e2)
 ·have h1:∃ w,δ.mu[l]? = some (some w):=by
   rcases old e3 with⟨_,q⟩ | ⟨c,_⟩
   ·exact⟨_,q⟩
   ·subst c;exact⟨_,hk⟩
  have h2:∃ w,δ.mu[l']? = some (some w):=by
   rcases old e4 with⟨_,q⟩ | ⟨c,_⟩
   ·exact⟨_,q⟩
   ·subst c;exact⟨_,hk⟩
  obtain⟨w1,q1⟩:=h1
  obtain⟨w2,q2⟩:=h2
  exact S.inj l l' b _ _ e1 e2 q1 q2
 ·rcases old e with⟨c,q⟩ | ⟨c,q⟩
  ·obtain⟨b,u,e1,e2,h'⟩:=S.mu l w q
   have nb:b≠a:=fun z=>by subst z;exact c (S.inj l k b _ _ e1 ha q hk)
   exact⟨b,u,e1,by rw[aO nb];exact e2,h'⟩
  ·subst c;subst q;exact⟨a,o,ha,bW,h⟩
 ·exact S.sl i x e
theorem Ext.put {k:Nat} {a:Addr} {o:HO} {ov ow:OV} (S:SR F ad δ σ H) (hk : δ.mu[k]? = some (some ow)) (ha:ad[k]? = some a):Ext F ad δ.mu H F ad (δ.mu.set k (some ov)) (upd H a o) where
 same:=fun _ _ e=>e
 new:=fun _ _ e => .inl e
 keep:=fun b u e n _=>by rw[aO fun z=>n (by subst z;exact⟨k,ow,ha,hk⟩)];exact e
 pre:=fun _ _ e=>e
 cB:=fun b l=>by
  obtain⟨l,w,e1,e2⟩:=l
  by_cases c:k=l
  ·subst c;exact .inl ⟨k,ow,e1,hk⟩
  ·rw[W0 c] at e2;exact .inl ⟨l,w,e1,e2⟩
 iO:=fun b u e=>by
  by_cases c:b=a
  ·subst c;exact⟨o,bW⟩
  ·exact⟨u,by rw[aO c];exact e⟩
theorem SR.fix {k:Nat} {a:Addr} {o:HO} {ow:OV} (S:SR F ad δ σ H) (hk : δ.mu[k]? = some (some ow)) (ha:ad[k]? = some a) (ho:H a=some o):SR (upd F a o) ad ⟨δ.sl,δ.mu.set k none⟩ σ H:=by
 have kl:=(su.mp hk).1
 have fa:=S.off a ⟨k,ow,ha,hk⟩
 have sm:az F (upd F a o):=fun b u e=>by rw[aO (di e fa)];exact e
 have old:∀ {l:Nat} {w:OV},(δ.mu.set k none)[l]? = some (some w)->l≠k /\ δ.mu[l]? = some (some w):=fun {l w} e=>by
  by_cases c:k=l
  ·subst c;rw[WJ kl] at e;cases e
  ·rw[W0 c] at e;exact⟨fun z=>c z.symm,e⟩
 refine⟨fun b u e => ?_,fun b l => ?_,by rw[Xo];exact S.cP,fun l l' b w w' e1 e2 e3 e4=>S.inj l l' b w w' e1 e2 (old e3).2 (old e4).2,fun l w e => ?_,fun i x e => ?_,S.len,S.tab,fun b hb => ?_⟩
 ·by_cases c:b=a
  ·subst c;rw[bW] at e;cases e;exact ho
  ·rw[aO c] at e;exact S.sub b u e
 ·obtain⟨l,w,e1,e2⟩:=l
  obtain⟨c,q⟩:=old e2
  have nb:b≠a:=fun z=>by subst z;exact c (S.inj l k b _ _ e1 ha q hk)
  rw[aO nb];exact S.off b ⟨l,w,e1,q⟩
 ·obtain⟨b,u,e1,e2,h'⟩:=S.mu l w (old e).2
  exact⟨b,u,e1,e2,h'.same sm⟩
 ·obtain⟨v,e1,h'⟩:=S.sl i x e
  refine⟨v,e1,?_⟩
  cases x with
  | p d=>exact Is.same sm h'
  | o k=>exact h'
 ·obtain⟨ps,q⟩:=aI.tb S.tab hb
  have nb:b≠a:=fun z=>by
   subst z
   obtain⟨a',u,e1,e2,h'⟩:=S.mu k ow hk
   rw[ha] at e1;cases e1
   rw[q] at e2;cases e2
   rcases h'.kind with⟨_,z⟩ | ⟨_,z⟩<;>cases z
  rw[aO nb];exact S.nt b hb
theorem Ext.fix {k:Nat} {a:Addr} {o:HO} {ow:OV} (S:SR F ad δ σ H) (hk : δ.mu[k]? = some (some ow)) (ha:ad[k]? = some a):Ext F ad δ.mu H (upd F a o) ad (δ.mu.set k none) H where
 same:=fun b u e=>by rw[aO (di e (S.off a ⟨k,ow,ha,hk⟩))];exact e
 new:=fun b u e=>by
  by_cases c:b=a
  ·subst c;exact .inr (.inr ⟨k,ow,ha,hk⟩)
  ·rw[aO c] at e;exact .inl e
 keep:=fun b u e _ _=>e
 pre:=fun _ _ e=>e
 cB:=fun b l=>by
  obtain⟨l,w,e1,e2⟩:=l
  by_cases c:k=l
  ·subst c;rw[WJ (su.mp hk).1] at e2;cases e2
  ·rw[W0 c] at e2;exact .inl ⟨l,w,e1,e2⟩
 iO:=fun b u e=>⟨u,e⟩
theorem SR.set {i:Nat} {x:DV} {v:V} (S:SR F ad δ σ H) (h:gF F ad x v):SR F ad ⟨δ.sl.set i (some x),δ.mu⟩ (σ.set i (some v)) H:=by
 refine⟨S.sub,S.off,S.cP,S.inj,S.mu,fun j y e => ?_,by rw[Xo,Xo];exact S.len,S.tab,S.nt⟩
 by_cases c:i=j
 ·subst c
  have hl:=(su.mp e).1
  rw[Xo] at hl
  rw[WJ hl] at e
  cases e
  exact⟨v,WJ (by rw[S.len];exact hl),h⟩
 ·rw[W0 c] at e
  obtain⟨w,e1,h1⟩:=S.sl j y e
  exact⟨w,by rw[W0 c];exact e1,h1⟩
end
noncomputable abbrev WE:=ay->(DV->ay->Prop)->Prop
noncomputable abbrev WA:=ay->(List DV->ay->Prop)->Prop
noncomputable abbrev WT:=ay->(Bool->ay->Prop)->Prop
noncomputable def eB (F:Hp) (ad:List Addr):List DV->List V->Prop
 | [],vs=>vs=[]
 | x :: xs,vs=>∃ v r,vs=v :: r/\gF F ad x v/\eB F ad xs r
theorem eB.ext {F F' H H':Hp} {ad aC:List Addr} {mu dP:List (Option OV)} (e:Ext F ad mu H F' aC dP H'):∀ {xs:List DV} {vs:List V},eB F ad xs vs->eB F' aC xs vs
 | [],_,h=>h
 | _ :: _,_,⟨v,r,q,h1,h2⟩=>⟨v,r,q,h1.ext e,eB.ext e h2⟩
noncomputable def tD (f:WE):TE:=fun σ H Q=>∃ F ad δ K,SR F ad δ σ H/\f δ K/\∀ x δ',K x δ'->∀ v F' aC H',Ext F ad δ.mu H F' aC δ'.mu H'->SR F' aC δ' σ H'->gF F' aC x v->Q v H'
noncomputable def cC (f:WA):TA:=fun σ H Q=>∃ F ad δ K,SR F ad δ σ H/\f δ K/\∀ xs δ',K xs δ'->∀ vs F' aC H',Ext F ad δ.mu H F' aC δ'.mu H'->SR F' aC δ' σ H'->eB F' aC xs vs->Q vs H'
noncomputable def de (f:WT):TT:=fun σ H Q=>∃ F ad δ K,SR F ad δ σ H/\f δ K/\∀ b δ',K b δ'->∀ F' aC H',Ext F ad δ.mu H F' aC δ'.mu H'->SR F' aC δ' σ H'->Q b H'
noncomputable def hW (F H:Hp):D->V->Prop
 | .lst ds,v=>∃ a vs,v = .ref a/\H a=some (.lst vs)/\af F ds vs
 | d,v=>Is F d v
noncomputable def fM (x:DV) (δ : ay) (K:D->Prop):Prop:=match x with
 | .p d=>K d
 | .o k=>match δ.mu[k]? with
  | some (some (.lst ds))=>K (.lst ds)
  | _=>False
theorem hW.of {F H:Hp} (s:az F H):∀ {d:D} {v:V},Is F d v->hW F H d v
 | .lst _,_,h=>by
  simp only[Is] at h
  obtain⟨a,vs,e,h1,h2⟩:=h
  exact⟨a,vs,e,s _ _ h1,h2⟩
 | .tup _,_,h=>h
 | .non,_,h=>h
 | .bl _,_,h=>h
 | .int _,_,h=>h
 | .str _,_,h=>h
theorem hW.is {F H:Hp} (s:az F H):∀ {d:D} {v:V},hW F H d v->Is H d v
 | .lst _,_,h=>by
  obtain⟨a,vs,e,h1,h2⟩:=h
  simp only[Is]
  exact⟨a,vs,e,h1,h2.same s⟩
 | .tup _,_,h=>Is.same s h
 | .non,_,h=>Is.same s h
 | .bl _,_,h=>Is.same s h
 | .int _,_,h=>Is.same s h
 | .str _,_,h=>Is.same s h
theorem iD {F H:Hp} {ad:List Addr} {δ : ay} {σ : St} {x:DV} {v:V} {K:D->Prop} (S:SR F ad δ σ H) (hv:gF F ad x v) (h:fM x δ K):∃ d,K d/\hW F H d v:=by
 cases x with
 | p d=>exact⟨d,h,hW.of S.sub hv⟩
 | o k =>
  unfold fM at h
  dsimp only at h
  split at h
  ·rename_i ds e
   obtain⟨a,e1,rfl⟩:=hv
   obtain⟨a',o,e2,e3,vs,rfl,h4⟩:=S.mu k _ e
   rw[e1] at e2;cases e2
   exact⟨_,h,a,vs,rfl,e3,h4⟩
  ·exact h.elim
noncomputable def iX:List DV->ay->(List D->Prop)->Prop
 | [],_,K=>K []
 | x :: xs,δ,K=>fM x δ fun d=>iX xs δ fun ds=>K (d :: ds)
noncomputable def iY (F H:Hp):List D->List V->Prop
 | [],vs=>vs=[]
 | d :: ds,vs=>∃ v r,vs=v :: r/\hW F H d v/\iY F H ds r
theorem uM {F H:Hp} {ad:List Addr} {δ : ay} {σ : St} (S:SR F ad δ σ H):∀ {xs:List DV} {vs:List V} {K:List D->Prop},eB F ad xs vs->iX xs δ K->∃ ds,K ds/\iY F H ds vs
 | [],_,_,hv,h=>⟨[],h,hv⟩
 | x :: xs,_,_,⟨v,r,rfl,h1,h2⟩,h=>by
  obtain⟨d,h',rd⟩:=iD S h1 h
  obtain⟨ds,sC,lj⟩:=uM S h2 h'
  exact⟨d :: ds,sC,v,r,rfl,rd,lj⟩
noncomputable abbrev Made (F H:Hp) (K:D->Prop) (Q:VK):Prop:=∀ z v H',K z->az H H'->Is (Nw F H H') z v->Q v H'
noncomputable def gg (X:Cx) (f:Value->Value->Sem Value) (g:D->D->(D->Prop)->Prop):Prop :=
 dE X f fun x y H Q=>∃ F d e K,az F H/\hW F H d x/\hW F H e y/\g d e K/\Made F H K Q
noncomputable def Gh (X:Cx) (g:D->D->(D->Prop)->Prop):Prop :=
 sk X fun x y H Q=>∃ F d e K,az F H/\hW F H d x/\hW F H e y/\g d e K/\Made F H K Q
noncomputable def dH (X:Cx) (f:Value) (g:List D->(D->Prop)->Prop):Prop :=
 g9 X f fun xs H Q=>∃ F ds K,az F H/\iY F H ds xs/\g ds K/\Made F H K Q
noncomputable def d2 (f g:WE) (op:D->D->(D->Prop)->Prop):WE:=fun δ K=>f δ fun x δ1=>g δ1 fun y δ2=>fM x δ2 fun d=>fM y δ2 fun e=>op d e fun z=>K (.p z) δ2
noncomputable def d1 (f:WE) (op:D->(D->Prop)->Prop):WE:=fun δ K=>f δ fun x δ1=>fM x δ1 fun d=>op d fun z=>K (.p z) δ1
noncomputable def dN (f:WA) (op:List D->(D->Prop)->Prop):WE:=fun δ K=>f δ fun xs δ1=>iX xs δ1 fun ds=>op ds fun z=>K (.p z) δ1
noncomputable def dC (d:D):WE:=fun δ K=>K (.p d) δ
noncomputable def aa (i:Nat):WE:=fun δ K=>match δ.sl[i]? with
 | some (some x)=>K x δ
 | _=>False
noncomputable def ak:WA:=fun δ K=>K [] δ
noncomputable def ao (f:WE) (g:WA):WA:=fun δ K=>f δ fun x δ1=>g δ1 fun xs δ2=>K (x :: xs) δ2
section
variable {X:Cx} {a b c:Expr} {f g h:WE} {fa:WA} {pos:Pos}
theorem uN {e:Expr} {d:D} {v:V} (h:JE X e (tC v)) (hi:∀ F,Is F d v):JE X e (tD (dC d)):=h.weak fun σ H Q h0_ => el7 h0_ fun F ad δ K S q k =>k _ _ q _ _ _ _ .refl S (hi F)
theorem av {i j pos}:JE X (.Constant (.int i) j pos) (tD (dC (.int i))):=uN b7 fun _=>rfl
theorem lq {i j pos}:JE X (.Constant (.bool i) j pos) (tD (dC (.bl i))):=uN Nl fun _=>rfl
theorem Gi {j pos}:JE X (.Constant .none j pos) (tD (dC .non)):=uN Nm fun _=>rfl
theorem N3 {x j pos}:JE X (.Constant (.str x) j pos) (tD (dC (.str x))):=uN Nn fun _=>rfl
theorem AO {x:Str} {i:Int} {u:Value} {pos:Pos} (hg:Gl X x) (hm:X.mg x=some u) (r:RelV (.int i) u) (hd:(x == ("__debug__" : Str))=false:=by decide):JE X (.Name x pos) (tD (dC (.int i))):=uN (Np hg hm r hd) fun _=>rfl
theorem dv (i:Nat) {x:Str} {pos:Pos} (hN:X.N[i]? = some x:=by rfl) (hv:qa X.env.scope x:=by first | exact Or.inl rfl | exact Or.inr (Or.inl rfl) | exact Or.inr (Or.inr rfl))
  (hd:(x == ("__debug__" : Str))=false:=by decide) (fZ:(x == ("__classdict__" : Str))=false:=by decide):JE X (.Name x pos) (tD (aa i)) :=
 (Nk hN hv hd fZ).weak fun σ H Q h0_ => el7 h0_ fun F ad δ K S q k =>by
  unfold aa at q
  split at q
  ·rename_i x e
   obtain⟨v,e1,h1⟩:=S.sl i x e
   exact⟨v,e1,k _ _ q _ _ _ _ .refl S h1⟩
  ·exact q.elim
theorem wZ {r:R2} {ta tb:TE} {op:D->D->(D->Prop)->Prop} (hr:∀ x y H Q,(∃ F d e K,az F H/\hW F H d x/\hW F H e y/\op d e K/\Made F H K Q)->r x y H Q):∀ σ H Q,tD (d2 f g op) σ H Q->kW r (tD f) (tD g) σ H Q:=by
 rintro σ H Q ⟨F,ad,δ,K,S,q,k⟩
 refine⟨F,ad,δ,_,S,q,fun x δ1 h1 v1 F1 aR H1 E1 S1 V1=>⟨F1,aR,δ1,_,S1,h1,fun y δ2 h2 v2 F2 c7 H2 E2 S2 V2=>hr _ _ _ _ ?_⟩⟩
 obtain⟨d,h3,rd⟩:=iD S2 (V1.ext E2) h2
 obtain⟨e,h4,re⟩:=iD S2 V2 h3
 exact⟨F2,d,e,_,S2.sub,rd,re,h4,fun z v H' hz sm is=>k _ _ hz _ _ _ _ ((E1.trans E2).trans (Ext.al S2 sm)) (S2.al sm) is⟩
theorem bI {op:Operator} {o:D->D->(D->Prop)->Prop} (ho:gg X (binaryOp op) o) (ha:JE X a (tD f)) (hb:JE X b (tD g)):JE X (.BinOp a op b pos) (tD (d2 f g o)) :=
 (uG ho ha hb).weak (wZ (ta:=tD f) (tb:=tD g) fun _ _ _ _ h=>h)
theorem mD {op:CmpOp} {o:D->D->(D->Prop)->Prop} (ho:gg X (compareOp op) o) (ha:JE X a (tD f)) (hb:JE X b (tD g)) (hm:behindInMarks op b=false):JE X (.Compare a [op] [b] pos) (tD (d2 f g o)) :=
 (NI ho ha hb hm).weak (wZ (ta:=tD f) (tb:=tD g) fun _ _ _ _ h=>h)
theorem br {o:D->D->(D->Prop)->Prop} (ho:Gh X o) (ha:JE X a (tD f)) (hb:JE X b (tD g)) (hs:zR b):JE X (.Subscript a b pos) (tD (d2 f g o)) :=
 (wR ho ha hb hs).weak (wZ (ta:=tD f) (tb:=tD g) fun _ _ _ _ h=>h)
theorem aD:JA X [] (cC ak):=bS.weak fun σ H Q h0_ => el7 h0_ fun F ad δ K S q k =>k _ _ q _ _ _ _ .refl S rfl
theorem qC:∀ σ H Q,cC (ao f fa) σ H Q->fS (tD f) (cC fa) σ H Q:=by
 rintro σ H Q ⟨F,ad,δ,K,S,q,k⟩
 exact⟨F,ad,δ,_,S,q,fun x δ1 h1 v1 F1 aR H1 E1 S1 V1=>⟨F1,aR,δ1,_,S1,h1,fun xs δ2 h2 vs F2 c7 H2 E2 S2 V2=>k _ _ h2 _ _ _ _ (E1.trans E2) S2 ⟨v1,vs,rfl,V1.ext E2,V2⟩⟩⟩
theorem gN {e:Expr} {es:List Expr} (ha:JE X e (tD f)) (hr:JA X es (cC fa)) (hs:starEach (e :: es) X.env=(false,eval e X.env) :: starEach es X.env:=by rfl):JA X (e :: es) (cC (ao f fa)):=(qA ha hr hs).weak qC
theorem aY {es:List Expr} {c j p} (ha:JE X (.Constant c j p) (tD f)) (hr:JA X es (cC fa)):JA X (.Constant c j p :: es) (cC (ao f fa)):=(uH ha hr).weak qC
theorem ar {es:List Expr} {x p} (ha:JE X (.Name x p) (tD f)) (hr:JA X es (cC fa)):JA X (.Name x p :: es) (cC (ao f fa)):=(iW ha hr).weak qC
theorem cD {es:List Expr} {x y k p} (ha:JE X (.Call x y k p) (tD f)) (hr:JA X es (cC fa)):JA X (.Call x y k p :: es) (cC (ao f fa)):=(lb ha hr).weak qC
theorem uO {es:List Expr} {x p} (ha:JE X (.List x p) (tD f)) (hr:JA X es (cC fa)):JA X (.List x p :: es) (cC (ao f fa)):=(AH ha hr).weak qC
theorem qD {es:List Expr} {x k p} (ha:JE X (.Tuple x k p) (tD f)) (hr:JA X es (cC fa)):JA X (.Tuple x k p :: es) (cC (ao f fa)):=(AI ha hr).weak qC
theorem bR {es:List Expr} {x k p} (ha:JE X (.Subscript x k p) (tD f)) (hr:JA X es (cC fa)):JA X (.Subscript x k p :: es) (cC (ao f fa)):=(AJ ha hr).weak qC
theorem Gj {r:List V->Hp->VK->Prop} {op:List D->(D->Prop)->Prop} (hr:∀ xs H Q,(∃ F ds K,az F H/\iY F H ds xs/\op ds K/\Made F H K Q)->r xs H Q):∀ σ H Q,tD (dN fa op) σ H Q->t9 r (cC fa) σ H Q:=by
 rintro σ H Q ⟨F,ad,δ,K,S,q,k⟩
 refine⟨F,ad,δ,_,S,q,fun xs δ1 h1 vs F1 aR H1 E1 S1 V1=>hr _ _ _ ?_⟩
 obtain⟨ds,h2,lj⟩:=uM S1 V1 h1
 exact⟨F1,ds,_,S1.sub,lj,h2,fun z v H' hz sm is=>k _ _ hz _ _ _ _ (E1.trans (Ext.al S1 sm)) (S1.al sm) is⟩
theorem gO {x:Str} {p:Pos} {e:Expr} {es:List Expr} {id:String} {o:List D->(D->Prop)->Prop} (hc:dH X (.builtin id) o) (hg:Gl X x) (hm:X.mg x=none) (hv:bootBuiltins x=some (.builtin id)) (ha:JA X (e :: es) (cC fa)) (hn:x ≠ "__name__" := by decide) (hJ:(x == ("__debug__" : Str))=false:=by decide)
  (he:starEach (e :: es) X.env=(false,eval e X.env) :: starEach es X.env:=by rfl) (gM:(backTo pos (starEach es X.env)).any (·.1)=false:=by rfl):JE X (.Call (.Name x p) (e :: es) [] pos) (tD (dN fa o)) :=
 (wQ hc hg hm hv ha hn hJ he gM).weak (Gj fun _ _ _ h=>h)
theorem AQ {x:Str} {p:Pos} {e:Expr} {es:List Expr} {T:String} {o:List D->(D->Prop)->Prop} (hc:dH X (.type T) o) (hg:Gl X x) (hm:X.mg x=none) (hv:bootBuiltins x=some (.type T)) (ha:JA X (e :: es) (cC fa)) (hn:x ≠ "__name__" := by decide) (hJ:(x == ("__debug__" : Str))=false:=by decide)
  (he:starEach (e :: es) X.env=(false,eval e X.env) :: starEach es X.env:=by rfl) (gM:(backTo pos (starEach es X.env)).any (·.1)=false:=by rfl):JE X (.Call (.Name x p) (e :: es) [] pos) (tD (dN fa o)) :=
 (pf hc hg hm hv ha hn hJ he gM).weak (Gj fun _ _ _ h=>h)
end
noncomputable def Gk (k:Nat) (ds:List D):Option DV->Option DV
 | some (.o j)=>if j=k then some (.p (.lst ds)) else some (.o j)
 | s=>s
noncomputable def ay.fix (δ : ay) (k:Nat) (ds:List D):ay:=⟨δ.sl.map (Gk k ds),δ.mu.set k none⟩
noncomputable def nK (x:DV) (δ : ay) (K:D->ay->Prop):Prop:=match x with
 | .p d=>K d δ
 | .o k=>match δ.mu[k]? with
  | some (some (.lst ds))=>K (.lst ds) (δ.fix k ds)
  | _=>False
noncomputable def jT:List DV->ay->(List D->ay->Prop)->Prop
 | [],δ,K=>K [] δ
 | x :: xs,δ,K=>nK x δ fun d δ1=>jT xs δ1 fun ds δ2=>K (d :: ds) δ2
section
variable {F F' H H':Hp} {ad aC:List Addr} {δ δ':ay} {σ σ':St}
theorem SR.fixed {k:Nat} {a:Addr} {vs:List V} {ds:List D} (S:SR F ad δ σ H) (hk : δ.mu[k]? = some (some (.lst ds))) (ha:ad[k]? = some a) (ho:H a=some (.lst vs)) (hi:af F ds vs):SR (upd F a (.lst vs)) ad (δ.fix k ds) σ H:=by
 have S1:=S.fix hk ha ho
 have sm:az F (upd F a (.lst vs)):=(Ext.fix (o := .lst vs) S hk ha).same
 refine⟨S1.sub,S1.off,S1.cP,S1.inj,S1.mu,fun i x e => ?_,by rw[S.len];unfold ay.fix;rw[qx],S1.tab,S1.nt⟩
 unfold ay.fix at e
 rw[Fl] at e
 obtain⟨s,e1,e2⟩:=Vu.mp e
 match s,e2 with
 | none,e2=>cases e2
 | some (.p d),e2 =>
  cases (show some (DV.p d)=some x from e2)
  exact S1.sl i _ e1
 | some (.o j),e2 =>
  have e3:(if j=k then some (DV.p (.lst ds)) else some (DV.o j))=some x:=e2
  clear e2
  obtain⟨v,h1,a',h2,h3⟩:=S.sl i _ e1
  by_cases c:j=k
  ·rw[MD c] at e3
   subst c
   cases e3
   rw[ha] at h2;cases h2
   refine⟨v,h1,?_⟩
   show Is _ (.lst ds) v
   simp only[Is]
   exact⟨a,vs,h3,bW,hi.same sm⟩
  ·rw[MA c] at e3
   cases e3
   exact⟨v,h1,a',h2,h3⟩
theorem uP {x:DV} {v:V} {K:D->ay->Prop} (S:SR F ad δ σ H) (hv:gF F ad x v) (h:nK x δ K):∃ d δ' F',K d δ'/\Ext F ad δ.mu H F' ad δ'.mu H/\SR F' ad δ' σ H/\Is F' d v:=by
 cases x with
 | p d=>exact⟨d,δ,F,h,.refl,S,hv⟩
 | o k =>
  unfold nK at h
  dsimp only at h
  split at h
  ·rename_i ds e
   obtain⟨a,e1,rfl⟩:=hv
   obtain⟨a',o,e2,e3,vs,rfl,h4⟩:=S.mu k _ e
   rw[e1] at e2;cases e2
   refine⟨_,_,_,h,Ext.fix S e e1,S.fixed e e1 e3 h4,?_⟩
   simp only[Is]
   exact⟨a,vs,rfl,bW,h4.same (Ext.fix (o := .lst vs) S e e1).same⟩
  ·exact h.elim
theorem w_:∀ {xs:List DV} {vs:List V} {δ : ay} {F:Hp} {K:List D->ay->Prop},SR F ad δ σ H->eB F ad xs vs->jT xs δ K->∃ ds δ' F',K ds δ'/\Ext F ad δ.mu H F' ad δ'.mu H/\SR F' ad δ' σ H/\af F' ds vs
 | [],_,δ,F,_,S,hv,h=>⟨[],δ,F,h,.refl,S,by simp only[af];exact hv⟩
 | x :: xs,_,δ,F,_,S,⟨v,r,e,h1,h2⟩,h=>by
  subst e
  obtain⟨d,δ1,F1,h',E1,S1,i1⟩:=uP S h1 h
  obtain⟨ds,δ2,F2,sC,E2,S2,i2⟩:=w_ S1 (h2.ext E1) h'
  exact⟨d :: ds,δ2,F2,sC,E1.trans E2,S2,.cons (i1.same E2.same) i2⟩
end
noncomputable def e_ (fa:WA):WE:=fun δ K=>fa δ fun xs δ1=>jT xs δ1 fun ds δ2=>ds.length <= 1000/\K (.p (.tup ds)) δ2
noncomputable def du (fa:WA):WE:=fun δ K=>fa δ fun xs δ1=>jT xs δ1 fun ds δ2=>ds.length <= 1000/\K (.p (.lst ds)) δ2
noncomputable def sD (fa:WA):WE:=fun δ K=>fa δ fun xs δ1=>jT xs δ1 fun ds δ2=>ds.length <= 1000/\K (.o δ2.mu.length) ⟨δ2.sl,δ2.mu ++ [some (.lst ds)]⟩
section
variable {X:Cx} {a b c:Expr} {es:List Expr} {f g h:WE} {fa:WA} {t u:WT} {pos:Pos}
theorem lr {n:Nat} (h:n <= 1000):n <= sizeLine:=Xj (o_ h)
theorem lz {x1} (ha:JA X es (cC fa)):JE X (.Tuple es x1 pos) (tD (e_ fa)):=(FT ha).weak fun σ H Q h0_ => el7 h0_ fun F ad δ K S q k =>
 ⟨F,ad,δ,_,S,q,fun xs δ1 h1 vs F1 aR H1 E1 S1 V1=>by
  obtain⟨ds,δ2,F2,⟨hl,h2⟩,E2,S2,i2⟩:=w_ S1 V1 h1
  refine⟨lr (by rw[i2.length];exact hl),fun p hp => ?_⟩
  have sm:az H1 (upd H1 p (.tup vs)):=cj hp
  refine k _ _ h2 _ _ _ _ ((E1.trans E2).trans (Ext.al S2 sm)) (S2.al sm) ?_
  show Is _ (.tup ds) _
  simp only[Is]
  rw[Nw.upd S2.sub hp]
  refine⟨p,vs,rfl,bW,i2.same fun b o e => ?_⟩
  rw[aO (di (S2.sub b o e) hp)];exact e⟩
theorem kn (ha:JA X es (cC fa)):JE X (.List es pos) (tD (du fa)):=(AF ha).weak fun σ H Q h0_ => el7 h0_ fun F ad δ K S q k =>
 ⟨F,ad,δ,_,S,q,fun xs δ1 h1 vs F1 aR H1 E1 S1 V1=>by
  obtain⟨ds,δ2,F2,⟨hl,h2⟩,E2,S2,i2⟩:=w_ S1 V1 h1
  refine⟨lr (by rw[i2.length];exact hl),fun p hp => ?_⟩
  have sm:az H1 (upd H1 p (.lst vs)):=cj hp
  refine k _ _ h2 _ _ _ _ ((E1.trans E2).trans (Ext.al S2 sm)) (S2.al sm) ?_
  show Is _ (.lst ds) _
  simp only[Is]
  rw[Nw.upd S2.sub hp]
  refine⟨p,vs,rfl,bW,i2.same fun b o e => ?_⟩
  rw[aO (di (S2.sub b o e) hp)];exact e⟩
theorem xc (ha:JA X es (cC fa)):JE X (.List es pos) (tD (sD fa)):=(AF ha).weak fun σ H Q h0_ => el7 h0_ fun F ad δ K S q k =>
 ⟨F,ad,δ,_,S,q,fun xs δ1 h1 vs F1 aR H1 E1 S1 V1=>by
  obtain⟨ds,δ2,F2,⟨hl,h2⟩,E2,S2,i2⟩:=w_ S1 V1 h1
  refine⟨lr (by rw[i2.length];exact hl),fun p hp => ?_⟩
  have oi:gq F2 (.lst ds) (.lst vs):=⟨vs,rfl,i2⟩
  refine k _ _ h2 _ _ _ _ ((E1.trans E2).trans (Ext.own S2 hp)) (S2.own hp oi) ⟨p,?_,rfl⟩
  rw[<-S2.cP,VZ (wG _),W6];rfl⟩
noncomputable def qE (x:DV) (P:Bool->Prop):Prop:=match x with
 | .p (.bl b)=>P b
 | _=>False
noncomputable def dT (f:WE):WT:=fun δ K=>f δ fun x δ1=>qE x fun b=>K b δ1
noncomputable def lA (t u:WT):WT:=fun δ K=>t δ fun b δ1=>if b=true then u δ1 K else K false δ1
noncomputable def ph (t u:WT):WT:=fun δ K=>t δ fun b δ1=>if b=true then K true δ1 else u δ1 K
noncomputable def gh (t:WT):WT:=fun δ K=>t δ fun b δ1=>K (!b) δ1
noncomputable def nL (t:WT) (f g:WE):WE:=fun δ K=>t δ fun b δ1=>if b=true then f δ1 K else g δ1 K
noncomputable def kq (f g:WE):WE:=fun δ K=>f δ fun x δ1=>qE x fun b=>if b=true then g δ1 K else K (.p (.bl false)) δ1
noncomputable def AR (f:WE):WE:=fun δ K=>f δ fun x δ1=>qE x fun b=>K (.p (.bl (!b))) δ1
theorem uQ {F:Hp} {ad:List Addr} {x:DV} {v:V} {P:Bool->Prop} (hv:gF F ad x v) (h:qE x P):∃ b,v = .bl b/\P b:=by
 unfold qE at h
 split at h
 ·rename_i b
  exact⟨b,hv,h⟩
 ·exact h.elim
theorem jU (ha:JE X a (tD f)) (he:∀ whole,isTrue a X.env whole=(do let v <- whole;standAt a.pos;holding [v] (truthy v)):=by intro _;rfl):JT X a (de (dT f)) :=
 (Nt ha he).weak fun σ H Q h0_ => el7 h0_ fun F ad δ K S q k =>⟨F,ad,δ,_,S,q,fun x δ1 h1 v F1 aR H1 E1 S1 V1=>by
  obtain⟨b,rfl,h2⟩:=uQ V1 h1
  exact⟨b,rfl,k _ _ h2 _ _ _ E1 S1⟩⟩
theorem dQ {op:CmpOp} {o:D->D->(D->Prop)->Prop} (ho:gg X (compareOp op) o) (ha:JE X a (tD f)) (hb:JE X b (tD g)) (hm:behindInMarks op b=false):JT X (.Compare a [op] [b] pos) (de (dT (d2 f g o))) :=
 (NJ ho ha hb hm).weak fun σ H Q h0_ => el7 h0_ fun F ad δ K S q k =>wZ (ta:=tD f) (tb:=tD g) (fun _ _ _ _ h=>h) σ H _ ⟨F,ad,δ,_,S,q,fun x δ1 h1 v F1 aR H1 E1 S1 V1=>by
  obtain⟨b,rfl,h2⟩:=uQ V1 h1
  exact⟨b,rfl,k _ _ h2 _ _ _ E1 S1⟩⟩
theorem nM (ha:JT X a (de t)):JT X (.UnaryOp .Not a pos) (de (gh t)):=(Nz ha).weak fun σ H Q h0_ => el7 h0_ fun F ad δ K S q k =>⟨F,ad,δ,_,S,q,fun b δ1 h1 F1 aR H1 E1 S1=>k _ _ h1 _ _ _ E1 S1⟩
theorem N4:∀ σ H Q,de (lA t u) σ H Q->qd (de t) (de u) σ H Q:=fun σ H Q h0_ => el7 h0_ fun F ad δ K S q k =>⟨F,ad,δ,_,S,q,fun b δ1 h1 F1 aR H1 E1 S1=>by
 cases b with
 | true =>
  rw[MD rfl] at h1 ⊢
  exact⟨F1,aR,δ1,_,S1,h1,fun b δ2 h2 F2 c7 H2 E2 S2=>k _ _ h2 _ _ _ (E1.trans E2) S2⟩
 | false =>
  rw[MA Vy] at h1 ⊢
  exact k _ _ h1 _ _ _ E1 S1⟩
theorem N5:∀ σ H Q,de (ph t u) σ H Q->zA (de t) (de u) σ H Q:=fun σ H Q h0_ => el7 h0_ fun F ad δ K S q k =>⟨F,ad,δ,_,S,q,fun b δ1 h1 F1 aR H1 E1 S1=>by
 cases b with
 | false =>
  rw[MA Vy] at h1 ⊢
  exact⟨F1,aR,δ1,_,S1,h1,fun b δ2 h2 F2 c7 H2 E2 S2=>k _ _ h2 _ _ _ (E1.trans E2) S2⟩
 | true =>
  rw[MD rfl] at h1 ⊢
  exact k _ _ h1 _ _ _ E1 S1⟩
theorem JW.weak {e:Expr} {t t':TT} (h:JW X e t) (k:∀ σ H Q,t' σ H Q->t σ H Q):JW X e t':=⟨fun wh pins s σ H Q I q=>h.out wh pins s σ H Q I (k σ H Q q)⟩
theorem Gm (ha:JT X a (de t)):JW X (.BoolOp .And [a] pos) (de t):=Nu ha
theorem uR (ha:JT X a (de t)):JW X (.BoolOp .Or [a] pos) (de t):=Nv ha
theorem Gn {rest:List Expr} (ha:JT X a (de t)) (hb:JW X (.BoolOp .And (b :: rest) pos) (de u)):JW X (.BoolOp .And (a :: b :: rest) pos) (de (lA t u)):=(Nx ha hb).weak N4
theorem uS {rest:List Expr} (ha:JT X a (de t)) (hb:JW X (.BoolOp .Or (b :: rest) pos) (de u)):JW X (.BoolOp .Or (a :: b :: rest) pos) (de (ph t u)):=(Ny ha hb).weak N5
theorem nN {op} (ha:JE X a (tD f)):JE X (.BoolOp op [a] pos) (tD f):=NA ha
theorem mE {rest:List Expr} (ha:JE X a (tD f)) (hb:JE X (.BoolOp .And (b :: rest) pos) (tD g)):JE X (.BoolOp .And (a :: b :: rest) pos) (tD (kq f g)) :=
 (NB ha hb).weak fun σ H Q h0_ => el7 h0_ fun F ad δ K S q k =>⟨F,ad,δ,_,S,q,fun x δ1 h1 v F1 aR H1 E1 S1 V1=>by
  obtain⟨b,rfl,h2⟩:=uQ V1 h1
  refine⟨b,rfl,?_⟩
  cases b with
  | true =>
   rw[MD rfl] at h2 ⊢
   exact⟨F1,aR,δ1,_,S1,h2,fun x δ2 h3 v F2 c7 H2 E2 S2 V2=>k _ _ h3 _ _ _ _ (E1.trans E2) S2 V2⟩
  | false =>
   rw[MA Vy] at h2 ⊢
   exact k _ _ h2 _ _ _ _ E1 S1 rfl⟩
theorem N6 (ha:JE X a (tD f)):JE X (.UnaryOp .Not a pos) (tD (AR f)) :=
 (NC ha).weak fun σ H Q h0_ => el7 h0_ fun F ad δ K S q k =>⟨F,ad,δ,_,S,q,fun x δ1 h1 v F1 aR H1 E1 S1 V1=>by
  obtain⟨b,rfl,h2⟩:=uQ V1 h1
  exact⟨b,rfl,k _ _ h2 _ _ _ _ E1 S1 rfl⟩⟩
theorem uT (hc:JT X c (de t)) (ha:JE X a (tD f)) (hb:JE X b (tD g)):JE X (.IfExp c a b pos) (tD (nL t f g)) :=
 (ND hc ha hb).weak fun σ H Q h0_ => el7 h0_ fun F ad δ K S q k =>⟨F,ad,δ,_,S,q,fun b δ1 h1 F1 aR H1 E1 S1=>by
  cases b with
  | true =>
   rw[MD rfl] at h1 ⊢
   exact⟨F1,aR,δ1,_,S1,h1,fun x δ2 h3 v F2 c7 H2 E2 S2 V2=>k _ _ h3 _ _ _ _ (E1.trans E2) S2 V2⟩
  | false =>
   rw[MA Vy] at h1 ⊢
   exact⟨F1,aR,δ1,_,S1,h1,fun x δ2 h3 v F2 c7 H2 E2 S2 V2=>k _ _ h3 _ _ _ _ (E1.trans E2) S2 V2⟩⟩
end
structure KS where
 nx:ay->Prop
 rt:DV->ay->Prop
 bk:ay->Prop:=fun _=>False
 ct:ay->Prop:=fun _=>False
noncomputable abbrev WS:=KS->ay->Prop
noncomputable def Cn (F:Hp) (ad:List Addr) (mu:List (Option OV)) (H:Hp) (P:ay->Prop) (R:St->Hp->Prop):Prop:=∀ δ',P δ'->∀ F' aC σ' H',Ext F ad mu H F' aC δ'.mu H'->SR F' aC δ' σ' H'->R σ' H'
structure xf (F:Hp) (ad:List Addr) (mu:List (Option OV)) (H:Hp) (K:KS) (D:Ends):Prop where
 nx:Cn F ad mu H K.nx D.nx
 bk:Cn F ad mu H K.bk D.bk
 ct:Cn F ad mu H K.ct D.ct
 rt:∀ x δ',K.rt x δ'->∀ v F' aC σ' H',Ext F ad mu H F' aC δ'.mu H'->SR F' aC δ' σ' H'->gF F' aC x v->D.rt v H'
theorem Cn.ext {F F' H H':Hp} {ad aC:List Addr} {mu dP:List (Option OV)} {P:ay->Prop} {R:St->Hp->Prop} (c:Cn F ad mu H P R) (e:Ext F ad mu H F' aC dP H'):Cn F' aC dP H' P R:=fun δ' h _ _ _ _ E S=>c δ' h _ _ _ _ (e.trans E) S
theorem xf.ext {F F' H H':Hp} {ad aC:List Addr} {mu dP:List (Option OV)} {K:KS} {D:Ends} (c:xf F ad mu H K D) (e:Ext F ad mu H F' aC dP H'):xf F' aC dP H' K D :=
 ⟨c.nx.ext e,c.bk.ext e,c.ct.ext e,fun x δ' h _ _ _ _ _ E S V=>c.rt x δ' h _ _ _ _ _ (e.trans E) S V⟩
noncomputable def dw (G:WS):TS:=fun D σ H=>∃ F ad δ K,SR F ad δ σ H/\G K δ /\ xf F ad δ.mu H K D
noncomputable def au (G G':WS):WS:=fun K δ => G { K with nx:=G' K } δ
noncomputable def eW:WS:=fun K δ => K.nx δ
noncomputable def aG (i:Nat) (f:WE):WS:=fun K δ => f δ fun x δ1=>K.nx ⟨δ1.sl.set i (some x),δ1.mu⟩
noncomputable def mF (f:WE):WS:=fun K δ => f δ fun _ δ1=>K.nx δ1
noncomputable def aX (f:WE):WS:=fun K δ => f δ fun x δ1=>K.rt x δ1
noncomputable def bP (t:WT) (G G':WS):WS:=fun K δ => t δ fun b δ1=>if b=true then G K δ1 else G' K δ1
section
variable {X:Cx} {e c:Expr} {st:Stmt} {rest:List Stmt} {f:WE} {t:WT} {G G':WS} {pos:Pos}
theorem fN:gn X [] (dw eW):=hV.weak fun D σ H h0_ => el7 h0_ fun F ad δ K S q k =>k.nx _ q _ _ _ _ .refl S
theorem bL (h:JS X st (dw G)):gn X [st] (dw G):=uE h
theorem bp (h:JS X st (dw G)) (r:gn X rest (dw G')):gn X (st :: rest) (dw (au G G')) :=
 (kj h r).weak fun D σ H h0_ => el7 h0_ fun F ad δ K S q k =>⟨F,ad,δ,_,S,q,⟨fun δ' h _ _ _ _ E S'=>⟨_,_,δ',K,S',h,k.ext E⟩,k.bk,k.ct,k.rt⟩⟩
theorem N7 {i:Nat}:∀ D σ H,dw (aG i f) D σ H->gC (tD f) (m9 i) D σ H:=fun D σ H h0_ => el7 h0_ fun F ad δ K S q k =>⟨F,ad,δ,_,S,q,fun x δ1 h1 v F1 aR H1 E1 S1 V1=>k.nx _ h1 _ _ _ _ E1 (S1.set V1)⟩
theorem b_ {i:Nat} {x:Str} {pos':Pos} (hN:X.N.Nodup) (hi:X.N[i]? = some x) (hx:Loc X.env.scope x) (he:JE X e (tD f)) (hs:swapsWith e (some (.Name x pos')) pos.line X.env=pure false:=by rfl)
  (hf:X.fn x=true\/X.env.scope.names.lookup x=some .local:=by first | exact .inl rfl | exact .inr rfl | assumption):JS X (.Assign [.Name x pos'] e pos) (dw (aG i f)):=(wN hN hi hx he hs hf).weak N7
theorem qF (he:JE X e (tD f)) (hs:swapsWith e none pos.line X.env=pure false:=by rfl):JS X (.Expr e pos) (dw (mF f)) :=
 (Az he hs).weak fun D σ H h0_ => el7 h0_ fun F ad δ K S q k =>⟨F,ad,δ,_,S,q,fun x δ1 h1 v F1 aR H1 E1 S1 V1=>k.nx _ h1 _ _ _ _ E1 S1⟩
theorem cI (he:JE X e (tD f)):JS X (.Return (some e) pos) (dw (aX f)) :=
 (AA he).weak fun D σ H h0_ => el7 h0_ fun F ad δ K S q k =>⟨F,ad,δ,_,S,q,fun x δ1 h1 v F1 aR H1 E1 S1 V1=>k.rt _ _ h1 _ _ _ _ _ E1 S1 V1⟩
theorem fz {a b:List Stmt} (hc:JT X c (de t)) (ha:gn X a (dw G)) (hb:gn X b (dw G')):JS X (.If c a b pos) (dw (bP t G G')) :=
 (AB hc ha hb).weak fun D σ H h0_ => el7 h0_ fun F ad δ K S q k =>⟨F,ad,δ,_,S,q,fun b δ1 h1 F1 aR H1 E1 S1=>by
  cases b with
  | true =>
   rw[MD rfl] at h1 ⊢
   exact⟨F1,aR,δ1,K,S1,h1,k.ext E1⟩
  | false =>
   rw[MA Vy] at h1 ⊢
   exact⟨F1,aR,δ1,K,S1,h1,k.ext E1⟩⟩
noncomputable def pA:WS:=fun _ _=>False
noncomputable abbrev WG:=DV->ay->(ay->Prop)->Prop
noncomputable def lB (g:WG):TG:=fun v σ H Q=>∃ F ad δ x K,SR F ad δ σ H/\gF F ad x v/\g x δ K/\Cn F ad δ.mu H K Q
noncomputable abbrev qG:=List D->ay->(ay->Prop)->Prop
noncomputable def nP (g:qG):ju:=fun vs σ H Q=>∃ F ad δ ds K,SR F ad δ σ H/\af F ds vs/\g ds δ K/\Cn F ad δ.mu H K Q
noncomputable def bA (i:Nat):WG:=fun x δ K=>K ⟨δ.sl.set i (some x),δ.mu⟩
noncomputable def gP:qG:=fun ds δ K=>match ds with
 | []=>K δ
 | _=>False
noncomputable def dG (g:WG) (g':qG):qG:=fun ds δ K=>match ds with
 | d :: r=>g (.p d) δ fun δ1=>g' r δ1 K
 | []=>False
theorem JG.weak {tg:Expr} {t t':TG} (h:JG X tg t) (k:∀ v σ H Q,t' v σ H Q->t v σ H Q):JG X tg t':=⟨fun pins s σ H v u Q I r q=>h.out pins s σ H v u Q I r (k v σ H Q q)⟩
theorem ki.weak {ts:List Expr} {t t':ju} (h:ki X ts t) (k:∀ v σ H Q,t' v σ H Q->t v σ H Q):ki X ts t':=⟨fun pins s σ H v u Q I r q=>h.out pins s σ H v u Q I r (k v σ H Q q)⟩
theorem b8 {i:Nat} {x:Str} (hN:X.N.Nodup) (hi:X.N[i]? = some x) (hx:Loc X.env.scope x) (hf:X.fn x=true\/X.env.scope.names.lookup x=some .local:=by first | exact .inl rfl | exact .inr rfl | assumption):JG X (.Name x pos) (lB (bA i)) :=
 (AD hN hi hx hf).weak fun v σ H Q ⟨F,ad,δ,x,K,S,V,q,k⟩=>k _ q _ _ _ _ .refl (S.set V)
theorem lC:ki X [] (nP gP):=jx.weak fun vs σ H Q ⟨F,ad,δ,ds,K,S,V,q,k⟩=>by
 unfold gP at q
 split at q
 ·simp only[af] at V
  exact⟨V,k _ q _ _ _ _ .refl S⟩
 ·exact q.elim
theorem gr {es:List Expr} {g:WG} {g':qG} (h1:JG X e (lB g)) (h2:ki X es (nP g')) (hs:(assignEach (e :: es) X.env).map (·.2)=assign e X.env :: (assignEach es X.env).map (·.2):=by rfl):ki X (e :: es) (nP (dG g g')) :=
 (AE h1 h2 hs).weak fun vs σ H Q ⟨F,ad,δ,ds,K,S,V,q,k⟩=>by
  unfold dG at q
  split at q
  ·rename_i d r
   simp only[af] at V
   obtain⟨v,r',e,i1,i2⟩:=V
   exact⟨v,r',e,F,ad,δ,.p d,_,S,i1,q,fun δ' h _ _ _ _ E S'=>⟨_,_,δ',r,K,S',i2.same E.same,h,k.ext E⟩⟩
  ·exact q.elim
noncomputable def hX (n:Nat) (g:qG):WG:=fun x δ K=>fM x δ fun d=>match d with
 | .tup ds=>ds.length=n/\g ds δ K
 | .lst ds=>ds.length=n/\g ds δ K
 | _=>False
theorem JG.or {tg:Expr} {t t':TG} (h:JG X tg t) (h':JG X tg t'):JG X tg (fun v σ H Q=>t v σ H Q\/t' v σ H Q):=⟨fun pins s σ H v u Q I r q=>q.elim (fun q=>h.out pins s σ H v u Q I r q) fun q=>h'.out pins s σ H v u Q I r q⟩
theorem lD {es:List Expr} {k:Nat} {g:qG} {n:Nat} (hc:X.calm=true) (h:ki X es (nP g)) (hn:(assignEach es X.env).length=n:=by rfl) (kU:(assignEach es X.env).findIdx? (·.1)=none:=by rfl):JG X (.Tuple es k pos) (lB (hX n g)) :=
 ((FQ hc h hn kU).or (NZ hc h hn kU)).weak fun v σ H Q ⟨F,ad,δ,x,K,S,V,q,k⟩=>by
  obtain⟨d,q,rd⟩:=iD S V q
  split at q
  ·rename_i ds
   have xg:Is F (.tup ds) v:=rd
   simp only[Is] at xg
   obtain⟨a,vs,e,h1,h2⟩:=xg
   exact .inl ⟨a,vs,e,bQ.of (S.sub _ _ h1),by rw[h2.length];exact q.1,F,ad,δ,ds,K,S,h2,q.2,k⟩
  ·rename_i ds
   obtain⟨a,vs,e,h1,h2⟩:=rd
   exact .inr ⟨a,vs,e,bx.of h1,by rw[h2.length];exact q.1,F,ad,δ,ds,K,S,h2,q.2,k⟩
  ·exact q.elim
noncomputable def iZ (f:WE) (g:WG):WS:=fun K δ => f δ fun x δ1=>g x δ1 K.nx
theorem xh {tg:Expr} {g:WG} (he:JE X e (tD f)) (hg:JG X tg (lB g)) (hs:swapsWithSole [tg] e pos.line X.env=pure false:=by rfl) (hw:swappedStores [tg] e X.env=pure none:=by rfl)
  (h1:(assignEach [tg] X.env).map (·.2)=[assign tg X.env]:=by rfl):JS X (.Assign [tg] e pos) (dw (iZ f g)) :=
 (sy he hg hs hw h1).weak fun D σ H h0_ => el7 h0_ fun F ad δ K S q k =>⟨F,ad,δ,_,S,q,fun x δ1 h1 v F1 aR H1 E1 S1 V1=>⟨F1,aR,δ1,x,K.nx,S1,V1,h1,k.nx.ext E1⟩⟩
end
structure pB where
 items:List D
 bN:ay->Prop
noncomputable abbrev WI:=ay->(pB->ay->Prop)->Prop
noncomputable def qH (F:Hp) (ad:List Addr) (it:pB) (J:It):Prop:=∀ (F':Hp) (aC:List Addr) (δ : ay) (σ : St) (H:Hp),az F F'->(∀ (k:Nat) (a:Addr),ad[k]? = some a->aC[k]? = some a)->SR F' aC δ σ H->it.bN δ →
 J.stop it.items.length H/\∀ (i:Nat) (d:D),it.items[i]? = some d->J.go i H/\∀ x H',J.sd i H x H'->az H H'/\Is (Nw F' H H') d x
noncomputable def lE (w:WI):TI:=fun σ H R=>∃ F ad δ K,SR F ad δ σ H/\w δ K/\∀ it δ',K it δ'->∀ J F' aC H',Ext F ad δ.mu H F' aC δ'.mu H'->SR F' aC δ' σ H'->qH F' aC it J->R J H'
noncomputable def xi (n:Nat):Option DV->Option DV->Option DV
 | none,_=>none
 | some _,some (.o k)=>if k < n then some (.o k) else none
 | some _,s=>s
noncomputable def gG (n:Nat):List (Option DV)->List (Option DV)->List (Option DV)
 | s0 :: r0,s :: r=>xi n s0 s :: gG n r0 r
 | [],_ :: r=>none :: gG n [] r
 | _,[]=>[]
noncomputable def ay.trim (δ0 δ : ay):ay:=⟨gG δ0.mu.length δ0.sl δ.sl,δ.mu.take δ0.mu.length⟩
theorem AS {n:Nat}:∀ (l0 l:List (Option DV)),(gG n l0 l).length=l.length
 | _ :: r0,_ :: r=>by rw[gG,Fm,Fm,AS r0 r]
 | [],_ :: r=>by rw[gG,Fm,Fm,AS [] r]
 | [],[]=>rfl
 | _ :: _,[]=>rfl
theorem AU {n:Nat}:∀ {l0 l:List (Option DV)} {i:Nat} {x:DV},(gG n l0 l)[i]? = some (some x)->l[i]? = some (some x)/\∀ k,x = .o k->k < n
 | s0 :: r0,s :: r,0,x,h=>by
  have h:xi n s0 s=some x:=by simpa [gG] using h
  match s0,s,h with
  | none,_,h=>cases h
  | some _,none,h=>cases h
  | some _,some (.p d),h=>cases (show some (DV.p d)=some x from h);exact⟨rfl,fun k e=>nomatch e⟩
  | some _,some (.o k),h =>
   have h:(if k < n then some (DV.o k) else none)=some x:=h
   by_cases c:k < n
   ·rw[MD c] at h;cases h;exact⟨rfl,fun k' e=>by cases e;exact c⟩
   ·rw[MA c] at h;cases h
 | s0 :: r0,s :: r,i + 1,x,h=>by
  have h:(gG n r0 r)[i]? = some (some x):=by simpa [gG] using h
  simpa using AU h
 | [],s :: r,0,x,h=>by simp[gG] at h
 | [],s :: r,i + 1,x,h=>by
  have h:(gG n [] r)[i]? = some (some x):=by simpa [gG] using h
  simpa using AU h
 | [],[],i,x,h=>by simp[gG] at h
 | _ :: _,[],i,x,h=>by simp[gG] at h
section
variable {F F' H H':Hp} {ad aC:List Addr} {δ δ' δ0:ay} {σ σ' τ : St} {mu dP:List (Option OV)} {l:Addr} {o:HO}
theorem Lv.take {n:Nat} {a:Addr} (h:Lv (ad.take n) (mu.take n) a):Lv ad mu a:=by
 obtain⟨k,ov,e1,e2⟩:=h
 have hk:k < n:=by
  have:=(su.mp e1).1
  rw[Wn] at this;omega
 rw[WL hk] at e1 e2
 exact⟨k,ov,e1,e2⟩
theorem SR.trim (S:SR F ad δ σ H):SR F (ad.take δ0.mu.length) (δ0.trim δ) σ H:=by
 have tk:∀ {k:Nat} {a:Addr},(ad.take δ0.mu.length)[k]? = some a->k < δ0.mu.length/\ad[k]? = some a:=fun {k a} e=>by
  have hk:k < δ0.mu.length:=by
   have:=(su.mp e).1
   rw[Wn] at this;omega
  rw[WL hk] at e;exact⟨hk,e⟩
 have tm:∀ {k:Nat} {w:Option OV},(δ.mu.take δ0.mu.length)[k]? = some w->k < δ0.mu.length /\ δ.mu[k]? = some w:=fun {k w} e=>by
  have hk:k < δ0.mu.length:=by
   have:=(su.mp e).1
   rw[Wn] at this;omega
  rw[WL hk] at e;exact⟨hk,e⟩
 refine⟨S.sub,fun a x=>S.off a x.take,?_,fun k l a w w' e1 e2 e3 e4=>S.inj k l a w w' (tk e1).2 (tk e2).2 (tm e3).2 (tm e4).2,fun k ov e => ?_,fun i x e => ?_,?_,S.tab,S.nt⟩
 ·show (ad.take _).length=(δ.mu.take _).length
  rw[Wn,Wn,S.cP]
 ·obtain⟨a,o,e1,e2,h⟩:=S.mu k ov (tm e).2
  exact⟨a,o,by rw[WL (tm e).1];exact e1,e2,h⟩
 ·obtain⟨e1,e2⟩:=AU e
  obtain⟨v,h1,h2⟩:=S.sl i x e1
  refine⟨v,h1,?_⟩
  cases x with
  | p d=>exact h2
  | o k =>
   obtain⟨a,h3,h4⟩:=h2
   exact⟨a,by rw[WL (e2 k rfl)];exact h3,h4⟩
 ·show σ.length=(gG _ _ _).length
  rw[AS];exact S.len
theorem Ext.trim {n:Nat} (e:Ext F ad mu H F' aC dP H') (hn:ad.length=n):Ext F ad mu H F' (aC.take n) (dP.take n) H' :=
 ⟨e.same,e.new,e.keep,fun k a h=>by rw[WL (by rw[<-hn];exact (su.mp h).1)];exact e.pre k a h,fun a x=>e.cB a x.take,e.iO⟩
theorem SR.other (S:SR F ad δ σ H) (hf:F l=none) (hl:¬ Lv ad δ.mu l) (tk:aI.ok (upd H l o)):SR F ad δ σ (upd H l o):=by
 refine⟨fun a u e => ?_,S.off,S.cP,S.inj,fun k ov e => ?_,S.sl,S.len,tk,S.nt⟩
 ·rw[aO (di e hf)];exact S.sub a u e
 ·obtain⟨a,u,e1,e2,h⟩:=S.mu k ov e
  exact⟨a,u,e1,by rw[aO fun z=>hl (by subst z;exact⟨k,ov,e1,e⟩)];exact e2,h⟩
theorem Ext.other (e:Ext F ad mu H F' aC dP H') (hl:H l=none):Ext F ad mu H F' aC dP (upd H' l o) :=
 ⟨e.same,e.new,fun a u h n t=>by rw[aO (di h hl)];exact e.keep a u h n t,e.pre,e.cB,fun a u h=>by rw[aO (di h hl)];exact e.iO a u h⟩
theorem SR.adopt (S:SR F ad δ σ H) (hf:F l=none) (ho:H l=some o) (hl:¬ Lv ad δ.mu l) (no:∀ ps,o ≠ .tbl ps:=by intro _ z;cases z):SR (upd F l o) ad δ σ H:=by
 have sm:az F (upd F l o):=cj hf
 refine⟨fun a u e => ?_,fun a x => ?_,S.cP,S.inj,fun k ov e => ?_,fun i x e => ?_,S.len,S.tab,fun a ha=>by
  obtain⟨ps,q⟩:=aI.tb S.tab ha
  rw[aO fun z=>by subst z;rw[ho] at q;exact no ps (Wf q)]
  exact S.nt a ha⟩
 ·by_cases c:a=l
  ·subst c;rw[bW] at e;cases e;exact ho
  ·rw[aO c] at e;exact S.sub a u e
 ·rw[aO fun z=>hl (by subst z;exact x)];exact S.off a x
 ·obtain⟨a,u,e1,e2,h⟩:=S.mu k ov e
  exact⟨a,u,e1,e2,h.same sm⟩
 ·obtain⟨v,e1,h⟩:=S.sl i x e
  refine⟨v,e1,?_⟩
  cases x with
  | p d=>exact Is.same sm h
  | o k=>exact h
theorem Ext.adopt (e:Ext F ad mu H F' aC dP H') (hl:H l=none) (hf:F' l=none):Ext F ad mu H (upd F' l o) aC dP H' :=
 ⟨e.same.trans (cj hf),fun a u h=>by
  by_cases c:a=l
  ·subst c;exact .inr (.inl hl)
  ·rw[aO c] at h;exact e.new a u h,e.keep,e.pre,e.cB,e.iO⟩
theorem SR.eC {ov:OV} (S:SR F ad δ σ H) (hf:F l=none) (ho:H l=some o) (hl:¬ Lv ad δ.mu l) (h:gq F ov o):SR F (ad ++ [l]) ⟨δ.sl,δ.mu ++ [some ov]⟩ σ H:=by
 have old:∀ {k:Nat} {w:OV},(δ.mu ++ [some ov])[k]? = some (some w)->(k < δ.mu.length /\ δ.mu[k]? = some (some w))\/(k = δ.mu.length/\w=ov):=fun {k w} e=>by
  by_cases c:k < δ.mu.length
  ·rw[Vz c] at e;exact .inl ⟨c,e⟩
  ·have hl:=(su.mp e).1
   rw[Vw,Wx] at hl
   have ek:k = δ.mu.length:=by omega
   subst ek
   rw[VZ (wG _),W6] at e
   exact .inr ⟨rfl,by simpa using e.symm⟩
 have pre:∀ {k:Nat},k < δ.mu.length->(ad ++ [l])[k]? = ad[k]? := fun {k} c=>Vz (by rw[S.cP];exact c)
 have last:(ad ++ [l])[δ.mu.length]? = some l:=by rw[<-S.cP,VZ (wG _),W6];rfl
 refine⟨S.sub,fun a x => ?_,by rw[Vw,Vw,S.cP];rfl,fun k k' a w w' e1 e2 e3 e4 => ?_,fun k w e => ?_,fun i x e => ?_,S.len,S.tab,S.nt⟩
 ·obtain⟨k,w,e1,e2⟩:=x
  rcases old e2 with⟨c,e3⟩ | ⟨c,e3⟩
  ·rw[pre c] at e1;exact S.off a ⟨k,w,e1,e3⟩
  ·subst c;rw[last] at e1;cases e1;exact hf
 ·rcases old e3 with⟨c,q⟩ | ⟨c,q⟩
  ·rw[pre c] at e1
   rcases old e4 with⟨c',q'⟩ | ⟨c',q'⟩
   ·rw[pre c'] at e2;exact S.inj k k' a w w' e1 e2 q q'
   ·subst c';rw[last] at e2;cases e2;exact absurd ⟨k,w,e1,q⟩ hl
  ·subst c;rw[last] at e1;cases e1
   rcases old e4 with⟨c',q'⟩ | ⟨c',q'⟩
   ·rw[pre c'] at e2;exact absurd ⟨k',w',e2,q'⟩ hl
   ·exact c'.symm
 ·rcases old e with⟨c,q⟩ | ⟨c,q⟩
  ·obtain⟨a,u,e1,e2,h'⟩:=S.mu k w q
   exact⟨a,u,by rw[pre c];exact e1,e2,h'⟩
  ·subst c;subst q;exact⟨l,o,last,ho,h⟩
 ·obtain⟨v,e1,h'⟩:=S.sl i x e
  refine⟨v,e1,?_⟩
  cases x with
  | p d=>exact h'
  | o k =>
   obtain⟨a,e2,e3⟩:=h'
   exact⟨a,by rw[Vz (su.mp e2).1];exact e2,e3⟩
theorem Ext.eC {ov:OV} (e:Ext F ad mu H F' aC dP H') (hl:H l=none) (hm:aC.length=dP.length):Ext F ad mu H F' (aC ++ [l]) (dP ++ [some ov]) H' :=
 ⟨e.same,e.new,e.keep,fun k a h=>by rw[Vz (su.mp (e.pre k a h)).1];exact e.pre k a h,fun a x=>by
  obtain⟨k,w,e1,e2⟩:=x
  by_cases c:k < dP.length
  ·rw[Vz c] at e2
   rw[Vz (by rw[hm];exact c)] at e1
   exact e.cB a ⟨k,w,e1,e2⟩
  ·have iE:=(su.mp e2).1
   rw[Vw,Wx] at iE
   have ek:k=aC.length:=by rw[hm];omega
   subst ek
   rw[VZ (wG _),W6] at e1
   have:l=a:=by simpa using e1
   subst this;exact .inr hl,e.iO⟩
theorem SR.back {sl:List (Option DV)} (S0:SR F ad δ σ H) (e:Ext F ad δ.mu H F' aC dP H') (S:SR F' aC ⟨sl,dP⟩ τ H'):SR F' aC ⟨δ.sl,dP⟩ σ H' :=
 ⟨S.sub,S.off,S.cP,S.inj,S.mu,fun i x q=>let ⟨v,h1,h2⟩:=S0.sl i x q; ⟨v,h1,h2.ext e⟩,S0.len,S.tab,S.nt⟩
noncomputable def dy (cp:List (Option Nat)) (sl:List (Option DV)):List (Option DV):=cp.map fun o=>match o with
 | some i=>(sl[i]?).join
 | none=>none
theorem SR.uU {cp:List (Option Nat)} (S:SR F ad δ σ H):SR F ad ⟨dy cp δ.sl,δ.mu⟩ (iM cp σ) H:=by
 refine⟨S.sub,S.off,S.cP,S.inj,S.mu,fun j x e => ?_,by unfold iM dy;rw[qx,qx],S.tab,S.nt⟩
 unfold dy at e
 rw[Fl] at e
 obtain⟨o,e1,e2⟩:=Vu.mp e
 match o,e2 with
 | none,e2=>cases e2
 | some i,e2 =>
  have e2:(δ.sl[i]?).join=some x:=e2
  cases q : δ.sl[i]? with
  | none=>rw[q] at e2;cases e2
  | some z =>
   rw[q] at e2
   have e3:z=some x:=e2
   subst e3
   obtain⟨v,h1,h2⟩:=S.sl i x q
   refine⟨v,?_,h2⟩
   unfold iM
   rw[Fl,e1]
   show some ((σ[i]?).join)=some (some v)
   rw[h1];rfl
end
noncomputable def lF (δ0:ay) (bN:ay->Prop) (g:WG) (b:WS) (K:KS):List D->ay->Prop
 | [],δ => bN δ /\ K.nx δ
 | d :: r,δ => bN δ /\ g (.p d) δ fun δ1=>b { nx:=fun δ2=>lF δ0 bN g b K r (δ0.trim δ2),ct:=fun δ2=>lF δ0 bN g b K r (δ0.trim δ2),bk:=K.nx,rt:=K.rt } δ1
noncomputable def cx (w:WI) (g:WG) (b:WS):WS:=fun K δ => w δ fun it δ1=>lF δ1 it.bN g b K it.items δ1
noncomputable def jA (δ0:ay) (bN:ay->Prop) (g:WG) (t:WT) (f:WE) (K:List D->ay->Prop):List D->List D->ay->Prop
 | [],acc,δ => bN δ /\ K acc δ
 | d :: r,acc,δ => bN δ /\ g (.p d) δ fun δ1=>t δ1 fun b δ2=>if b=true then f δ2 fun x δ3=>nK x δ3 fun e δ4=>acc.length < 1000/\jA δ0 bN g t f K r (acc ++ [e]) (δ0.trim δ4) else jA δ0 bN g t f K r acc (δ0.trim δ2)
noncomputable def fA (w:WI) (cp:List (Option Nat)) (g:WG) (t:WT) (f:WE):WE:=fun δ K=>w δ fun it δ1=>jA ⟨dy cp δ1.sl,δ1.mu⟩ it.bN g t f (fun acc δ'=>K (.p (.lst acc)) ⟨δ1.sl,δ'.mu⟩) it.items [] ⟨dy cp δ1.sl,δ1.mu⟩
noncomputable def qI (w:WI) (cp:List (Option Nat)) (g:WG) (t:WT) (f:WE):WE:=fun δ K=>w δ fun it δ1=>jA ⟨dy cp δ1.sl,δ1.mu⟩ it.bN g t f (fun acc δ'=>K (.o δ'.mu.length) ⟨δ1.sl,δ'.mu ++ [some (.lst acc)]⟩) it.items [] ⟨dy cp δ1.sl,δ1.mu⟩
section
variable {X:Cx} {tg iter elt:Expr} {body:List Stmt} {w:WI} {g:WG} {b:WS} {pos:Pos} {ifs:List Expr} {t:WT} {f:WE} {scope:Scope}
theorem kr (hp:PassesOwn (model X.prog X.w) X.A X.env X.xe) (hc:X.calm=true) (hi:JI X tg iter (lE w)) (hg:JG X tg (lB g)) (hb:gn X body (dw b)) (hs:∀ x,foldedSetIterable iter X.env x=pure x:=by intro _;rfl) :
  JS X (.For tg iter body [] pos) (dw (cx w g b)):=(FR hp hc hi hg hb hs).weak fun D σ H h0_ => el7 h0_ fun F ad δ K S q k =>by
 refine⟨F,ad,δ,_,S,q,fun it δ1 h1 J F1 aR H1 E1 S1 I1 => ?_⟩
 have k1:=k.ext E1
 refine⟨fun i m σ' H'=>∃ F' aC δ',i + m=it.items.length/\Ext F1 aR δ1.mu H1 F' aC δ'.mu H'/\SR F' aC δ' σ' H'/\lF δ1 it.bN g b K (it.items.drop i) δ',⟨it.items.length,F1,aR,δ1,by omega,.refl,S1,h1⟩,?_⟩
 rintro i m σ' H' ⟨F',aC,δ',hm,E',S',h⟩
 by_cases cK:i < it.items.length
 ·rw[Yc cK] at h
  obtain⟨ck,h⟩:=h
  obtain⟨go,yl⟩:=(I1 F' aC δ' σ' H' E'.same E'.pre S' ck).2 i _ (qv cK)
  refine .inr ⟨go,fun σ2 H2=>∃ F2 c7 δ2,Ext F1 aR δ1.mu H1 F2 c7 δ2.mu H2/\SR F2 c7 δ2 σ2 H2/\lF δ1 it.bN g b K (it.items.drop (i + 1)) δ2,fun σ2 H2 ⟨F2,c7,δ2,e1,e2,e3⟩=>⟨m - 1,by omega,F2,c7,δ2,by omega,e1,e2,e3⟩,fun x H2 y => ?_⟩
  obtain⟨sm,is⟩:=yl x H2 y
  have E2:=E'.trans (Ext.al S' sm)
  refine⟨_,aC,δ',.p _,_,S'.al sm,is,h,fun δ3 h3 F3 qJ σ3 H3 E3 S3 => ?_⟩
  have xk:=E2.trans E3
  refine⟨F3,qJ,δ3,_,S3,h3,⟨fun δ4 h4 F4 xm σ4 H4 E4 S4=>⟨F4,_,_,(xk.trans E4).trim S1.cP,S4.trim,h4⟩,k1.nx.ext xk,fun δ4 h4 F4 xm σ4 H4 E4 S4=>⟨F4,_,_,(xk.trans E4).trim S1.cP,S4.trim,h4⟩,(k1.ext xk).rt⟩⟩
 ·have ei:i=it.items.length:=by omega
  subst ei
  rw[List.drop_of_length_le (wG _)] at h
  obtain⟨ck,h⟩:=h
  exact .inl ⟨(I1 F' aC δ' σ' H' E'.same E'.pre S' ck).1,k1.nx _ h _ _ _ _ E' S'⟩
noncomputable def cy:WT:=fun δ K=>K true δ
theorem JF.weak {ifs:List Expr} {t t':TT} (h:JF X ifs t) (k:∀ σ H Q,t' σ H Q->t σ H Q):JF X ifs t':=⟨fun pins s σ H Q I q=>h.out pins s σ H Q I (k σ H Q q)⟩
theorem i5:JF X [] (de cy):=qB.weak fun σ H Q h0_ => el7 h0_ fun F ad δ K S q k =>k _ _ q _ _ _ .refl S
theorem uV {c:Expr} (h:JT X c (de t)):JF X [c] (de t):=NO h
theorem Gp {J:It} {l:Addr} {F1:Hp} {aR:List Addr} {δ1:ay} {σ : St} {H1:Hp} {it:pB} {cp:List (Option Nat)} {Q:VK} {K:List D->ay->Prop} (S1:SR F1 aR δ1 σ H1) (I1:qH F1 aR it J) (hl:H1 l=none)
  (h:jA ⟨dy cp δ1.sl,δ1.mu⟩ it.bN g t f K it.items [] ⟨dy cp δ1.sl,δ1.mu⟩)
  (fin:∀ acc δ' F' aC τ H' ys,K acc δ'->Ext F1 aR δ1.mu H1 F' aC δ'.mu H'->SR F' aC δ' τ H'->H' l=some (.lst ys)->F' l=none->¬ Lv aC δ'.mu l->af F' acc ys->Q (.ref l) H') :
  Fs J (lB g) (de t) (tD f) l (iM cp σ) (upd H1 l (.lst [])) Q:=by
 have f1:F1 l=none:=by
  cases q:F1 l with
  | none=>rfl
  | some u=>rw[S1.sub l u q] at hl;cases hl
 have nl:∀ {ad mu},(∀ a,Lv ad mu a->Lv aR δ1.mu a\/H1 a=none)->True:=fun _=>trivial
 have l1:¬ Lv aR δ1.mu l:=fun ⟨k,ov,e1,e2⟩=>by
  obtain⟨a,o,e3,e4,_⟩:=S1.mu k ov e2
  rw[e1] at e3;cases e3
  rw[hl] at e4;cases e4
 have S0:SR F1 aR ⟨dy cp δ1.sl,δ1.mu⟩ (iM cp σ) (upd H1 l (.lst [])):=S1.uU.other f1 l1 (aI.same S1.tab (cj hl))
 refine⟨fun i m τ H'=>∃ F' aC δ' acc ys,i + m=it.items.length/\Ext F1 aR δ1.mu H1 F' aC δ'.mu H'/\SR F' aC δ' τ H'/\H' l=some (.lst ys)/\F' l=none/\¬ Lv aC δ'.mu l/\af F' acc ys/\jA ⟨dy cp δ1.sl,δ1.mu⟩ it.bN g t f K (it.items.drop i) acc δ',⟨it.items.length,F1,aR,_,[],[],by omega,Ext.refl.other hl,S0,bW,f1,l1,.nil,h⟩,?_⟩
 rintro i m τ H' ⟨F',aC,δ',acc,ys,hm,E',S',iE,nQ,pC,ia,h⟩
 by_cases cK:i < it.items.length
 ·rw[Yc cK] at h
  obtain⟨ck,h⟩:=h
  obtain⟨go,yl⟩:=(I1 F' aC δ' τ H' E'.same E'.pre S' ck).2 i _ (qv cK)
  have step:∀ {F2:Hp} {c7:List Addr} {AV:List (Option OV)} {H2:Hp},Ext F' aC δ'.mu H' F2 c7 AV H2->H2 l=some (.lst ys)/\F2 l=none/\¬ Lv c7 AV l/\af F2 acc ys:=fun {F2 c7 AV H2} e=>by
   refine⟨e.keep _ _ iE pC (fun z=>by obtain⟨ps,q⟩:=aI.tb S1.tab z;rw[hl] at q;cases q),?_,fun z => ?_,ia.same e.same⟩
   ·cases q:F2 l with
    | none=>rfl
    | some u =>
     rcases e.new l u q with z | z | z
     ·rw[nQ] at z;cases z
     ·rw[iE] at z;cases z
     ·exact absurd z pC
   ·rcases e.cB l z with z | z
    ·exact pC z
    ·rw[iE] at z;cases z
  refine .inr ⟨go,fun τ2 H2=>∃ F2 c7 δ2 nR xn,Ext F1 aR δ1.mu H1 F2 c7 δ2.mu H2/\SR F2 c7 δ2 τ2 H2/\H2 l=some (.lst xn)/\F2 l=none/\¬ Lv c7 δ2.mu l/\af F2 nR xn/\jA ⟨dy cp δ1.sl,δ1.mu⟩ it.bN g t f K (it.items.drop (i + 1)) nR δ2,
   fun τ2 H2 ⟨F2,c7,δ2,nR,xn,r⟩=>⟨m - 1,by omega,F2,c7,δ2,nR,xn,by omega,r⟩,fun x H2 y => ?_⟩
  obtain⟨sm,is⟩:=yl x H2 y
  have X2:=Ext.al S' sm
  refine⟨_,aC,δ',.p _,_,S'.al sm,is,h,fun δ3 h3 F3 qJ σ3 H3 X3 S3 => ?_⟩
  refine⟨F3,qJ,δ3,_,S3,h3,fun bb δ4 h4 F4 xm H4 X4 S4 => ?_⟩
  have AW:=(X2.trans X3).trans X4
  cases bb with
  | false =>
   dsimp only at h4 ⊢
   rw[MA Vy] at h4 ⊢
   obtain⟨a1,a2,a3,a4⟩:=step AW
   exact⟨F4,_,_,acc,ys,(E'.trans AW).trim S1.cP,S4.trim (δ0:=⟨dy cp δ1.sl,δ1.mu⟩),a1,a2,fun z=>a3 z.take,a4,h4⟩
  | true =>
   dsimp only at h4 ⊢
   rw[MD rfl] at h4 ⊢
   refine⟨F4,xm,δ4,_,S4,h4,fun y δ5 h5 v F5 N8 H5 X5 S5 V5 => ?_⟩
   obtain⟨e,δ6,F6,⟨hlen,h6⟩,X6,S6,i6⟩:=uP S5 V5 h5
   have Gq:=(AW.trans X5).trans X6
   obtain⟨a1,a2,a3,a4⟩:=step Gq
   refine⟨ys,a1,o_ (by rw[a4.length];omega),F6,_,_,acc ++ [e],ys ++ [v],?_,(S6.other a2 a3 (aI.put S6.tab a1 (.inl ⟨_,rfl⟩))).trim (δ0:=⟨dy cp δ1.sl,δ1.mu⟩),bW,a2,fun z=>a3 z.take,a4.snoc i6,h6⟩
   exact ((E'.trans Gq).other hl).trim S1.cP
 ·have ei:i=it.items.length:=by omega
  subst ei
  rw[List.drop_of_length_le (wG _)] at h
  obtain⟨ck,h⟩:=h
  exact .inl ⟨(I1 F' aC δ' τ H' E'.same E'.pre S' ck).1,fin _ _ _ _ _ _ _ h E' S' iE nQ pC ia⟩
theorem Gr {cp:List (Option Nat)}:∀ σ H Q,tD (fA w cp g t f) σ H Q->qy (lE w) cp (fun _=>lB g) (fun _=>de t) (fun _=>tD f) σ H Q:=fun σ H Q h0_ => el7 h0_ fun F ad δ K S q k =>by
 refine⟨F,ad,δ,_,S,q,fun it δ1 h1 J F1 aR H1 E1 S1 I1=>fun d l hl => ?_⟩
 refine Gp S1 I1 hl h1 fun acc δ' F' aC τ H' ys hk E' S' iE nQ pC ia => ?_
 have sm:az F' (upd F' l (.lst ys)):=cj nQ
 refine k _ _ hk _ _ _ _ (E1.trans (E'.adopt hl nQ)) (SR.back (sl := δ'.sl) S1 (E'.adopt hl nQ) (S'.adopt nQ iE pC)) ?_
 show Is _ (.lst acc) _
 simp only[Is]
 exact⟨l,ys,rfl,bW,ia.same sm⟩
theorem N9 {cp:List (Option Nat)}:∀ σ H Q,tD (qI w cp g t f) σ H Q->qy (lE w) cp (fun _=>lB g) (fun _=>de t) (fun _=>tD f) σ H Q:=fun σ H Q h0_ => el7 h0_ fun F ad δ K S q k =>by
 refine⟨F,ad,δ,_,S,q,fun it δ1 h1 J F1 aR H1 E1 S1 I1=>fun d l hl => ?_⟩
 refine Gp S1 I1 hl h1 fun acc δ' F' aC τ H' ys hk E' S' iE nQ pC ia => ?_
 have S2:=S'.eC (ov := .lst acc) nQ iE pC ⟨ys,rfl,ia⟩
 have E2:=E'.eC (ov := .lst acc) hl S'.cP
 refine k _ _ hk _ _ _ _ (E1.trans E2) (SR.back (sl := δ'.sl) S1 E2 S2) ⟨l,?_,rfl⟩
 rw[<-S'.cP,VZ (wG _),W6];rfl
theorem i7 (cp:List (Option Nat)) (Nb:List Str) (hc:X.calm=true) (hi:JI X tg iter (lE w)) (hg:∀ d,JG (cO X scope Nb d) tg (lB g)) (hf:∀ d,JF (cO X scope Nb d) ifs (de t)) (he:∀ d,JE (cO X scope Nb d) elt (tD f))
  (hk:scope.kind = .function:=by rfl) (ho:mB X.N X.env.scope scope Nb cp=true:=by first | rfl | kernel_rfl) (hs:∀ x,foldedSetIterable iter X.env x=pure x:=by intro _;rfl) :
  JE X (.ListComp elt [⟨tg,iter,ifs,0⟩] scope pos) (tD (fA w cp g t f)):=(FU cp Nb hc hi hg hf he hk ho hs).weak Gr
theorem xo (cp:List (Option Nat)) (Nb:List Str) (hc:X.calm=true) (hi:JI X tg iter (lE w)) (hg:∀ d,JG (cO X scope Nb d) tg (lB g)) (hf:∀ d,JF (cO X scope Nb d) ifs (de t)) (he:∀ d,JE (cO X scope Nb d) elt (tD f))
  (hk:scope.kind = .function:=by rfl) (ho:mB X.N X.env.scope scope Nb cp=true:=by first | rfl | kernel_rfl) (hs:∀ x,foldedSetIterable iter X.env x=pure x:=by intro _;rfl) :
  JE X (.ListComp elt [⟨tg,iter,ifs,0⟩] scope pos) (tD (qI w cp g t f)):=(FU cp Nb hc hi hg hf he hk ho hs).weak N9
theorem N_ (cp:List (Option Nat)) (Nb:List Str) {i:Nat} {x:Str} {pos' iC:Pos} (hN:X.N.Nodup) (hi:X.N[i]? = some x) (hx:Loc X.env.scope x) (hc:X.calm=true) (hit:JI X tg iter (lE w)) (hg:∀ d,JG (cO X scope Nb d) tg (lB g)) (hf:∀ d,JF (cO X scope Nb d) ifs (de t)) (he:∀ d,JE (cO X scope Nb d) elt (tD f))
  (hk:scope.kind = .function:=by rfl) (ho:mB X.N X.env.scope scope Nb cp=true:=by first | rfl | kernel_rfl) (hs:∀ x,foldedSetIterable iter X.env x=pure x:=by intro _;rfl)
  (uy:swapsWith (.ListComp elt [⟨tg,iter,ifs,0⟩] scope pos) (some (.Name x pos')) iC.line X.env=pure true:=by rfl)
  (mW:X.fn x=true\/X.env.scope.names.lookup x=some .local:=by first | exact .inl rfl | exact .inr rfl | assumption) :
  JS X (.Assign [.Name x pos'] (.ListComp elt [⟨tg,iter,ifs,0⟩] scope pos) iC) (dw (aG i (fA w cp g t f))) :=
 (NP cp Nb hN hi hx hc hit hg hf he hk ho hs uy mW).weak fun D σ H h0_ => el7 h0_ fun F ad δ K S q k =>Gr σ H _ ⟨F,ad,δ,_,S,q,fun x δ1 h1 v F1 aR H1 E1 S1 V1=>k.nx _ h1 _ _ _ _ E1 (S1.set V1)⟩
end
inductive RV where
 | p (d:D) | n (ds:List D) | a (j:Nat)
noncomputable abbrev GD:=List DV->List OV->(RV->List OV->Prop)->Prop
structure qK (F:Hp) (ad:List Addr) (H:Hp) (r:RV) (ows:List OV) (v:V) (F' H':Hp):Prop where
 sub:az F' H'
 same:az F F'
 new:∀ a o,F' a=some o->F a=some o\/H a=none
 keep:∀ a o,H a=some o->a∉ad->a∉aI.ad->H' a=some o
 tab:aI.ok H'
 nt:∀ a∈aI.ad,F' a=none
 len:ows.length=ad.length
 own:∀ (j:Nat) (ow:OV),ows[j]? = some ow->∃ a o,ad[j]? = some a/\H' a=some o/\gq F' ow o
 off:∀ a∈ad,F' a=none
 res:match r with
  | .p d=>Is F' d v
  | .n ds=>∃ a vs,v = .ref a/\H a=none/\H' a=some (.lst vs)/\F' a=none/\af F' ds vs
  | .a j=>∃ a,ad[j]? = some a/\v = .ref a
noncomputable def bf (G:GD) (n:Nat):Sp:=fun vs H Q _=>vs.length=n/\∃ F ad ys ovs K,SR F ad ⟨ys.map some,ovs.map some⟩ (vs.map some) H/\G ys ovs K/\∀ r ows,K r ows->∀ v F' H',qK F ad H r ows v F' H'->Q v H'
noncomputable def hZ (n:Nat) (K:RV->List OV->Prop) (x:DV) (δ : ay):Prop:=∃ ows,δ.mu.take n=ows.map some/\ows.length=n/\match x with
 | .p d=>K (.p d) ows
 | .o k=>if k < n then K (.a k) ows else match δ.mu[k]? with
  | some (some (.lst ds))=>K (.n ds) ows\/K (.p (.lst ds)) ows
  | _=>False
noncomputable def dz (n:Nat) (K:RV->List OV->Prop):KS where
 nx:=hZ n K (.p .non)
 rt:=hZ n K
section
variable {F F' H H':Hp} {ad aC:List Addr} {σ σ':St}
theorem Gs {α : Type} {l:List α} {i:Nat} {x : α} (h:(l.map some)[i]? = some (some x)):l[i]? = some x:=by
 rw[Fl] at h
 obtain⟨y,e,q⟩:=Vu.mp h
 cases q;exact e
theorem Oa {α : Type} {l:List α} {i:Nat} {x : α} (h:l[i]? = some x):(l.map some)[i]? = some (some x):=by
 rw[Fl,h];rfl
theorem SR.start {ys:List DV} {mu:List (Option OV)} {vs:List V} {N:List Str} (S:SR F ad ⟨ys.map some,mu⟩ (vs.map some) H):SR F ad ⟨ys.map some ++ List.replicate (N.length - vs.length) none,mu⟩ (start N vs) H:=by
 have hl:vs.length=ys.length:=by
  have:=S.len
  rw[qx] at this
  show vs.length=ys.length
  rw[this];show (ys.map some).length=_;rw[qx]
 refine⟨S.sub,S.off,S.cP,S.inj,S.mu,fun i x e => ?_,?_,S.tab,S.nt⟩
 ·have hi:i < ys.length:=by
   by_cases c:i < ys.length
   ·exact c
   ·rw[VZ (by rw[qx];omega),XX] at e
    split at e
    ·cases e
    ·cases e
  rw[Vz (by rw[qx];exact hi)] at e
  obtain⟨v,h1,h2⟩:=S.sl i x e
  exact⟨v,by unfold L2.start;rw[Vz (by rw[qx,hl];exact hi)];exact h1,h2⟩
 ·unfold L2.start
  show _=(ys.map some ++ _).length
  rw[Vw,Vw,Yx,Yx,qx,qx,hl]
theorem qL {ovs:List OV} {δ : ay} {x:DV} {v:V} {K:RV->List OV->Prop} {Q:VK} {sl:List (Option DV)} {τ : St} (S0:SR F ad ⟨sl,ovs.map some⟩ τ H) (E:Ext F ad (ovs.map some) H F' aC δ.mu H') (S:SR F' aC δ σ' H') (V:gF F' aC x v)
  (h:hZ ovs.length K x δ) (k:∀ r ows,K r ows->∀ v F' H',qK F ad H r ows v F' H'->Q v H'):Q v H':=by
 obtain⟨ows,tk,hl,h⟩:=h
 have al:ad.length=ovs.length:=by have:=S0.cP;rwa [qx] at this
 have lv:∀ (j:Nat) (a:Addr),ad[j]? = some a->∃ ow,ows[j]? = some ow /\ δ.mu[j]? = some (some ow)/\Lv aC δ.mu a:=fun j a e=>by
  have hj:j < ovs.length:=by rw[<-al];exact (su.mp e).1
  have h1:(δ.mu.take ovs.length)[j]? = some (some (ows[j]'(by rw[hl];exact hj))):=by
   rw[tk,Fl,qv (by rw[hl];exact hj)];rfl
  rw[WL hj] at h1
  exact⟨_,qv (by rw[hl];exact hj),h1,j,_,E.pre j a e,h1⟩
 have lG:∀ a∈ad,F' a=none:=fun a ha=>by
  obtain⟨j,e⟩:=V0.mp ha
  obtain⟨_,_,_,l⟩:=lv j a e
  exact S.off a l
 have base:∀ {F2:Hp},az F' F2->az F2 H'->(∀ a o,F2 a=some o->F' a=some o\/(H a=none/\¬ a∈ad))->(∀ a∈ad,F2 a=none)->(∀ a∈aI.ad,F2 a=none)->∀ {r:RV},(match r with
   | .p d=>Is F2 d v
   | .n ds=>∃ a vs,v = .ref a/\H a=none/\H' a=some (.lst vs)/\F2 a=none/\af F2 ds vs
   | .a j=>∃ a,ad[j]? = some a/\v = .ref a)->qK F ad H r ows v F2 H':=fun {F2} s1 s2 n2 o2 Ob {r} res=>by
  refine⟨s2,E.same.trans s1,fun a o e => ?_,fun a o e n t => ?_,S.tab,Ob,by rw[hl,al],fun j ow e => ?_,o2,res⟩
  ·rcases n2 a o e with e | ⟨e,_⟩
   ·rcases E.new a o e with z | z | ⟨j,ov,z,_⟩
    ·exact .inl z
    ·exact .inr z
    ·rw[lG a (V0.mpr ⟨j,z⟩)] at e;cases e
   ·exact .inr e
  ·exact E.keep a o e (fun ⟨j,ov,z,_⟩=>n (V0.mpr ⟨j,z⟩)) t
  ·have hj:j < ad.length:=by rw[al,<-hl];exact (su.mp e).1
   obtain⟨AX,e1,e2,_⟩:=lv j _ (qv hj)
   rw[e] at e1;cases e1
   obtain⟨a,o,e3,e4,h5⟩:=S.mu j _ e2
   rw[E.pre j _ (qv hj)] at e3
   cases e3
   exact⟨_,o,qv hj,e4,h5.same s1⟩
 cases x with
 | p d=>exact k _ _ h _ _ _ (base (F2:=F') (fun _ _ e=>e) S.sub (fun _ _ e => .inl e) lG S.nt V)
 | o i =>
  dsimp only at h
  obtain⟨a,e1,rfl⟩:=V
  by_cases c:i < ovs.length
  ·rw[MD c] at h
   have ei:ad[i]? = some a:=by
    have:=E.pre i _ (qv (by rw[al];exact c))
    rw[e1] at this
    rw[qv (by rw[al];exact c)]
    exact this.symm
   exact k _ _ h _ _ _ (base (F2:=F') (fun _ _ e=>e) S.sub (fun _ _ e => .inl e) lG S.nt ⟨a,ei,rfl⟩)
  ·rw[MA c] at h
   split at h
   ·rename_i ds em
    obtain⟨a',o,e2,e3,vs,rfl,h4⟩:=S.mu i _ em
    rw[e1] at e2;cases e2
    have na:a∉ad:=fun z=>by
     obtain⟨j,e⟩:=V0.mp z
     obtain⟨ow,_,e5,_⟩:=lv j a e
     have:i=j:=S.inj i j a _ _ e1 (E.pre j a e) em e5
     subst this
     exact c (by rw[<-al];exact (su.mp e).1)
    have fa:F' a=none:=S.off a ⟨i,_,e1,em⟩
    have ha:H a=none:=by
     rcases E.cB a ⟨i,_,e1,em⟩ with⟨j,ov,z,_⟩ | z
     ·exact absurd (V0.mpr ⟨j,z⟩) na
     ·exact z
    rcases h with h | h
    ·exact k _ _ h _ _ _ (base (F2:=F') (fun _ _ e=>e) S.sub (fun _ _ e => .inl e) lG S.nt ⟨a,vs,rfl,ha,e3,fa,h4⟩)
    ·refine k _ _ h _ _ _ (base (F2:=upd F' a (.lst vs)) (cj fa) (fun b o e => ?_) (fun b o e => ?_) (fun b hb => ?_) (fun b hb => ?_) ?_)
     ·by_cases z:b=a
      ·subst z;rw[bW] at e;cases e;exact e3
      ·rw[aO z] at e;exact S.sub b o e
     ·by_cases z:b=a
      ·subst z;exact .inr ⟨ha,na⟩
      ·rw[aO z] at e;exact .inl e
     ·rw[aO fun z=>na (by subst z;exact hb)];exact lG b hb
     ·obtain⟨ps,q⟩:=aI.tb S.tab hb
      rw[aO fun z=>by subst z;rw[e3] at q;cases q];exact S.nt b hb
     ·show Is _ (.lst ds) _
      simp only[Is]
      exact⟨a,vs,rfl,bW,h4.same (cj fa)⟩
   ·exact h.elim
end
theorem c_.gQ {P:Program} {w:World} {K:PySem.W.Frag} {mg:Str->Option Value} {base:Heap} {x qual:Str} {st:Stmt} {f:Addr} {fd:FuncData} {N ps:List Str} {k:Nat} {G:GD} (F:c_ K x qual st f fd) (S:d5 N ps (cb st))
  (eg:∀ (bD:Value) (A:Around) (outer:List Env) (s:Shared) (H:Hp) (E:XK),bG k (A.deeper (envOfC qual (cb st) s.heap.objs.size f bD)) →
   ∃ B:WS,gn (gD cz P w K mg base N qual (cb st) f bD A outer s H E).mY (jQ st) (dw B)/\∀ ys ovs K',ys.length=ps.length->G ys ovs K'->B (dz ovs.length K') ⟨ys.map some ++ List.replicate (N.length - ps.length) none,ovs.map some⟩) :
  ba P w K mg base cz (k + 1) f fd ps (bf G ps.length) :=
 F.wU S (fun vs H Q E h=>h.1) fun bD A outer s H vs Q E hr h=>by
  obtain⟨hl,Fz,ad,ys,ovs,K',S0,g,kk⟩:=h
  obtain⟨B,jb,hb⟩:=eg bD A outer s H E hr
  have hy:ys.length=ps.length:=by
   have:=S0.len
   rw[qx] at this
   rw[<-hl,this];show _=(ys.map some).length;rw[qx]
  refine⟨_,jb,Fz,ad,⟨ys.map some ++ List.replicate (N.length - ps.length) none,ovs.map some⟩,dz ovs.length K',by rw[<-hl];exact S0.start,hb ys ovs K' hy g,⟨fun δ' h F' aC σ' H' E' S' => ?_,fun δ' h=>h.elim,fun δ' h=>h.elim,fun y δ' h v F' aC σ' H' E' S' V => ?_⟩⟩
  ·exact qL (σ' := σ') S0 E' S' (x := .p .non) (v := .non) rfl h kk
  ·exact qL (σ' := σ') S0 E' S' V h kk
noncomputable def passes (mu:List (Option OV)):List DV->Nat->Option (List DV × List (Nat × OV))
 | [],_=>some ([],[])
 | .p d :: xs,j=>match passes mu xs j with
  | some r=>some (.p d :: r.1,r.2)
  | none=>none
 | .o k :: xs,j=>match mu[k]? with
  | some (some ov)=>match passes mu xs (j + 1) with
   | some r=>some (.o j :: r.1,(k,ov) :: r.2)
   | none=>none
  | _=>none
noncomputable def gj (mu:List (Option OV)):List (Nat × OV)->List OV->List (Option OV)
 | (k,_) :: r,ow :: ows=>gj (mu.set k (some ow)) r ows
 | _,_=>mu
noncomputable def mG:List (Nat × OV)->Bool
 | []=>true
 | (k,_) :: r => !(r.any fun e=>e.1 == k) && mG r
noncomputable def nU (δ : ay) (gR:List (Nat × OV)) (K:DV->ay->Prop) (r:RV) (ows:List OV):Prop:=match r with
 | .p d=>K (.p d) ⟨δ.sl,gj δ.mu gR ows⟩
 | .n ds=>K (.p (.lst ds)) ⟨δ.sl,gj δ.mu gR ows⟩
 | .a j=>match gR[j]? with
  | some ko=>K (.o ko.1) ⟨δ.sl,gj δ.mu gR ows⟩
  | none=>False
noncomputable def qM (δ : ay) (gR:List (Nat × OV)) (K:DV->ay->Prop) (r:RV) (ows:List OV):Prop:=match r with
 | .n ds=>K (.o (gj δ.mu gR ows).length) ⟨δ.sl,gj δ.mu gR ows ++ [some (.lst ds)]⟩
 | _=>False
noncomputable def ax (n:Nat) (G:GD) (fa:WA):WE:=fun δ K=>fa δ fun xs δ1=>match passes δ1.mu xs 0 with
 | some r=>(mG r.2=true/\r.1.length=n)/\G r.1 (r.2.map (·.2)) (nU δ1 r.2 K)
 | none=>False
noncomputable def xq (n:Nat) (G:GD) (fa:WA):WE:=fun δ K=>fa δ fun xs δ1=>match passes δ1.mu xs 0 with
 | some r=>(mG r.2=true/\r.1.length=n)/\G r.1 (r.2.map (·.2)) (qM δ1 r.2 K)
 | none=>False
section
variable {F F' H H':Hp} {ad aC:List Addr} {δ : ay} {σ σ':St}
theorem xr {mu:List (Option OV)} (hm:∀ (k:Nat) (ov:OV),mu[k]? = some (some ov)->∃ a o,ad[k]? = some a/\H a=some o/\gq F ov o):∀ {xs:List DV} {vs:List V} {j:Nat} {r:List DV × List (Nat × OV)},passes mu xs j=some r->eB F ad xs vs →
  ∃ as:List Addr,as.length=r.2.length/\(∀ (i:Nat) (ko:Nat × OV),r.2[i]? = some ko->mu[ko.1]? = some (some ko.2)/\∃ a o,as[i]? = some a/\ad[ko.1]? = some a/\H a=some o/\gq F ko.2 o) ∧
   ∀ (pre:List Addr),pre.length=j->∃ _u:Unit,vs.length=r.1.length/\∀ (i:Nat) (y:DV),r.1[i]? = some y->∃ v,vs[i]? = some v/\gF F (pre ++ as) y v
 | [],vs,j,r,h,hv=>by
  cases h
  have:vs=[]:=hv
  subst this
  exact⟨[],rfl,fun i ko e=>by simp at e,fun pre _=>⟨(),rfl,fun i y e=>by simp at e⟩⟩
 | .p d :: xs,_,j,r,h,⟨v,t,e,h1,h2⟩=>by
  subst e
  unfold passes at h
  split at h
  ·rename_i r' hr
   cases h
   obtain⟨as,l,b,c⟩:=xr hm hr h2
   refine⟨as,l,b,fun pre hp=>⟨(),?_,fun i y e => ?_⟩⟩
   ·obtain⟨_,c1,_⟩:=c pre hp
    rw[Fm,Fm,c1]
   ·obtain⟨_,_,c2⟩:=c pre hp
    cases i with
    | zero=>cases (show some (DV.p d)=some y by simpa using e);exact⟨v,rfl,h1⟩
    | succ i=>simpa using c2 i y (by simpa using e)
  ·cases h
 | .o k :: xs,_,j,r,h,⟨v,t,e,h1,h2⟩=>by
  subst e
  unfold passes at h
  split at h
  ·rename_i ov hk
   split at h
   ·rename_i r' hr
    cases h
    obtain⟨as,l,b,c⟩:=xr hm hr h2
    obtain⟨a,e1,rfl⟩:=h1
    obtain⟨a',o,e2,e3,e4⟩:=hm k ov hk
    rw[e1] at e2;cases e2
    refine⟨a :: as,by rw[Fm,Fm,l],fun i ko e => ?_,fun pre hp=>⟨(),?_,fun i y e => ?_⟩⟩
    ·cases i with
     | zero=>cases (show some (k,ov)=some ko by simpa using e);exact⟨hk,a,o,rfl,e1,e3,e4⟩
     | succ i=>simpa using b i ko (by simpa using e)
    ·obtain⟨_,c1,_⟩:=c (pre ++ [a]) (by rw[Vw,hp];rfl)
     rw[Fm,Fm,c1]
    ·obtain⟨_,_,c2⟩:=c (pre ++ [a]) (by rw[Vw,hp];rfl)
     cases i with
     | zero =>
      cases (show some (DV.o j)=some y by simpa using e)
      refine⟨_,rfl,a,?_,rfl⟩
      rw[VZ (by omega),hp,W6];rfl
     | succ i =>
      obtain⟨v',c3,c4⟩:=c2 i y (by simpa using e)
      exact⟨v',by simpa using c3,by rw[XS] at c4;exact c4⟩
   ·cases h
  ·cases h
theorem Gu:∀ {gR:List (Nat × OV)},mG gR=true->∀ (i j:Nat) (k:Nat) (a b:OV),gR[i]? = some (k,a)->gR[j]? = some (k,b)->i=j
 | [],_,i,j,k,a,b,e,_=>by simp at e
 | (k',ov) :: r,h,i,j,k,a,b,e1,e2=>by
  unfold mG at h
  simp only[Wl,Z0] at h
  have no:∀ (m:Nat) (c:OV),r[m]? = some (k',c)->False:=fun m c e=>by
   have:=Yh.mp h.1 _ (V0.mpr ⟨m,e⟩)
   exact this (by simp)
  cases i with
  | zero =>
   cases (show some (k',ov)=some (k,a) by simpa using e1)
   cases j with
   | zero=>rfl
   | succ j=>exact (no j b (by simpa using e2)).elim
  | succ i =>
   cases j with
   | zero=>cases (show some (k',ov)=some (k,b) by simpa using e2);exact (no i a (by simpa using e1)).elim
   | succ j=>rw[Gu h.2 i j k a b (by simpa using e1) (by simpa using e2)]
theorem Gv:∀ (gR:List (Nat × OV)) (ows:List OV) (mu:List (Option OV)),(gj mu gR ows).length=mu.length
 | (k,_) :: r,ow :: ows,mu=>by rw[gj,Gv r ows,Xo]
 | [],_,_=>rfl
 | _ :: _,[],_=>rfl
theorem xt:∀ (gR:List (Nat × OV)) (ows:List OV) (mu:List (Option OV)) (l:Nat),(∀ ko∈gR,ko.1≠l)->(gj mu gR ows)[l]? = mu[l]?
 | (k,_) :: r,ow :: ows,mu,l,h=>by
  rw[gj,xt r ows _ l fun ko hk=>h ko (MB _ hk),W0 (h _ Mz)]
 | [],_,_,_,_=>rfl
 | _ :: _,[],_,_,_=>rfl
theorem Gw:∀ {gR:List (Nat × OV)} {ows:List OV} {mu:List (Option OV)} {i:Nat} {ko:Nat × OV} {ow:OV},mG gR=true->gR[i]? = some ko->ows[i]? = some ow->ko.1 < mu.length->(gj mu gR ows)[ko.1]? = some (some ow)
 | (k,ov) :: r,AX :: ows,mu,0,ko,ow,h,e1,e2,hl=>by
  cases (show some (k,ov)=some ko by simpa using e1)
  cases (show some AX=some ow by simpa using e2)
  unfold mG at h
  simp only[Wl,Z0] at h
  rw[gj,xt r ows _ k fun ko hk z=>absurd (by simpa using z) (Yh.mp h.1 ko hk),WJ hl]
 | (k,ov) :: r,AX :: ows,mu,i + 1,ko,ow,h,e1,e2,hl=>by
  unfold mG at h
  simp only[Wl,Z0] at h
  rw[gj]
  exact Gw h.2 (by simpa using e1) (by simpa using e2) (by rw[Xo];exact hl)
 | [],_,_,i,_,_,_,e1,_,_=>by simp at e1
 | _ :: _,[],_,i,_,_,_,_,e2,_=>by simp at e2
theorem Gx {xs:List DV} {vs:List V} {r:List DV × List (Nat × OV)} {G:GD} {n:Nat} {Q:VK} {E:XK} {K:RV->List OV->Prop} (S:SR F ad δ σ H) (V:eB F ad xs vs) (hn:vs.length=n) (hp:passes δ.mu xs 0=some r) (nd:mG r.2=true) (g:G r.1 (r.2.map (·.2)) K)
  (fin:∀ res ows v F' H',K res ows->Ext F ad δ.mu H F' ad (gj δ.mu r.2 ows) H'->SR F' ad ⟨δ.sl,gj δ.mu r.2 ows⟩ σ H'->(match res with
   | .p d=>Is F' d v
   | .n ds=>∃ a vs,v = .ref a/\H a=none/\H' a=some (.lst vs)/\F' a=none/\af F' ds vs
   | .a j=>∃ ko a,r.2[j]? = some ko/\ad[ko.1]? = some a/\v = .ref a)->Q v H'):bf G n vs H Q E:=by
 obtain⟨as,al,b,c⟩:=xr S.mu hp V
 obtain⟨_,c1,c2⟩:=c [] rfl
 have sE:∀ (i:Nat) (a:Addr),as[i]? = some a->Lv ad δ.mu a/\∃ ko,r.2[i]? = some ko/\ad[ko.1]? = some a /\ δ.mu[ko.1]? = some (some ko.2):=fun i a e=>by
  have hi:i < r.2.length:=by rw[<-al];exact (su.mp e).1
  obtain⟨m1,a',o,e1,e2,_,_⟩:=b i _ (qv hi)
  rw[e] at e1;cases e1
  exact⟨⟨_,_,e2,m1⟩,_,qv hi,e2,m1⟩
 refine⟨hn,F,as,r.1,r.2.map (·.2),K,⟨S.sub,fun a ⟨i,ov,e1,e2⟩=>S.off a (sE i a e1).1,by rw[al];show _=((r.2.map (·.2)).map some).length;rw[qx,qx],fun i j a ov ow e1 e2 _ _ => ?_,fun i ov e => ?_,fun i y e => ?_,?_,S.tab,S.nt⟩,g,fun res ows hk v F' H' P => ?_⟩
 ·obtain⟨_,ko,k1,k2,k3⟩:=sE i a e1
  obtain⟨_,kp,p1,p2,p3⟩:=sE j a e2
  have:ko.1=kp.1:=S.inj _ _ a _ _ k2 p2 k3 p3
  exact Gu nd i j ko.1 ko.2 kp.2 k1 (by rw[this];exact p1)
 ·have e:=Gs e
  rw[Fl] at e
  obtain⟨ko,e1,rfl⟩:=Vu.mp e
  obtain⟨_,a,o,e2,_,e4,e5⟩:=b i ko e1
  exact⟨a,o,e2,e4,e5⟩
 ·obtain⟨v,e1,e2⟩:=c2 i y (Gs e)
  exact⟨v,Oa e1,by simpa using e2⟩
 ·show (vs.map some).length=(r.1.map some).length
  rw[qx,qx,c1]
 ·have ol:ows.length=r.2.length:=by rw[P.len,al]
  have oU:∀ (l:Nat) (ow:OV),(gj δ.mu r.2 ows)[l]? = some (some ow)->(∃ (i:Nat) (ko:Nat × OV),r.2[i]? = some ko/\ko.1=l/\ows[i]? = some ow)\/((∀ ko∈r.2,ko.1≠l) /\ δ.mu[l]? = some (some ow)):=fun l ow e=>by
   by_cases z:∃ ko∈r.2,ko.1=l
   ·obtain⟨ko,hk,rfl⟩:=z
    obtain⟨i,hi⟩:=V0.mp hk
    have qN:i < ows.length:=by rw[ol];exact (su.mp hi).1
    have:=Gw (mu := δ.mu) nd hi (qv qN) (su.mp (b i ko hi).1).1
    rw[e] at this
    cases this
    exact .inl ⟨i,ko,hi,rfl,qv qN⟩
   ·have z':∀ ko∈r.2,ko.1≠l:=fun ko hk q=>z ⟨ko,hk,q⟩
    rw[xt _ _ _ _ z'] at e
    exact .inr ⟨z',e⟩
  have Gy:∀ (l:Nat) (ow:OV) (a:Addr),ad[l]? = some a->(gj δ.mu r.2 ows)[l]? = some (some ow)->Lv ad δ.mu a:=fun l ow a e1 e2=>by
   rcases oU l ow e2 with⟨i,ko,hi,rfl,_⟩ | ⟨_,q⟩
   ·exact⟨_,_,e1,(b i ko hi).1⟩
   ·exact⟨_,_,e1,q⟩
  have Oc:∀ a,a∈as->Lv ad δ.mu a:=fun a ha=>by
   obtain⟨i,e⟩:=V0.mp ha
   exact (sE i a e).1
  have ex:Ext F ad δ.mu H F' ad (gj δ.mu r.2 ows) H':=by
   refine⟨P.same,fun a o e => ?_,fun a o e n t=>P.keep a o e (fun z=>n (Oc a z)) t,fun _ _ e=>e,fun a ⟨l,ow,e1,e2⟩ => .inl (Gy l ow a e1 e2),fun a o e => ?_⟩
   ·rcases P.new a o e with z | z
    ·exact .inl z
    ·exact .inr (.inl z)
   ·by_cases z:a∈as
    ·obtain⟨i,e1⟩:=V0.mp z
     have hi:i < ows.length:=by rw[P.len];exact (su.mp e1).1
     obtain⟨a',o',e2,e3,_⟩:=P.own i _ (qv hi)
     rw[e1] at e2;cases e2
     exact⟨o',e3⟩
    ·by_cases t:a∈aI.ad
     ·obtain⟨ps,q⟩:=aI.tb P.tab t
      exact⟨_,q⟩
     ·exact⟨o,P.keep a o e z t⟩
  have AY:∀ a,Lv ad δ.mu a->F' a=none:=fun a l=>by
   by_cases z:a∈as
   ·exact P.off a z
   ·cases q:F' a with
    | none=>rfl
    | some u =>
     rcases P.new a u q with y | y
     ·rw[S.off a l] at y;cases y
     ·obtain⟨k,ov,e1,e2⟩:=l
      obtain⟨a',o,e3,e4,_⟩:=S.mu k ov e2
      rw[e1] at e3;cases e3
      rw[y] at e4;cases e4
  have sr:SR F' ad ⟨δ.sl,gj δ.mu r.2 ows⟩ σ H':=by
   refine⟨P.sub,fun a ⟨l,ow,e1,e2⟩=>AY a (Gy l ow a e1 e2),by rw[S.cP];exact (Gv _ _ _).symm,fun k l a ov ow e1 e2 e3 e4 => ?_,fun l ow e => ?_,fun i y e => ?_,S.len,P.tab,P.nt⟩
   ·have h3:∃ w,δ.mu[k]? = some (some w):=by
     rcases oU k ov e3 with⟨i,ko,hi,rfl,_⟩ | ⟨_,q⟩
     ·exact⟨_,(b i ko hi).1⟩
     ·exact⟨_,q⟩
    have h4:∃ w,δ.mu[l]? = some (some w):=by
     rcases oU l ow e4 with⟨i,ko,hi,rfl,_⟩ | ⟨_,q⟩
     ·exact⟨_,(b i ko hi).1⟩
     ·exact⟨_,q⟩
    obtain⟨_,h3⟩:=h3
    obtain⟨_,h4⟩:=h4
    exact S.inj k l a _ _ e1 e2 h3 h4
   ·rcases oU l ow e with⟨i,ko,hi,rfl,ho⟩ | ⟨z,q⟩
    ·obtain⟨_,a,o,e1,e2,_,_⟩:=b i ko hi
     obtain⟨a',o',e3,e4,h5⟩:=P.own i ow ho
     rw[e1] at e3;cases e3
     exact⟨a,o',e2,e4,h5⟩
    ·obtain⟨a,o,e1,e2,h⟩:=S.mu l ow q
     refine⟨a,o,e1,P.keep a o e2 (fun y => ?_) (fun t => ?_),h.same P.same⟩
     ·obtain⟨i,e3⟩:=V0.mp y
      obtain⟨_,ko,k1,k2,k3⟩:=sE i a e3
      exact z ko (V0.mpr ⟨i,k1⟩) (S.inj _ _ a _ _ k2 e1 k3 q)
     ·obtain⟨ps,q2⟩:=aI.tb S.tab t
      rw[e2] at q2
      cases q2
      rcases h.kind with⟨_,z⟩ | ⟨_,z⟩<;>cases z
   ·obtain⟨v,e1,h⟩:=S.sl i y e
    exact⟨v,e1,h.ext ex⟩
  refine fin res ows v F' H' hk ex sr ?_
  have qO:=P.res
  cases res with
  | p d=>exact qO
  | n ds=>exact qO
  | a j =>
   obtain⟨a,e1,e2⟩:=qO
   obtain⟨_,ko,k1,k2,_⟩:=sE j a e1
   exact⟨ko,a,k1,k2,e2⟩
end
section
variable {X:Cx} {fa:WA} {G:GD} {pos:Pos}
theorem Gz {F1 F2 H1 H2:Hp} {aR:List Addr} {δ1:ay} {σ : St} {xs:List DV} {vs:List V} {r:List DV × List (Nat × OV)} {ows:List OV} {a:Addr} (S1:SR F1 aR δ1 σ H1) (V1:eB F1 aR xs vs) (hp:passes δ1.mu xs 0=some r) (n1:H1 a=none):¬ Lv aR (gj δ1.mu r.2 ows) a:=fun ⟨k,ov,e1,e2⟩=>by
 have c:∃ ov,δ1.mu[k]? = some (some ov):=by
  by_cases y:∃ ko∈r.2,ko.1=k
  ·obtain⟨ko,i8,rfl⟩:=y
   obtain⟨as,_,b,_⟩:=xr S1.mu hp V1
   obtain⟨i,hi⟩:=V0.mp i8
   exact⟨_,(b i ko hi).1⟩
  ·rw[xt _ _ _ _ fun ko i8 q=>y ⟨ko,i8,q⟩] at e2
   exact⟨_,e2⟩
 obtain⟨Od,c⟩:=c
 obtain⟨a',o,e3,e4,_⟩:=S1.mu k Od c
 rw[e1] at e3;cases e3
 rw[n1] at e4;cases e4
theorem eB.length {F:Hp} {ad:List Addr}:∀ {xs:List DV} {vs:List V},eB F ad xs vs->vs.length=xs.length
 | [],vs,h=>by have h:vs=[]:=h;rw[h];rfl
 | x :: xs,vs,⟨v,r,e,_,h2⟩=>by rw[e,Fm,Fm,eB.length h2]
theorem xu {mu:List (Option OV)}:∀ {xs:List DV} {j:Nat} {r:List DV × List (Nat × OV)},passes mu xs j=some r->r.1.length=xs.length
 | [],j,r,h=>by cases h;rfl
 | .p d :: xs,j,r,h=>by
  unfold passes at h
  split at h
  ·rename_i r' hr;cases h;show (DV.p d :: r'.1).length=_;rw[Fm,Fm,xu hr]
  ·cases h
 | .o k :: xs,j,r,h=>by
  unfold passes at h
  split at h
  ·split at h
   ·rename_i r' hr;cases h;show (DV.o j :: r'.1).length=_;rw[Fm,Fm,xu hr]
   ·cases h
  ·cases h
section
variable {k:Nat} {f:Addr} {fd:FuncData} {ps:List Str} {x:Str} {p:Pos} {e:Expr} {es:List Expr} {n:Nat}
theorem Oe {E:XK}:∀ σ H Q,tD (ax n G fa) σ H Q->si (bf G n) [] E (cC fa) σ H Q:=fun σ H Q h0_ => el7 h0_ fun F ad δ K S q kk =>by
 refine⟨F,ad,δ,_,S,q,fun xs δ1 h1 vs F1 aR H1 E1 S1 V1 => ?_⟩
 split at h1
 ·rename_i r hp
  obtain⟨⟨nd,hn⟩,h1⟩:=h1
  rw[YO]
  refine Gx S1 V1 (by rw[V1.length,<-xu hp,hn]) hp nd h1 fun res ows v F2 H2 hk E2 S2 lH => ?_
  unfold nU at hk
  cases res with
  | p d=>exact kk _ _ hk _ _ _ _ (E1.trans E2) S2 lH
  | n ds =>
   obtain⟨a,us,rfl,n1,n2,n3,n4⟩:=lH
   refine kk _ _ hk _ _ _ _ (E1.trans (E2.adopt (o := .lst us) n1 n3)) (S2.adopt n3 n2 (Gz (F2:=F2) (H2:=H2) S1 V1 hp n1)) ?_
   show Is _ (.lst ds) _
   simp only[Is]
   exact⟨a,us,rfl,bW,n4.same (cj n3)⟩
  | a j =>
   obtain⟨ko,a,h1,h2,h3⟩:=lH
   dsimp only at hk
   rw[h1] at hk
   exact kk _ _ hk _ _ _ _ (E1.trans E2) S2 ⟨a,h2,h3⟩
 ·exact h1.elim
theorem Of {E:XK}:∀ σ H Q,tD (xq n G fa) σ H Q->si (bf G n) [] E (cC fa) σ H Q:=fun σ H Q h0_ => el7 h0_ fun F ad δ K S q kk =>by
 refine⟨F,ad,δ,_,S,q,fun xs δ1 h1 vs F1 aR H1 E1 S1 V1 => ?_⟩
 split at h1
 ·rename_i r hp
  obtain⟨⟨nd,hn⟩,h1⟩:=h1
  rw[YO]
  refine Gx S1 V1 (by rw[V1.length,<-xu hp,hn]) hp nd h1 fun res ows v F2 H2 hk E2 S2 lH => ?_
  unfold qM at hk
  cases res with
  | p d=>exact hk.elim
  | n ds =>
   obtain⟨a,us,rfl,n1,n2,n3,n4⟩:=lH
   have oi:gq F2 (.lst ds) (.lst us):=⟨us,rfl,n4⟩
   refine kk _ _ hk _ _ _ _ (E1.trans (E2.eC (ov := .lst ds) n1 S2.cP)) (S2.eC n3 n2 (Gz (F2:=F2) (H2:=H2) S1 V1 hp n1) oi) ⟨a,?_,rfl⟩
   have:aR.length=(gj δ1.mu r.2 ows).length:=S2.cP
   rw[<-this,VZ (wG _),W6];rfl
  | a j=>exact hk.elim
 ·exact h1.elim
theorem cf (Fn:ba X.prog X.w X.K X.mg X.base cz k f fd ps (bf G n)) (hr:bG k X.A) (hg:Gl X x) (hm:X.mg x=some (.ref f)) (hk:PySem.W.keepIn X.K (.ref f)=true) (hb:Binds X.K fd ps [])
  (ha:JA X (e :: es) (cC fa)) (hJ:(x == ("__debug__" : Str))=false:=by decide) (he:starEach (e :: es) X.env=(false,eval e X.env) :: starEach es X.env:=by rfl) (gM:(backTo pos (starEach es X.env)).any (·.1)=false:=by rfl) :
  JE X (.Call (.Name x p) (e :: es) [] pos) (tD (ax n G fa)):=(wO Fn hr hg hm hk hb .nil wH ha hJ he gM).weak Oe
theorem Og (Fn:ba X.prog X.w X.K X.mg X.base cz k f fd ps (bf G n)) (hr:bG k X.A) (hg:Gl X x) (hm:X.mg x=some (.ref f)) (hk:PySem.W.keepIn X.K (.ref f)=true) (hb:Binds X.K fd ps [])
  (ha:JA X (e :: es) (cC fa)) (hJ:(x == ("__debug__" : Str))=false:=by decide) (he:starEach (e :: es) X.env=(false,eval e X.env) :: starEach es X.env:=by rfl) (gM:(backTo pos (starEach es X.env)).any (·.1)=false:=by rfl) :
  JE X (.Call (.Name x p) (e :: es) [] pos) (tD (xq n G fa)):=(wO Fn hr hg hm hk hb .nil wH ha hJ he gM).weak Of
end
end
end L2
namespace PySem
open Sem (wp)
open AutoSeq1 (wpAny_loadPart')
theorem Oh (l:Addr) (items:Array Value) (n:Nat) (dct:Option Addr) (sl:Array (Option Value)) :
  Meets (Builtin.«enumerate.__new__» ⟨[.type "enumerate",.ref l],[]⟩) (fun _ R s=>s.heap.get? l=some { cls := .type "tuple",dict:=dct,data := .seq items n,slots:=sl } ∧
   R (.ok (.ret (.ref (s.heap.push { cls := .type "tuple_iterator",data := .fields #[.ref l,.int 0 0] }).objs.size)))
    { s with heap:=(s.heap.push { cls := .type "tuple_iterator",data := .fields #[.ref l,.int 0 0] }).push { cls := .type "enumerate",data := .fields #[.none,.bool false,.ref s.heap.objs.size,rawInt 0,.none,.none] } }) :=
 .of_wp fun prog w A R s h=>by
  obtain⟨hp,g,d,tk,os⟩:=s;obtain⟨hl,h⟩:=h
  have AZ:=sub_enumerate
  have hL:Heap.IsTuple (Shared.heap ⟨hp,g,d,tk,os⟩) l items:=⟨_,hl,rfl,n,rfl⟩
  wp_walk using XI hl
  refine wpAny_stack_any fun st=>uk ?_
  split
  ·rename_i c _ _ _ _ _
   cases (c == Value.type "enumerate")
   ·wp_walk using XI hl,Yt hL
    exact⟨_,rfl,h⟩
   ·wp_walk using XI hl,Yt hL
    exact⟨_,rfl,h⟩
  ·wp_walk using XI hl,Yt hL
   exact⟨_,rfl,h⟩
section
variable {prog:Program} {w:World} {A:Around} {E:Value->Shared->Prop} {s:Shared}
theorem Oi {l:Addr} {items:Array Value} {Q:Value->Shared->Prop} (hL:s.heap.IsTuple l items)
  (h:∀ h',IsEnum h' (s.heap.objs.size + 1) s.heap.objs.size 0 .none->h'.IsTupleIter s.heap.objs.size l 0->h'.objs.size=s.heap.objs.size + 2 →
   (∀ b o,s.heap.get? b=some o->h'.get? b=some o)->Q (.ref (s.heap.objs.size + 1)) { s with heap:=h' }) :
  wpAny (model prog w) A (call (.type "enumerate") [.ref l]) Q E s:=by
 obtain⟨⟨c,dct,dt,sl⟩,hl,hc,n,hd⟩:=hL
 replace hc:c = .type "tuple" := hc
 replace hd:dt = .seq items n:=hd
 subst hc hd
 refine callType_new F.called_enumerate (by decide) (F.typeCall_enumerate_1 _) (F.newCall_enumerate_1 _) (fun obj=>F.args_object_init_2 obj _) F.entry_enumerate_new
  (Oh l items n dct sl) ⟨hl,?_⟩
 have hz:(s.heap.push { cls := .type "tuple_iterator",data := .fields #[.ref l,.int 0 0] }).objs.size=s.heap.objs.size + 1:=Xh ..
 show _/\_
 rw[hz]
 have he:IsEnum ((s.heap.push { cls := .type "tuple_iterator",data := .fields #[.ref l,.int 0 0] }).push
   { cls := .type "enumerate",data := .fields #[.none,.bool false,.ref s.heap.objs.size,rawInt 0,.none,.none] }) (s.heap.objs.size + 1) s.heap.objs.size 0 .none:=by
  have:=MC (s.heap.push { cls := .type "tuple_iterator",data := .fields #[.ref l,.int 0 0] })
   (o:={ cls := .type "enumerate",data := .fields #[.none,.bool false,.ref s.heap.objs.size,rawInt 0,.none,.none] }) rfl
  rw[hz] at this;exact this
 refine⟨⟨_,he,rfl⟩,h _ he ⟨_,qw _ (MC _ rfl),rfl,rfl⟩ (by rw[Xh,hz]) fun b o x=>qw _ (qw _ x)⟩
theorem Oj {it l:Addr} {i:Nat} {items:Array Value} {x:Value} {Q:Value->Shared->Prop} (hit:s.heap.IsTupleIter it l i) (hl:s.heap.IsTuple l items) (hx:items[i]? = some x)
  (hQ:∀ h',h'.IsTupleIter it l (i + 1)->Heap.SameBut it s.heap h'->Q x { s with heap:=h' }):wpAny (model prog w) A (Builtin.SmallTypes.nextOf (.ref it)) Q E s:=by
 obtain⟨o,ho,hc,hd⟩:=id hit
 obtain⟨ol,A0,_,nl,A2⟩:=hl
 have nn:¬ ((Value.ref l == Value.none)=true):=Vy
 unfold Builtin.SmallTypes.nextOf
 refine nG (WU (name:=Str.ofString "__next__") hit.typeIs X_ (WW X_ hit.typeIs F.entry_tuple_iterator_next ?_ (Zx _)))
 show wpAny _ _ (field (.ref it) 0 >>= _) _ _ s;refine nG (Xb ho hd (x := .ref l) rfl ?_)
 show wpAny _ _ (if (Value.ref l == Value.none)=true then _ else _) _ _ s;rw[MA nn]
 show wpAny _ _ (field (.ref it) 1 >>= _) _ _ s;refine nG (Xb ho hd (x := .int i 0) rfl ?_)
 show wpAny _ _ (seqItems? (.ref l) >>= _) _ _ s;refine nG (XF A0 A2 ?_)
 simp only[V7,hx]
 refine nG (Y7 ho hd (by simp) (uk ⟨x,rfl,uk (hQ _ ⟨_,WR _ ho (Zd (X9 hd _)),(ZW ..).trans hc,?_⟩ (Wr ..))⟩))
 rw[X9 hd];simp[rawInt]
theorem Ol {it l:Addr} {i:Nat} {items:Array Value} {Q:Value->Shared->Prop} (hh:A.handled=none) (hit:s.heap.IsTupleIter it l i) (hl:s.heap.IsTuple l items) (hx:items[i]? = none)
  (hE:∀ h' e,Heap.ExtBut it s.heap h'->(∃ o,h'.get? e=some o/\o.cls = .type "StopIteration")->E (.ref e) { s with heap:=h' }):wpAny (model prog w) A (Builtin.SmallTypes.nextOf (.ref it)) Q E s:=by
 obtain⟨o,ho,hc,hd⟩:=id hit
 obtain⟨ol,A0,_,nl,A2⟩:=hl
 have nn:¬ ((Value.ref l == Value.none)=true):=Vy
 unfold Builtin.SmallTypes.nextOf
 refine nG (WU (name:=Str.ofString "__next__") hit.typeIs X_ (WW X_ hit.typeIs F.entry_tuple_iterator_next ?_ (Zx _)))
 show wpAny _ _ (field (.ref it) 0 >>= _) _ _ s;refine nG (Xb ho hd (x := .ref l) rfl ?_)
 show wpAny _ _ (if (Value.ref l == Value.none)=true then _ else _) _ _ s;rw[MA nn]
 show wpAny _ _ (field (.ref it) 1 >>= _) _ _ s;refine nG (Xb ho hd (x := .int i 0) rfl ?_)
 show wpAny _ _ (seqItems? (.ref l) >>= _) _ _ s;refine nG (XF A0 A2 ?_)
 simp only[V7,hx]
 refine nG (Zh (nG (Y7 ho hd (by simp) ?_)))
 show wpAny _ _ (newExc (.type "StopIteration") [] >>= _) _ _ _;refine nG ?_
 simp only[newExc,newTuple];refine nG (Wz ?_ (by size_fits))
 refine nG (m:=firstArgMember _ _) (wpAny_of_eq (a:=Value.none) (by first | rfl | (simp only[firstArgMember];rfl)) (Wz ?_ (by size_fits)))
 simp only[raiseNew];refine nG (wpAny_handled ?_)
 first | rw[show A.in1.handled=none from hh] | rw[hh]
 refine nG (uk (wpAny_throw (hE _ _ (((Wr ..).extBut.push _).push _) ⟨_,MC _ rfl,rfl⟩)))
theorem A3 (hh:A.handled=none) (it l:Addr) (fX:l≠it) (items:Array Value):Draws prog w A it [it,l] items.size (fun i v=>items[i]? = some v) (fun i h=>h.IsTupleIter it l i/\h.IsTuple l items) where
 live:=fun _ _ st=>let ⟨o,ho,_⟩:=st.1; ⟨o,ho⟩
 frame:=fun _ _ _ st hk=>⟨st.1.at fun o e=>hk it (by simp) o e,st.2.at fun o e=>hk l (by simp) o e⟩
 item:=fun i s Q E hi st hQ=>Oj st.1 st.2 (x:=items[i]) (by simp[hi]) fun h' A4 wW=>hQ _ h' s.toks (by simp[hi]) ⟨A4,st.2.extBut wW.extBut fX⟩ wW
 done:=fun s Q E st hE=>Ol hh st.1 st.2 (by simp) hE
end
end PySem
namespace L2
open PySem PySem.Spec PyProof.Rows
noncomputable def uW (K:PySem.W.Frag) (a:Addr):It :=
 ⟨fun i H=>∃ xs x,bQ K H a xs/\xs[i]? = some x,fun i H x H'=>∃ T v,x = .ref T/\H T=none/\H'=upd H T (.tup [.int (i:Nat),v])/\∀ xs,bQ K H a xs->xs[i]? = some v,fun i H=>∃ xs,bQ K H a xs/\xs.length=i⟩
theorem Om {P:Program} {w:World} {K:PySem.W.Frag} {elts:List Expr} {x1} {tp:Pos} (a e it:Addr) (fX:e≠it) (Oo:a≠e) (GA:a≠it) :
  Turn P w K (.Tuple elts x1 tp) (uW K a) [e,it] e (fun i h=>(∃ old,IsEnum h e it (i:Nat) old)/\h.IsTupleIter it a i) where
 mem:=by simp
 obj:=fun i h st b hb=>by
  obtain⟨⟨old,he⟩,o,hi,hc,hd⟩:=st
  rcases Fo.mp hb with rfl | hb
  ·exact⟨_,he,fun v z=>by cases z⟩
  ·have z:b=it:=by simpa using hb
   subst z
   exact⟨o,hi,fun v z=>by rw[hd] at z;cases z⟩
 keep:=fun i h h' st k=>by
  obtain⟨⟨old,he⟩,hi⟩:=st
  exact⟨⟨old,k e (by simp) _ he⟩,hi.at fun o q=>k it (by simp) o q⟩
 item:=by
  intro X hP hw hK hc i pins s σ H E I hf st hg
  subst hP hw hK
  obtain⟨⟨old,he⟩,hi⟩:=st
  obtain⟨xs,x,hq,hx⟩:=hg
  obtain⟨ag,rv,p,hz⟩:=I.tuple hq
  obtain⟨u,hu,ru⟩:=rv.get hx
  have D:=A3 (prog:=X.prog) (w:=X.w) (A:=X.A.in1) (by rw[Ys];exact I.ok.hd hc) it a GA ag.toArray
  have qN:i < ag.toArray.size:=by rw[Ad];exact (su.mp hu).1
  refine wpAny_pyNext_enum_itemD D he ⟨hi,p⟩ qN fX (by simp[fX,XA Oo]) fun y h1 tk py mi uz uA hsz hk=>⟨_,rfl,?_⟩
  have ey:y=u:=by
   have py:ag.toArray[i]? = some y:=py
   rw[Xt,hu] at py;cases py;rfl
  subst ey
  refine wpAny_letOwnedTupleGo_enum mi fun h2 uB eU => ?_
  have hT:s.heap.objs.size≠e:=Xq (My he)
  have k9:h2.get? s.heap.objs.size=some { cls := .type "tuple",data := .seq #[.int i tk,y] }:=(eU.2 _ hT).trans uA
  have k2:∀ b o,b∉[e,it]->s.heap.get? b=some o->h2.get? b=some o:=fun b o hb q=>by
   have nH:b≠e:=fun z=>hb (by simp[z])
   have iu:b≠it:=fun z=>hb (by simp[z])
   exact (eU.2 _ nH).trans (hk b o nH iu q)
  have hn:H s.heap.objs.size=none:=I.aN.fresh (wG _)
  refine⟨.ref s.heap.objs.size,upd H s.heap.objs.size (.tup [.int i,x]),I.f_ (ch:=[e,it]) (t':=tk + 1) hf k2 (wG _) ?_,rfl,⟨_,x,rfl,hn,rfl,fun ys hy=>by rw[I.e7 hy hq];exact hx⟩,⟨⟨y,?_⟩,?_⟩,fun b hb => ?_⟩
  ·exact⟨by show 2 <= sizeLine;decide,[.int i tk,y],.cons ⟨_,rfl⟩ (.cons ru .nil),_,k9,rfl,_,rfl⟩
  ·have e3:((i:Int) + 1)=(((i + 1:Nat)):Int):=by omega
   rw[e3] at uB
   exact uB
  ·exact uz.1.at fun o q=>(eU.2 _ (XA fX)).trans q
  ·have:b < s.heap.objs.size:=by
    obtain⟨o,q,_⟩:=hi
    rcases Fo.mp hb with rfl | hb
    ·exact My he
    ·have z:b=it:=by simpa using hb
     subst z;exact My q
   rw[aO (Vx this)]
   exact (hf b hb).1
 done:=by
  intro X hP hw hK hc i pins s σ H E I hf st hg
  subst hP hw hK
  obtain⟨⟨old,he⟩,hi⟩:=st
  obtain⟨xs,hq,hx⟩:=hg
  obtain⟨ag,rv,p,hz⟩:=I.tuple hq
  have D:=A3 (prog:=X.prog) (w:=X.w) (A:=X.A.in1) (by rw[Ys];exact I.ok.hd hc) it a GA ag.toArray
  have qN:ag.toArray.size=i:=by rw[Ad,<-rv.length];exact hx
  refine wpAny_pyNext_enum_endD D he (by rw[qN];exact⟨hi,p⟩) fun h1 eb=>⟨rfl,?_⟩
  obtain⟨f0,f1,f2,f3,f4,f5⟩:=hf it (by simp)
  exact I.turned (t':=s.toks) (fun b o hb q=>eb b o hb q) f0 f1 f3 f4 f5
 self:=fun A i s Q E st h=>by
  obtain⟨⟨old,he⟩,hi⟩:=st
  exact XZ he h
section
variable {X:Cx} {elts:List Expr} {x1:Nat} {tp:Pos} {tg:Expr}
noncomputable def Oq (K:PySem.W.Frag) (ta:TA):TI:=fun σ H R=>ta σ H fun vs H1=>∃ a,vs=[.ref a]/\(((∃ xs,bx K H1 a xs)/\R (sx K a) H1)\/((∃ xs,bQ K H1 a xs)/\R (uW K a) H1))
theorem Ot {a:Expr} {ta:TA} {p pos:Pos} (hg:Gl X "enumerate") (hm:X.mg "enumerate" = none) (ha:JA X [a] ta) (hs:starEach [a] X.env=[(false,eval a X.env)]:=by rfl) :
  JI X (.Tuple elts x1 tp) (.Call (.Name "enumerate" p) [a] [] pos) (Oq X.K ta):=by
 refine⟨?_⟩
 intro pins s σ H R I h
 refine Call_ (mX I hg hm FC (Xl (bq (ha.out pos pins s σ H _ I h) fun us s1 h0_ => el5 h0_ fun vs H1 I1 r1 q1 => ?_) hs rfl))
 obtain⟨l,e,q⟩:=q1
 subst e
 obtain⟨u,rfl,rx⟩:=vals1 r1
 cases rx
 have fp:∀ b∈[s1.heap.objs.size + 1,s1.heap.objs.size],bC X pins H1 b:=fun b hb=>by
  have d6:s1.heap.objs.size <= b:=by
   rcases Fo.mp hb with rfl | hb
   ·exact ZZ _
   ·have z:b=s1.heap.objs.size:=by simpa using hb
    rw[z];exact wG _
  exact I1.g8 d6 (I1.aN.fresh d6)
 rcases q with⟨⟨xs,hq⟩,q⟩ | ⟨⟨xs,hq⟩,q⟩
 ·obtain⟨ag,rv,p,hz⟩:=I1.list hq
  refine call_enumerate_list p.isList fun h' he hi hsz hk => ?_
  have I2:Inv X pins σ H1 { s1 with heap:=h' }:=I1.kept (t':=s1.toks) hk
  refine XZ he ?_
  exact⟨_,_,_,_,H1,rfl,I2,Fy l (s1.heap.objs.size + 1) s1.heap.objs.size (q0d _),⟨⟨_,he⟩,hi⟩,fp,q⟩
 ·obtain⟨ag,rv,p,hz⟩:=I1.tuple hq
  have GB:l < s1.heap.objs.size:=by obtain⟨o,e,_⟩:=p;exact My e
  refine Oi p fun h' he hi hsz hk => ?_
  have I2:Inv X pins σ H1 { s1 with heap:=h' }:=I1.kept (t':=s1.toks) hk
  refine XZ he ?_
  exact⟨_,_,_,_,H1,rfl,I2,Om l (s1.heap.objs.size + 1) s1.heap.objs.size (q0d _) (Vx (WC GB)) (Vx GB),⟨⟨_,he⟩,hi⟩,fp,q⟩
noncomputable def A5 (K:PySem.W.Frag) (tl:TE):TI:=fun σ H R=>tl σ H fun x H1=>∃ a,x = .ref a/\(((∃ xs,bx K H1 a xs)/\R (Et K a) H1)\/((∃ xs,bQ K H1 a xs)/\R (Eu K a) H1))
theorem Ou {l:Expr} {tl:TE} (hl:JE X l tl):JI X tg l (A5 X.K tl):=by
 refine⟨?_⟩
 intro pins s σ H R I h
 refine bq (hl.out pins s σ H _ I h) fun v s1 h0_ => el5 h0_ fun x H1 I1 r1 q1 => ?_
 obtain⟨a,e,q⟩:=q1
 subst e
 cases r1
 have fp:∀ b∈[s1.heap.objs.size],bC X pins H1 b:=fun b hb=>by
  have e:b=s1.heap.objs.size:=by simpa using hb
  subst e
  exact I1.g8 (wG _) (I1.aN.fresh (wG _))
 rcases q with⟨⟨xs,hq⟩,q⟩ | ⟨⟨xs,hq⟩,q⟩
 ·obtain⟨ag,rv,p,hz⟩:=I1.list hq
  exact Yg p.isList ⟨s1.heap.objs.size,[s1.heap.objs.size],_,_,H1,rfl,I1.kept (t':=s1.toks) fun b o e=>qw _ e,Lf a _,⟨_,MC _ rfl,rfl,rfl⟩,fp,q⟩
 ·obtain⟨ag,rv,p,hz⟩:=I1.tuple hq
  exact Yt (show s1.heap.IsTuple a ag.toArray from p) ⟨s1.heap.objs.size,[s1.heap.objs.size],_,_,H1,rfl,I1.kept (t':=s1.toks) fun b o e=>qw _ e,Lg a _,⟨_,MC _ rfl,rfl,rfl⟩,fp,q⟩
end
variable [aI]
noncomputable def cE (lo:Int) (n:Nat):List D:=(List.range n).map fun i:Nat=>D.int (lo + i)
noncomputable def i9:Nat->List D->List D
 | _,[]=>[]
 | i,d :: r => .tup [.int i,d] :: i9 (i + 1) r
noncomputable def cQ:List D->List D->List D
 | a :: r,b :: s => .tup [a,b] :: cQ r s
 | _,_=>[]
noncomputable def jV (x:DV) (δ : ay) (K:pB->Prop):Prop:=match x with
 | .p (.lst ds)=>K ⟨ds,fun _=>True⟩
 | .p (.tup ds)=>K ⟨ds,fun _=>True⟩
 | .o k=>match δ.mu[k]? with
  | some (some (.lst ds))=>K ⟨ds,fun δ' => δ'.mu[k]? = some (some (.lst ds))⟩
  | _=>False
 | _=>False
noncomputable def cg (f:WE):WI:=fun δ K=>f δ fun x δ1=>jV x δ1 fun it=>K it δ1
noncomputable def jW (fa:WA):WI:=fun δ K=>fa δ fun xs δ1=>match xs with
 | [.p (.int j)]=>(-(2 ^ 62) <= j/\j < 2 ^ 62)/\K ⟨cE 0 j.toNat,fun _=>True⟩ δ1
 | _=>False
noncomputable def A6 (fa:WA):WI:=fun δ K=>fa δ fun xs δ1=>match xs with
 | [.p (.int i),.p (.int j)]=>(-(2 ^ 62) <= i/\i < 2 ^ 62 /\ -(2 ^ 62) <= j/\j < 2 ^ 62)/\K ⟨cE i (j - i).toNat,fun _=>True⟩ δ1
 | _=>False
noncomputable def eD (fa:WA):WI:=fun δ K=>fa δ fun xs δ1=>match xs with
 | [x]=>jV x δ1 fun it=>K ⟨i9 0 it.items,it.bN⟩ δ1
 | _=>False
noncomputable def A7 (x:DV) (δ : ay) (K:pB->Prop):Prop:=match x with
 | .p (.lst ds)=>K ⟨ds,fun _=>True⟩
 | .o k=>match δ.mu[k]? with
  | some (some (.lst ds))=>K ⟨ds,fun δ' => δ'.mu[k]? = some (some (.lst ds))⟩
  | _=>False
 | _=>False
theorem mH {lo:Int} {n i:Nat} {d:D} (h:(cE lo n)[i]? = some d):i < n/\d = .int (lo + i):=by
 unfold cE at h
 rw[Fl] at h
 obtain⟨j,e,rfl⟩:=Vu.mp h
 have hj:=(su.mp e).1
 rw[Ws] at hj
 rw[WH hj] at e
 cases e
 exact⟨hj,rfl⟩
theorem lI (lo:Int) (n:Nat):(cE lo n).length=n:=by unfold cE;rw[qx,Ws]
theorem nV:∀ (ds:List D) (i:Nat),(i9 i ds).length=ds.length
 | [],_=>rfl
 | d :: r,i=>by rw[i9,Fm,Fm,nV r]
theorem pD:∀ {ds:List D} {k i:Nat} {d:D},(i9 k ds)[i]? = some d->∃ e,ds[i]? = some e/\d = .tup [.int ((k + i:Nat):Int),e]
 | [],k,i,d,h=>by simp[i9] at h
 | e :: r,k,0,d,h=>by
  cases (show some (D.tup [.int (k:Nat),e])=some d by simpa [i9] using h)
  exact⟨e,rfl,rfl⟩
 | e :: r,k,i + 1,d,h=>by
  obtain⟨e',h1,h2⟩:=pD (ds:=r) (k:=k + 1) (i:=i) (d:=d) (by simpa [i9] using h)
  exact⟨e',by simpa using h1,by rw[h2];congr 4;omega⟩
theorem GC:∀ {as bs:List D} {i:Nat} {d:D},(cQ as bs)[i]? = some d->∃ a b,as[i]? = some a/\bs[i]? = some b/\d = .tup [a,b]
 | [],_,i,d,h=>by simp[cQ] at h
 | _ :: _,[],i,d,h=>by simp[cQ] at h
 | a :: r,b :: s,0,d,h=>by
  cases (show some (D.tup [a,b])=some d by simpa [cQ] using h)
  exact⟨a,b,rfl,rfl,rfl⟩
 | a :: r,b :: s,i + 1,d,h=>by
  obtain⟨x,y,h1,h2,h3⟩:=GC (as:=r) (bs:=s) (i:=i) (d:=d) (by simpa [cQ] using h)
  exact⟨x,y,by simpa using h1,by simpa using h2,h3⟩
theorem xv:∀ (as bs:List D),(cQ as bs).length=min as.length bs.length
 | [],_=>by simp[cQ]
 | _ :: _,[]=>by simp[cQ]
 | a :: r,b :: s=>by rw[cQ,Fm,Fm,Fm,xv r s];omega
section
variable {X:Cx} {tg l a b:Expr} {f:WE} {fa:WA} {F H:Hp} {ad:List Addr} {δ : ay} {σ : St}
theorem JI.weak {iter:Expr} {w w':TI} (h:JI X tg iter w) (k:∀ σ H R,w' σ H R->w σ H R):JI X tg iter w':=⟨fun pins s σ H R I q=>h.out pins s σ H R I (k σ H R q)⟩
theorem pE {ds:List D} {vs:List V} (h:af F ds vs) {i:Nat} {d:D} (e:ds[i]? = some d):∃ v,vs[i]? = some v/\Is F d v:=by
 have hl:=h.length
 have hi:i < vs.length:=by rw[hl];exact (su.mp e).1
 obtain⟨d',e1,h1⟩:=h.get (qv hi)
 rw[e] at e1;cases e1
 exact⟨_,qv hi,h1⟩
theorem GF {x:DV} {v:V} {K:pB->Prop} (S:SR F ad δ σ H) (V1:gF F ad x v) (h:A7 x δ K):∃ a it,v = .ref a/\K it/\(∃ vs,H a=some (.lst vs)) ∧
  ∀ (F':Hp) (aC:List Addr) (δ':ay) (σ':St) (H':Hp),az F F'->(∀ (k:Nat) (a:Addr),ad[k]? = some a->aC[k]? = some a)->SR F' aC δ' σ' H'->it.bN δ'->∃ vs,H' a=some (.lst vs)/\af F' it.items vs:=by
 unfold A7 at h
 split at h
 ·rename_i ds
  have V2:Is F (.lst ds) v:=V1
  simp only[Is] at V2
  obtain⟨a,vs,rfl,h1,h2⟩:=V2
  exact⟨a,_,rfl,h,⟨vs,S.sub _ _ h1⟩,fun F' aC δ' σ' H' s _ S' _=>⟨vs,S'.sub _ _ (s _ _ h1),h2.same s⟩⟩
 ·rename_i k
  split at h
  ·rename_i ds e
   obtain⟨a,e1,rfl⟩:=V1
   obtain⟨a',o,e2,e3,vs,rfl,h4⟩:=S.mu k _ e
   rw[e1] at e2;cases e2
   refine⟨a,_,rfl,h,⟨vs,e3⟩,fun F' aC δ' σ' H' _ pre S' ck => ?_⟩
   obtain⟨VE,o,e5,e6,ws,rfl,h7⟩:=S'.mu k _ ck
   rw[pre k a e1] at e5;cases e5
   exact⟨ws,e6,h7⟩
  ·exact h.elim
 ·exact h.elim
theorem A8 {x:DV} {v:V} {K:pB->Prop} (S:SR F ad δ σ H) (V1:gF F ad x v) (h:jV x δ K):∃ a it,v = .ref a/\K it ∧
  (((∃ vs,H a=some (.lst vs))/\∀ (F':Hp) (aC:List Addr) (δ':ay) (σ':St) (H':Hp),az F F'->(∀ (k:Nat) (a:Addr),ad[k]? = some a->aC[k]? = some a)->SR F' aC δ' σ' H'->it.bN δ'->∃ vs,H' a=some (.lst vs)/\af F' it.items vs) ∨
  ((∃ vs,H a=some (.tup vs))/\∀ (F':Hp) (aC:List Addr) (δ':ay) (σ':St) (H':Hp),az F F'->(∀ (k:Nat) (a:Addr),ad[k]? = some a->aC[k]? = some a)->SR F' aC δ' σ' H'->it.bN δ'->∃ vs,H' a=some (.tup vs)/\af F' it.items vs)):=by
 unfold jV at h
 split at h
 ·rename_i ds
  obtain⟨a,it,e,k,r⟩:=GF (x := .p (.lst ds)) S V1 h
  exact⟨a,it,e,k,.inl r⟩
 ·rename_i ds
  have V2:Is F (.tup ds) v:=V1
  simp only[Is] at V2
  obtain⟨a,vs,rfl,h1,h2⟩:=V2
  exact⟨a,_,rfl,h,.inr ⟨⟨vs,S.sub _ _ h1⟩,fun F' aC δ' σ' H' s _ S' _=>⟨vs,S'.sub _ _ (s _ _ h1),h2.same s⟩⟩⟩
 ·rename_i k
  obtain⟨a,it,e,k,r⟩:=GF (x := .o k) S V1 h
  exact⟨a,it,e,k,.inl r⟩
 ·exact h.elim
theorem i_ (hl:JE X l (tD f)):JI X tg l (lE (cg f)):=(Ou hl).weak fun σ H R h0_ => el7 h0_ fun F ad δ K S q k =>⟨F,ad,δ,_,S,q,fun x δ1 h1 v F1 aR H1 E1 S1 V1=>by
 obtain⟨a,it,rfl,hk,r⟩:=A8 S1 V1 h1
 refine⟨a,rfl,?_⟩
 rcases r with⟨⟨vs,e⟩,r⟩ | ⟨⟨vs,e⟩,r⟩
 ·refine .inl ⟨⟨vs,bx.of e⟩,k _ _ hk _ _ _ _ E1 S1 fun F' aC δ' σ' H' s pre S' ck => ?_⟩
  obtain⟨ws,e1,e2⟩:=r F' aC δ' σ' H' s pre S' ck
  refine⟨⟨ws,bx.of e1,by rw[e2.length];exact wG _⟩,fun i d ed => ?_⟩
  obtain⟨w,e3,e4⟩:=pE e2 ed
  refine⟨⟨ws,w,bx.of e1,e3⟩,fun y km ⟨eh,hy⟩ => ?_⟩
  subst eh
  refine⟨fun _ _ e=>e,?_⟩
  have:=hy ws (bx.of e1)
  rw[e3] at this;cases this
  rw[Nw.refl S'.sub];exact e4
 ·refine .inr ⟨⟨vs,bQ.of e⟩,k _ _ hk _ _ _ _ E1 S1 fun F' aC δ' σ' H' s pre S' ck => ?_⟩
  obtain⟨ws,e1,e2⟩:=r F' aC δ' σ' H' s pre S' ck
  refine⟨⟨ws,bQ.of e1,by rw[e2.length];exact wG _⟩,fun i d ed => ?_⟩
  obtain⟨w,e3,e4⟩:=pE e2 ed
  refine⟨⟨ws,w,bQ.of e1,e3⟩,fun y km ⟨eh,hy⟩ => ?_⟩
  subst eh
  refine⟨fun _ _ e=>e,?_⟩
  have:=hy ws (bQ.of e1)
  rw[e3] at this;cases this
  rw[Nw.refl S'.sub];exact e4⟩
theorem A9 {F H:Hp} {T:Addr} {d e:D} {x y:V} (s:az F H) (hT:H T=none) (h1:Is F d x) (h2:Is F e y):Is (Nw F H (upd H T (.tup [x,y]))) (.tup [d,e]) (.ref T):=by
 rw[Nw.upd s hT]
 have hF:F T=none:=by
  cases q:F T with
  | none=>rfl
  | some u=>rw[s T u q] at hT;cases hT
 have sm:az F (upd F T (.tup [x,y])):=cj hF
 simp only[Is]
 exact⟨T,_,rfl,bW,.cons (h1.same sm) (.cons (h2.same sm) .nil)⟩
theorem sF {elts:List Expr} {x1:Nat} {tp p pos:Pos} (hg:Gl X "enumerate") (hm:X.mg "enumerate" = none) (ha:JA X [a] (cC fa)) (hs:starEach [a] X.env=[(false,eval a X.env)]:=by rfl) :
  JI X (.Tuple elts x1 tp) (.Call (.Name "enumerate" p) [a] [] pos) (lE (eD fa)):=(Ot hg hm ha hs).weak fun σ H R h0_ => el7 h0_ fun F ad δ K S q k =>⟨F,ad,δ,_,S,q,fun xs δ1 h1 vs F1 aR H1 E1 S1 V1=>by
 match xs,h1,V1 with
 | [x],g1,⟨v,r,e,W1,W2⟩ =>
  subst e
  have W3:r=[]:=W2
  subst W3
  obtain⟨a,it,rfl,hk,r⟩:=A8 S1 W1 g1
  refine⟨a,rfl,?_⟩
  rcases r with⟨⟨vs,e⟩,r⟩ | ⟨⟨vs,e⟩,r⟩
  ·refine .inl ⟨⟨vs,bx.of e⟩,k _ _ hk _ _ _ _ E1 S1 fun F' aC δ' σ' H' s pre S' ck => ?_⟩
   obtain⟨ws,e1,e2⟩:=r F' aC δ' σ' H' s pre S' ck
   refine⟨⟨ws,bx.of e1,by rw[e2.length,nV];exact wG _⟩,fun i d ed => ?_⟩
   obtain⟨d',A_,rfl⟩:=pD ed
   obtain⟨w,e3,e4⟩:=pE e2 A_
   refine⟨⟨ws,w,bx.of e1,e3⟩,fun y km ⟨T,v,ey,hT,eh,hy⟩ => ?_⟩
   subst eh ey
   have:=hy ws (bx.of e1)
   rw[e3] at this;cases this
   refine⟨cj hT,?_⟩
   rw[Wv]
   exact A9 S'.sub hT rfl e4
  ·refine .inr ⟨⟨vs,bQ.of e⟩,k _ _ hk _ _ _ _ E1 S1 fun F' aC δ' σ' H' s pre S' ck => ?_⟩
   obtain⟨ws,e1,e2⟩:=r F' aC δ' σ' H' s pre S' ck
   refine⟨⟨ws,bQ.of e1,by rw[e2.length,nV]⟩,fun i d ed => ?_⟩
   obtain⟨d',A_,rfl⟩:=pD ed
   obtain⟨w,e3,e4⟩:=pE e2 A_
   refine⟨⟨ws,w,bQ.of e1,e3⟩,fun y km ⟨T,v,ey,hT,eh,hy⟩ => ?_⟩
   subst eh ey
   have:=hy ws (bQ.of e1)
   rw[e3] at this;cases this
   refine⟨cj hT,?_⟩
   rw[Wv]
   exact A9 S'.sub hT rfl e4
 | [],h1,_=>exact h1.elim
 | _ :: _ :: _,h1,_=>exact h1.elim⟩
theorem GG {F1:Hp} {aR:List Addr} {lo:Int} {n:Nat}:qH F1 aR ⟨cE lo n,fun _=>True⟩ (tU lo n):=fun F' aC δ' σ' H' s pre S' _=>by
 refine⟨by show n <= (cE lo n).length;rw[lI];exact wG _,fun i d ed => ?_⟩
 obtain⟨hi,rfl⟩:=mH ed
 refine⟨hi,fun x km ⟨eh,ex⟩ => ?_⟩
 subst eh ex
 exact⟨fun _ _ e=>e,rfl⟩
theorem nW {p pos:Pos} (hg:Gl X "range") (hm:X.mg "range" = none) (ha:JA X [a] (cC fa)) (hs:starEach [a] X.env=[(false,eval a X.env)]:=by rfl):JI X tg (.Call (.Name "range" p) [a] [] pos) (lE (jW fa)) :=
 (NF hg hm ha hs).weak fun σ H R h0_ => el7 h0_ fun F ad δ K S q k =>⟨F,ad,δ,_,S,q,fun xs δ1 h1 vs F1 aR H1 E1 S1 V1=>by
  split at h1
  ·rename_i j
   obtain⟨v,r,e,V1,V2⟩:=V1
   have V2:r=[]:=V2
   have V1:v = .int j:=V1
   subst V2 V1 e
   exact⟨j,rfl,h1.1.1,h1.1.2,k _ _ h1.2 _ _ _ _ E1 S1 GG⟩
  ·exact h1.elim⟩
theorem Ov {p pos:Pos} (hg:Gl X "range") (hm:X.mg "range" = none) (ha:JA X [a,b] (cC fa)) (hs:starEach [a,b] X.env=[(false,eval a X.env),(false,eval b X.env)]:=by rfl) (eU:starEach [b] X.env=[(false,eval b X.env)]:=by rfl) :
  JI X tg (.Call (.Name "range" p) [a,b] [] pos) (lE (A6 fa)) :=
 (NG hg hm ha hs eU).weak fun σ H R h0_ => el7 h0_ fun F ad δ K S q k =>⟨F,ad,δ,_,S,q,fun xs δ1 h1 vs F1 aR H1 E1 S1 V1=>by
  split at h1
  ·rename_i i j
   obtain⟨v,r,e,V1,w,r2,e2,V2,V3⟩:=V1
   have V3:r2=[]:=V3
   have V1:v = .int i:=V1
   have V2:w = .int j:=V2
   subst V3 V1 V2 e2 e
   exact⟨i,j,rfl,h1.1,k _ _ h1.2 _ _ _ _ E1 S1 GG⟩
  ·exact h1.elim⟩
end
end L2
namespace L2
open PySem PySem.Spec PyProof.Rows
mutual
noncomputable def aA:D->D->Bool
 | .non,.non=>true
 | .bl a,.bl b=>a == b
 | .bl a,.int b=>(if a then 1 else 0) == b
 | .int a,.bl b=>a == (if b then 1 else 0)
 | .int a,.int b=>a == b
 | .str a,.str b=>a == b
 | .tup a,.tup b=>eE a b
 | .lst a,.lst b=>eE a b
 | _,_=>false
noncomputable def eE:List D->List D->Bool
 | [],[]=>true
 | a :: r,b :: s=>aA a b && eE r s
 | _,_=>false
end
mutual
theorem gH:∀ d:D,aA d d=true
 | .non=>by simp[aA]
 | .bl a=>by simp[aA]
 | .int a=>by simp[aA]
 | .str a=>by simp[aA]
 | .tup a=>by simp only[aA];exact Ba a
 | .lst a=>by simp only[aA];exact Ba a
theorem Ba:∀ ds:List D,eE ds ds=true
 | []=>by simp[eE]
 | d :: r=>by simp only[eE,gH d,Ba r,Bool.and_true]
end
mutual
theorem Is.inj {H:Hp}:∀ {d e:D} {v:V},Is H d v->Is H e v->d=e
 | .non,e,v,h,q=>by cases e<;>simp only[Is] at h q<;>first | rfl | (subst h;first | (obtain⟨_,_,z,_⟩:=q;cases z;done) | (cases q;done) | (cases q;rfl))
 | .bl a,e,v,h,q=>by cases e<;>simp only[Is] at h q<;>(subst h;first | (obtain⟨_,_,z,_⟩:=q;cases z;done) | (cases q;done) | (cases q;rfl))
 | .int a,e,v,h,q=>by cases e<;>simp only[Is] at h q<;>(subst h;first | (obtain⟨_,_,z,_⟩:=q;cases z;done) | (cases q;done) | (cases q;rfl))
 | .str a,e,v,h,q=>by cases e<;>simp only[Is] at h q<;>(subst h;first | (obtain⟨_,_,z,_⟩:=q;cases z;done) | (cases q;done) | (cases q;rfl))
 | .tup a,e,v,h,q=>by
  simp only[Is] at h
  obtain⟨p,vs,rfl,h1,h2⟩:=h
  cases e with
  | tup b =>
   simp only[Is] at q
   obtain⟨p',ws,z,q1,q2⟩:=q
   cases z
   rw[h1] at q1;cases q1
   rw[af.inj h2 q2]
  | lst b =>
   simp only[Is] at q
   obtain⟨p',ws,z,q1,q2⟩:=q
   cases z
   rw[h1] at q1;cases q1
  | non=>simp only[Is] at q;cases q
  | bl _=>simp only[Is] at q;cases q
  | int _=>simp only[Is] at q;cases q
  | str _=>simp only[Is] at q;cases q
 | .lst a,e,v,h,q=>by
  simp only[Is] at h
  obtain⟨p,vs,rfl,h1,h2⟩:=h
  cases e with
  | lst b =>
   simp only[Is] at q
   obtain⟨p',ws,z,q1,q2⟩:=q
   cases z
   rw[h1] at q1;cases q1
   rw[af.inj h2 q2]
  | tup b =>
   simp only[Is] at q
   obtain⟨p',ws,z,q1,q2⟩:=q
   cases z
   rw[h1] at q1;cases q1
  | non=>simp only[Is] at q;cases q
  | bl _=>simp only[Is] at q;cases q
  | int _=>simp only[Is] at q;cases q
  | str _=>simp only[Is] at q;cases q
theorem af.inj {H:Hp}:∀ {ds es:List D} {vs:List V},af H ds vs->af H es vs->ds=es
 | [],es,vs,h,q=>by
  simp only[af] at h;subst h
  cases es with
  | nil=>rfl
  | cons _ _=>simp only[af] at q;obtain⟨_,_,z,_⟩:=q;cases z
 | d :: ds,es,vs,h,q=>by
  simp only[af] at h
  obtain⟨v,r,rfl,h1,h2⟩:=h
  cases es with
  | nil=>simp only[af] at q;cases q
  | cons e es =>
   simp only[af] at q
   obtain⟨v',r',z,q1,q2⟩:=q
   cases z
   rw[Is.inj h1 q1,af.inj h2 q2]
end
theorem uX:∀ {ds es:List D},ds.length≠es.length->eE ds es=false
 | [],[],h=>absurd rfl h
 | [],_ :: _,_=>by simp[eE]
 | _ :: _,[],_=>by simp[eE]
 | d :: r,e :: s,h=>by simp only[eE];rw[uX (fun z=>h (by rw[Fm,Fm,z])),Bool.and_false]
noncomputable def qP (ds es:List D) (j:Nat):Bool:=match ds[j]?,es[j]? with
 | some a,some b=>aA a b
 | _,_=>true
theorem uY:∀ {ds es:List D},ds.length=es.length->(List.range ds.length).all (qP ds es)=eE ds es
 | [],[],_=>by simp[eE]
 | [],_ :: _,h=>by simp at h
 | _ :: _,[],h=>by simp at h
 | d :: r,e :: s,h=>by
  have ih:=uY (ds:=r) (es:=s) (by simpa using h)
  rw[Fm,List.range_succ_eq_map,YK,List.all_map]
  simp only[eE]
  rw[<-ih]
  rfl
section
variable {X:Cx} {pins:List (Addr × Obj)} {σ : St} {H:Hp} {s:Shared}
theorem uZ {vs:List V} {ag:List Value} (r:Vals vs ag) {j:Nat} (h:j < ag.toArray.size):∃ v,vs[j]? = some v/\RelV v ag.toArray[j]:=by
 have hj:j < ag.length:=by simpa using h
 have hv:j < vs.length:=by rw[r.length];exact hj
 obtain⟨u,e,ru⟩:=r.get (qv hv)
 have:ag.toArray[j]=u:=by
  have:=(su.mp e).2
  simpa using this
 rw[this]
 exact⟨_,qv hv,ru⟩
theorem dR (I:Inv X pins σ H s) {a:Addr} {vs:List V} (h:H a=some (.lst vs)):∃ ag:List Value,Vals vs ag/\s.heap.IsList a ag.toArray:=by
 obtain⟨ag,r,p,_⟩:=I.list (bx.of h)
 exact⟨ag,r,p.isList⟩
theorem dS (I:Inv X pins σ H s) {a:Addr} {vs:List V} (h:H a=some (.tup vs)):∃ ag:List Value,Vals vs ag/\s.heap.IsTuple a ag.toArray:=by
 obtain⟨ag,r,p,_⟩:=I.tuple (bQ.of h)
 exact⟨ag,r,p⟩
theorem in1_units (A:Around):A.in1.units=A.units + 1:=rfl
theorem Bb (I:Inv X pins σ H s):∀ (n:Nat) {A:Around} {d e:D} {v u:V} {x y:Value},dep d <= n->A.units + n < cLine->Is H d v->Is H e u->RelV v x->RelV u y->SeqAt.EqAt A s x y (aA d e)/\SeqAt.RcAt A s x y (aA d e):=by
 intro n
 induction n with
 | zero =>
  intro A d e v u x y hd hu hv hw rv ru
  have nz:A.units < cLine:=by omega
  cases d with
  | tup ds=>simp[dep] at hd
  | lst ds=>simp[dep] at hd
  | non =>
   cases (show v = .non from hv);cases rv
   cases e with
   | non=>cases (show u = .non from hw);cases ru;simp only[aA];exact⟨Zw _,SeqAt.RcAt.none_none⟩
   | bl b=>cases (show u = .bl b from hw);cases ru;simp only[aA];exact⟨SeqAt.EqAt.none_bool _,SeqAt.RcAt.none_bool _⟩
   | int b=>cases (show u = .int b from hw);obtain⟨t,rfl⟩:=ru;simp only[aA];exact⟨SeqAt.EqAt.none_int _ _,SeqAt.RcAt.none_int _ _⟩
   | str b=>cases (show u = .str b from hw);obtain⟨t,rfl⟩:=ru;simp only[aA];exact⟨SeqAt.EqAt.none_str _ _,SeqAt.RcAt.none_str _ _⟩
   | tup es=>simp only[Is] at hw;obtain⟨a,vs,rfl,h1,_⟩:=hw;cases ru;obtain⟨_,_,p⟩:=dS I h1;simp only[aA];exact⟨SeqAt.EqAt.none_tuple p nz,SeqAt.RcAt.none_tuple p nz⟩
   | lst es=>simp only[Is] at hw;obtain⟨a,vs,rfl,h1,_⟩:=hw;cases ru;obtain⟨_,_,p⟩:=dR I h1;simp only[aA];exact⟨SeqAt.EqAt.none_list p nz,SeqAt.RcAt.none_list p nz⟩
  | bl b0 =>
   cases (show v = .bl b0 from hv);cases rv
   cases e with
   | non=>cases (show u = .non from hw);cases ru;simp only[aA];exact⟨SeqAt.EqAt.bool_none _,SeqAt.RcAt.bool_none _⟩
   | bl b=>cases (show u = .bl b from hw);cases ru;simp only[aA];exact⟨SeqAt.EqAt.bool_bool _ _,SeqAt.RcAt.bool_bool _ _⟩
   | int b=>cases (show u = .int b from hw);obtain⟨t,rfl⟩:=ru;simp only[aA];exact⟨SeqAt.EqAt.bool_int _ _ _,SeqAt.RcAt.bool_int _ _ _⟩
   | str b=>cases (show u = .str b from hw);obtain⟨t,rfl⟩:=ru;simp only[aA];exact⟨SeqAt.EqAt.bool_str _ _ _,SeqAt.RcAt.bool_str _ _ _⟩
   | tup es=>simp only[Is] at hw;obtain⟨a,vs,rfl,h1,_⟩:=hw;cases ru;obtain⟨_,_,p⟩:=dS I h1;simp only[aA];exact⟨SeqAt.EqAt.bool_tuple _ p nz,SeqAt.RcAt.bool_tuple _ p nz⟩
   | lst es=>simp only[Is] at hw;obtain⟨a,vs,rfl,h1,_⟩:=hw;cases ru;obtain⟨_,_,p⟩:=dR I h1;simp only[aA];exact⟨SeqAt.EqAt.bool_list _ p nz,SeqAt.RcAt.bool_list _ p nz⟩
  | int b0 =>
   cases (show v = .int b0 from hv);obtain⟨t0,rfl⟩:=rv
   cases e with
   | non=>cases (show u = .non from hw);cases ru;simp only[aA];exact⟨SeqAt.EqAt.int_none _ _,SeqAt.RcAt.int_none _ _⟩
   | bl b=>cases (show u = .bl b from hw);cases ru;simp only[aA];exact⟨SeqAt.EqAt.int_bool _ _ _,SeqAt.RcAt.int_bool _ _ _⟩
   | int b=>cases (show u = .int b from hw);obtain⟨t,rfl⟩:=ru;simp only[aA];exact⟨ZL _ _ _ _,SeqAt.RcAt.int_int _ _ _ _⟩
   | str b=>cases (show u = .str b from hw);obtain⟨t,rfl⟩:=ru;simp only[aA];exact⟨ZI _ _ _ _,SeqAt.RcAt.int_str _ _ _ _⟩
   | tup es=>simp only[Is] at hw;obtain⟨a,vs,rfl,h1,_⟩:=hw;cases ru;obtain⟨_,_,p⟩:=dS I h1;simp only[aA];exact⟨SeqAt.EqAt.int_tuple _ _ p nz,SeqAt.RcAt.int_tuple _ _ p nz⟩
   | lst es=>simp only[Is] at hw;obtain⟨a,vs,rfl,h1,_⟩:=hw;cases ru;obtain⟨_,_,p⟩:=dR I h1;simp only[aA];exact⟨SeqAt.EqAt.int_list _ _ p nz,SeqAt.RcAt.int_list _ _ p nz⟩
  | str b0 =>
   cases (show v = .str b0 from hv);obtain⟨t0,rfl⟩:=rv
   cases e with
   | non=>cases (show u = .non from hw);cases ru;simp only[aA];exact⟨SeqAt.EqAt.str_none _ _,SeqAt.RcAt.str_none _ _⟩
   | bl b=>cases (show u = .bl b from hw);cases ru;simp only[aA];exact⟨SeqAt.EqAt.str_bool _ _ _,SeqAt.RcAt.str_bool _ _ _⟩
   | int b=>cases (show u = .int b from hw);obtain⟨t,rfl⟩:=ru;simp only[aA];exact⟨ZJ _ _ _ _,SeqAt.RcAt.str_int _ _ _ _⟩
   | str b=>cases (show u = .str b from hw);obtain⟨t,rfl⟩:=ru;simp only[aA];exact⟨SeqAt.EqAt.str_str _ _ _ _,SeqAt.RcAt.str_str _ _ _ _⟩
   | tup es=>simp only[Is] at hw;obtain⟨a,vs,rfl,h1,_⟩:=hw;cases ru;obtain⟨_,_,p⟩:=dS I h1;simp only[aA];exact⟨SeqAt.EqAt.str_tuple _ _ p nz,SeqAt.RcAt.str_tuple _ _ p nz⟩
   | lst es=>simp only[Is] at hw;obtain⟨a,vs,rfl,h1,_⟩:=hw;cases ru;obtain⟨_,_,p⟩:=dR I h1;simp only[aA];exact⟨SeqAt.EqAt.str_list _ _ p nz,SeqAt.RcAt.str_list _ _ p nz⟩
 | succ n ih =>
  intro A d e v u x y hd hu hv hw rv ru
  have nz:A.units < cLine:=by omega
  have step:∀ {ds es:List D} {vs us:List V} {ag bc:List Value} (r1:Vals vs ag) (r2:Vals us bc),bH ds <= n->af H ds vs->af H es us →
    ∀ (j:Nat) (h1:j < ag.toArray.size) (h2:j < bc.toArray.size),SeqAt.EqAt A.in1 s ag.toArray[j] bc.toArray[j] (qP ds es j):=fun {ds es vs us ag bc} r1 r2 hl i1 i2 j h1 h2=>by
   obtain⟨v1,e1,q1⟩:=uZ r1 h1
   obtain⟨v2,e2,q2⟩:=uZ r2 h2
   obtain⟨d1,f1,g1⟩:=i1.get e1
   obtain⟨d2,f2,g2⟩:=i2.get e2
   unfold qP
   rw[f1,f2]
   exact (ih (WY (Au f1) hl) (by rw[in1_units];omega) g1 g2 q1 q2).1
  cases d with
  | tup ds =>
   have hl:bH ds <= n:=by simp only[dep] at hd;omega
   have Bc:=hv
   simp only[Is] at hv
   obtain⟨a,vs,rfl,h1,i1⟩:=hv
   cases rv
   obtain⟨ag,r1,p1⟩:=dS I h1
   cases e with
   | tup es =>
    have Bd:=hw
    simp only[Is] at hw
    obtain⟨b,us,rfl,h2,i2⟩:=hw
    cases ru
    obtain⟨bc,r2,p2⟩:=dS I h2
    have rc:SeqAt.RcAt A s (.ref a) (.ref b) (aA (.tup ds) (.tup es)):=by
     have:=SeqAt.RcAt.tuples p1 p2 nz (step r1 r2 hl i1 i2)
     have l1:ag.toArray.size=ds.length:=by rw[Ad,<-r1.length,i1.length]
     have l2:bc.toArray.size=es.length:=by rw[Ad,<-r2.length,i2.length]
     rw[l1,l2] at this
     have eb:((List.range (min ds.length es.length)).all (qP ds es) && ds.length == es.length)=aA (.tup ds) (.tup es):=by
      simp only[aA]
      by_cases c:ds.length=es.length
      ·rw[<-c,Nat.min_self,uY c];simp
      ·rw[uX c];simp[c]
     rw[eb] at this;exact this
    refine⟨?_,rc⟩
    by_cases c:a=b
    ·subst c
     have:=Is.inj Bc Bd
     rw[this,gH];exact Zw _
    ·exact SeqAt.EqAt.of_refs c rc
   | lst es =>
    simp only[Is] at hw
    obtain⟨b,us,rfl,h2,i2⟩:=hw
    cases ru
    obtain⟨bc,r2,p2⟩:=dR I h2
    simp only[aA];exact⟨SeqAt.EqAt.tuple_list p1 p2 nz,SeqAt.RcAt.tuple_list p1 p2 nz⟩
   | non=>cases (show u = .non from hw);cases ru;simp only[aA];exact⟨SeqAt.EqAt.tuple_none p1 nz,SeqAt.RcAt.tuple_none p1 nz⟩
   | bl b=>cases (show u = .bl b from hw);cases ru;simp only[aA];exact⟨SeqAt.EqAt.tuple_bool _ p1 nz,SeqAt.RcAt.tuple_bool _ p1 nz⟩
   | int b=>cases (show u = .int b from hw);obtain⟨t,rfl⟩:=ru;simp only[aA];exact⟨SeqAt.EqAt.tuple_int _ _ p1 nz,SeqAt.RcAt.tuple_int _ _ p1 nz⟩
   | str b=>cases (show u = .str b from hw);obtain⟨t,rfl⟩:=ru;simp only[aA];exact⟨SeqAt.EqAt.tuple_str _ _ p1 nz,SeqAt.RcAt.tuple_str _ _ p1 nz⟩
  | lst ds =>
   have hl:bH ds <= n:=by simp only[dep] at hd;omega
   have Bc:=hv
   simp only[Is] at hv
   obtain⟨a,vs,rfl,h1,i1⟩:=hv
   cases rv
   obtain⟨ag,r1,p1⟩:=dR I h1
   cases e with
   | lst es =>
    have Bd:=hw
    simp only[Is] at hw
    obtain⟨b,us,rfl,h2,i2⟩:=hw
    cases ru
    obtain⟨bc,r2,p2⟩:=dR I h2
    have l1:ag.toArray.size=ds.length:=by rw[Ad,<-r1.length,i1.length]
    have l2:bc.toArray.size=es.length:=by rw[Ad,<-r2.length,i2.length]
    have rc:SeqAt.RcAt A s (.ref a) (.ref b) (aA (.lst ds) (.lst es)):=by
     by_cases c:ds.length=es.length
     ·have:=SeqAt.RcAt.lists p1 p2 (by rw[l1,l2];exact c) nz (step r1 r2 hl i1 i2)
      rw[l1,uY c] at this
      simp only[aA];exact this
     ·simp only[aA];rw[uX c]
      exact SeqAt.RcAt.lists_lengths p1 p2 (by rw[l1,l2];simpa using c) nz
    refine⟨?_,rc⟩
    by_cases c:a=b
    ·subst c
     have:=Is.inj Bc Bd
     rw[this,gH];exact Zw _
    ·exact SeqAt.EqAt.of_refs c rc
   | tup es =>
    simp only[Is] at hw
    obtain⟨b,us,rfl,h2,i2⟩:=hw
    cases ru
    obtain⟨bc,r2,p2⟩:=dS I h2
    simp only[aA];exact⟨SeqAt.EqAt.list_tuple p1 p2 nz,SeqAt.RcAt.list_tuple p1 p2 nz⟩
   | non=>cases (show u = .non from hw);cases ru;simp only[aA];exact⟨SeqAt.EqAt.list_none p1 nz,SeqAt.RcAt.list_none p1 nz⟩
   | bl b=>cases (show u = .bl b from hw);cases ru;simp only[aA];exact⟨SeqAt.EqAt.list_bool _ p1 nz,SeqAt.RcAt.list_bool _ p1 nz⟩
   | int b=>cases (show u = .int b from hw);obtain⟨t,rfl⟩:=ru;simp only[aA];exact⟨SeqAt.EqAt.list_int _ _ p1 nz,SeqAt.RcAt.list_int _ _ p1 nz⟩
   | str b=>cases (show u = .str b from hw);obtain⟨t,rfl⟩:=ru;simp only[aA];exact⟨SeqAt.EqAt.list_str _ _ p1 nz,SeqAt.RcAt.list_str _ _ p1 nz⟩
  | non=>exact ih (by simp[dep]) (by omega) hv hw rv ru
  | bl b0=>exact ih (by simp[dep]) (by omega) hv hw rv ru
  | int b0=>exact ih (by simp[dep]) (by omega) hv hw rv ru
  | str b0=>exact ih (by simp[dep]) (by omega) hv hw rv ru
theorem Ox (I:Inv X pins σ H s) {A:Around} {d e:D} {v u:V} {x y:Value} (hd:dep d <= 60) (hu:A.units + 61 < cLine) (hv:Is H d v) (hw:Is H e u) (rv:RelV v x) (ru:RelV u y):SeqAt.RcNeAt A s x y (!aA d e):=by
 have nz:A.units < cLine:=by omega
 have step:∀ {ds es:List D} {vs us:List V} {ag bc:List Value} (r1:Vals vs ag) (r2:Vals us bc),bH ds <= 59->af H ds vs->af H es us →
   ∀ (j:Nat) (h1:j < ag.toArray.size) (h2:j < bc.toArray.size),SeqAt.EqAt A.in1 s ag.toArray[j] bc.toArray[j] (qP ds es j):=fun {ds es vs us ag bc} r1 r2 hl i1 i2 j h1 h2=>by
  obtain⟨v1,e1,q1⟩:=uZ r1 h1
  obtain⟨v2,e2,q2⟩:=uZ r2 h2
  obtain⟨d1,f1,g1⟩:=i1.get e1
  obtain⟨d2,f2,g2⟩:=i2.get e2
  unfold qP
  rw[f1,f2]
  exact (Bb I 59 (WY (Au f1) hl) (by rw[in1_units];omega) g1 g2 q1 q2).1
 cases d with
 | tup ds =>
  have hl:bH ds <= 59:=by simp only[dep] at hd;omega
  simp only[Is] at hv
  obtain⟨a,vs,rfl,h1,i1⟩:=hv
  cases rv
  obtain⟨ag,r1,p1⟩:=dS I h1
  cases e with
  | tup es =>
   simp only[Is] at hw
   obtain⟨b,us,rfl,h2,i2⟩:=hw
   cases ru
   obtain⟨bc,r2,p2⟩:=dS I h2
   have:=SeqAt.RcNeAt.tuples p1 p2 nz (step r1 r2 hl i1 i2)
   have l1:ag.toArray.size=ds.length:=by rw[Ad,<-r1.length,i1.length]
   have l2:bc.toArray.size=es.length:=by rw[Ad,<-r2.length,i2.length]
   rw[l1,l2] at this
   have eb:((List.range (min ds.length es.length)).all (qP ds es) && ds.length == es.length)=aA (.tup ds) (.tup es):=by
    simp only[aA]
    by_cases c:ds.length=es.length
    ·rw[<-c,Nat.min_self,uY c];simp
    ·rw[uX c];simp[c]
   rw[eb] at this;exact this
  | lst es=>simp only[Is] at hw;obtain⟨b,us,rfl,h2,i2⟩:=hw;cases ru;obtain⟨bc,r2,p2⟩:=dR I h2;simp only[aA];exact SeqAt.RcNeAt.tuple_list p1 p2 nz
  | non=>cases (show u = .non from hw);cases ru;simp only[aA];exact SeqAt.RcNeAt.tuple_none p1 nz
  | bl b=>cases (show u = .bl b from hw);cases ru;simp only[aA];exact SeqAt.RcNeAt.tuple_bool _ p1 nz
  | int b=>cases (show u = .int b from hw);obtain⟨t,rfl⟩:=ru;simp only[aA];exact SeqAt.RcNeAt.tuple_int _ _ p1 nz
  | str b=>cases (show u = .str b from hw);obtain⟨t,rfl⟩:=ru;simp only[aA];exact SeqAt.RcNeAt.tuple_str _ _ p1 nz
 | lst ds =>
  have hl:bH ds <= 59:=by simp only[dep] at hd;omega
  simp only[Is] at hv
  obtain⟨a,vs,rfl,h1,i1⟩:=hv
  cases rv
  obtain⟨ag,r1,p1⟩:=dR I h1
  cases e with
  | lst es =>
   simp only[Is] at hw
   obtain⟨b,us,rfl,h2,i2⟩:=hw
   cases ru
   obtain⟨bc,r2,p2⟩:=dR I h2
   have l1:ag.toArray.size=ds.length:=by rw[Ad,<-r1.length,i1.length]
   have l2:bc.toArray.size=es.length:=by rw[Ad,<-r2.length,i2.length]
   by_cases c:ds.length=es.length
   ·have:=SeqAt.RcNeAt.lists p1 p2 (by rw[l1,l2];exact c) nz (step r1 r2 hl i1 i2)
    rw[l1,uY c] at this
    simp only[aA];exact this
   ·simp only[aA];rw[uX c]
    exact SeqAt.RcNeAt.lists_lengths p1 p2 (by rw[l1,l2];simpa using c) nz
  | tup es=>simp only[Is] at hw;obtain⟨b,us,rfl,h2,i2⟩:=hw;cases ru;obtain⟨bc,r2,p2⟩:=dS I h2;simp only[aA];exact SeqAt.RcNeAt.list_tuple p1 p2 nz
  | non=>cases (show u = .non from hw);cases ru;simp only[aA];exact SeqAt.RcNeAt.list_none p1 nz
  | bl b=>cases (show u = .bl b from hw);cases ru;simp only[aA];exact SeqAt.RcNeAt.list_bool _ p1 nz
  | int b=>cases (show u = .int b from hw);obtain⟨t,rfl⟩:=ru;simp only[aA];exact SeqAt.RcNeAt.list_int _ _ p1 nz
  | str b=>cases (show u = .str b from hw);obtain⟨t,rfl⟩:=ru;simp only[aA];exact SeqAt.RcNeAt.list_str _ _ p1 nz
 | non =>
  cases (show v = .non from hv);cases rv
  cases e with
  | non=>cases (show u = .non from hw);cases ru;simp only[aA];exact SeqAt.RcNeAt.none_none
  | bl b=>cases (show u = .bl b from hw);cases ru;simp only[aA];exact SeqAt.RcNeAt.none_bool _
  | int b=>cases (show u = .int b from hw);obtain⟨t,rfl⟩:=ru;simp only[aA];exact SeqAt.RcNeAt.none_int _ _
  | str b=>cases (show u = .str b from hw);obtain⟨t,rfl⟩:=ru;simp only[aA];exact SeqAt.RcNeAt.none_str _ _
  | tup es=>simp only[Is] at hw;obtain⟨a,vs,rfl,h1,_⟩:=hw;cases ru;obtain⟨_,_,p⟩:=dS I h1;simp only[aA];exact SeqAt.RcNeAt.none_tuple p nz
  | lst es=>simp only[Is] at hw;obtain⟨a,vs,rfl,h1,_⟩:=hw;cases ru;obtain⟨_,_,p⟩:=dR I h1;simp only[aA];exact SeqAt.RcNeAt.none_list p nz
 | bl b0 =>
  cases (show v = .bl b0 from hv);cases rv
  cases e with
  | non=>cases (show u = .non from hw);cases ru;simp only[aA];exact SeqAt.RcNeAt.bool_none _
  | bl b=>cases (show u = .bl b from hw);cases ru;simp only[aA];exact SeqAt.RcNeAt.bool_bool _ _
  | int b=>cases (show u = .int b from hw);obtain⟨t,rfl⟩:=ru;simp only[aA];exact SeqAt.RcNeAt.bool_int _ _ _
  | str b=>cases (show u = .str b from hw);obtain⟨t,rfl⟩:=ru;simp only[aA];exact SeqAt.RcNeAt.bool_str _ _ _
  | tup es=>simp only[Is] at hw;obtain⟨a,vs,rfl,h1,_⟩:=hw;cases ru;obtain⟨_,_,p⟩:=dS I h1;simp only[aA];exact SeqAt.RcNeAt.bool_tuple _ p nz
  | lst es=>simp only[Is] at hw;obtain⟨a,vs,rfl,h1,_⟩:=hw;cases ru;obtain⟨_,_,p⟩:=dR I h1;simp only[aA];exact SeqAt.RcNeAt.bool_list _ p nz
 | int b0 =>
  cases (show v = .int b0 from hv);obtain⟨t0,rfl⟩:=rv
  cases e with
  | non=>cases (show u = .non from hw);cases ru;simp only[aA];exact SeqAt.RcNeAt.int_none _ _
  | bl b=>cases (show u = .bl b from hw);cases ru;simp only[aA];exact SeqAt.RcNeAt.int_bool _ _ _
  | int b=>cases (show u = .int b from hw);obtain⟨t,rfl⟩:=ru;simp only[aA];exact SeqAt.RcNeAt.int_int _ _ _ _
  | str b=>cases (show u = .str b from hw);obtain⟨t,rfl⟩:=ru;simp only[aA];exact SeqAt.RcNeAt.int_str _ _ _ _
  | tup es=>simp only[Is] at hw;obtain⟨a,vs,rfl,h1,_⟩:=hw;cases ru;obtain⟨_,_,p⟩:=dS I h1;simp only[aA];exact SeqAt.RcNeAt.int_tuple _ _ p nz
  | lst es=>simp only[Is] at hw;obtain⟨a,vs,rfl,h1,_⟩:=hw;cases ru;obtain⟨_,_,p⟩:=dR I h1;simp only[aA];exact SeqAt.RcNeAt.int_list _ _ p nz
 | str b0 =>
  cases (show v = .str b0 from hv);obtain⟨t0,rfl⟩:=rv
  cases e with
  | non=>cases (show u = .non from hw);cases ru;simp only[aA];exact SeqAt.RcNeAt.str_none _ _
  | bl b=>cases (show u = .bl b from hw);cases ru;simp only[aA];exact SeqAt.RcNeAt.str_bool _ _ _
  | int b=>cases (show u = .int b from hw);obtain⟨t,rfl⟩:=ru;simp only[aA];exact SeqAt.RcNeAt.str_int _ _ _ _
  | str b=>cases (show u = .str b from hw);obtain⟨t,rfl⟩:=ru;simp only[aA];exact SeqAt.RcNeAt.str_str _ _ _ _
  | tup es=>simp only[Is] at hw;obtain⟨a,vs,rfl,h1,_⟩:=hw;cases ru;obtain⟨_,_,p⟩:=dS I h1;simp only[aA];exact SeqAt.RcNeAt.str_tuple _ _ p nz
  | lst es=>simp only[Is] at hw;obtain⟨a,vs,rfl,h1,_⟩:=hw;cases ru;obtain⟨_,_,p⟩:=dR I h1;simp only[aA];exact SeqAt.RcNeAt.str_list _ _ p nz
end
variable [aI]
noncomputable def intsOf:List D->Option (List Int)
 | []=>some []
 | .int i :: r=>match intsOf r with
  | some ns=>some (i :: ns)
  | none=>none
 | _=>none
theorem GH:∀ ns:List Int,intsOf (ns.map D.int)=some ns
 | []=>rfl
 | n :: r=>by show (match intsOf (r.map D.int) with | some ns=>some (n :: ns) | none=>none)=_;rw[GH r]
theorem u2:∀ {ds:List D} {ns:List Int},intsOf ds=some ns->ds=ns.map D.int
 | [],ns,h=>by cases h;rfl
 | .int i :: r,ns,h=>by
  unfold intsOf at h
  split at h
  ·rename_i ms e;cases h;rw[Wb,u2 e]
  ·cases h
 | .non :: r,ns,h=>by cases h
 | .bl _ :: r,ns,h=>by cases h
 | .str _ :: r,ns,h=>by cases h
 | .tup _ :: r,ns,h=>by cases h
 | .lst _ :: r,ns,h=>by cases h
theorem jB {F:Hp}:∀ {ns:List Int} {vs:List V},af F (ns.map D.int) vs->vs=ns.map V.int
 | [],vs,h=>by simp only[X1,af] at h;exact h
 | n :: r,vs,h=>by
  simp only[Wb,af] at h
  obtain⟨v,t,rfl,h1,h2⟩:=h
  have h1:v = .int n:=h1
  rw[jB h2,h1];rfl
theorem lJ {F:Hp}:∀ {ns:List Int},af F (ns.map D.int) (ns.map V.int)
 | [] => .nil
 | n :: r => .cons (show _=_ from rfl) lJ
theorem sG {F:Hp}:∀ {as bs:List D} {us vs:List V},af F as us->af F bs vs->af F (as ++ bs) (us ++ vs)
 | [],bs,us,vs,h,q=>by simp only[af] at h;subst h;exact q
 | a :: r,bs,us,vs,h,q=>by
  simp only[af] at h
  obtain⟨v,t,rfl,h1,h2⟩:=h
  exact .cons h1 (sG h2 q)
theorem GI {F:Hp}:∀ {as:List D} {us:List V} (n:Nat),af F as us->af F (as.take n) (us.take n)
 | as,us,0,_=>by rw[ZP,ZP];exact .nil
 | [],us,n + 1,h=>by simp only[af] at h;subst h;exact .nil
 | a :: r,us,n + 1,h=>by
  simp only[af] at h
  obtain⟨v,t,rfl,h1,h2⟩:=h
  exact .cons h1 (GI n h2)
theorem GJ {F:Hp}:∀ {as:List D} {us:List V} (n:Nat),af F as us->af F (as.drop n) (us.drop n)
 | as,us,0,h=>h
 | [],us,n + 1,h=>by simp only[af] at h;subst h;exact .nil
 | a :: r,us,n + 1,h=>by
  simp only[af] at h
  obtain⟨v,t,rfl,h1,h2⟩:=h
  exact GJ n h2
theorem Be {F:Hp}:∀ {as:List D} {us:List V},af F as us->af F as.reverse us.reverse
 | [],us,h=>by simp only[af] at h;subst h;exact .nil
 | a :: r,us,h=>by
  simp only[af] at h
  obtain⟨v,t,rfl,h1,h2⟩:=h
  rw[Za,Za]
  exact (Be h2).snoc h1
theorem GK {F:Hp}:∀ {as:List D} {us:List V} (n:Nat) {d:D} {v:V},af F as us->Is F d v->af F (as.set n d) (us.set n v)
 | [],us,n,d,v,h,_=>by simp only[af] at h;subst h;exact .nil
 | a :: r,us,0,d,v,h,q=>by
  simp only[af] at h
  obtain⟨w,t,rfl,h1,h2⟩:=h
  exact .cons q h2
 | a :: r,us,n + 1,d,v,h,q=>by
  simp only[af] at h
  obtain⟨w,t,rfl,h1,h2⟩:=h
  exact .cons h1 (GK n h2 q)
theorem GL {F:Hp}:∀ {as:List D} {us:List V} (n:Nat),af F as us->af F (as.eraseIdx n) (us.eraseIdx n)
 | [],us,n,h=>by simp only[af] at h;subst h;exact .nil
 | a :: r,us,0,h=>by
  simp only[af] at h
  obtain⟨w,t,rfl,h1,h2⟩:=h
  exact h2
 | a :: r,us,n + 1,h=>by
  simp only[af] at h
  obtain⟨w,t,rfl,h1,h2⟩:=h
  exact .cons h1 (GL n h2)
theorem ku {F H:Hp} {p:Addr} {ds:List D} {vs:List V} (s:az F H) (hp:H p=none) (h:af F ds vs):Is (Nw F H (upd H p (.lst vs))) (.lst ds) (.ref p):=by
 rw[Nw.upd s hp]
 simp only[Is]
 exact⟨p,vs,rfl,bW,h.same (cj (s.free hp))⟩
theorem xw {F H:Hp} {p:Addr} {ds:List D} {vs:List V} (s:az F H) (hp:H p=none) (h:af F ds vs):Is (Nw F H (upd H p (.tup vs))) (.tup ds) (.ref p):=by
 rw[Nw.upd s hp]
 simp only[Is]
 exact⟨p,vs,rfl,bW,h.same (cj (s.free hp))⟩
theorem u3 {F H:Hp} {d:D} {v:V} (s:az F H) (h:Is F d v):Is (Nw F H H) d v:=by rw[Nw.refl s];exact h
noncomputable def qQ:D->D->(D->Prop)->Prop
 | .int i,.int j,K=>K (.int (i + j))
 | .lst a,.lst b,K=>a.length + b.length <= 1000/\K (.lst (a ++ b))
 | .tup a,.tup b,K=>(a≠[]/\a.length + b.length <= 1000)/\K (.tup (a ++ b))
 | .str a,.str b,K=>a.length + b.length <= 1000/\K (.str (a ++ b))
 | _,_,_=>False
noncomputable def oI (f:Int->Int->D):D->D->(D->Prop)->Prop
 | .int i,.int j,K=>K (f i j)
 | _,_,_=>False
noncomputable def eX (C:Int->Int->Prop) (f:Int->Int->D):D->D->(D->Prop)->Prop
 | .int i,.int j,K=>C i j/\K (f i j)
 | _,_,_=>False
noncomputable def eF:D->D->(D->Prop)->Prop
 | .int i,.int j,K=>ni i j/\K (.int (i * j))
 | .lst a,.int j,K=>(-(2 ^ 63) <= j/\j < 2 ^ 63/\a.length * j.toNat <= 1000)/\K (.lst (List.replicate j.toNat a).flatten)
 | _,_,_=>False
section
variable {X:Cx}
theorem xx {f:Value->Value->Sem Value} {g:Int->Int->V} {h:Int->Int->D} (op:dE X f (m_ g)) (hg:∀ F i j,Is F (h i j) (g i j)):gg X f (oI h):=by
 rintro pins s σ H x y v u Q I rx ry ⟨F,d,e,K,sub,rd,re,q,md⟩
 unfold oI at q
 split at q
 ·rename_i i j
  exact op pins s σ H x y v u Q I rx ry ⟨i,j,rd,re,md _ _ _ q (fun _ _ e=>e) (hg _ i j)⟩
 ·exact q.elim
theorem Bf {f:Value->Value->Sem Value} {C:Int->Int->Prop} {g:Int->Int->V} {h:Int->Int->D} (op:dE X f (rI C g)) (hg:∀ F i j,Is F (h i j) (g i j)):gg X f (eX C h):=by
 rintro pins s σ H x y v u Q I rx ry ⟨F,d,e,K,sub,rd,re,q,md⟩
 unfold eX at q
 split at q
 ·rename_i i j
  exact op pins s σ H x y v u Q I rx ry ⟨i,j,rd,re,q.1,md _ _ _ q.2 (fun _ _ e=>e) (hg _ i j)⟩
 ·exact q.elim
theorem xy:gg X (binaryOp .Add) qQ:=by
 rintro pins s σ H x y v u Q I rx ry ⟨F,d,e,K,sub,rd,re,q,md⟩
 unfold qQ at q
 split at q
 ·rename_i i j
  exact EB pins s σ H x y v u Q I rx ry ⟨i,j,rd,re,md _ _ _ q (fun _ _ e=>e) rfl⟩
 ·rename_i as bs
  obtain⟨a,us,rfl,h1,h2⟩:=rd
  obtain⟨b,ws,rfl,h3,h4⟩:=re
  refine Fh pins s σ H _ _ v u Q I rx ry ⟨a,b,us,ws,rfl,rfl,h1,h3,lr (by rw[h2.length,h4.length];exact q.1),fun p hp=>md _ _ _ q.2 (cj hp) (ku sub hp (sG h2 h4))⟩
 ·rename_i as bs
  have cR:Is F (.tup as) x:=rd
  have jC:Is F (.tup bs) y:=re
  simp only[Is] at cR jC
  obtain⟨a,us,rfl,h1,h2⟩:=cR
  obtain⟨b,ws,rfl,h3,h4⟩:=jC
  have ne:us≠[]:=fun z=>q.1.1 (YW.mp (by rw[<-h2.length,z];rfl))
  refine Mh pins s σ H _ _ v u Q I rx ry ⟨a,b,us,ws,rfl,rfl,bQ.of (sub _ _ h1),bQ.of (sub _ _ h3),ne,lr (by rw[h2.length,h4.length];exact q.1.2),fun z => ?_,fun z p hp=>md _ _ _ q.2 (cj hp) (xw sub hp (sG h2 h4))⟩
  have:bs=[]:=YW.mp (by rw[<-h4.length,z];rfl)
  subst this
  refine md _ _ _ q.2 (fun _ _ e=>e) (u3 sub ?_)
  rw[YO];exact rd
 ·rename_i as bs
  have cR:x = .str as:=rd
  have jC:y = .str bs:=re
  subst cR jC
  exact LF pins s σ H _ _ v u Q I rx ry ⟨as,bs,rfl,rfl,lr q.1,md _ _ _ q.2 (fun _ _ e=>e) rfl⟩
 ·exact q.elim
theorem pF:gg X (binaryOp .Sub) (oI fun i j => .int (i - j)):=xx Ln fun _ _ _=>rfl
theorem mI:gg X (binaryOp .Mult) eF:=by
 rintro pins s σ H x y v u Q I rx ry ⟨F,d,e,K,sub,rd,re,q,md⟩
 unfold eF at q
 split at q
 ·rename_i i j
  exact Lo pins s σ H x y v u Q I rx ry ⟨i,j,rd,re,q.1,md _ _ _ q.2 (fun _ _ e=>e) rfl⟩
 ·rename_i as j
  obtain⟨a,us,rfl,h1,h2⟩:=rd
  refine Mv pins s σ H _ _ v u Q I rx ry ⟨a,j,us,rfl,re,h1,q.1.1,q.1.2.1,lr (by rw[h2.length];exact q.1.2.2),fun p hp=>md _ _ _ q.2 (cj hp) (ku sub hp ?_)⟩
  have:∀ k:Nat,af F (List.replicate k as).flatten (List.replicate k us).flatten:=fun k=>by
   induction k with
   | zero=>exact .nil
   | succ k ih=>rw[WV,WV,XY,XY];exact sG h2 ih
  exact this _
 ·exact q.elim
theorem Oy:gg X (binaryOp .FloorDiv) (eX tZ fun i j => .int (i.fdiv j)):=Bf Lp fun _ _ _=>rfl
theorem kz:gg X (binaryOp .Mod) (eX (fun _ j=>0 < j) fun i j => .int (i % j)):=Bf zG fun _ _ _=>rfl
theorem qR:gg X (binaryOp .Pow) (eX g_ fun i j => .int (i ^ j.toNat)):=Bf Lq fun _ _ _=>rfl
noncomputable def oEq:D->D->(D->Prop)->Prop:=fun d e K=>dep d <= 60/\K (.bl (aA d e))
noncomputable def pG:D->D->(D->Prop)->Prop:=fun d e K=>dep d <= 60/\K (.bl (!aA d e))
theorem fV (hu:X.A.units + 64 < cLine):gg X (compareOp .Eq) oEq:=by
 rintro pins s σ H x y v u Q I rx ry ⟨F,d,e,K,sub,rd,re,q,md⟩
 exact (Bb I 60 q.1 (by omega) (rd.is sub) (re.is sub) rx ry).2 _ _ _ _ ⟨.bl _,H,I,rfl,md _ _ _ q.2 (fun _ _ e=>e) rfl⟩
theorem u4 (hu:X.A.units + 64 < cLine):gg X (compareOp .NotEq) pG:=by
 rintro pins s σ H x y v u Q I rx ry ⟨F,d,e,K,sub,rd,re,q,md⟩
 exact Ox I q.1 (by omega) (rd.is sub) (re.is sub) rx ry _ _ _ _ ⟨.bl _,H,I,rfl,md _ _ _ q.2 (fun _ _ e=>e) rfl⟩
noncomputable def oLt:D->D->(D->Prop)->Prop
 | .int i,.int j,K=>K (.bl (decide (i < j)))
 | .tup a,.tup b,K=>match intsOf a,intsOf b with
  | some ns,some ms=>K (.bl (HT.lexLt ns ms))
  | _,_=>False
 | _,_,_=>False
theorem xA (hu:X.A.units + 64 < cLine):gg X (compareOp .Lt) oLt:=by
 rintro pins s σ H x y v u Q I rx ry ⟨F,d,e,K,sub,rd,re,q,md⟩
 unfold oLt at q
 split at q
 ·rename_i i j
  exact Lu pins s σ H x y v u Q I rx ry ⟨i,j,rd,re,md _ _ _ q (fun _ _ e=>e) rfl⟩
 ·rename_i as bs
  split at q
  ·rename_i ns ms e1 e2
   rw[u2 e1] at rd
   rw[u2 e2] at re
   have cR:Is F (.tup (ns.map D.int)) x:=rd
   have jC:Is F (.tup (ms.map D.int)) y:=re
   simp only[Is] at cR jC
   obtain⟨a,us,rfl,h1,h2⟩:=cR
   obtain⟨b,ws,rfl,h3,h4⟩:=jC
   rw[jB h2] at h1
   rw[jB h4] at h3
   exact Mf (by omega) pins s σ H _ _ v u Q I rx ry ⟨a,b,ns,ms,rfl,rfl,bQ.of (sub _ _ h1),bQ.of (sub _ _ h3),md _ _ _ q (fun _ _ e=>e) rfl⟩
  ·exact q.elim
 ·exact q.elim
theorem GN:gg X (compareOp .LtE) (oI fun i j => .bl (decide (i <= j))):=xx Lw fun _ _ _=>rfl
theorem xB:gg X (compareOp .Gt) (oI fun i j => .bl (decide (j < i))):=xx Lx fun _ _ _=>rfl
theorem Oz:gg X (compareOp .GtE) (oI fun i j => .bl (decide (j <= i))):=xx Ly fun _ _ _=>rfl
noncomputable def lK:D->D->(D->Prop)->Prop
 | .non,.non,K=>K (.bl true)
 | .bl _,.non,K=>K (.bl false)
 | .int _,.non,K=>K (.bl false)
 | .str _,.non,K=>K (.bl false)
 | .tup _,.non,K=>K (.bl false)
 | .lst _,.non,K=>K (.bl false)
 | _,_,_=>False
theorem OA {F H:Hp} {d e:D} {x y:V} {K:D->Prop} (rd:hW F H d x) (re:hW F H e y) (q:lK d e K):y = .non/\K (.bl (decide (x = .non))):=by
 unfold lK at q
 split at q
 ·have:x = .non:=rd;have h2:y = .non:=re;subst this;exact⟨h2,q⟩
 ·rename_i b;have:x = .bl b:=rd;have h2:y = .non:=re;subst this;exact⟨h2,q⟩
 ·rename_i b;have:x = .int b:=rd;have h2:y = .non:=re;subst this;exact⟨h2,q⟩
 ·rename_i b;have:x = .str b:=rd;have h2:y = .non:=re;subst this;exact⟨h2,q⟩
 ·rename_i b;have rd:Is F (.tup b) x:=rd;simp only[Is] at rd;obtain⟨a,_,rfl,_⟩:=rd;exact⟨re,q⟩
 ·rename_i b;obtain⟨a,_,rfl,_⟩:=rd;exact⟨re,q⟩
 ·exact q.elim
theorem OB:gg X (compareOp .Is) lK:=by
 rintro pins s σ H x y v u Q I rx ry ⟨F,d,e,K,sub,rd,re,q,md⟩
 obtain⟨h1,h2⟩:=OA rd re q
 exact Lz pins s σ H x y v u Q I rx ry ⟨h1,md _ _ _ h2 (fun _ _ e=>e) rfl⟩
noncomputable def xC (neg:Bool):D->D->(D->Prop)->Prop
 | d,.lst es,K=>bH es <= 55/\K (.bl (if neg then !(es.any fun e=>aA e d) else es.any fun e=>aA e d))
 | d,.tup es,K=>bH es <= 55/\K (.bl (if neg then !(es.any fun e=>aA e d) else es.any fun e=>aA e d))
 | _,_,_=>False
noncomputable def mJ (H:Hp) (d:D) (u:Value):Bool:=by
 classical exact if ∃ e v,Is H e v/\RelV v u/\aA e d=true then true else false
theorem GP {H:Hp} {d e:D} {v:V} {u:Value} (h:Is H e v) (r:RelV v u):mJ H d u=aA e d:=by
 unfold mJ
 split
 ·rename_i z
  obtain⟨e',v',h',r',q⟩:=z
  have:v'=v:=r'.inj r
  subst this
  rw[Is.inj h h'];exact q.symm
 ·rename_i z
  cases q:aA e d with
  | false=>rfl
  | true=>exact absurd ⟨e,v,h,r,q⟩ z
theorem Bg {H:Hp} {d:D}:∀ {es:List D} {vs:List V} {us:List Value},af H es vs->Vals vs us->us.any (mJ H d)=es.any fun e=>aA e d
 | [],vs,us,h,r=>by simp only[af] at h;subst h;cases r;rfl
 | e :: es,vs,us,h,r=>by
  simp only[af] at h
  obtain⟨v,t,rfl,h1,h2⟩:=h
  cases r with
  | cons r1 r2=>rw[Yj,Yj,GP h1 r1,Bg h2 r2]
theorem Bh {pins:List (Addr × Obj)} {σ : St} {H:Hp} {s:Shared} (I:Inv X pins σ H s) {A:Around} (hu:A.units + 60 < cLine) {d:D} {x:V} {w:Value} (hd:Is H d x) (rd:RelV x w):∀ {es:List D} {vs:List V} {us:List Value},bH es <= 55->af H es vs->Vals vs us->∀ u∈us,SeqAt.EqAt A s u w (mJ H d u)
 | [],vs,us,_,h,r=>by simp only[af] at h;subst h;cases r;intro u hu;cases hu
 | e :: es,vs,us,hp,h,r=>by
  simp only[af] at h
  obtain⟨v,t,rfl,h1,h2⟩:=h
  simp only[bH] at hp
  cases r with
  | cons r1 r2 =>
   intro u hu'
   rcases Fo.mp hu' with rfl | hu'
   ·rw[GP h1 r1];exact (Bb I 55 (by omega) (by omega) h1 hd r1 rd).1
   ·exact Bh I hu hd rd (by omega) h2 r2 u hu'
theorem OC (hu:X.A.units + 64 < cLine):gg X (compareOp .NotIn) (xC true):=by
 rintro pins s σ H x y v u Q I rx ry ⟨F,d,e,K,sub,rd,re,q,md⟩
 unfold xC at q
 split at q
 ·rename_i es
  obtain⟨a,vs,rfl,h1,h2⟩:=re
  cases ry
  obtain⟨ag,r,p⟩:=dR I h1
  have iu:=h2.same sub
  refine SeqAt.notIn_listAt (mJ H d) p (fun w hw=>Bh I (by rw[in1_units];omega) (rd.is sub) rx q.1 iu r w (by simpa using hw)) ⟨.bl _,H,I,rfl,?_⟩
  rw[show ag.toArray.any (mJ H d)=ag.any (mJ H d) by simp,Bg iu r]
  exact md _ _ _ q.2 (fun _ _ e=>e) rfl
 ·rename_i es
  have jC:Is F (.tup es) y:=re
  simp only[Is] at jC
  obtain⟨a,vs,rfl,h1,h2⟩:=jC
  cases ry
  obtain⟨ag,r,p⟩:=dS I (sub _ _ h1)
  have iu:=h2.same sub
  refine SeqAt.notIn_tupleAt (mJ H d) p (fun w hw=>Bh I (by rw[in1_units];omega) (rd.is sub) rx q.1 iu r w (by simpa using hw)) ⟨.bl _,H,I,rfl,?_⟩
  rw[show ag.toArray.any (mJ H d)=ag.any (mJ H d) by simp,Bg iu r]
  exact md _ _ _ q.2 (fun _ _ e=>e) rfl
 ·exact q.elim
noncomputable def aP:D->D->(D->Prop)->Prop
 | .lst ds,.int i,K=>match dF ds i with
  | some d=>K d
  | none=>False
 | .tup ds,.int i,K=>match dF ds i with
  | some d=>K d
  | none=>False
 | .str z,.int i,K=>z.length <= 1000/\match dF z.cps.toList i with
  | some c=>K (.str ⟨#[c]⟩)
  | none=>False
 | _,_,_=>False
theorem GQ {F:Hp} {ds:List D} {vs:List V} {i:Int} {d:D} (h:af F ds vs) (e:dF ds i=some d):∃ v,dF vs i=some v/\Is F d v:=by
 unfold dF at e ⊢
 rw[h.length]
 cases q:iU ds.length i with
 | none=>rw[q] at e;cases e
 | some j =>
  rw[q] at e
  exact pE h (show ds[j]? = some d from e)
theorem bt:Gh X aP:=by
 rintro value slice pins s σ H x y v u Q I rx ry ⟨F,d,e,K,sub,rd,re,q,md⟩ hs
 unfold aP at q
 split at q
 ·rename_i ds i
  split at q
  ·rename_i d' e1
   obtain⟨a,vs,rfl,h1,h2⟩:=rd
   obtain⟨w,e2,h3⟩:=GQ h2 e1
   exact EY value slice pins s σ H _ _ v u Q I rx ry ⟨a,vs,i,w,rfl,re,bx.of h1,e2,md _ _ _ q (fun _ _ e=>e) (u3 sub h3)⟩ hs
  ·exact q.elim
 ·rename_i ds i
  split at q
  ·rename_i d' e1
   have cR:Is F (.tup ds) x:=rd
   simp only[Is] at cR
   obtain⟨a,vs,rfl,h1,h2⟩:=cR
   obtain⟨w,e2,h3⟩:=GQ h2 e1
   exact zU value slice pins s σ H _ _ v u Q I rx ry ⟨a,vs,i,w,rfl,re,bQ.of (sub _ _ h1),e2,md _ _ _ q (fun _ _ e=>e) (u3 sub h3)⟩ hs
  ·exact q.elim
 ·rename_i z i
  obtain⟨hz,q⟩:=q
  split at q
  ·rename_i c e1
   have cR:x = .str z:=rd
   subst cR
   exact Mj value slice pins s σ H _ _ v u Q I rx ry ⟨z,i,c,rfl,re,lr hz,e1,md _ _ _ q (fun _ _ e=>e) rfl⟩ hs
  ·exact q.elim
 ·exact q.elim
noncomputable def cutD (ds:List D) (lo hi:Option Int):List D:=(ds.drop (HT.bo ds.length 0 lo)).take (HT.bo ds.length ds.length hi - HT.bo ds.length 0 lo)
theorem GR {F:Hp} {ds:List D} {vs:List V} (h:af F ds vs) (lo hi:Option Int):af F (cutD ds lo hi) (dr vs lo hi):=by
 unfold cutD dr
 rw[h.length]
 exact GI _ (GJ _ h)
noncomputable abbrev WO:=ay->(Option Int->ay->Prop)->Prop
noncomputable def xD (f:WO):TO:=fun σ H Q=>∃ F ad δ K,SR F ad δ σ H/\f δ K/\∀ o δ',K o δ'->∀ F' aC H',Ext F ad δ.mu H F' aC δ'.mu H'->SR F' aC δ' σ H'->Q o H'
noncomputable def ja:WO:=fun δ K=>K none δ
noncomputable def qS (f:WE):WO:=fun δ K=>f δ fun x δ1=>match x with
 | .p (.int i)=>K (some i) δ1
 | _=>False
theorem xE:PO X none (xD ja):=fun pins s σ H Q I h0_ => el7 h0_ fun F ad δ K S q k =>EU pins s σ H Q I (k _ _ q _ _ _ .refl S)
theorem xF {e:Expr} {f:WE} (h:JE X e (tD f)):PO X (some e) (xD (qS f)):=fun pins s σ H Q I h0_ => el7 h0_ fun F ad δ K S q k =>wC h.out pins s σ H Q I ⟨F,ad,δ,_,S,q,fun x δ1 h1 v F1 aR H1 E1 S1 V1=>by
 split at h1
 ·rename_i i
  exact⟨i,V1,k _ _ h1 _ _ _ E1 S1⟩
 ·exact h1.elim⟩
noncomputable def nX:D->(D->Prop)->Prop
 | .int i,K=>K (.int (-i))
 | _,_=>False
theorem OD {e:Expr} {f:WE} {pos:Pos} (he:JE X e (tD f)):JE X (.UnaryOp .USub e pos) (tD (d1 f nX)) :=
 (NH EC he).weak fun σ H Q h0_ => el7 h0_ fun F ad δ K S q k =>⟨F,ad,δ,_,S,q,fun x δ1 h1 v F1 aR H1 E1 S1 V1=>by
  obtain⟨d,h4,rd⟩:=iD S1 V1 h1
  unfold nX at h4
  split at h4
  ·rename_i i
   exact⟨i,rd,k _ _ h4 _ _ _ _ E1 S1 rfl⟩
  ·exact h4.elim⟩
noncomputable def Bi (f g h:WE) (o o':D->D->(D->Prop)->Prop):WE:=fun δ K=>f δ fun x δ1=>g δ1 fun y δ2=>fM x δ2 fun d=>fM y δ2 fun e=>o d e fun z=>match z with
 | .bl true=>h δ2 fun w δ3=>fM y δ3 fun e'=>fM w δ3 fun c=>o' e' c fun z'=>K (.p z') δ3
 | .bl false=>K (.p (.bl false)) δ2
 | _=>False
theorem OE {a b c:Expr} {f g h:WE} {op kX:CmpOp} {o o':D->D->(D->Prop)->Prop} {pos:Pos} (ho:gg X (compareOp op) o) (jK:gg X (compareOp kX) o') (ha:JE X a (tD f)) (hb:JE X b (tD g)) (hc:JE X c (tD h))
  (hm:lastMarks [op,kX] [b,c]=false:=by with_unfolding_all rfl):JE X (.Compare a [op,kX] [b,c] pos) (tD (Bi f g h o o')) :=
 (NK ho jK ha hb hc hm).weak fun σ H Q h0_ => el7 h0_ fun F ad δ K S q k =>by
  refine⟨F,ad,δ,_,S,q,fun x δ1 h1 v1 F1 aR H1 E1 S1 V1=>⟨F1,aR,δ1,_,S1,h1,fun y δ2 h2 v2 F2 c7 H2 E2 S2 V2 => ?_⟩⟩
  obtain⟨d,h3,rd⟩:=iD S2 (V1.ext E2) h2
  obtain⟨e,h4,re⟩:=iD S2 V2 h3
  refine⟨F2,d,e,_,S2.sub,rd,re,h4,fun z v H' hz sm is => ?_⟩
  have S3:=S2.al sm
  have E3:=Ext.al S2 sm
  split at hz
  ·refine⟨true,is,?_⟩
   rw[MD rfl]
   refine⟨_,c7,δ2,_,S3,hz,fun w δ4 h5 v4 F4 xm H4 E4 S4 V4 => ?_⟩
   obtain⟨d',h6,xg⟩:=iD S4 ((V2.ext E3).ext E4) h5
   obtain⟨e',h7,OF⟩:=iD S4 V4 h6
   exact⟨F4,d',e',_,S4.sub,xg,OF,h7,fun z v H' hz sm is=>k _ _ hz _ _ _ _ ((((E1.trans E2).trans E3).trans E4).trans (Ext.al S4 sm)) (S4.al sm) is⟩
  ·refine⟨false,is,?_⟩
   rw[MA Vy]
   exact k _ _ hz _ _ _ _ ((E1.trans E2).trans E3) S3 rfl
  ·exact hz.elim
end
noncomputable def sortI (ns:List Int):List Int:=ns.mergeSort fun a b=>decide (a <= b)
theorem sortI_perm (ns:List Int):(sortI ns).Perm ns:=List.mergeSort_perm ns _
theorem OG (ns:List Int):(sortI ns).Pairwise (· <= ·):=by
 have:=List.pairwise_mergeSort (le:=fun a b:Int=>decide (a <= b)) (fun a b c h1 h2=>by simp at *;omega) (fun a b=>by simp;omega) ns
 exact this.imp fun h=>by simpa using h
theorem GS:∀ {as bs:List Int},as.Perm bs->as.Pairwise (· <= ·)->bs.Pairwise (· <= ·)->as=bs
 | [],bs,p,_,_=>p.nil_eq
 | a :: as,[],p,_,_=>absurd p.length_eq (by simp)
 | a :: as,b :: bs,p,s,t=>by
  have e:a=b:=by
   have h1:a <= b:=by
    have hb:b∈a :: as:=p.mem_iff.mpr (Mz ..)
    rcases Fo.mp hb with h | h
    ·omega
    ·exact (Xe.mp s).1 b h
   have h2:b <= a:=by
    have ha:a∈b :: bs:=p.mem_iff.mp (Mz ..)
    rcases Fo.mp ha with h | h
    ·omega
    ·exact (Xe.mp t).1 a h
   omega
  subst e
  rw[GS (List.perm_cons a |>.mp p) (Xe.mp s).2 (Xe.mp t).2]
theorem Bj {as bs:List Int} (p:as.Perm bs) (s:as.Pairwise (· <= ·)):as=sortI bs:=GS (p.trans (sortI_perm bs).symm) s (OG bs)
theorem OH (ns:List Int):(sortI ns).length=ns.length:=(sortI_perm ns).length_eq
noncomputable def df:List D->(D->Prop)->Prop
 | [.lst ds],K=>K (.int ds.length)
 | [.tup ds],K=>K (.int ds.length)
 | [.str z],K=>z.length <= 1000/\K (.int z.length)
 | _,_=>False
noncomputable def xG:List D->(D->Prop)->Prop
 | [.lst ds],K=>K (.lst ds)
 | [.tup ds],K=>K (.lst ds)
 | _,_=>False
noncomputable def xH:List D->(D->Prop)->Prop
 | [.lst ds],K=>K (.tup ds)
 | [.tup ds],K=>K (.tup ds)
 | _,_=>False
noncomputable def u5:List D->(D->Prop)->Prop
 | [.lst ds],K=>match intsOf ds with
  | some ns=>ns.length < 64/\K (.lst ((sortI ns).map D.int))
  | none=>False
 | _,_=>False
noncomputable def qT:List D->Option (List Bool)
 | []=>some []
 | .bl b :: r=>match qT r with
  | some bs=>some (b :: bs)
  | none=>none
 | _=>none
theorem GU:∀ bs:List Bool,qT (bs.map D.bl)=some bs
 | []=>rfl
 | n :: r=>by show (match qT (r.map D.bl) with | some ns=>some (n :: ns) | none=>none)=_;rw[GU r]
theorem GV:∀ {ds:List D} {bs:List Bool},qT ds=some bs->ds=bs.map D.bl
 | [],ns,h=>by cases h;rfl
 | .bl i :: r,ns,h=>by
  unfold qT at h
  split at h
  ·rename_i ms e;cases h;rw[Wb,GV e]
  ·cases h
 | .non :: r,ns,h=>by cases h
 | .int _ :: r,ns,h=>by cases h
 | .str _ :: r,ns,h=>by cases h
 | .tup _ :: r,ns,h=>by cases h
 | .lst _ :: r,ns,h=>by cases h
theorem GW {F:Hp}:∀ {bs:List Bool} {vs:List V},af F (bs.map D.bl) vs->vs=bs.map V.bl
 | [],vs,h=>by simp only[X1,af] at h;exact h
 | n :: r,vs,h=>by
  simp only[Wb,af] at h
  obtain⟨v,t,rfl,h1,h2⟩:=h
  have h1:v = .bl n:=h1
  rw[GW h2,h1];rfl
noncomputable def nY:List D->(D->Prop)->Prop
 | [.lst ds],K=>match qT ds with
  | some bs=>K (.bl (bs.all id))
  | none=>False
 | _,_=>False
noncomputable def u6:List D->(D->Prop)->Prop
 | [.int i,.int j],K=>K (.int (min i j))
 | _,_=>False
section
variable {X:Cx}
theorem cR {F H:Hp} {d:D} {xs:List V} (h:iY F H [d] xs):∃ v,xs=[v]/\hW F H d v:=by
 obtain⟨v,r,rfl,h1,h2⟩:=h
 have h2:r=[]:=h2
 subst h2
 exact⟨v,rfl,h1⟩
theorem OI {F H:Hp} {d e:D} {xs:List V} (h:iY F H [d,e] xs):∃ v w,xs=[v,w]/\hW F H d v/\hW F H e w:=by
 obtain⟨v,r,rfl,h1,h2⟩:=h
 obtain⟨w,rfl,h3⟩:=cR h2
 exact⟨v,w,rfl,h1,h3⟩
theorem jc:dH X (.builtin "len") df:=by
 rintro pins s σ H xs us Q I r ⟨F,ds,K,sub,rd,q,md⟩
 unfold df at q
 split at q
 ·obtain⟨v,rfl,a,vs,rfl,h1,h2⟩:=cR rd
  exact E8 pins s σ H _ us Q I r ⟨a,vs,rfl,.inl (bx.of h1),by rw[h2.length];exact md _ _ _ q (fun _ _ e=>e) rfl⟩
 ·rename_i es
  obtain⟨v,rfl,h⟩:=cR rd
  have h:Is F (.tup es) v:=h
  simp only[Is] at h
  obtain⟨a,vs,rfl,h1,h2⟩:=h
  exact E8 pins s σ H _ us Q I r ⟨a,vs,rfl,.inr (bQ.of (sub _ _ h1)),by rw[h2.length];exact md _ _ _ q (fun _ _ e=>e) rfl⟩
 ·rename_i z
  obtain⟨v,rfl,h⟩:=cR rd
  have h:v = .str z:=h
  subst h
  exact Mp pins s σ H _ us Q I r ⟨z,rfl,lr q.1,md _ _ _ q.2 (fun _ _ e=>e) rfl⟩
 ·exact q.elim
theorem OJ:dH X (.type "list") xG:=by
 rintro pins s σ H xs us Q I r ⟨F,ds,K,sub,rd,q,md⟩
 unfold xG at q
 split at q
 ·obtain⟨v,rfl,a,vs,rfl,h1,h2⟩:=cR rd
  exact zW pins s σ H _ us Q I r ⟨a,vs,rfl,.inl (bx.of h1),fun l hl=>md _ _ _ q (cj hl) (ku sub hl h2)⟩
 ·rename_i es
  obtain⟨v,rfl,h⟩:=cR rd
  have h:Is F (.tup es) v:=h
  simp only[Is] at h
  obtain⟨a,vs,rfl,h1,h2⟩:=h
  exact zW pins s σ H _ us Q I r ⟨a,vs,rfl,.inr (bQ.of (sub _ _ h1)),fun l hl=>md _ _ _ q (cj hl) (ku sub hl h2)⟩
 ·exact q.elim
theorem OK:dH X (.type "tuple") xH:=by
 rintro pins s σ H xs us Q I r ⟨F,ds,K,sub,rd,q,md⟩
 unfold xH at q
 split at q
 ·obtain⟨v,rfl,a,vs,rfl,h1,h2⟩:=cR rd
  exact E9 pins s σ H _ us Q I r ⟨a,vs,rfl,.inl ⟨bx.of h1,fun l hl=>md _ _ _ q (cj hl) (xw sub hl h2)⟩⟩
 ·rename_i es
  obtain⟨v,rfl,h⟩:=cR rd
  have h0:Is F (.tup es) v:=h
  have h:Is F (.tup es) v:=h
  simp only[Is] at h
  obtain⟨a,vs,rfl,h1,h2⟩:=h
  exact E9 pins s σ H _ us Q I r ⟨a,vs,rfl,.inr ⟨bQ.of (sub _ _ h1),md _ _ _ q (fun _ _ e=>e) (u3 sub h0)⟩⟩
 ·exact q.elim
theorem OL:dH X (.builtin "sorted") u5:=by
 rintro pins s σ H xs us Q I r ⟨F,ds,K,sub,rd,q,md⟩
 unfold u5 at q
 split at q
 ·rename_i es
  split at q
  ·rename_i ns e
   obtain⟨v,rfl,a,vs,rfl,h1,h2⟩:=cR rd
   rw[u2 e] at h2
   rw[jB h2] at h1
   refine NW pins s σ H _ us Q I r ⟨a,ns,rfl,bx.of h1,q.1,fun l eV pm pw hl => ?_⟩
   rw[Bj pm pw]
   exact md _ _ _ q.2 (cj hl) (ku sub hl lJ)
  ·exact q.elim
 ·exact q.elim
theorem OM (hc:X.calm=true):dH X (.builtin "all") nY:=by
 rintro pins s σ H xs us Q I r ⟨F,ds,K,sub,rd,q,md⟩
 unfold nY at q
 split at q
 ·rename_i es
  split at q
  ·rename_i bs e
   obtain⟨v,rfl,a,vs,rfl,h1,h2⟩:=cR rd
   rw[GV e] at h2
   rw[GW h2] at h1
   exact NU hc pins s σ H _ us Q I r ⟨a,bs,rfl,bx.of h1,md _ _ _ q (fun _ _ e=>e) rfl⟩
  ·exact q.elim
 ·exact q.elim
theorem GX (hc:X.calm=true):dH X (.builtin "min") u6:=by
 rintro pins s σ H xs us Q I r ⟨F,ds,K,sub,rd,q,md⟩
 unfold u6 at q
 split at q
 ·rename_i i j
  obtain⟨v,w,rfl,h1,h2⟩:=OI rd
  have h1:v = .int i:=h1
  have h2:w = .int j:=h2
  subst h1 h2
  refine LG hc pins s σ H _ us Q I r ⟨i,j,rfl,?_⟩
  have:(if j < i then j else i)=min i j:=by split<;>omega
  rw[this]
  exact md _ _ _ q (fun _ _ e=>e) rfl
 ·exact q.elim
noncomputable def u7 (fa:WA):WE:=fun δ K=>fa δ fun xs δ1=>match xs with
 | [.p (.int j)]=>(0 <= j/\j <= 1000)/\K (.p (.lst (cE 0 j.toNat))) δ1
 | _=>False
theorem nZ (n:Nat):cE 0 n=(bO n).map D.int:=by
 unfold cE bO
 rw[Wt]
 refine XG fun i _ => ?_
 show D.int (0 + (i:Int))=D.int (i:Int)
 rw[Int.zero_add]
theorem Bk {a:Expr} {fa:WA} {p1 p2 q1 q2:Pos} (hc:X.calm=true) (qU:Gl X "list") (hl:X.mg "list" = none) (qV:bootBuiltins "list" = some (.type "list")) (qW:Gl X "range") (hr:X.mg "range" = none) (qX:bootBuiltins "range" = some (.type "range")) (ha:JA X [a] (cC fa))
  (he:starEach [a] X.env=[(false,eval a X.env)]:=by rfl) (qY:starEach [.Call (.Name "range" p2) [a] [] q2] X.env=[(false,eval (.Call (.Name "range" p2) [a] [] q2) X.env)]:=by rfl):JE X (.Call (.Name "list" p1) [.Call (.Name "range" p2) [a] [] q2] [] q1) (tD (u7 fa)) :=
 (pf (Gd hc) qU hl qV (lb (pf Ga qW hr qX ha (he:=he)) bS) (he:=qY)).weak fun σ H Q h0_ => el7 h0_ fun F ad δ K S q k =>⟨F,ad,δ,_,S,q,fun xs δ1 h1 vs F1 aR H1 E1 S1 V1=>by
  split at h1
  ·rename_i j
   obtain⟨v,r,e,W1,W2⟩:=V1
   have W2:r=[]:=W2
   have W1:v = .int j:=W1
   subst W2 W1 e
   refine⟨j,rfl,fun rr Bl=>⟨rr,j.toNat,rfl,by rw[bW,Int.toNat_of_nonneg h1.1.1],by omega,fun l hl => ?_⟩⟩
   have s1:az H1 (upd H1 rr (.rng 0 j)):=cj Bl
   have S2:=S1.al s1
   have E2:=Ext.al S1 s1
   refine k _ _ h1.2 _ _ _ _ ((E1.trans E2).trans (Ext.al S2 (cj hl))) (S2.al (cj hl)) ?_
   have:Is (Nw (Nw F1 H1 (upd H1 rr (.rng 0 j))) (upd H1 rr (.rng 0 j)) (upd (upd H1 rr (.rng 0 j)) l (.lst ((bO j.toNat).map V.int)))) (.lst ((bO j.toNat).map D.int)) (.ref l):=ku S2.sub hl lJ
   rw[nZ]
   exact this
  ·exact h1.elim⟩
noncomputable def cS (T:String):D->(D->Prop)->Prop:=fun d K=>K (.bl (aS (cA d) T))
theorem iF {T:String} {t:Str} {a:Expr} {f:WE} {p p2 pos:Pos} (hk:∀ d:D,PySem.W.kitOne X.K (.type (cA d)) (.type T)=some (aS (cA d) T)) (hg:Gl X "isinstance") (hm:X.mg "isinstance" = none) (ON:Gl X t) (OO:X.mg t=none) (OQ:bootBuiltins t=some (.type T)) (ha:JE X a (tD f))
  (uA:t ≠ "__name__" := by decide) (k9:(t == ("__debug__" : Str))=false:=by decide) (he:starEach [a,.Name t p2] X.env=(false,eval a X.env) :: starEach [.Name t p2] X.env:=by rfl):JE X (.Call (.Name "isinstance" p) [a,.Name t p2] [] pos) (tD (d1 f (cS T))) :=
 (wQ M4 hg hm PyProof.Rows.boot_isinstance (qA ha (iW (Nq ON OO OQ (v := .ty T) rfl uA k9) bS) he) (he:=he)).weak fun σ H Q h0_ => el7 h0_ fun F ad δ K S q k =>⟨F,ad,δ,_,S,q,fun x δ1 h1 v F1 aR H1 E1 S1 V1=>by
  obtain⟨d,h2,rd⟩:=iD S1 V1 h1
  refine⟨v,.ty T,.type T,.type (cA d),_,rfl,rfl,Is.ty (rd.is S1.sub),hk d,k _ _ h2 _ _ _ _ E1 S1 rfl⟩⟩
theorem Bm {K:PySem.W.Frag}:∀ d:D,PySem.W.kitOne K (.type (cA d)) (.type "int")=some (aS (cA d) "int"):=fun d=>M8 _ (uD d)
theorem u9 {K:PySem.W.Frag}:∀ d:D,PySem.W.kitOne K (.type (cA d)) (.type "bool")=some (aS (cA d) "bool"):=fun d=>M7 _ (uD d)
theorem GY {K:PySem.W.Frag}:∀ d:D,PySem.W.kitOne K (.type (cA d)) (.type "str")=some (aS (cA d) "str"):=fun d=>M9 _ (uD d)
theorem xI {K:PySem.W.Frag}:∀ d:D,PySem.W.kitOne K (.type (cA d)) (.type "tuple")=some (aS (cA d) "tuple"):=fun d=>kit_tuple _ (uD d)
theorem Bo {K:PySem.W.Frag}:∀ d:D,PySem.W.kitOne K (.type (cA d)) (.type "list")=some (aS (cA d) "list"):=fun d=>M_ _ (uD d)
noncomputable def gI (x:DV) (δ : ay) (K:Nat->List D->Prop):Prop:=match x with
 | .o k=>match δ.mu[k]? with
  | some (some (.lst ds))=>K k ds
  | _=>False
 | _=>False
theorem qZ {F H:Hp} {ad:List Addr} {δ : ay} {σ : St} {x:DV} {v:V} {K:Nat->List D->Prop} (S:SR F ad δ σ H) (V1:gF F ad x v) (h:gI x δ K):∃ k ds a vs,x = .o k/\K k ds/\v = .ref a/\ad[k]? = some a/\H a=some (.lst vs)/\af F ds vs /\ δ.mu[k]? = some (some (.lst ds)):=by
 unfold gI at h
 split at h
 ·rename_i k
  split at h
  ·rename_i ds e
   obtain⟨a,e1,rfl⟩:=V1
   obtain⟨a',o,e2,e3,vs,rfl,h4⟩:=S.mu k _ e
   rw[e1] at e2;cases e2
   exact⟨k,ds,a,vs,rfl,h,rfl,e1,e3,h4,e⟩
  ·exact h.elim
 ·exact h.elim
noncomputable def lL (f:WE) (fa:WA):WE:=fun δ K=>f δ fun x δ1=>gI x δ1 fun _ _=>fa δ1 fun ys δ2=>match ys with
 | [y]=>nK y δ2 fun d δ3=>gI x δ3 fun k ds=>ds.length < 1000/\K (.p .non) ⟨δ3.sl,δ3.mu.set k (some (.lst (ds ++ [d])))⟩
 | _=>False
theorem Bp {f:WE} {fa:WA} {K0:PySem.W.Frag}:∀ σ H Q,tD (lL f fa) σ H Q->o8 K0 "list" zX (tD f) (cC fa) σ H Q:=fun σ H Q h0_ => el7 h0_ fun F ad δ K S q k =>⟨F,ad,δ,_,S,q,fun x δ1 h1 v F1 aR H1 E1 S1 V1=>by
 obtain⟨k0,GZ,a,vs,rfl,h2,rfl,e1,e2,i1,m1⟩:=qZ S1 V1 h1
 refine⟨.inl ⟨rfl,vs,bx.of e2⟩,F1,aR,δ1,_,S1,h2,fun ys δ2 h3 us F2 c7 H2 E2 S2 V2 => ?_⟩
 match ys,h3,V2 with
 | [y],g3,⟨u,r,e,W1,W2⟩ =>
  have W3:r=[]:=W2
  subst W3 e
  obtain⟨d,δ3,F3,h4,E3,S3,i3⟩:=uP S2 W1 g3
  obtain⟨k1,ds,b,ws,ek,h5,eb,e3,e4,i4,m4⟩:=qZ (x := .o k0) S3 ((V1.ext E2).ext E3) h4
  cases ek
  have u_:a=b:=by injection eb
  subst u_
  have oi:gq F3 (.lst (ds ++ [d])) (.lst (ws ++ [u])):=⟨_,rfl,i4.snoc i3⟩
  refine⟨a,ws,u,rfl,rfl,e4,o_ (by rw[i4.length];omega),?_⟩
  exact k _ _ h5.2 _ _ _ _ (((E1.trans E2).trans E3).trans (Ext.put S3 m4 e3)) (S3.put m4 e3 oi) rfl
 | [],g3,_=>exact g3.elim
 | _ :: _ :: _,g3,_=>exact g3.elim⟩
noncomputable def q9 (f:WE) (fa:WA):WE:=fun δ K=>f δ fun x δ1=>gI x δ1 fun _ _=>fa δ1 fun ys δ2=>match ys with
 | [.p (.lst es)]=>gI x δ2 fun k ds=>ds.length + es.length <= 1000/\K (.p .non) ⟨δ2.sl,δ2.mu.set k (some (.lst (ds ++ es)))⟩
 | _=>False
theorem OR {f:WE} {fa:WA} {K0:PySem.W.Frag}:∀ σ H Q,tD (q9 f fa) σ H Q->o8 K0 "list" Fd (tD f) (cC fa) σ H Q:=fun σ H Q h0_ => el7 h0_ fun F ad δ K S q k =>⟨F,ad,δ,_,S,q,fun x δ1 h1 v F1 aR H1 E1 S1 V1=>by
 obtain⟨k0,GZ,a,vs,rfl,h2,rfl,e1,e2,i1,m1⟩:=qZ S1 V1 h1
 refine⟨.inl ⟨rfl,vs,bx.of e2⟩,F1,aR,δ1,_,S1,h2,fun ys δ2 h3 us F2 c7 H2 E2 S2 V2 => ?_⟩
 split at h3
 ·rename_i es
  obtain⟨u,r,e,W1,W2⟩:=V2
  have W3:r=[]:=W2
  have W4:Is F2 (.lst es) u:=W1
  simp only[Is] at W4
  obtain⟨b,zs,rfl,z1,z2⟩:=W4
  subst W3 e
  obtain⟨k1,ds,b',ws,ek,h5,eb,e3,e4,i4,m4⟩:=qZ (x := .o k0) S2 (V1.ext E2) h3
  cases ek
  have u_:a=b':=by injection eb
  subst u_
  have oi:gq F2 (.lst (ds ++ es)) (.lst (ws ++ zs)):=⟨_,rfl,sG i4 z2⟩
  refine⟨a,b,ws,zs,rfl,rfl,e4,S2.sub _ _ z1,lr (by rw[i4.length,z2.length];exact h5.1),?_⟩
  exact k _ _ h5.2 _ _ _ _ ((E1.trans E2).trans (Ext.put S2 m4 e3)) (S2.put m4 e3 oi) rfl
 ·exact h3.elim⟩
noncomputable def xJ (f:WE) (fa:WA):WE:=fun δ K=>f δ fun x δ1=>gI x δ1 fun _ _=>fa δ1 fun ys δ2=>match ys with
 | [.p (.int i)]=>gI x δ2 fun k ds=>(-(2 ^ 63) <= i/\i < 2 ^ 63)/\match seqIndex? i ds.length with
  | some j=>match ds[j]? with
   | some d=>K (.p d) ⟨δ2.sl,δ2.mu.set k (some (.lst (ds.eraseIdx j)))⟩
   | none=>False
  | none=>False
 | _=>False
theorem G0 {f:WE} {fa:WA} {K0:PySem.W.Frag}:∀ σ H Q,tD (xJ f fa) σ H Q->o8 K0 "list" Fe (tD f) (cC fa) σ H Q:=fun σ H Q h0_ => el7 h0_ fun F ad δ K S q k =>⟨F,ad,δ,_,S,q,fun x δ1 h1 v F1 aR H1 E1 S1 V1=>by
 obtain⟨k0,GZ,a,vs,rfl,h2,rfl,e1,e2,i1,m1⟩:=qZ S1 V1 h1
 refine⟨.inl ⟨rfl,vs,bx.of e2⟩,F1,aR,δ1,_,S1,h2,fun ys δ2 h3 us F2 c7 H2 E2 S2 V2 => ?_⟩
 split at h3
 ·rename_i i
  obtain⟨u,r,e,W1,W2⟩:=V2
  have W3:r=[]:=W2
  have W4:u = .int i:=W1
  subst W3 W4 e
  obtain⟨k1,ds,b',ws,ek,⟨h5,h6⟩,eb,e3,e4,i4,m4⟩:=qZ (x := .o k0) S2 (V1.ext E2) h3
  cases ek
  have u_:a=b':=by injection eb
  subst u_
  split at h6
  ·rename_i j hj
   split at h6
   ·rename_i d hd
    obtain⟨w,g1,g2⟩:=pE i4 hd
    have oi:gq F2 (.lst (ds.eraseIdx j)) (.lst (ws.eraseIdx j)):=⟨_,rfl,GL j i4⟩
    refine⟨a,ws,i,j,w,rfl,rfl,e4,h5.1,h5.2,by rw[i4.length];exact hj,g1,?_⟩
    exact k _ _ h6 _ _ _ _ ((E1.trans E2).trans (Ext.put S2 m4 e3)) (S2.put m4 e3 oi) g2
   ·exact h6.elim
  ·exact h6.elim
 ·exact h3.elim⟩
noncomputable def q_ (f fo fi:WE):WS:=fun K δ => f δ fun x δ1=>fo δ1 fun o δ2=>fi δ2 fun i δ3=>nK x δ3 fun d δ4=>gI o δ4 fun k ds=>match i with
 | .p (.int j)=>match iU ds.length j with
  | some m=>K.nx ⟨δ4.sl,δ4.mu.set k (some (.lst (ds.set m d)))⟩
  | none=>False
 | _=>False
theorem xK {f fo fi:WE}:∀ D σ H,dw (q_ f fo fi) D σ H->gC (tD f) (qf (tD fo) (tD fi) EZ) D σ H:=fun D σ H h0_ => el7 h0_ fun F ad δ K S q k =>⟨F,ad,δ,_,S,q,fun x δ1 h1 v F1 aR H1 E1 S1 V1=>⟨F1,aR,δ1,_,S1,h1,fun o δ2 h2 ov F2 c7 H2 E2 S2 V2=>⟨F2,c7,δ2,_,S2,h2,fun i δ3 h3 iv F3 qJ H3 E3 S3 V3=>by
 obtain⟨d,δ4,F4,h4,E4,S4,i4⟩:=uP S3 ((V1.ext E2).ext E3) h3
 obtain⟨k0,ds,a,vs,rfl,h5,rfl,e1,e2,i1,m1⟩:=qZ S4 ((V2.ext E3).ext E4) h4
 split at h5
 ·rename_i j
  split at h5
  ·rename_i m hm
   have V3:iv = .int j:=V3
   subst V3
   have oi:gq F4 (.lst (ds.set m d)) (.lst (vs.set m v)):=⟨_,rfl,GK m i1 i4⟩
   refine⟨a,vs,j,m,rfl,rfl,e2,by rw[i1.length];exact hm,?_⟩
   exact k.nx _ h5 _ _ _ _ ((((E1.trans E2).trans E3).trans E4).trans (Ext.put S4 m1 e1)) (S4.put m1 e1 oi)
  ·exact h5.elim
 ·exact h5.elim⟩⟩⟩
noncomputable def bM:D->List D->(D->Prop)->Prop
 | .lst ds,[d],K=>(dI d=true/\ds.all dI=true)/\K (.int (ds.countP fun e=>aA e d:Nat))
 | _,_,_=>False
where dI:D->Bool
 | .tup _=>false
 | .lst _=>false
 | _=>true
noncomputable def toV:D->V
 | .non => .non
 | .bl b => .bl b
 | .int i => .int i
 | .str x => .str x
 | _ => .non
theorem G1 {F:Hp} {d:D} {v:V} (hf:bM.dI d=true) (h:Is F d v):v=toV d/\mz v=true:=by
 cases d with
 | non=>cases (show v=_ from h);exact⟨rfl,rfl⟩
 | bl _=>cases (show v=_ from h);exact⟨rfl,rfl⟩
 | int _=>cases (show v=_ from h);exact⟨rfl,rfl⟩
 | str _=>cases (show v=_ from h);exact⟨rfl,rfl⟩
 | tup _=>cases hf
 | lst _=>cases hf
theorem OS {d e:D} (hd:bM.dI d=true) (he:bM.dI e=true):kg (toV e) (toV d)=aA e d:=by
 cases d<;>cases e<;>first | (cases hd;done) | (cases he;done) | (simp[toV,kg,aA])
theorem count_is {F:Hp} {d:D} (hd:bM.dI d=true):∀ {ds:List D} {vs:List V},ds.all bM.dI=true->af F ds vs->vs.all mz=true/\vs.countP (fun z=>kg z (toV d))=ds.countP fun e=>aA e d
 | [],vs,_,h=>by simp only[af] at h;subst h;exact⟨rfl,rfl⟩
 | e :: r,vs,ha,h=>by
  simp only[af] at h
  obtain⟨v,t,rfl,h1,h2⟩:=h
  simp only[YK,Wl] at ha
  obtain⟨g1,g2⟩:=G1 ha.1 h1
  obtain⟨g3,g4⟩:=count_is hd ha.2 h2
  refine⟨by rw[YK,g2,g3];rfl,?_⟩
  rw[WB,WB,g4,g1,OS hd ha.1]
noncomputable def rV:D->Bool
 | .lst _=>true
 | _=>false
noncomputable def jd (f:WE) (fa:WA) (op:D->List D->(D->Prop)->Prop):WE:=fun δ K=>f δ fun x δ1=>fM x δ1 fun d0=>rV d0=true/\fa δ1 fun xs δ2=>fM x δ2 fun d=>iX xs δ2 fun ds=>op d ds fun z=>K (.p z) δ2
theorem OT {f:WE} {fa:WA} {K0:PySem.W.Frag} {op:D->List D->(D->Prop)->Prop} {r:V->List V->Hp->VK->Prop} (hr:∀ x xs H Q,(∃ F d ds K,az F H/\hW F H d x/\iY F H ds xs/\op d ds K/\Made F H K Q)->r x xs H Q):∀ σ H Q,tD (jd f fa op) σ H Q->o8 K0 "list" r (tD f) (cC fa) σ H Q:=fun σ H Q h0_ => el7 h0_ fun F ad δ K S q k =>
 ⟨F,ad,δ,_,S,q,fun x δ1 h1 v F1 aR H1 E1 S1 V1=>by
  obtain⟨d0,⟨hl,h2⟩,Bq⟩:=iD S1 V1 h1
  have ty:wD K0 "list" v H1:=by
   cases d0 with
   | lst es=>obtain⟨a,vs,rfl,h3,_⟩:=Bq;exact .inl ⟨rfl,vs,bx.of h3⟩
   | non=>cases hl
   | bl _=>cases hl
   | int _=>cases hl
   | str _=>cases hl
   | tup _=>cases hl
  refine⟨ty,F1,aR,δ1,_,S1,h2,fun xs δ2 h3 vs F2 c7 H2 E2 S2 V2=>hr _ _ _ _ ?_⟩
  obtain⟨d,h4,rd⟩:=iD S2 (V1.ext E2) h3
  obtain⟨ds,h5,lj⟩:=uM S2 V2 h4
  exact⟨F2,d,ds,_,S2.sub,rd,lj,h5,fun z v H' hz sm is=>k _ _ hz _ _ _ _ ((E1.trans E2).trans (Ext.al S2 sm)) (S2.al sm) is⟩⟩
theorem Br {f:WE} {fa:WA} {K0:PySem.W.Frag}:∀ σ H Q,tD (jd f fa bM) σ H Q->o8 K0 "list" (FE K0) (tD f) (cC fa) σ H Q:=OT fun x xs H Q ⟨F,d,ds,K,sub,rd,lj,q,md⟩=>by
 unfold bM at q
 split at q
 ·rename_i es e
  obtain⟨a,vs,rfl,h1,h2⟩:=rd
  obtain⟨w,rfl,h3⟩:=cR lj
  have h4:Is F e w:=by
   cases e with
   | lst _=>cases q.1.1
   | tup _=>exact h3
   | non=>exact h3
   | bl _=>exact h3
   | int _=>exact h3
   | str _=>exact h3
  obtain⟨g1,g2⟩:=G1 q.1.1 h4
  obtain⟨g3,g4⟩:=count_is q.1.1 q.1.2 h2
  refine⟨a,vs,w,rfl,rfl,bx.of h1,g2,g3,?_⟩
  rw[g1,g4]
  exact md _ _ _ q.2 (fun _ _ e=>e) rfl
 ·exact q.elim
end
end L2
namespace L2
open PySem PySem.Spec PyProof.Rows PySem.W
noncomputable abbrev LK:=List Int
noncomputable def kle (a b:LK):Prop:=HT.lexLt b a=false
theorem xM:∀ a:LK,HT.lexLt a a=false
 | []=>rfl
 | x :: r=>by rw[HT.mx,MD rfl];exact xM r
theorem xN:∀ {a b:LK},HT.lexLt a b=false->HT.lexLt b a=false->a=b
 | [],[],_,_=>rfl
 | [],_ :: _,h,_=>by cases h
 | _ :: _,[],_,h=>by cases h
 | x :: r,y :: s,h,q=>by
  rw[HT.mx] at h q
  by_cases c:x=y
  ·subst c
   rw[MD rfl] at h q
   rw[xN h q]
  ·rw[MA c] at h
   rw[MA (fun z=>c z.symm)] at q
   simp at h q;omega
theorem Bs:∀ {a b c:LK},HT.lexLt a b=true->HT.lexLt b c=true->HT.lexLt a c=true
 | [],[],_,h,_=>by cases h
 | [],_ :: _,[],_,q=>by cases q
 | [],_ :: _,_ :: _,_,_=>rfl
 | _ :: _,[],_,h,_=>by cases h
 | _ :: _,_ :: _,[],_,q=>by cases q
 | x :: r,y :: s,z :: t,h,q=>by
  rw[HT.mx] at h q ⊢
  by_cases c1:x=y
  ·subst c1
   rw[MD rfl] at h
   by_cases c2:x=z
   ·subst c2
    rw[MD rfl] at q ⊢
    exact Bs h q
   ·rw[MA c2] at q ⊢;exact q
  ·rw[MA c1] at h
   by_cases c2:y=z
   ·subst c2
    rw[MA c1];exact h
   ·rw[MA c2] at q
    have h1:x < y:=by simpa using h
    have h2:y < z:=by simpa using q
    rw[MA (by omega)]
    simp;omega
theorem kle_refl (a:LK):kle a a:=xM a
theorem xO {a b:LK} (h:HT.lexLt a b=true):kle a b:=by
 unfold kle
 cases q:HT.lexLt b a with
 | false=>rfl
 | true=>have:=Bs h q;rw[xM] at this;cases this
theorem kle_trans {a b c:LK} (h1:kle a b) (h2:kle b c):kle a c:=by
 unfold kle at *
 cases q:HT.lexLt c a with
 | false=>rfl
 | true =>
  cases q2:HT.lexLt a b with
  | true=>have:=Bs q q2;rw[h2] at this;cases this
  | false =>
   have e:=xN q2 h1
   subst e;rw[h2] at q;cases q
theorem G2 {a b:LK} (h1:kle a b) (h2:kle b a):a=b:=xN h2 h1
section
variable {n:Nat} {k:Nat->LK} {I:Shared->Prop} {cmp:Nat->Nat->(Bool->Shared->Prop)->Shared->Prop}
noncomputable def pH (n:Nat) (k:Nat->LK) (I:Shared->Prop) (cmp:Nat->Nat->(Bool->Shared->Prop)->Shared->Prop):Prop :=
 ∀ (i j:Nat) (C:Bool->Shared->Prop) (s:Shared),i < n->j < n->I s->(∀ s',I s'->C (HT.lexLt (k i) (k j)) s')->cmp i j C s
noncomputable def KA (k:Nat->LK) (p:Array Nat) (i:Nat):LK:=k (p.getD i 0)
structure dg (n:Nat) (p:Array Nat):Prop where
 perm:p.Perm (List.range n).toArray
theorem dg.size {p:Array Nat} (h:dg n p):p.size=n:=by have:=h.perm.size_eq;simpa using this
theorem dg.lt {p:Array Nat} (h:dg n p) {i:Nat} (hi:i < n):p.getD i 0 < n:=by
 have hs:=h.size
 have e:p.getD i 0=p[i]:=by simp[Array.getD,hs,hi]
 rw[e]
 have:p[i]∈(List.range n).toArray:=(h.perm.mem_iff).mp (Array.getElem_mem _)
 simpa using this
theorem va {p q:Array Nat} {i j:Nat} (h:p[i]? = q[j]?):p.getD i 0=q.getD j 0:=by
 rw[W5,W5,h]
theorem xP {p:Array Nat} {i j:Nat} (hj:j <= p.size) (t:Nat):KA k (kas_rev p i j) t=if i <= t/\t < j then KA k p (i + j - 1 - t) else KA k p t:=by
 have e:=getElem?_mirror_all (xs:=p) (i:=i) hj t
 unfold KA kas_rev
 by_cases c:i <= t/\t < j
 ·rw[MD c] at e ⊢;rw[va e]
 ·rw[MA c] at e ⊢;rw[va e]
theorem OU {p:Array Nat} {src d:Nat} (hs:src < p.size) (hd:d <= src) (t:Nat) :
  KA k (bubble p src d) t=if t=src - d then KA k p src else if src - d < t/\t <= src then KA k p (t - 1) else KA k p t:=by
 have e:=getElem?_bubble hs d hd t
 unfold KA
 by_cases c:t=src - d
 ·rw[MD c] at e ⊢;rw[va e]
 ·rw[MA c] at e ⊢
  by_cases c2:src - d < t/\t <= src
  ·rw[MD c2] at e ⊢;rw[va e]
  ·rw[MA c2] at e ⊢;rw[va e]
noncomputable def Up (k:Nat->LK) (p:Array Nat) (m:Nat):Prop:=∀ i j,i <= j->j < m->kle (KA k p i) (KA k p j)
noncomputable def Dn (k:Nat->LK) (p:Array Nat) (m:Nat):Prop:=∀ i j,i <= j->j < m->kle (KA k p j) (KA k p i)
theorem Up.snoc {p:Array Nat} {m:Nat} (h:Up k p m) (hm:1 <= m) (q:kle (KA k p (m - 1)) (KA k p m)):Up k p (m + 1):=fun i j iP hj=>by
 by_cases c:j < m
 ·exact h i j iP c
 ·have e:j=m:=by omega
  subst e
  by_cases c2:i=j
  ·subst c2;exact kle_refl _
  ·exact kle_trans (h i (j - 1) (by omega) (by omega)) q
theorem Dn.snoc {p:Array Nat} {m:Nat} (h:Dn k p m) (hm:1 <= m) (q:kle (KA k p m) (KA k p (m - 1))):Dn k p (m + 1):=fun i j iP hj=>by
 by_cases c:j < m
 ·exact h i j iP c
 ·have e:j=m:=by omega
  subst e
  by_cases c2:i=j
  ·subst c2;exact kle_refl _
  ·exact kle_trans q (h i (j - 1) (by omega) (by omega))
theorem Up.one {p:Array Nat}:Up k p 1:=fun i j iP hj=>by
 have:i=j:=by omega
 subst this;exact kle_refl _
theorem Dn.one {p:Array Nat}:Dn k p 1:=fun i j iP hj=>by
 have:i=j:=by omega
 subst this;exact kle_refl _
theorem dg.rev {p:Array Nat} (h:dg n p) (i j:Nat):dg n (kas_rev p i j):=⟨(mirror_perm _ _ _ _).trans h.perm⟩
theorem dg.OW {p:Array Nat} (h:dg n p) (i j:Nat):dg n (bubble p i j):=⟨(bubble_perm _ _ _).trans h.perm⟩
theorem G3 (hc:pH n k I cmp) {p:Array Nat} (hp:dg n p):∀ (f m:Nat) (s:Shared) (Q:Nat->Shared->Prop),1 <= m->m + f=n->Up k p m->I s →
  (∀ m' s',m <= m'->m' <= n->Up k p m'->I s'->Q m' s')->(kas_asc p f m).kasWp cmp Q s
 | 0,m,s,Q,h1,h2,up,hi,fin=>fin m s (wG _) (by omega) up hi
 | f + 1,m,s,Q,h1,h2,up,hi,fin=>by
  show cmp _ _ _ s
  refine hc _ _ _ s (hp.lt (by omega)) (hp.lt (by omega)) hi fun s' bZ => ?_
  cases q:HT.lexLt (k (p.getD m 0)) (k (p.getD (m - 1) 0)) with
  | true=>dsimp only;rw[MD rfl];exact fin m s' (wG _) (by omega) up bZ
  | false =>
   dsimp only;rw[MA Vy]
   exact G3 hc hp f (m + 1) s' Q (by omega) (by omega) (up.snoc h1 q) bZ fun m' iT a b c d=>fin m' iT (by omega) b c d
noncomputable def Bt (k:Nat->LK) (p:Array Nat) (m q:Nat):Prop:=∀ t,m - (q + 1) <= t->t < m->KA k p t=KA k p (m - 1)
theorem G4 {p:Array Nat} {m q:Nat} (hs:m <= p.size) (hq:q + 1 <= m) (e:Bt k p m q) (t:Nat):KA k (kas_rev p (m - (q + 1)) m) t=KA k p t:=by
 rw[xP hs]
 split
 ·rename_i c
  rw[e _ (by omega) (by omega),e t c.1 c.2]
 ·rfl
theorem Dn.congr {p p':Array Nat} {m:Nat} (h:Dn k p m) (e:∀ t,KA k p' t=KA k p t):Dn k p' m:=fun i j a b=>by rw[e,e];exact h i j a b
theorem xQ (hc:pH n k I cmp):∀ (f:Nat) (p:Array Nat) (m q:Nat) (s:Shared) (Q:Array Nat × Nat × Nat->Shared->Prop),dg n p->1 <= m->m + f=n->q + 1 <= m->Dn k p m->Bt k p m q->I s →
  (∀ p' m' q' s',dg n p'->m <= m'->m' <= n->q' + 1 <= m'->Dn k p' m'->Bt k p' m' q'->I s'->Q (p',m',q') s')->(kas_desc f p m q).kasWp cmp Q s
 | 0,p,m,q,s,Q,hp,h1,h2,hq,dn,es,hi,fin=>fin p m q s hp (wG _) (by omega) hq dn es hi
 | f + 1,p,m,q,s,Q,hp,h1,h2,hq,dn,es,hi,fin=>by
  show cmp _ _ _ s
  refine hc _ _ _ s (hp.lt (by omega)) (hp.lt (by omega)) hi fun s' bZ => ?_
  have sz:=hp.size
  cases c1:HT.lexLt (k (p.getD m 0)) (k (p.getD (m - 1) 0)) with
  | true =>
   dsimp only;rw[MD rfl]
   have st:kle (KA k p m) (KA k p (m - 1)):=xO c1
   by_cases G5:q > 0
   ·rw[MD G5]
    have e:=G4 (k:=k) (p:=p) (m:=m) (q:=q) (by omega) hq es
    refine xQ hc f _ (m + 1) 0 s' Q (hp.rev _ _) (by omega) (by omega) (by omega) ((dn.snoc h1 st).congr e) (fun t a b => ?_) bZ fun p' m' q' iT a b c d e g i=>fin p' m' q' iT a (by omega) c d e g i
    have:t=m + 1 - 1:=by omega
    rw[this]
   ·rw[MA G5]
    refine xQ hc f p (m + 1) 0 s' Q hp (by omega) (by omega) (by omega) (dn.snoc h1 st) (fun t a b => ?_) bZ fun p' m' q' iT a b c d e g i=>fin p' m' q' iT a (by omega) c d e g i
    have:t=m + 1 - 1:=by omega
    rw[this]
  | false =>
   dsimp only;rw[MA Vy]
   show cmp _ _ _ s'
   refine hc _ _ _ s' (hp.lt (by omega)) (hp.lt (by omega)) bZ fun s2 n5 => ?_
   cases c2:HT.lexLt (k (p.getD (m - 1) 0)) (k (p.getD m 0)) with
   | true=>dsimp only;rw[MD rfl];exact fin p m q s2 hp (wG _) (by omega) hq dn es n5
   | false =>
    dsimp only;rw[MA Vy]
    have eq:KA k p m=KA k p (m - 1):=xN c1 c2
    refine xQ hc f p (m + 1) (q + 1) s2 Q hp (by omega) (by omega) (by omega) (dn.snoc h1 (by rw[eq];exact kle_refl _)) (fun t a b => ?_) n5 fun p' m' q' iT a b c d e g i=>fin p' m' q' iT a (by omega) c d e g i
    show KA k p t=KA k p m
    by_cases z:t=m
    ·rw[z]
    ·rw[es t (by omega) (by omega),eq]
theorem Dn.rev {p:Array Nat} {m:Nat} (h:Dn k p m) (hs:m <= p.size):Up k (kas_rev p 0 m) m:=fun i j iP hj=>by
 rw[xP hs,xP hs,MD ⟨WK _,by omega⟩,MD ⟨WK _,hj⟩]
 exact h _ _ (by omega) (by omega)
theorem G6 (hc:pH n k I cmp) {p:Array Nat} (hp:dg n p) {m:Nat} {s:Shared} {Q:Nat × Array Nat->Shared->Prop} (h1:1 <= m) (hm:m <= n) (dn:Dn k p m) (hi:I s)
  (fin:∀ p' m' s',dg n p'->1 <= m'->m' <= n->Up k p' m'->I s'->Q (m',p') s'):(kas_tail3 m n p).kasWp cmp Q s:=by
 unfold kas_tail3
 rw[KasT.kasWp_bind]
 have sz:=hp.size
 refine G3 hc (hp.rev 0 m) (n - m) m s _ h1 (by omega) (dn.rev (by omega)) hi fun m' s' a b c d => ?_
 exact fin _ m' s' (hp.rev 0 m) (by omega) b c d
theorem G7 (hc:pH n k I cmp) {p:Array Nat} (hp:dg n p) {m:Nat} {s:Shared} {Q:Nat × Array Nat->Shared->Prop} (h1:1 <= m) (hm:m + 1 <= n) (dn:Dn k p (m + 1)) (hi:I s)
  (fin:∀ p' m' s',dg n p'->1 <= m'->m' <= n->Up k p' m'->I s'->Q (m',p') s'):(kas_descPart m n p).kasWp cmp Q s:=by
 unfold kas_descPart
 rw[KasT.kasWp_bind]
 refine xQ hc (n - (m + 1)) p (m + 1) 0 s _ hp (by omega) (by omega) (by omega) dn (fun t a b => ?_) hi fun p' m' q' s' a b c d e g i => ?_
 ·have:t=m + 1 - 1:=by omega
  rw[this]
 ·have sz:=a.size
  dsimp only
  by_cases hq:q' > 0
  ·rw[MD hq]
   exact G6 hc (a.rev _ _) (by omega) c (e.congr (G4 (by omega) d g)) i fin
  ·rw[MA hq]
   exact G6 hc a (by omega) c e i fin
theorem OX (hc:pH n k I cmp) {p:Array Nat} (hp:dg n p) {s:Shared} {Q:Nat × Array Nat->Shared->Prop} (h1:1 <= n) (hi:I s)
  (fin:∀ p' m' s',dg n p'->1 <= m'->m' <= n->Up k p' m'->I s'->Q (m',p') s'):(kas_count n p).kasWp cmp Q s:=by
 unfold kas_count
 rw[KasT.kasWp_bind]
 have sz:=hp.size
 have key:∀ (f m:Nat) (s:Shared) (Q':Nat->Shared->Prop),1 <= m->m + f=n->Up k p m->I s →
   (∀ m' s',m <= m'->m' <= n->Up k p m'->(m' < n->HT.lexLt (KA k p m') (KA k p (m' - 1))=true)->I s'->Q' m' s')->(kas_asc p f m).kasWp cmp Q' s:=by
  intro f
  induction f with
  | zero=>intro m s Q' a b up hi fin;exact fin m s (wG _) (by omega) up (fun z=>absurd z (by omega)) hi
  | succ f ih =>
   intro m s Q' a b up hi fin
   show cmp _ _ _ s
   refine hc _ _ _ s (hp.lt (by omega)) (hp.lt (by omega)) hi fun s' bZ => ?_
   cases q:HT.lexLt (k (p.getD m 0)) (k (p.getD (m - 1) 0)) with
   | true=>dsimp only;rw[MD rfl];exact fin m s' (wG _) (by omega) up (fun _=>q) bZ
   | false =>
    dsimp only;rw[MA Vy]
    exact ih (m + 1) s' Q' (by omega) (by omega) (up.snoc a q) bZ fun m' iT a b c d e=>fin m' iT (by omega) b c d e
 refine key (n - 1) 1 s _ (wG _) (by omega) Up.one hi fun m s' a b up nx bZ => ?_
 by_cases c1:m=n
 ·subst c1
  rw[MD (by simp)]
  exact fin p m s' hp a (wG _) up bZ
 ·rw[MA (by simpa using c1)]
  have cK:m < n:=by omega
  have nx:=nx cK
  by_cases c2:m > 1
  ·rw[MD c2]
   show cmp _ _ _ s'
   refine hc _ _ _ s' (hp.lt (by omega)) (hp.lt (by omega)) bZ fun s2 n5 => ?_
   cases q:HT.lexLt (k (p.getD 0 0)) (k (p.getD (m - 1) 0)) with
   | true=>dsimp only;rw[MD rfl];exact fin p m s2 hp a b up n5
   | false =>
    dsimp only;rw[MA Vy]
    have al:∀ t,t < m->KA k p t=KA k p (m - 1):=fun t ht=>by
     refine G2 (up t (m - 1) (by omega) (by omega)) (kle_trans q (up 0 t (WK _) ht))
    have e:∀ t,KA k (kas_rev p 0 m) t=KA k p t:=fun t=>by
     rw[xP (by omega)]
     split
     ·rename_i c;rw[al _ (by omega),al t c.2]
     ·rfl
    refine G7 hc (hp.rev 0 m) (by omega) (by omega) (Dn.congr (p:=p) ?_ e) n5 fin
    refine Dn.snoc (fun i j iP hj => ?_) (by omega) (xO nx)
    rw[al i (by omega),al j hj];exact kle_refl _
  ·rw[MA c2]
   have:m=1:=by omega
   subst this
   exact G7 hc hp (by omega) (by omega) (Dn.one.snoc (wG _) (xO nx)) bZ fin
theorem Bu (hc:pH n k I cmp) {p:Array Nat} (hp:dg n p) {t:Nat} (ht:t < n) (up:Up k p t):∀ (f l r:Nat) (s:Shared) (Q:Nat->Shared->Prop),l <= r->r <= t->r - l <= f →
  (∀ i,i < l->kle (KA k p i) (KA k p t))->(∀ i,r <= i->i < t->kle (KA k p t) (KA k p i))->I s →
  (∀ l' s',l' <= t->(∀ i,i < l'->kle (KA k p i) (KA k p t))->(∀ i,l' <= i->i < t->kle (KA k p t) (KA k p i))->I s'->Q l' s')->(kas_place p t f l r).kasWp cmp Q s
 | 0,l,r,s,Q,h1,h2,h3,lo,sH,hi,fin=>by
  have:l=r:=by omega
  subst this
  exact fin l s h2 lo sH hi
 | f + 1,l,r,s,Q,h1,h2,h3,lo,sH,hi,fin=>by
  unfold kas_place
  by_cases c:l ≥ r
  ·rw[MD c]
   have:l=r:=by omega
   subst this
   exact fin l s h2 lo sH hi
  ·rw[MA c]
   show cmp _ _ _ s
   refine hc _ _ _ s (hp.lt ht) (hp.lt (by omega)) hi fun s' bZ => ?_
   cases q:HT.lexLt (k (p.getD t 0)) (k (p.getD ((l + r) / 2) 0)) with
   | true =>
    dsimp only;rw[MD rfl]
    refine Bu hc hp ht up f l ((l + r) / 2) s' Q (by omega) (by omega) (by omega) lo (fun i a b => ?_) bZ fin
    exact kle_trans (xO q) (up _ _ a b)
   | false =>
    dsimp only;rw[MA Vy]
    refine Bu hc hp ht up f ((l + r) / 2 + 1) r s' Q (by omega) h2 (by omega) (fun i a => ?_) sH bZ fin
    exact kle_trans (up i ((l + r) / 2) (by omega) (by omega)) q
theorem G8 (hc:pH n k I cmp):∀ (f:Nat) (p:Array Nat) (t:Nat) (s:Shared) (Q:Array Nat->Shared->Prop),dg n p->t + f=n->Up k p t->I s →
  (∀ p' s',dg n p'->Up k p' n->I s'->Q p' s')->(kas_bin f p t).kasWp cmp Q s
 | 0,p,t,s,Q,hp,h2,up,hi,fin=>by
  have:t=n:=by omega
  subst this
  exact fin p s hp up hi
 | f + 1,p,t,s,Q,hp,h2,up,hi,fin=>by
  unfold kas_bin
  rw[KasT.kasWp_bind]
  have sz:=hp.size
  refine Bu hc hp (by omega) up t 0 t s _ (WK _) (wG _) (by omega) (fun i a=>absurd a (by omega)) (fun i a b=>absurd b (by omega)) hi fun l s' hl lo sH bZ => ?_
  refine G8 hc f _ (t + 1) s' Q (hp.OW _ _) (by omega) (fun i j iP hj => ?_) bZ fin
  have kb:=fun x=>OU (k:=k) (p:=p) (src:=t) (d:=t - l) (by omega) (by omega) x
  have el:t - (t - l)=l:=by omega
  rw[kb i,kb j,el]
  by_cases c1:i=l
  ·subst c1
   rw[MD rfl]
   by_cases c2:j=i
   ·rw[MD c2];exact kle_refl _
   ·rw[MA c2,MD ⟨by omega,by omega⟩]
    exact sH (j - 1) (by omega) (by omega)
  ·rw[MA c1]
   by_cases c2:j=l
   ·subst c2
    rw[MD rfl,MA (by omega)]
    exact lo i (by omega)
   ·rw[MA c2]
    by_cases c3:l < i/\i <= t
    ·rw[MD c3,MD ⟨by omega,by omega⟩]
     exact up _ _ (by omega) (by omega)
    ·rw[MA c3]
     by_cases c4:l < j/\j <= t
     ·rw[MD c4];exact up _ _ (by omega) (by omega)
     ·rw[MA c4];exact up _ _ iP (by omega)
theorem G9 (hc:pH n k I cmp) {s:Shared} {Q:Array Nat->Shared->Prop} (h1:1 <= n) (hi:I s) (fin:∀ p s',dg n p->Up k p n->I s'->Q p s'):(kas_sort n).kasWp cmp Q s:=by
 unfold kas_sort
 rw[KasT.kasWp_bind]
 refine OX hc ⟨q0w _⟩ h1 hi fun p m s' a b c d e => ?_
 dsimp only
 by_cases q:m < n
 ·rw[MD q]
  have:max m 1=m:=by omega
  rw[this]
  exact G8 hc (n - m) p m s' Q a (by omega) d e fin
 ·rw[MA q]
  have:m=n:=by omega
  subst this
  exact fin p s' a d e
end
end L2
namespace L2
open PySem PySem.Spec PyProof.Rows
theorem G_ {δ0:ay} {bN:ay->Prop} {g:WG} {b:WS} {K:KS} (I:Nat->ay->Prop):∀ (items:List D) (i:Nat) (δ : ay),I i δ →
  (∀ j d δ (L:ay->Prop),items[j]? = some d->I (i + j) δ -> (∀ δ',I (i + j + 1) δ'->L δ')->bN δ /\ g (.p d) δ fun δ1=>b { nx:=fun δ2=>L (δ0.trim δ2),ct:=fun δ2=>L (δ0.trim δ2),bk:=K.nx,rt:=K.rt } δ1) →
  (∀ δ,I (i + items.length) δ -> bN δ /\ K.nx δ)->lF δ0 bN g b K items δ
 | [],i,δ,h,_,fin=>fin δ h
 | d :: r,i,δ,h,st,fin=>by
  unfold lF
  refine st 0 d δ (fun δ'=>lF δ0 bN g b K r δ') rfl h fun δ' hi => ?_
  refine G_ I r (i + 1) _ hi (fun j e δ L hj hI hL => ?_) fun δ hI => ?_
  ·have e:i + 1 + j=i + (j + 1):=by omega
   rw[e] at hI hL
   exact st (j + 1) _ δ L (by simpa using hj) hI hL
  ·exact fin δ (by rw[Fm];have e:i + 1 + r.length=i + (r.length + 1):=by omega
                   rw[e] at hI;exact hI)
theorem kA {δ0:ay} {bN:ay->Prop} {g:WG} {b:WS} {K:KS} {items:List D} {δ : ay} (I:Nat->ay->Prop) (h0:I 0 δ)
  (st:∀ j d δ (L:ay->Prop),items[j]? = some d->I j δ -> (∀ δ',I (j + 1) δ'->L δ')->bN δ /\ g (.p d) δ fun δ1=>b { nx:=fun δ2=>L (δ0.trim δ2),ct:=fun δ2=>L (δ0.trim δ2),bk:=K.nx,rt:=K.rt } δ1)
  (fin:∀ δ,I items.length δ -> bN δ /\ K.nx δ):lF δ0 bN g b K items δ :=
 G_ I items 0 δ h0 (fun j d δ L hj hI hL=>by rw[Wv] at hI hL;exact st j d δ L hj hI hL) fun δ hI=>by rw[Wv] at hI;exact fin δ hI
noncomputable def vb (δ0:ay) (bN:ay->Prop) (g:WG) (t:WT) (f:WE) (d:D) (acc:List D) (δ : ay) (L:List D->ay->Prop):Prop :=
 bN δ /\ g (.p d) δ fun δ1=>t δ1 fun b δ2=>if b=true then f δ2 fun x δ3=>nK x δ3 fun e δ4=>acc.length < 1000/\L (acc ++ [e]) (δ0.trim δ4) else L acc (δ0.trim δ2)
theorem Ha {δ0:ay} {bN:ay->Prop} {g:WG} {t:WT} {f:WE} {K:List D->ay->Prop} (I:Nat->List D->ay->Prop):∀ (items:List D) (i:Nat) (acc:List D) (δ : ay),I i acc δ →
  (∀ j d acc δ (L:List D->ay->Prop),items[j]? = some d->I (i + j) acc δ -> (∀ eZ δ',I (i + j + 1) eZ δ'->L eZ δ')->vb δ0 bN g t f d acc δ L) →
  (∀ acc δ,I (i + items.length) acc δ -> bN δ /\ K acc δ)->jA δ0 bN g t f K items acc δ
 | [],i,acc,δ,h,_,fin=>fin acc δ h
 | d :: r,i,acc,δ,h,st,fin=>by
  unfold jA
  refine st 0 d acc δ (fun eZ δ'=>jA δ0 bN g t f K r eZ δ') rfl h fun eZ δ' hi => ?_
  refine Ha I r (i + 1) eZ _ hi (fun j e acc δ L hj hI hL => ?_) fun acc δ hI => ?_
  ·have e:i + 1 + j=i + (j + 1):=by omega
   rw[e] at hI hL
   exact st (j + 1) _ acc δ L (by simpa using hj) hI hL
  ·exact fin acc δ (by rw[Fm];have e:i + 1 + r.length=i + (r.length + 1):=by omega
                       rw[e] at hI;exact hI)
theorem Bv {δ0:ay} {bN:ay->Prop} {g:WG} {t:WT} {f:WE} {K:List D->ay->Prop} {items:List D} {δ : ay} (I:Nat->List D->ay->Prop) (h0:I 0 [] δ)
  (st:∀ j d acc δ (L:List D->ay->Prop),items[j]? = some d->I j acc δ -> (∀ eZ δ',I (j + 1) eZ δ'->L eZ δ')->vb δ0 bN g t f d acc δ L)
  (fin:∀ acc δ,I items.length acc δ -> bN δ /\ K acc δ):jA δ0 bN g t f K items [] δ :=
 Ha I items 0 [] δ h0 (fun j d acc δ L hj hI hL=>by rw[Wv] at hI hL;exact st j d acc δ L hj hI hL) fun acc δ hI=>by rw[Wv] at hI;exact fin acc δ hI
theorem Bw {δ0:ay} {bN:ay->Prop} {g:WG} {t:WT} {f:WE} {K:List D->ay->Prop} {items:List D} (p:D->Bool) (fn:D->D) (hl:items.length <= 1000) (hc:bN δ0)
  (st:∀ d∈items,∀ acc (L:List D->ay->Prop),acc.length < 1000->(p d=true->L (acc ++ [fn d]) δ0)->(p d=false->L acc δ0)->vb δ0 bN g t f d acc δ0 L)
  (fin:K ((items.filter p).map fn) δ0):jA δ0 bN g t f K items [] δ0:=by
 refine Bv (fun i acc δ => δ = δ0/\acc=((items.take i).filter p).map fn) ⟨rfl,rfl⟩ ?_ ?_
 ·rintro j d acc δ L hj ⟨rfl,rfl⟩ hL
  have cK:=(su.mp hj).1
  have hm:d∈items:=Wk hj
  have hn:(((items.take j).filter p).map fn).length < 1000:=by
   rw[qx]
   have:=List.length_filter_le p (items.take j)
   rw[Wn] at this;omega
  have e:items.take (j + 1)=items.take j ++ [d]:=by rw[Xu,hj];rfl
  refine st d hm _ L hn (fun q=>hL _ _ ⟨rfl,?_⟩) (fun q=>hL _ _ ⟨rfl,?_⟩)
  ·rw[e,List.filter_append,WD];simp[List.filter,q]
  ·rw[e,List.filter_append,WD];simp[List.filter,q]
 ·rintro acc δ ⟨rfl,rfl⟩
  rw[Xd (wG _)]
  exact⟨hc,fin⟩
theorem jD {δ0:ay} {bN:ay->Prop} {g:WG} {t:WT} {f:WE} {K:List D->ay->Prop} {items:List D} (fn:D->D) (hl:items.length <= 1000) (hc:bN δ0)
  (st:∀ d∈items,∀ acc (L:List D->ay->Prop),acc.length < 1000->L (acc ++ [fn d]) δ0->vb δ0 bN g t f d acc δ0 L)
  (fin:K (items.map fn) δ0):jA δ0 bN g t f K items [] δ0 :=
 Bw (fun _=>true) fn hl hc (fun d hd acc L ha h _=>st d hd acc L ha (h rfl)) (by rw[List.filter_eq_self.mpr fun _ _=>rfl];exact fin)
end L2
namespace LJ
open PySem L2
theorem vc:bootBuiltins "range" = some (.type "range"):=by decide +kernel
theorem Hb:bootBuiltins "min" = some (.builtin "min"):=by decide +kernel
theorem xR:bootBuiltins "sorted" = some (.builtin "sorted"):=by decide +kernel
structure BT (mg:Str->Option Value):Prop where
 len:mg "len" = none
 range:mg "range" = none
 list:mg "list" = none
 tuple:mg "tuple" = none
 set:mg "set" = none
 sorted:mg "sorted" = none
 min:mg "min" = none
 max:mg "max" = none
 sum:mg "sum" = none
 all:mg "all" = none
 any:mg "any" = none
 enumerate:mg "enumerate" = none
 zip:mg "zip" = none
 isinstance:mg "isinstance" = none
 int:mg "int" = none
 bool:mg "bool" = none
 str:mg "str" = none
end LJ
namespace L2
open PySem PySem.Spec PyProof.Rows
variable [aI]
section
variable {X:Cx} {fa:WA} {pos:Pos}
theorem Hc {F H:Hp} {ad:List Addr} {δ : ay} {σ : St} {p:Addr} (S:SR F ad δ σ H):gF F (ad ++ [p]) (.o δ.mu.length) (.ref p) :=
 ⟨p,by rw[<-S.cP,VZ (wG _),W6];rfl,rfl⟩
noncomputable def vd (fa:WA):WE:=fun δ K=>fa δ fun xs δ1=>match xs with
 | [.p (.int j)]=>(0 <= j/\j <= 1000)/\K (.o δ1.mu.length) ⟨δ1.sl,δ1.mu ++ [some (.lst (cE 0 j.toNat))]⟩
 | _=>False
theorem Hd {a:Expr} {p1 p2 q1 q2:Pos} (hc:X.calm=true) (qU:Gl X "list") (hl:X.mg "list" = none) (qV:bootBuiltins "list" = some (.type "list")) (qW:Gl X "range") (hr:X.mg "range" = none) (qX:bootBuiltins "range" = some (.type "range")) (ha:JA X [a] (cC fa))
  (he:starEach [a] X.env=[(false,eval a X.env)]:=by rfl) (qY:starEach [.Call (.Name "range" p2) [a] [] q2] X.env=[(false,eval (.Call (.Name "range" p2) [a] [] q2) X.env)]:=by rfl):JE X (.Call (.Name "list" p1) [.Call (.Name "range" p2) [a] [] q2] [] q1) (tD (vd fa)) :=
 (pf (Gd hc) qU hl qV (lb (pf Ga qW hr qX ha (he:=he)) bS) (he:=qY)).weak fun σ H Q h0_ => el7 h0_ fun F ad δ K S q k =>⟨F,ad,δ,_,S,q,fun xs δ1 h1 vs F1 aR H1 E1 S1 V1=>by
  split at h1
  ·rename_i j
   obtain⟨v,r,e,W1,W2⟩:=V1
   have W2:r=[]:=W2
   have W1:v = .int j:=W1
   subst W2 W1 e
   refine⟨j,rfl,fun rr Bl=>⟨rr,j.toNat,rfl,by rw[bW,Int.toNat_of_nonneg h1.1.1],by omega,fun l hl => ?_⟩⟩
   have s1:az H1 (upd H1 rr (.rng 0 j)):=cj Bl
   have S2:=S1.al s1
   have E2:=Ext.al S1 s1
   have oi:gq (Nw F1 H1 (upd H1 rr (.rng 0 j))) (.lst (cE 0 j.toNat)) (.lst ((bO j.toNat).map V.int)):=⟨_,rfl,by rw[nZ];exact lJ⟩
   exact k _ _ h1.2 _ _ _ _ ((E1.trans E2).trans (Ext.own S2 hl)) (S2.own hl oi) (Hc S2)
  ·exact h1.elim⟩
noncomputable def Bx (f g:WE):WE:=fun δ K=>f δ fun x δ1=>g δ1 fun y δ2=>fM x δ2 fun d=>fM y δ2 fun e=>match d,e with
 | .lst a,.lst b=>a.length + b.length <= 1000/\K (.o δ2.mu.length) ⟨δ2.sl,δ2.mu ++ [some (.lst (a ++ b))]⟩
 | _,_=>False
theorem OY {a b:Expr} {f g:WE} (ha:JE X a (tD f)) (hb:JE X b (tD g)):JE X (.BinOp a .Add b pos) (tD (Bx f g)) :=
 (uG Fh ha hb).weak fun σ H Q h0_ => el7 h0_ fun F ad δ K S q k =>⟨F,ad,δ,_,S,q,fun x δ1 h1 v1 F1 aR H1 E1 S1 V1=>⟨F1,aR,δ1,_,S1,h1,fun y δ2 h2 v2 F2 c7 H2 E2 S2 V2=>by
  obtain⟨d,h3,rd⟩:=iD S2 (V1.ext E2) h2
  obtain⟨e,h4,re⟩:=iD S2 V2 h3
  split at h4
  ·rename_i as bs
   obtain⟨a,us,rfl,g1,g2⟩:=rd
   obtain⟨b,ws,rfl,g3,g4⟩:=re
   have oi:gq F2 (.lst (as ++ bs)) (.lst (us ++ ws)):=⟨_,rfl,sG g2 g4⟩
   exact⟨a,b,us,ws,rfl,rfl,g1,g3,lr (by rw[g2.length,g4.length];exact h4.1),fun p hp=>k _ _ h4.2 _ _ _ _ ((E1.trans E2).trans (Ext.own S2 hp)) (S2.own hp oi) (Hc S2)⟩
  ·exact h4.elim⟩⟩
theorem vf {st:Stmt}:JS X st (dw pA):=⟨fun pins s D σ H I q=>by obtain⟨F,ad,δ,K,S,q,k⟩:=q;exact q.elim⟩
end
end L2
namespace LJS
open PySem PySem.SetTable PyProof.Rows
section
variable {prog:Program} {w:World} {A:Around} {S:Addr} {ks:List Int}
theorem jE:∀ {l:List (Int × Value)},(∀ e∈l,∃ k tk,e=(hashInt k,Value.int k tk))->IntsAre (l.map (·.2)) (l.map keyOf)
 | [],_ => .nil
 | e :: r,h=>by
  obtain⟨k,tk,rfl⟩:=h e Mz
  exact .cons k tk (jE fun e he=>h e (MB _ he))
theorem OZ {E:Value->Shared->Prop} {s:Shared} {Q:Value->Shared->Prop} (hh:A.handled=none) (hS:eY s.heap S (ir w) ks) (hn:ks.length < 64)
  (h:∀ (h':Heap) (tk:Nat) (r:Addr) (out:Array Value) (eV:List Int) (e:Nat),(∀ b ob,s.heap.get? b=some ob->h'.get? b=some ob)->s.heap.objs.size <= r->h'.get? r=some (seqObj "list" out e)->IntsAre out.toList eV->eV.Perm ks->eV.Pairwise (· <= ·)->Q (.ref r) { s with heap:=h',toks:=tk }) :
  wpAny (model prog w) A (call (.builtin "sorted") [.ref S]) Q E s:=by
 obtain⟨o,es,ep,t,ho,hex,hd,T⟩:=hS
 have hsz:=T.num
 have lS:S < s.heap.objs.size:=My ho
 refine Calls.call_function_entry kind_sorted plain_sorted entry_sorted (args_sorted1 _) ?_
 unfold Builtin.«sorted»
 refine nG (m:=checkCount "sorted" 1 1 _) (uk ?_)
 refine nG (Ki (by simp[hh]) ho hex hd T (by omega) fun h1 lh sA le => ?_)
 have allI:∀ e∈(ik w S ep es).toList,∃ k tk,e=(hashInt k,Value.int k tk):=fun e he=>T.wg e ((zj w S ep es).mem_iff.mp he)
 have hI:IntsAre ((ik w S ep es).toList.map (·.2)) ((ik w S ep es).toList.map keyOf):=jE allI
 have hP:((ik w S ep es).toList.map keyOf).Perm ks:=((zj w S ep es).map keyOf).trans T.keys
 have hL:((ik w S ep es).toList.map (·.2)).length=ks.length:=by rw[qx,Fj,wk,hsz]
 generalize (ik w S ep es).toList.map (·.2)=vs at hI hL ⊢
 generalize (ik w S ep es).toList.map keyOf=ns at hI hP
 refine nG (Zp ?_)
 have kR:(h1.push (seqObj "list" vs.toArray 0)).get? h1.objs.size=some (seqObj "list" vs.toArray 0):=MC _ rfl
 refine nG (Wo (WW (s:={ s with heap:=h1.push (seqObj "list" vs.toArray 0),toks:=lh }) slot_list_sort ⟨_,kR,rfl⟩ entry_list_sort (list_sort_tree kR hI (by omega) fun out eV a1 a2 a3=>⟨_,rfl,?_⟩) (args_list_sort _)))
 obtain⟨e,he⟩:=sortedHeap_at (out:=out) kR
 refine uk ⟨_,rfl,h _ _ _ out eV e (fun b ob eb => ?_) le he a1 (a2.trans hP) a3⟩
 have hb:b < h1.objs.size:=My (sA b ob eb)
 show (sortedHeap (h1.push (seqObj "list" vs.toArray 0)) h1.objs.size vs out).get? b=some ob
 rw[sortedHeap_old (Vx hb) (by rw[size_push'];exact WC hb)]
 exact qw _ (sA b ob eb)
end
end LJS
namespace L2
open PySem PySem.Spec PyProof.Rows
noncomputable def vg (led:Bool) (S:Addr) (ks:List Int):HO := .ext fun h=>LJS.eY h S led ks
theorem O0 {P:Program} {w:World} {H:Hp} {h:Heap} {S:Addr} {led:Bool} {ks:List Int} (e:LJS.eY h S led ks):aJ P w H h S (vg led S ks) :=
 ⟨e,let ⟨o,_,_,_,ho,_⟩:=e; ⟨o,ho⟩,fun h1 h2 e1 k=>LJS.yZ e1 fun o eo=>k o eo⟩
noncomputable def n6 (ns:List Int):List Int:=LJS.oS ns ns.length
section
variable {X:Cx}
theorem O1 (hc:X.calm=true):g9 X (.type "set") (fun xs H Q=>∃ (l:Addr) (ns:List Int),xs=[.ref l]/\bx X.K H l (ns.map V.int)/\ns.length <= 40/\∀ p,H p=none->Q (.ref p) (upd H p (vg (LJS.ir X.w) p (n6 ns)))):=by
 intro pins s σ H xs us Q I r h
 obtain⟨l,ns,rfl,hq,D3,q⟩:=h
 obtain⟨u,rfl,rx⟩:=vals1 r
 cases rx
 obtain⟨ag,r',pl,_⟩:=I.list hq
 have hl:=r'.length
 rw[qx] at hl
 refine LJS.J6 ns (I.ok.hd hc) pl.isList (fun i v hv => ?_) (by rw[Ad];omega) fun h' tk se kp => ?_
 ·rw[Xt] at hv
  have hi:=(su.mp hv).1
  obtain⟨x,hx,rv⟩:=uZ r' (j:=i) (by rw[Ad];exact hi)
  rw[show ag.toArray[i]'(by rw[Ad];exact hi)=v by simpa using (su.mp hv).2] at rv
  rw[Fl] at hx
  obtain⟨n,hn,rfl⟩:=Vu.mp hx
  obtain⟨t,rfl⟩:=rv
  rw[wF,hn]
  exact⟨t,rfl⟩
 ·have By:LJS.eY h' s.heap.objs.size (LJS.ir X.w) (n6 ns):=by
   have e:ag.toArray.size=ns.length:=by rw[Ad];omega
   rw[e] at se;exact se
  exact⟨.ref s.heap.objs.size,upd H s.heap.objs.size (vg (LJS.ir X.w) s.heap.objs.size (n6 ns)),I.laid (t':=tk) (fun b o e=>kp b o (My e) e) (wG _) (O0 By),rfl,q _ (I.aN.fresh (wG _))⟩
theorem O3 (hc:X.calm=true):g9 X (.builtin "sorted") (fun xs H Q=>∃ (p:Addr) (ks:List Int),xs=[.ref p]/\H p=some (vg (LJS.ir X.w) p ks)/\ks.length < 64/\∀ (r:Addr) (eV:List Int),eV.Perm ks->eV.Pairwise (· <= ·)->H r=none->Q (.ref r) (upd H r (.lst (eV.map V.int)))):=by
 intro pins s σ H xs us Q I r h
 obtain⟨p,ks,rfl,hp,hn,q⟩:=h
 obtain⟨u,rfl,rx⟩:=vals1 r
 cases rx
 obtain⟨se,_⟩:=I.aN p _ hp
 refine LJS.OZ (I.ok.hd hc) se hn fun h' tk r out eV e kp le he hI pm pw => ?_
 refine⟨.ref r,_,I.laid (t':=tk) (o := .lst (eV.map V.int)) kp le ?_,rfl,q _ eV pm pw (I.aN.fresh le)⟩
 refine⟨Xj (o_ (by rw[qx,pm.length_eq];omega)),out.toList,e,AL hI,?_⟩
 simpa [seqObj] using he
end
end L2
namespace LJS
open PySem PySem.SetTable PyProof.Rows
noncomputable def gJ (m:Nat) (p:Probe):Probe :=
 if p.more > 0 then { p with j:=p.j + 1,more:=p.more - 1 } else
 { p with j:=(leap m p.i p.perturb).1,more:=runEnd m (leap m p.i p.perturb).1 - (leap m p.i p.perturb).1,i:=(leap m p.i p.perturb).1,perturb:=(leap m p.i p.perturb).2 }
theorem He (t:SetTable) (p:Probe):t.advance p=gJ t.mask p:=rfl
noncomputable def b9 (m:Nat):Nat->Probe->Probe
 | 0,p=>p
 | k + 1,p=>b9 m k (gJ m p)
theorem xS (m:Nat):∀ (a b:Nat) (p:Probe),b9 m (a + b) p=b9 m b (b9 m a p)
 | 0,b,p=>by rw[Wv];rfl
 | a + 1,b,p=>by rw[show a + 1 + b=a + b + 1 by omega];exact xS m a b (gJ m p)
noncomputable def stM (m i q:Nat):Probe:=⟨i,runEnd m i - i,i,q,none⟩
noncomputable def startM (m:Nat) (h:Int):Probe:=stM m (bits h % (m + 1)) (bits h)
theorem Bz (m:Nat):∀ (l:Nat) (p:Probe),l <= p.more->b9 m l p={ p with j:=p.j + l,more:=p.more - l }
 | 0,p,_=>rfl
 | l + 1,p,h=>by
  show b9 m l (gJ m p)=_
  have e:gJ m p={ p with j:=p.j + 1,more:=p.more - 1 }:=by unfold gJ;rw[MD (by omega)]
  rw[e,Bz m l _ (by show l <= p.more - 1;omega)]
  congr 1<;>(dsimp only;omega)
theorem Hf (m i q:Nat):b9 m (runEnd m i - i + 1) (stM m i q)=stM m (leap m i q).1 (leap m i q).2:=by
 rw[xS m (runEnd m i - i) 1,Bz m (runEnd m i - i) (stM m i q) (wG _)]
 show gJ m _=_
 unfold gJ
 rw[MA (by show ¬ (runEnd m i - i - (runEnd m i - i) > 0);omega)]
 rfl
theorem Hg {m i:Nat} (h:i <= m):runEnd m i <= m/\i <= runEnd m i:=by unfold runEnd;split<;>omega
noncomputable def pI (m:Nat) (p:Probe):Prop:=p.j + p.more <= m
theorem O4 {m:Nat} {p:Probe} (h:pI m p):pI m (gJ m p):=by
 unfold gJ pI
 split
 ·rename_i c;have:p.j + p.more <= m:=h;dsimp only;omega
 ·have:=Hg (DE m p.i p.perturb)
  dsimp only;omega
theorem Hh {m:Nat}:∀ (k:Nat) {p:Probe},pI m p->pI m (b9 m k p)
 | 0,_,h=>h
 | k + 1,_,h=>Hh k (O4 h)
theorem O5 (m:Nat) (h:Int):pI m (startM m h):=by
 have h0:bits h % (m + 1) <= m:=Yy (Nat.mod_lt _ (ZD _))
 have:=Hg h0
 unfold startM stM pI
 dsimp only;omega
theorem Hi (m:Nat) (h:Int) (k:Nat):(b9 m k (startM m h)).j <= m:=by
 have:=Hh k (O5 m h)
 unfold pI at this;omega
noncomputable def pJ (m:Nat) (xT:Nat->Prop) (h:Int) (j:Nat):Prop:=∃ k,k < 10 * turns m/\(b9 m k (startM m h)).j=j/\∀ l,l < k->xT (b9 m l (startM m h)).j
theorem pJ.mono {m:Nat} {xT vh:Nat->Prop} {h:Int} {j:Nat} (r:pJ m xT h j) (k:∀ x,x <= m->xT x->vh x):pJ m vh h j:=by
 obtain⟨n,h1,h2,h3⟩:=r
 exact⟨n,h1,h2,fun l hl=>k _ (Hi m h l) (h3 l hl)⟩
theorem Hj {m:Nat} {owner:Array (Option Nat)}:∀ (F i q j:Nat),layClean.free m owner F i q=some j->∃ k,k < 10 * F/\(b9 m k (stM m i q)).j=j/\∀ l,l < k->(owner.getD (b9 m l (stM m i q)).j (some 0)).isSome=true
 | 0,i,q,j,h=>by unfold layClean.free at h;cases h
 | F + 1,i,q,j,h=>by
  rw[yN] at h
  have r9:=DI m i
  have ri:i <= runEnd m i:=by unfold runEnd;split<;>omega
  have lM:∀ l,l <= runEnd m i - i->(b9 m l (stM m i q)).j=i + l:=fun l hl=>by rw[Bz m l _ hl];rfl
  split at h
  ·rename_i k0 hk
   cases h
   have h1:=Zv hk
   have h2:=Wh.mp (ZT hk)
   refine⟨k0,by omega,lM k0 (by omega),fun l hl => ?_⟩
   rw[lM l (by omega)]
   have h3:∀ l,l < k0->¬ (owner.getD (i + l) (some 0)).isNone=true:=by
    intro l hl hn
    obtain⟨as,bs,e,hb⟩:=List.find?_eq_some_iff_append.mp hk |>.2
    have hlen:as.length=k0:=by
     have:=congrArg (fun x=>x[as.length]?) e
     simp at this
     have h5:as.length < runEnd m i + 1 - i:=by
      have:=congrArg List.length e
      simp at this;omega
     rw[WH h5] at this
     exact Wf this
    have:l∈as:=by
     have h6:=congrArg (fun x=>x[l]?) e
     simp only[Vz (show l < as.length by omega)] at h6
     rw[WH (by omega)] at h6
     exact Wk h6.symm
    have:=hb l this
    rw[hn] at this
    exact absurd this (by decide)
   have:=h3 l hl
   cases q:owner.getD (i + l) (some 0) with
   | none=>rw[q] at this;exact absurd rfl this
   | some _=>rfl
  ·rename_i hk
   have h1:=ZF.mp hk
   obtain⟨k,VF,O6,O7⟩:=Hj F _ _ j h
   refine⟨runEnd m i - i + 1 + k,by omega,by rw[xS,Hf];exact O6,fun l hl => ?_⟩
   by_cases c:l <= runEnd m i - i
   ·rw[lM l c]
    have:=h1 l (Wh.mpr (by omega))
    cases q:owner.getD (i + l) (some 0) with
    | none=>rw[q] at this;exact absurd rfl this
    | some _=>rfl
   ·have:=O7 (l - (runEnd m i - i + 1)) (by omega)
    rw[show l=runEnd m i - i + 1 + (l - (runEnd m i - i + 1)) by omega,xS,Hf]
    exact this
section
variable {t:SetTable} {f:Nat->Int} {h:Int}
theorem Hk (u:Up t.place) {i:Nat} (hi:i < t.place.size):t.slot t.place[i] = .live i:=by
 obtain⟨h0,h1,h2⟩:=rT u t.place[i]
 have a:¬ i < below t.place t.place[i]:=fun z=>by have:=h1 i hi z;omega
 have b:¬ below t.place t.place[i] < i:=fun z=>by
  have:=h2 (below t.place t.place[i]) (by omega) (wG _)
  have:=u.lt z hi
  omega
 have eb:below t.place t.place[i]=i:=by omega
 unfold slot
 rw[eb]
 have:(t.place[i]? == some t.place[i])=true:=by rw[Vv hi];simp
 simp only[this,Ym]
theorem Hl (hd:t.dummies = #[]):∀ (F:Nat) (p:Probe) (j:Nat) (d:Option Nat),probe.go t f h F p=some (.empty j d)->∃ k,k < F/\(b9 t.mask k p).j=j/\∀ l,l < k->(b9 t.mask l p).j∈t.place.toList
 | 0,p,j,d,e=>by unfold probe.go at e;cases e
 | F + 1,p,j,d,e=>by
  rw[pT] at e
  rcases tu hd p.j with q | ⟨i,q,hi,hm⟩
  ·rw[q] at e
   cases e
   exact⟨0,ZD _,rfl,fun l hl=>absurd hl (Nat.not_lt_zero _)⟩
  ·rw[q] at e
   dsimp only at e
   split at e
   ·cases e
   ·obtain⟨k,h1,h2,h3⟩:=Hl hd F _ j d e
    rw[He] at h2 h3
    refine⟨k + 1,by omega,h2,fun l hl => ?_⟩
    cases l with
    | zero=>exact hm
    | succ l=>exact h3 l (by omega)
theorem Hm (hd:t.dummies = #[]) (u:Up t.place):∀ (k F:Nat) (p:Probe) (i0:Nat),k < F->t.slot (b9 t.mask k p).j = .live i0->f i0=h->(∀ l,l < k->(b9 t.mask l p).j∈t.place.toList)->∃ j i nx,probe.go t f h F p=some (.candidate j i nx)/\f i=h/\i < t.place.size
 | k,0,p,i0,hk,_,_,_=>absurd hk (Nat.not_lt_zero _)
 | 0,F + 1,p,i0,_,hs,hf,_=>by
  rw[pT,show t.slot p.j = .live i0 from hs]
  dsimp only
  rw[MD (by rw[hf];simp)]
  refine⟨_,_,_,rfl,hf,?_⟩
  rcases tu hd p.j with q | ⟨i,q,hi,_⟩
  ·rw[show t.slot p.j = .live i0 from hs] at q;cases q
  ·rw[show t.slot p.j = .live i0 from hs] at q;cases q;exact hi
 | k + 1,F + 1,p,i0,hk,hs,hf,ho=>by
  have hm:=ho 0 (ZD _)
  obtain⟨i,hi,ei⟩:=Xa.mp hm
  have bZ:i < t.place.size:=by rw[<-Fj];exact hi
  have yU:t.place[i]=p.j:=by simpa [b9] using ei
  have sl:=Hk u bZ
  rw[yU] at sl
  rw[pT,sl]
  dsimp only
  by_cases c:f i=h
  ·rw[MD (by rw[c];simp)]
   exact⟨_,_,_,rfl,c,bZ⟩
  ·rw[MA (by simpa using c),He]
   exact Hm hd u k F _ i0 (by omega) hs hf fun l hl=>ho (l + 1) (by omega)
end
noncomputable def rh (owner:Array (Option Nat)) (j:Nat):Prop:=∃ k,owner[j]? = some (some k)
structure sI (m:Nat) (hs:List Int) (owner:Array (Option Nat)) (k:Nat):Prop where
 ow:Ow m owner k
 sJ:∀ (j i:Nat),owner[j]? = some (some i)->∃ h,hs[i]? = some h/\pJ m (rh owner) h j
theorem Hn {owner:Array (Option Nat)} {j k x:Nat} (h:rh owner x):rh (owner.setIfInBounds j (some k)) x:=by
 obtain⟨i,e⟩:=h
 have hx:=(XC.mp e).1
 by_cases c:j=x
 ·subst c
  exact⟨k,by rw[Yw];simp[hx]⟩
 ·exact⟨i,by rw[Yw];simp[c];exact e⟩
theorem O8 {m:Nat} {hs:List Int} {owner:Array (Option Nat)} {k:Nat} (hm:Mk m) (O:sI m hs owner k) (hk:k <= m) {h:Int} (hh:hs[k]? = some h) :
  ∃ j,layClean.free m owner (turns m) (bits h % (m + 1)) (bits h)=some j/\sI m hs (owner.setIfInBounds j (some k)) (k + 1):=by
 obtain⟨j,ej,O'⟩:=JB hm O.ow hk h
 refine⟨j,ej,O',fun x i e => ?_⟩
 rw[Yw] at e
 by_cases c:j=x
 ·subst c
  have O9:j < owner.size:=by
   by_cases z:j < owner.size
   ·exact z
   ·simp[z] at e
  simp[O9] at e
  subst e
  refine⟨h,hh,?_⟩
  obtain⟨n,n1,n2,n3⟩:=Hj _ _ _ _ ej
  refine⟨n,n1,n2,fun l hl=>Hn ?_⟩
  have iE:=n3 l hl
  have le:=Hi m h l
  have cK:(b9 m l (startM m h)).j < owner.size:=by rw[O.ow.size];omega
  have vi:(owner.getD (b9 m l (startM m h)).j (some 0)).isSome=true:=iE
  rw[show owner.getD (b9 m l (startM m h)).j (some 0)=owner[(b9 m l (startM m h)).j] by simp[Array.getD,cK]] at vi
  obtain⟨v,hv⟩:=Yi.mp vi
  exact⟨v,by rw[Vv cK,hv]⟩
 ·simp[c] at e
  obtain⟨h',e1,e2⟩:=O.sJ x i e
  exact⟨h',e1,e2.mono fun y _ hy=>Hn hy⟩
theorem Ho {m:Nat} (hm:Mk m) {all:List Int}:∀ (hs:List Int) (owner:Array (Option Nat)) (k:Nat),sI m all owner k->all.drop k=hs->k + hs.length <= m + 1 →
  ∃ aU,(hs.foldl (init:=some (owner,k)) fun acc h=>do
   let (owner,k) <- acc
   let j <- layClean.free m owner (turns m) (bits h % (m + 1)) (bits h)
   pure (owner.setIfInBounds j (some k),k + 1))=some (aU,k + hs.length)/\sI m all aU (k + hs.length)
 | [],owner,k,O,_,_=>⟨owner,rfl,O⟩
 | h :: hs,owner,k,O,hd,hl=>by
  rw[Fm] at hl ⊢
  have hk:k < all.length:=by
   have:=congrArg List.length hd
   rw[XM,Fm] at this;omega
  rw[Yc hk] at hd
  have hh:all[k]? = some h:=by rw[qv hk];exact congrArg some (Z8 hd).1
  obtain⟨j,ej,O'⟩:=O8 hm O (by omega) hh
  obtain⟨o2,e2,O2⟩:=Ho hm hs _ (k + 1) O' (Z8 hd).2 (by omega)
  refine⟨o2,?_,by rw[show k + (hs.length + 1)=k + 1 + hs.length by omega];exact O2⟩
  rw[q0q,show k + (hs.length + 1)=k + 1 + hs.length by omega,<-e2]
  congr 1
  show (do let j <- layClean.free m owner (turns m) (bits h % (m + 1)) (bits h);pure (owner.setIfInBounds j (some k),k + 1))=_
  rw[ej];rfl
theorem O_ (m:Nat) (hs:List Int):sI m hs (Array.replicate (m + 1) none) 0:=by
 refine⟨DN m,fun j i e => ?_⟩
 rw[Array.getElem?_replicate] at e
 split at e<;>cases e
theorem Pa {m:Nat} (hm:Mk m) (hs:Array Int) (hz:hs.size <= m + 1):∃ owner,layClean m hs=some owner/\sI m hs.toList owner hs.size:=by
 obtain⟨o,e,O⟩:=Ho hm hs.toList _ 0 (O_ m hs.toList) rfl (by rw[Fj];omega)
 rw[Wv,Fj] at O
 refine⟨o,?_,O⟩
 unfold layClean
 rw[<-Array.foldl_toList,e];rfl
theorem Pb {m:Nat} (hm:Mk m) (t:SetTable) (hs:Array Int) (wanted:Nat) (hw:sizeAbove wanted - 1=m) (hz:hs.size <= m + 1) :
  ∃ t' order,t.relaid hs wanted=some (t',order)/\t'.mask=m/\t'.dummies = #[]/\t'.place.size=hs.size/\Up t'.place/\order.size=hs.size/\order.toList.Perm (List.range hs.size) ∧
   ∀ (i j k:Nat),t'.place[i]? = some j->order[i]? = some k->∃ h,hs[k]? = some h/\pJ m (· ∈ t'.place.toList) h j:=by
 obtain⟨owner,e,O⟩:=Pa hm hs hz
 obtain⟨aU,e',_,OP⟩:=DX hm hs hz
 have:aU=owner:=Wf (e'.symm.trans e)
 subst this
 refine⟨{ mask:=m,place:=((iq m aU).map (·.1)).toArray,dummies := #[],finger:=t.finger,led:=t.led,moves:=t.movedTo m,plain:=t.plain },((iq m aU).map (·.2)).toArray,?_,rfl,rfl,?_,DS m aU,?_,?_,fun i j k h1 h2 => ?_⟩
 ·unfold relaid laid
  rw[hw,e];rfl
 ·rw[Ad,qx,yQ O.ow]
 ·rw[Ad,qx,yQ O.ow]
 ·show ((iq m aU).map (·.2)).Perm _
  rw[DY O.ow.size]
  exact OP
 ·have h1:((iq m aU).map (·.1))[i]? = some j:=by simpa using h1
  have h2:((iq m aU).map (·.2))[i]? = some k:=by simpa using h2
  rw[Fl] at h1 h2
  obtain⟨z,Hq,rfl⟩:=Vu.mp h1
  obtain⟨z',Hr,rfl⟩:=Vu.mp h2
  rw[Hq] at Hr;cases Hr
  have zm:=Wk Hq
  have own:∀ z∈iq m aU,aU[z.1]? = some (some z.2):=fun z hz=>by
   unfold iq at hz
   obtain⟨j',vj,Pc⟩:=X8.mp hz
   obtain⟨k',xU,rfl⟩:=Vu.mp Pc
   have:j' < aU.size:=by rw[O.ow.size];exact Wh.mp vj
   rw[show aU.getD j' none=aU[j'] by simp[Array.getD,this]] at xU
   rw[Vv this,xU]
  obtain⟨h,e1,e2⟩:=O.sJ _ _ (own z zm)
  refine⟨h,by rw[<-Wa];exact e1,e2.mono fun x hx Pd => ?_⟩
  obtain⟨kx,Hs⟩:=Pd
  show x∈(iq m aU).map (·.1)
  refine Wg.mpr ⟨(x,kx),?_,rfl⟩
  unfold iq
  refine X8.mpr ⟨x,Wh.mpr (by omega),?_⟩
  have Pe:=(XC.mp Hs).1
  rw[show aU.getD x none=aU[x] by simp[Array.getD,Pe],(XC.mp Hs).2];rfl
structure n8 (hk:Nat->Int) (ad:Nat->Addr) (t:SetTable) (es:Array (Int × Value)) (js:List Nat):Prop where
 P:gw t es (js.map hk)
 up:Up t.place
 mT:(js.map hk).Nodup
 el:∀ e∈es.toList,∃ j∈js,e=(hk j,Value.ref (ad j))
 all:∀ j∈js,∃ e∈es.toList,e.1=hk j
 sJ:∀ (i:Nat) (e:Int × Value) (j:Nat),es[i]? = some e->t.place[i]? = some j->pJ t.mask (· ∈ t.place.toList) e.1 j
noncomputable def h8 (hk:Nat->Int) (ad:Nat->Addr) (h:Heap) (S:Addr) (js:List Nat):Prop:=∃ o es ep t,h.get? S=some o/\o.ExactSet/\o.data = .set es ep t/\n8 hk ad t es js
theorem Ht {hk:Nat->Int} {ad:Nat->Addr} {h h':Heap} {S:Addr} {js:List Nat} (x:h8 hk ad h S js) (k:∀ o,h.get? S=some o->h'.get? S=some o):h8 hk ad h' S js:=by
 obtain⟨o,es,ep,t,ho,r⟩:=x
 exact⟨o,es,ep,t,k o ho,r⟩
theorem Hu {α : Type} {xs:Array α} {p:Nat} {x : α} (hp:p <= xs.size) (i:Nat):(insertAt xs p x)[i]? = if i < p then xs[i]? else if i=p then some x else xs[i - 1]? := by
 have e:(insertAt xs p x).toList=xs.toList.take p ++ x :: xs.toList.drop p:=by
  unfold insertAt
  simp only[Array.toList_append,Ye,Array.toList_extract,ZR,Y1,q0g,XS,List.singleton_append]
  rw[Xd (l:=xs.toList.drop p) (by rw[XM,Fj];exact wG _)]
 rw[<-Wa,e]
 have hl:(xs.toList.take p).length=p:=by rw[Wn,Fj];omega
 by_cases c:i < p
 ·rw[MD c,Vz (by omega),WL c,Wa]
 ·rw[MA c,VZ (by omega),hl]
  by_cases c2:i=p
  ·rw[MD c2,c2,W6];rfl
  ·rw[MA c2]
   obtain⟨d,rfl⟩:∃ d,i=p + 1 + d:=⟨i - p - 1,by omega⟩
   rw[show p + 1 + d - p=d + 1 by omega,W_,List.getElem?_drop,Wa]
   congr 1
   omega
theorem Pf {α : Type} {es:Array α} {order:Array Nat} (h:∀ k∈order.toList,k < es.size) (i:Nat):(order.filterMap (es[·]?))[i]? = (order[i]?).bind fun k=>es[k]? := by
 have:∀ l:List Nat,(∀ k∈l,k < es.size)->∀ i:Nat,(l.filterMap fun k=>es[k]?)[i]? = (l[i]?).bind fun k=>es[k]? := by
  intro l
  induction l with
  | nil=>intro _ i;simp
  | cons k r ih =>
   intro hk i
   have xV:=hk k Mz
   rw[Yn]
   rw[Vv xV]
   dsimp only
   cases i with
   | zero=>simp[Vv xV]
   | succ i=>simpa using ih (fun k' i8=>hk k' (MB _ i8)) i
 have e:=this order.toList h i
 rw[<-Wa,Yq,e,Wa]
section
variable {hk:Nat->Int} {ad:Nat->Addr} {t:SetTable} {es:Array (Int × Value)} {js:List Nat}
theorem n8.found (T:n8 hk ad t es js) {h:Int} (hm:h∈js.map hk):∃ j i nx,t.probe (fun i=>(es[i]?.map (·.1)).getD 0) h (t.probeStart h)=some (.candidate j i nx)/\∃ e,es[i]? = some e/\e.1=h:=by
 obtain⟨j,hj,rfl⟩:=Wg.mp hm
 obtain⟨e,he,e1⟩:=T.all j hj
 obtain⟨i,hi,ei⟩:=Xa.mp he
 have bZ:i < es.size:=by rw[<-Fj];exact hi
 have ee:es[i]? = some e:=by rw[Vv bZ];exact congrArg some (by simpa using ei)
 have hp:i < t.place.size:=by rw[T.P.ij];exact bZ
 have r:=T.sJ i e _ ee (Vv hp)
 rw[e1] at r
 obtain⟨k,k1,k2,k3⟩:=r
 have sl:=Hk T.up hp
 obtain⟨j',i',nx,h1,h2,h3⟩:=Hm (t:=t) (f:=fun i=>(es[i]?.map (·.1)).getD 0) (h:=hk j) T.P.l9 T.up k (10 * turns t.mask) (startM t.mask (hk j)) i k1 (by rw[k2];exact sl) (by rw[ee];exact e1) k3
 refine⟨j',i',nx,h1,?_⟩
 have cK:i' < es.size:=by rw[<-T.P.ij];exact h3
 exact⟨es[i'],Vv cK,by have:=h2;rw[Vv cK] at this;exact this⟩
end
section
variable {prog:Program} {w:World} {A:Around} {E:Value->Shared->Prop} {s:Shared} {ad:Nat->Addr} {ks:Nat->List Int} {js:List Nat} {S:Addr}
noncomputable abbrev aF (prog:Program) (w:World) (ks:Nat->List Int) (j:Nat):Int:=hT prog w (ks j)
theorem Hv {k:List Int} {a:Addr} {Q:Bool->Shared->Prop} (hk:IsTupleKey (intKind prog w) s.heap k a) (h:Q false s):wpAny (model prog w) A (ofAClassStatement 8 (.ref a)) Q E s:=by
 have hT:=hk.typeIs
 obtain⟨o,ag,n,ho,_,hd,hi⟩:=hk
 show wpAny _ _ (ofAClassStatement (7 + 1) (.ref a)) _ _ _
 unfold ofAClassStatement
 refine nG (YD hT ?_)
 dsimp only
 refine nG ?_
 refine uk ?_
 simp only[XR,V6,W9]
 refine nG (XF ho hd ?_)
 dsimp only
 refine nG ?_
 show wpAny _ _ (forIn ag _ _) _ _ s
 rw[<-YU]
 refine Zj _ (fun rest r s'=>s'=s/\r=(none,PUnit.unit)/\∀ v∈rest,∃ i t,v=Value.int i t) _ ?_ ?_ _ _ ⟨rfl,rfl,D2 hi⟩
 ·rintro v rest r s' ⟨rfl,rfl,gx⟩
  obtain⟨i,t,rfl⟩:=gx v Mz
  have e:ofAClassStatement 7 (.int i t)=pure false:=by unfold ofAClassStatement;rfl
  rw[e]
  refine nG (uk ?_)
  simp only[V6,W9]
  exact uk ⟨rfl,rfl,fun u hu=>gx u (MB _ hu)⟩
 ·rintro r s' ⟨rfl,rfl,_⟩
  exact uk h
theorem Pg {k:List Int} {a:Addr} {Q:Bool->Shared->Prop} {stored:List Value} (hx:IsTupleKey (intKind prog w) s.heap k a) (hy:∀ y∈stored,∃ k' b,y=Value.ref b/\IsTupleKey (intKind prog w) s.heap k' b) (h:Q false s):wpAny (model prog w) A (searchCouldBeSeen (.ref a) stored) Q E s:=by
 unfold searchCouldBeSeen
 refine nG ?_
 refine Zj _ (fun rest r s'=>s'=s/\r=(none,PUnit.unit)/\∀ y∈rest,∃ k' b,y=Value.ref b/\IsTupleKey (intKind prog w) s.heap k' b) _ ?_ ?_ _ _ ⟨rfl,rfl,hy⟩
 ·rintro v rest r s' ⟨rfl,rfl,gx⟩
  obtain⟨k',b,rfl,hb⟩:=gx v Mz
  have pK:∀ y∈rest,∃ k' b,y=Value.ref b/\IsTupleKey (intKind prog w) s'.heap k' b:=fun u hu=>gx u (MB _ hu)
  dsimp only
  refine Yd (fun _=>uk ⟨rfl,rfl,pK⟩) (fun _ => ?_)
  refine nG (wpAny_eqIsQuiet_tuple hx ?_)
  simp only[XR,V6,W9]
  refine nG (wpAny_eqIsQuiet_tuple hb ?_)
  simp only[XR,V6,W9]
  refine nG (Hv hx ?_)
  simp only[V6,W9]
  refine nG (Hv hb ?_)
  simp only[V6,W9]
  exact uk ⟨rfl,rfl,pK⟩
 ·rintro r s' ⟨rfl,rfl,_⟩
  exact uk h
theorem Ph {i:Nat} {o:Obj} {es:Array (Int × Value)} {ep:Nat} {t:SetTable} {Q:SetFound->Shared->Prop} (ho:s.heap.get? S=some o) (hd:o.data = .set es ep t) (T:n8 (aF prog w ks) ad t es js) (hu:A.units < cLine)
  (keys:∀ j∈i :: js,IsTupleKey (intKind prog w) s.heap (ks j) (ad j)) (inj:∀ j∈js,aF prog w ks j=aF prog w ks i->ks j=ks i) (hm:aF prog w ks i∈js.map (aF prog w ks))
  (k:Q (.there none) s):wpAny (model prog w) A (setSearch S (.ref (ad i)) (aF prog w ks i) true) Q E s:=by
 unfold setSearch
 show wpAny _ _ (setSearchFrom S (.ref (ad i)) (aF prog w ks i) true (99999 + 1) none) _ _ _
 unfold setSearchFrom
 refine nG (Xk ho hd T.P.fits ?_)
 dsimp only
 rw[T.P.tE]
 simp only[V6,↓reduceIte]
 obtain⟨j',i',nx,ej,e,ee,eh⟩:=T.found hm
 simp only[Zk]
 generalize hP:t.probe _ (aF prog w ks i) (t.probeStart (aF prog w ks i))=P
 have eP:P=some (.candidate j' i' nx):=hP.symm.trans ej
 rw[eP]
 dsimp only
 have em:e∈es.toList:=Wk (by rw[Wa];exact ee)
 obtain⟨j,hj,rfl⟩:=T.el e em
 have ek:=inj j hj eh
 have kx:=keys i Mz
 have ky:=keys j (MB _ hj)
 have tail:wpAny (model prog w) A (do
   let some (_,y):=es[i']? | unsupported "internal:set-entry"
   let equal <- holding [y] (eqBool y (.ref (ad i)))
   let (tN,_,t') <- setState S
   if true && equal then return SetFound.there none
   let some same:=t'.sameMemory t.moves t.mask | unsupported "set.changed-during-lookup:is-the-new-block-at-the-old-address"
   let vk <- match (if same then t'.slot j' else .empty) with
    | .live i'=>match tN[i']? with
     | some (_,y')=>do pure (if <- isSame y' y then some i' else none)
     | none=>pure none
    | _=>pure none
   match vk with
   | none=>rule "set.search.anew";setSearchFrom S (.ref (ad i)) (aF prog w ks i) true 99999 none
   | some i'=>if equal then return SetFound.there (some i') else setSearchFrom S (.ref (ad i)) (aF prog w ks i) true 99999 (some nx)) Q E s:=by
  rw[ee]
  dsimp only
  refine nG (Wo (wpAny_eqBool_tuple hu ky kx ?_))
  refine nG (Xk ho hd T.P.fits ?_)
  dsimp only
  rw[V_ ek]
  exact uk k
 refine Yd (fun _ => ?_) (fun _=>tail)
 refine nG (Pg kx (fun y hy => ?_) ?_)
 ·obtain⟨z,hz,rfl⟩:=Wg.mp hy
  have BA:z∈es.toList:=by
   have:=Zs.mp hz
   exact Zs.mpr (Array.mem_filter.mp this).1
  obtain⟨q,hq,rfl⟩:=T.el z BA
  exact⟨_,_,rfl,keys q (MB _ hq)⟩
 ·exact tail
theorem Pj {i:Nat} {Q:Bool->Shared->Prop} (hS:h8 (aF prog w ks) ad s.heap S js) (hl:js.length < 60) (hu:A.units < cLine)
  (keys:∀ j∈i :: js,IsTupleKey (intKind prog w) s.heap (ks j) (ad j)) (inj:∀ j∈js,aF prog w ks j=aF prog w ks i->ks j=ks i)
  (k:∀ (b:Bool) h',Heap.SameBut S s.heap h'->h8 (aF prog w ks) ad h' S (if aF prog w ks i∈js.map (aF prog w ks) then js else js ++ [i])->Q b { s with heap:=h' }) :
  wpAny (model prog w) A (setAddHashed S (.ref (ad i)) (aF prog w ks i)) Q E s:=by
 obtain⟨o,es,ep,t,ho,hex,hd,T⟩:=hS
 unfold setAddHashed
 refine Wo ?_
 show wpAny _ _ (setAddHashedIn S (.ref (ad i)) (aF prog w ks i) (99999 + 1)) _ _ _
 unfold setAddHashedIn
 refine nG (Xk ho hd T.P.fits ?_)
 have hb:byScan (.ref (ad i)) es=false:=by unfold byScan;rfl
 dsimp only
 rw[hb]
 simp only[V6,↓reduceIte]
 by_cases hm:aF prog w ks i∈js.map (aF prog w ks)
 ·refine nG (Ph ho hd T hu keys inj hm ?_)
  dsimp only
  refine uk ?_
  have e:s={ s with heap:=s.heap }:=by cases s;rfl
  rw[e]
  exact k false s.heap (Heap.SameBut.refl S s.heap) (by rw[MD hm];exact⟨o,es,ep,t,ho,hex,hd,T⟩)
 rw[MA hm] at k
 have kx:=keys i Mz
 have hz:t.place.size <= t.mask:=by have:=T.P.lt;rw[T.P.ij];omega
 obtain⟨j0,BB⟩:=DL (t:=t) (f:=fun i=>(es[i]?.map (·.1)).getD 0) (h:=aF prog w ks i) T.P.l9 T.P.l_ hz (fun i' bZ z=>by
  rw[T.P.ij] at bZ
  rw[Vv bZ] at z
  exact hm (by rw[<-show es[i'].1=aF prog w ks i from z];exact T.P.ins _ (Z5 bZ)))
 have nj:j0∉t.place.toList:=DU T.up (we BB)
 have rj:pJ t.mask (· ∈ t.place.toList) (aF prog w ks i) j0:=Hl T.P.l9 _ _ _ _ BB
 have sf:wpAny (model prog w) A (setSearch S (.ref (ad i)) (aF prog w ks i) true) (fun r s'=>r = .free j0 false/\s'=s) E s:=by
  unfold setSearch
  show wpAny _ _ (setSearchFrom S (.ref (ad i)) (aF prog w ks i) true (99999 + 1) none) _ _ _
  unfold setSearchFrom
  refine nG (Xk ho hd T.P.fits ?_)
  dsimp only
  rw[T.P.tE]
  simp only[V6,↓reduceIte]
  simp only[Zk]
  generalize hP:t.probe _ (aF prog w ks i) (t.probeStart (aF prog w ks i))=P
  have eP:P=some (.empty j0 none):=hP.symm.trans BB
  rw[eP]
  exact uk ⟨rfl,rfl⟩
 refine nG (XQ sf ?_ fun _ _ e=>e)
 rintro r s' ⟨rfl,rfl⟩
 dsimp only
 refine nG (Xk ho hd T.P.fits ?_)
 dsimp only
 obtain⟨p1,p2,p3,p4,p5,p6,p7⟩:=yR t T.P.l9 j0
 have up1:=DR T.up nj
 have pz:(t.put j0).2 <= t.place.size:=(rT T.up j0).1
 have fin:∀ b:Bool,wpAny (model prog w) A (do
   storeSet S (SetTable.insertAt es (t.put j0).2 (aF prog w ks i,.ref (ad i))) (if b=true then (t.put j0).1 else { (t.put j0).1 with plain:=false })
   if (!false && (if b=true then (t.put j0).1 else { (t.put j0).1 with plain:=false }:SetTable).tooFull)=true then do
       setRelay S (SetTable.grown (es.size + 1))
       pure true
    else pure true) Q E s':=by
  intro b
  generalize k9:(if b=true then (t.put j0).1 else { (t.put j0).1 with plain:=false }:SetTable)=t2
  have q1:t2.dummies = #[]:=by rw[<-k9];cases b<;>exact p1
  have q2:t2.mask=t.mask:=by rw[<-k9];cases b<;>exact p2
  have q3:t2.place.size=es.size + 1:=by rw[<-k9,<-T.P.ij];cases b<;>exact p3
  have q4:t2.place=insertAt t.place (t.put j0).2 j0:=by rw[<-k9];cases b<;>rfl
  have q5:Up t2.place:=by rw[<-k9];cases b<;>exact up1
  have g5:=yS es (t.put j0).2 (aF prog w ks i,Value.ref (ad i))
  have oP:(insertAt es (t.put j0).2 (aF prog w ks i,Value.ref (ad i))).toList.Perm (es.toList ++ [(aF prog w ks i,Value.ref (ad i))]):=by
   have:=Y3 es (t.put j0).2 (aF prog w ks i,Value.ref (ad i))
   rw[Ye] at this
   exact this
  have Pk:t2.place.toList.Perm (t.place.toList ++ [j0]):=by
   rw[q4]
   have:=Y3 t.place (t.put j0).2 j0
   rw[Ye] at this
   exact this
  have vm:∀ (x:Nat) (e:Int × Value) (j:Nat),(insertAt es (t.put j0).2 (aF prog w ks i,Value.ref (ad i)))[x]? = some e->t2.place[x]? = some j->pJ t2.mask (· ∈ t2.place.toList) e.1 j:=by
   intro x e j h1 h2
   rw[q4,Hu pz] at h2
   rw[Hu (by rw[<-T.P.ij];exact pz)] at h1
   rw[q2]
   have more:∀ y,y <= t.mask->y∈t.place.toList->y∈t2.place.toList:=fun y _ hy=>Pk.mem_iff.mpr (WZ _ hy)
   by_cases c:x < (t.put j0).2
   ·rw[MD c] at h1 h2
    exact (T.sJ x e j h1 h2).mono more
   ·rw[MA c] at h1 h2
    by_cases c2:x=(t.put j0).2
    ·rw[MD c2] at h1 h2
     cases h1;cases h2
     exact rj.mono more
    ·rw[MA c2] at h1 h2
     exact (T.sJ _ e j h1 h2).mono more
  generalize insertAt es (t.put j0).2 (aF prog w ks i,Value.ref (ad i))=bV at g5 oP vm
  have BC:∀ e∈bV.toList,∃ j∈js ++ [i],e=(aF prog w ks j,Value.ref (ad j)):=fun e he=>by
   rcases W7.mp (oP.mem_iff.mp he) with q | q
   ·obtain⟨j,hj,e1⟩:=T.el e q
    exact⟨j,WZ _ hj,e1⟩
   ·exact⟨i,V9 _ Mz,Wc.mp q⟩
  have all2:∀ j∈js ++ [i],∃ e∈bV.toList,e.1=aF prog w ks j:=fun j hj=>by
   rcases W7.mp hj with q | q
   ·obtain⟨e,he,e1⟩:=T.all j q
    exact⟨e,oP.mem_iff.mpr (WZ _ he),e1⟩
   ·rw[Wc.mp q]
    exact⟨_,oP.mem_iff.mpr (V9 _ Mz),rfl⟩
  have kL:((js ++ [i]).map (aF prog w ks)).Nodup:=by
   rw[WD]
   exact XU.mpr ⟨T.mT,by simp,fun a ha b hb z=>hm (by rw[<-Wc.mp hb,<-z];exact ha)⟩
  have vn:∀ e∈bV.toList,e.1∈(js ++ [i]).map (aF prog w ks):=fun e he=>by
   obtain⟨j,hj,rfl⟩:=BC e he
   exact Wg.mpr ⟨j,hj,rfl⟩
  have vo:bV.size=((js ++ [i]).map (aF prog w ks)).length:=by rw[g5,T.P.num,qx,qx,Vw];rfl
  have JU:es.size < 60:=by rw[T.P.num,qx];exact hl
  refine nG (Y4 ho hd ?_ (by rw[g5,WX];omega))
  have fW:(s'.heap.update S (Obj.putSet bV t2)).get? S=some { o with data := .set bV (ep + 1) t2 }:=by
   have:=WR (Obj.putSet bV t2) ho (by rw[Zi bV t2 hd];rfl)
   rw[Zi bV t2 hd] at this;exact this
  have fl:t2.fill=es.size + 1:=by unfold SetTable.fill;rw[q1,q3];rfl
  have lt:=T.P.lt
  have oR:t2.fits bV.size=true:=by
   unfold SetTable.fits
   rw[fl,q3,g5,q2]
   simp
   rcases T.P.l_ with e | e | e<;>rw[e] at lt ⊢ <;> omega
  by_cases tf:t2.tooFull=true
  ·rw[MD (by rw[tf];rfl)]
   have pU:t.mask * 3 <= (es.size + 1) * 5:=by
    unfold tooFull at tf
    rw[fl,q2] at tf
    have:=XT tf
    omega
   obtain⟨m,BE,hw,hsz⟩:∃ m,Mk m/\sizeAbove (grown (es.size + 1)) - 1=m/\(es.size + 1) * 5 < m * 3:=by
    rcases T.P.l_ with e | e | e
    ·rw[e] at lt pU
     have:es.size + 1=5:=by omega
     rw[this]
     exact⟨31,.inr (.inl rfl),DP,by omega⟩
    ·rw[e] at lt pU
     have:es.size + 1=19:=by omega
     rw[this]
     exact⟨127,.inr (.inr rfl),DQ,by omega⟩
    ·rw[e] at pU;omega
   refine nG ?_
   unfold setRelay
   refine nG (Xk fW rfl oR ?_)
   dsimp only
   have zo:¬ SetTable.sizeAbove (SetTable.grown (es.size + 1)) > sizeLine:=by
    rw[WX]
    rcases BE with e | e | e<;>omega
   rw[MA zo]
   obtain⟨t3,order,er,r1,r2,r3,r4,r5,r6,r7⟩:=Pb BE t2 (bV.map (·.1)) (grown (es.size + 1)) hw (by rw[Y5,g5];omega)
   rw[er]
   rw[Y5,g5] at r3 r5
   rw[Y5] at r6
   have Hw:∀ k∈order.toList,k < bV.size:=fun k hk=>Wh.mp (r6.mem_iff.mp hk)
   obtain⟨o1,o2⟩:=DO (es:=bV) (order:=order) Hw
   have og:=Pf (es:=bV) (order:=order) Hw
   refine nG ?_
   show wpAny _ _ (do
    if (order.filterMap (bV[·]?)).size != bV.size then
     unsupported "internal:set-table-lost-an-element"
    pure (order.filterMap (bV[·]?),t3)) _ _ _
   rw[MA (by rw[o1,r5,g5];simp)]
   refine uk ?_
   dsimp only
   refine Y4 fW rfl ?_ (by rw[o1,r5,WX];omega)
   have fI:((s'.heap.update S (Obj.putSet bV t2)).update S (Obj.putSet (order.filterMap (bV[·]?)) t3)).get? S=some { o with data := .set (order.filterMap (bV[·]?)) (ep + 1 + 1) t3 }:=by
    have:=WR (Obj.putSet (order.filterMap (bV[·]?)) t3) fW (by rw[Zi _ t3 rfl];rfl)
    rw[Zi _ t3 rfl] at this;exact this
   refine uk (k true _ ((Wr ..).trans (Wr ..)) ⟨_,_,_,_,fI,hex,rfl,⟨r2,by rw[r1];exact BE,by rw[r3,o1,r5],by rw[o1,r5,<-g5];exact vo,?_,fun e he=>vn e (o2 e he)⟩,r4,kL,fun e he=>BC e (o2 e he),fun j hj => ?_,fun x e j h1 h2 => ?_⟩)
   ·unfold tooFull SetTable.fill
    rw[r2,r3,r1]
    simp
    omega
   ·obtain⟨e,he,e1⟩:=all2 j hj
    obtain⟨x,hx,ex⟩:=Xa.mp he
    have kh:x < bV.size:=by rw[<-Fj];exact hx
    have:x∈order.toList:=r6.mem_iff.mpr (Wh.mpr kh)
    refine⟨e,?_,e1⟩
    rw[Yq]
    exact X8.mpr ⟨x,this,by rw[Vv kh];exact congrArg some (by simpa using ex)⟩
   ·rw[og] at h1
    cases q:order[x]? with
    | none=>rw[q] at h1;cases h1
    | some Hy =>
     rw[q] at h1
     have h1:bV[Hy]? = some e:=h1
     obtain⟨hh,g1,g2⟩:=r7 x j Hy h2 q
     rw[Array.getElem?_map,h1] at g1
     cases g1
     rw[r1]
     exact g2
  ·have tH:t2.tooFull=false:=by cases q:t2.tooFull<;>simp_all
   rw[MA (by rw[tH];decide)]
   exact uk (k true _ (Wr ..) ⟨_,_,_,_,fW,hex,rfl,⟨q1,by rw[q2];exact T.P.l_,by rw[q3,g5],vo,tH,vn⟩,q5,kL,BC,all2,vm⟩)
 by_cases hp:(t.put j0).1.plain=true
 ·rw[MD hp]
  refine nG (JX kx fun b => ?_)
  exact fin b
 ·rw[MA hp]
  refine nG (uk ?_)
  exact fin true
end
noncomputable def ip (hk:Nat->Int):Nat->List Nat
 | 0=>[]
 | i + 1=>if hk i∈(ip hk i).map hk then ip hk i else ip hk i ++ [i]
theorem Hz (hk:Nat->Int):∀ i,(ip hk i).length <= i
 | 0=>wG _
 | i + 1=>by
  have:=Hz hk i
  unfold ip
  split
  ·omega
  ·rw[Vw,Wx];omega
theorem xW (hk:Nat->Int):∀ i,∀ j∈ip hk i,j < i
 | 0,j,h=>nomatch h
 | i + 1,j,h=>by
  unfold ip at h
  split at h
  ·have:=xW hk i j h;omega
  ·rcases W7.mp h with h | h
   ·have:=xW hk i j h;omega
   ·rw[Wc.mp h];omega
theorem Pl {hk:Nat->Int} {ad:Nat->Addr} {h:Heap} {S:Addr} {led:Bool} (e:h.get? S=some (cM led)):h8 hk ad h S [] :=
 ⟨_,#[],0,_,e,⟨rfl,rfl,rfl⟩,rfl,⟨rfl,.inl rfl,rfl,rfl,by cases led<;>decide,fun _ h=>nomatch h⟩,List.Pairwise.nil,Y6,(fun _ h=>nomatch h),(fun _ h=>nomatch h),fun i e j h=>by simp at h⟩
section
variable {prog:Program} {w:World} {A:Around} {R:Result->Shared->Prop} {I S:Addr} {fp wr:List Addr} {G:Array GenState->Array GenState->Prop} {n:Nat} {P:Nat->Value->Prop} {St:Nat->Shared->Prop}
theorem Pn (W:WalksS prog w A.in1 I fp wr G n P St) (out:S∉fp) (ad:Nat->Addr) (ks:Nat->List Int) (rk:∀ i v,P i v->v = .ref (ad i)) (apart:∀ i,i < n->ad i∉S :: wr) (room:A.in1.units < cLine)
  (inj:∀ i j,i < n->j < i->hT prog w (ks j)=hT prog w (ks i)->ks j=ks i) (mf:n <= 30) :
  ∀ (left i:Nat) (s:Shared),i + left=n->St i s->(∀ j,j < n->IsTupleKey (intKind prog w) s.heap (ks j) (ad j))->h8 (aF prog w ks) ad s.heap S (ip (aF prog w ks) i) →
   (∀ s',Moved (S :: wr) G s s'->h8 (aF prog w ks) ad s'.heap S (ip (aF prog w ks) n)->R (.ok (.ret .none)) s') →
   codeAny (model prog w) A (.builtin "set.update.loop" ⟨[.ref S,.ref I],[]⟩) R s:=by
 have kM:S∉wr:=fun z=>out (W.sub _ z)
 have more:∀ b,b∈wr->b∈S :: wr:=fun b hb=>MB _ hb
 intro left
 induction left with
 | zero =>
  intro i s hi st tk se fin
  obtain rfl:i=n:=by omega
  refine XH Yp ?_
  rw[Xx Xy _]
  show wpAny _ A.in1 (pyNext (.ref I) >>= _) _ _ s
  refine nG (W.done s _ _ st fun s' mv => ?_)
  show wpAny _ A.in1 (ret Value.none) _ _ s'
  exact uk (fin s' (mv.mono more) (Ht se fun o e=>mv.heap S o kM e))
 | succ left ih =>
  intro i s hi st tk se fin
  have cK:i < n:=by omega
  refine XH Yp ?_
  rw[Xx Xy _]
  show wpAny _ A.in1 (pyNext (.ref I) >>= _) _ _ s
  refine nG (W.item i s _ _ cK st fun v s1 hP iL mv => ?_)
  obtain rfl:=rk i v hP
  have lh:∀ j,j < n->IsTupleKey (intKind prog w) s1.heap (ks j) (ad j):=fun j hj=>yY (tk j hj) fun o e=>mv.heap _ o (fun z=>apart j hj (more _ z)) e
  show wpAny _ A.in1 (holding [Value.ref (ad i)] (setAdd S (.ref (ad i))) >>= _) _ _ s1
  refine nG (Wo ?_)
  unfold setAdd
  refine Wo (nG (wpAny_pyHash_tuple room (lh i cK) ?_))
  have fl:=xW (aF prog w ks) i
  refine Pj (s:={ s1 with toks:=s1.toks + ((ks i).length + 1) }) (i:=i) (js:=ip (aF prog w ks) i) (Ht se fun o e=>mv.heap S o kM e) (by have:=Hz (aF prog w ks) i;omega) room (fun j hj => ?_) (fun j hj e=>inj i j cK (fl j hj) e) fun bb h2 sb za => ?_
  ·rcases Fo.mp hj with rfl | hj
   ·exact lh _ cK
   ·exact lh j (by have:=fl j hj;omega)
  ·have nS:∀ b,b∈fp->b≠S:=fun b hb z=>out (by rw[<-z];exact hb)
   refine uk ⟨YI Xy _,ih (i + 1) _ (by omega) (W.frame _ s1 _ _ iL (XO _ _) fun b hb o e=>by rw[sb.2 b (nS b hb)];exact e) (fun j hj=>yY (lh j hj) fun o e => ?_) za fun s3 zb zc => ?_⟩
   ·rw[sb.2 _ (fun z=>apart j hj (by rw[z];exact Mz))];exact e
   ·refine fin s3 (Moved.trans W.gtrans ((mv.mono more).then_heap (XO _ _) fun b o hb e => ?_) zb) zc
    rw[sb.2 b (fun z=>hb (by rw[z];exact Mz))];exact e
end
section
variable {prog:Program} {w:World} {A:Around} {E:Value->Shared->Prop} {s:Shared}
set_option maxHeartbeats 3200000 in
theorem Po {l:Addr} {items:Array Value} {Q:Value->Shared->Prop} (ad:Nat->Addr) (ks:Nat->List Int) (hh:A.handled=none) (room:A.units + 8 < cLine) (rV:s.heap.IsList l items) (rk:∀ (i:Nat) (v:Value),items[i]? = some v->v = .ref (ad i))
  (tk:∀ i,i < items.size->IsTupleKey (intKind prog w) s.heap (ks i) (ad i)) (inj:∀ i j,i < items.size->j < i->hT prog w (ks j)=hT prog w (ks i)->ks j=ks i) (mf:items.size <= 30)
  (fin:∀ (h':Heap) (tk:Nat),h8 (aF prog w ks) ad h' s.heap.objs.size (ip (aF prog w ks) items.size)->(∀ b o,b < s.heap.objs.size->s.heap.get? b=some o->h'.get? b=some o)->Q (.ref s.heap.objs.size) { s with heap:=h',toks:=tk }) :
  wpAny (model prog w) A (call (.type "set") [.ref l]) Q E s:=by
 obtain⟨c,tl,zd⟩:=Xf.mro
 have m1:=Xf.made
 have m2:=Xf.sub
 have m3:=Xf.notType
 have m4:=Xf.canCreate
 have m5:=F.typeCall_set_1 (.ref l)
 refine wpAny_call (codeAny_of_tree ?_)
 show wpAny _ _ (callAny (.type "set") _) _ _ _
 refine uk ⟨Code.quiet_builtin _ (by decide +kernel),XH F.entry_type_call ?_⟩
 rw[Around.under_plain (weight_type_call_type "set" [.ref l] []) rfl]
 repeat (any_goals (first | assumption | wp_step))
 refine YC (code_set_new_1 (.ref l) (E:=E) (Q₁ := fun r s1=>∃ led:Bool,r = .ref s.heap.objs.size/\s1={ s with heap:=s.heap.push (cM led) }) fun led=>⟨led,rfl,rfl⟩) fun r s1 hr => ?_
 cases r with
 | error e=>exact hr
 | ok fl =>
  cases fl with
  | ret obj =>
   obtain⟨led,rfl,rfl⟩:=hr
   have gS:(s.heap.push (cM led)).get? s.heap.objs.size=some (cM led):=MC _ rfl
   have tS:Shared.TypeIs { s with heap:=s.heap.push (cM led) } (.ref s.heap.objs.size) "set" := ⟨_,gS,rfl⟩
   have m6:=Xf.init.lookup
   have m7:=Xf.init.bind (.ref s.heap.objs.size)
   repeat (any_goals (first | assumption | wp_step))
   refine YC (codeAny_call_builtin (R:=wants (fun r s2=>r = .none/\∃ h' tk,s2={ s with heap:=h',toks:=tk }/\h8 (aF prog w ks) ad h' s.heap.objs.size (ip (aF prog w ks) items.size) ∧
     ∀ b o,b < s.heap.objs.size->s.heap.get? b=some o->h'.get? b=some o) E) Xf.init.plain F.entry_set_init (check_set_init_1 tS ?_)) fun r2 s2 kN => ?_
   ·obtain⟨ol,gl,cl,nl,dl⟩:=rV
    obtain⟨c0,d0,J8,ze⟩:=ol
    simp only at cl dl
    subst cl
    subst dl
    have zg:(s.heap.push (cM led)).get? l=some { cls := .type "list",dict:=d0,data := .seq items nl,slots:=ze }:=qw _ gl
    have x1:=F.sub_list_set
    have x2:=F.sub_list_frozenset
    have x3:(Value.type "list" == Value.type "dict")=false:=by decide
    have kO:(s.heap.push (cM led)).IsList l items:=⟨_,zg,rfl,nl,rfl⟩
    have ll:l < s.heap.objs.size:=My gl
    unfold Builtin.«set.__init__» noKeywords Builtin.Frozenset.updateFrom
    generalize zh:pyIter=PI
    wp_walk
    subst zh
    refine Yg kO (nG (wpAny_runValue ?_))
    have h3:A.in1.in1.in1.handled=none:=by simp[hh]
    have ez:(s.heap.push (cM led)).objs.size=s.heap.objs.size + 1:=Xh ..
    have nI:l≠(s.heap.push (cM led)).objs.size:=by rw[ez];exact Vx (WC ll)
    have lt:∀ i,i < items.size->ad i < s.heap.objs.size:=fun i hi=>by
     obtain⟨o,_,_,e,_⟩:=tk i hi
     exact My e
    refine Pn ((Walks.list h3 _ l nI items).toS) (S:=s.heap.objs.size) ?out ad ks (fun i v hv=>rk i v hv) ?apart ?room inj mf items.size 0 _ (Wv _)
     ⟨⟨_,MC _ rfl,rfl,rfl⟩,kO.push _⟩ ?tk ?fresh ?fin
    case out =>
     simp only[Fo,Wd,Xr,q0G,ez]
     exact⟨Vx (XJ _),Xq ll⟩
    case apart =>
     intro i hi
     have:=lt i hi
     simp only[Fo,Wd,Xr,q0G,ez]
     exact⟨Vx this,Vx (WC this)⟩
    case room =>
     show A.units + 1 + 1 + 1 < cLine
     exact YT (Nat.add_le_add_left (by decide:3 <= 8) _) room
    case tk =>
     intro j hj
     exact yY (tk j hj) fun o e=>qw _ (qw _ e)
    case fresh =>
     exact Pl (led:=led) (qw _ gS)
    case fin =>
     intro s' mv se
     obtain⟨h',g',d',kK,tI⟩:=s'
     obtain rfl:g'=s.gens:=mv.gens
     obtain rfl:d'=s.drawn:=mv.drawn
     obtain rfl:tI=s.os:=mv.os
     show wpAny _ _ _ _ _ _
     refine uk ?_
     show wpAny _ _ (ret Value.none) _ _ _
     refine uk ⟨rfl,h',kK,rfl,se,fun b o hb e => ?_⟩
     refine mv.heap b o ?_ (qw _ (qw _ e))
     simp only[Fo,Wd,Xr,q0G,ez]
     exact⟨Vx hb,Vx (WC hb)⟩
   ·cases r2 with
    | error e=>exact kN
    | ok zi =>
     cases zi with
     | ret r =>
      obtain⟨rfl,h',kK,rfl,se,kp⟩:=kN
      repeat (any_goals (first | assumption | wp_step))
      exact fin _ _ se kp
     | next=>exact kN
     | brk=>exact kN
     | cont=>exact kN
  | next=>exact hr
  | brk=>exact hr
  | cont=>exact hr
end
end LJS
namespace L2
open PySem PySem.Spec PyProof.Rows
variable [aI]
noncomputable def pL:List D->Option (List (Int × Int))
 | []=>some []
 | .tup [.int i,.int j] :: r=>match pL r with
  | some ps=>some ((i,j) :: ps)
  | none=>none
 | _=>none
theorem HA:∀ {ds:List D} {ps:List (Int × Int)},pL ds=some ps->ds=ps.map fun p => .tup [.int p.1,.int p.2]
 | [],ps,h=>by cases h;rfl
 | .tup [.int i,.int j] :: r,ps,h=>by
  unfold pL at h
  split at h
  ·rename_i qs e
   cases h
   rw[HA e];rfl
  ·cases h
theorem HB:∀ ps:List (Int × Int),pL (ps.map fun p=>D.tup [.int p.1,.int p.2])=some ps
 | []=>rfl
 | p :: r=>by
  show pL (.tup [.int p.1,.int p.2] :: r.map _)=_
  unfold pL
  rw[HB r]
noncomputable def gT (ps:List (Int × Int)):Nat->List (Int × Int)
 | 0=>[]
 | i + 1=>if ps.getD i (0,0)∈gT ps i then gT ps i else gT ps i ++ [ps.getD i (0,0)]
theorem BF (ps:List (Int × Int)):∀ i,(gT ps i).length <= i
 | 0=>wG _
 | i + 1=>by
  have:=BF ps i
  unfold gT
  split
  ·omega
  ·rw[Vw,Wx];omega
theorem HC {ps:List (Int × Int)} (hn:ps.Nodup):∀ i,i <= ps.length->gT ps i=ps.take i
 | 0,_=>rfl
 | i + 1,h=>by
  have hi:i < ps.length:=by omega
  have e:ps.getD i (0,0)=ps[i]:=by rw[wF,qv hi];rfl
  unfold gT
  rw[HC hn i (by omega),e,MA ?_,Xu,qv hi]
  ·rfl
  ·intro hm
   obtain⟨j,hj,ej⟩:=Xa.mp hm
   rw[Wn] at hj
   rw[Y2] at ej
   have:=(YE (h₀ := by omega) (h₁ := hi) hn).mp ej
   omega
theorem Pp {ps:List (Int × Int)} (hl:(gT ps ps.length).length=ps.length):ps.Nodup:=by
 have key:∀ i,i <= ps.length->(gT ps i).length=i->(ps.take i).Nodup/\gT ps i=ps.take i:=by
  intro i
  induction i with
  | zero=>intro _ _;exact⟨Y6,rfl⟩
  | succ i ih =>
   intro hi hlen
   have bZ:i < ps.length:=by omega
   have le:=BF ps i
   have e:ps.getD i (0,0)=ps[i]:=by rw[wF,qv bZ];rfl
   unfold gT at hlen ⊢
   split at hlen
   ·omega
   ·rename_i hn
    rw[Vw,Wx] at hlen
    obtain⟨h1,h2⟩:=ih (by omega) (by omega)
    rw[MA hn,h2,Xu,qv bZ,e]
    refine⟨?_,rfl⟩
    rw[h2,e] at hn
    exact XU.mpr ⟨h1,by simp,fun a ha b hb z=>hn (by
     have hb:b=ps[i]:=by simpa using hb
     rw[<-hb,<-z];exact ha)⟩
 have:=(key ps.length (wG _) hl).1
 rwa [Xd (wG _)] at this
noncomputable def sL:List D->(D->Prop)->Prop
 | [.lst ds],K=>match intsOf ds with
  | some ns=>ns.length <= 40/\K (.lst ((sortI (n6 ns)).map D.int))
  | none=>False
 | _,_=>False
theorem HD (ns:List Int):(n6 ns).length <= ns.length:=LJS.y_ ns ns.length
section
variable {X:Cx} {fa:WA}
theorem Pq {a:Expr} {p1 p2 q1 q2:Pos} (hc:X.calm=true) (qU:Gl X "sorted") (hl:X.mg "sorted" = none) (qV:bootBuiltins "sorted" = some (.builtin "sorted")) (qW:Gl X "set") (hr:X.mg "set" = none) (qX:bootBuiltins "set" = some (.type "set")) (ha:JA X [a] (cC fa))
  (he:starEach [a] X.env=[(false,eval a X.env)]:=by rfl) (qY:starEach [.Call (.Name "set" p2) [a] [] q2] X.env=[(false,eval (.Call (.Name "set" p2) [a] [] q2) X.env)]:=by rfl):JE X (.Call (.Name "sorted" p1) [.Call (.Name "set" p2) [a] [] q2] [] q1) (tD (dN fa sL)) :=
 (wQ (O3 hc) qU hl qV (lb (pf (O1 hc) qW hr qX ha (he:=he)) bS) (he:=qY)).weak fun σ H Q h0_ => el7 h0_ fun F ad δ K S q k =>⟨F,ad,δ,_,S,q,fun xs δ1 h1 vs F1 aR H1 E1 S1 V1=>by
  obtain⟨ds,h2,lj⟩:=uM S1 V1 h1
  unfold sL at h2
  split at h2
  ·split at h2
   ·rename_i es ns e
    obtain⟨v,rfl,a,vs,rfl,g1,g2⟩:=cR lj
    rw[u2 e] at g2
    rw[jB g2] at g1
    refine⟨a,ns,rfl,bx.of g1,h2.1,fun p hp=>⟨p,n6 ns,rfl,bW,by have:=HD ns;omega,fun r eV pm pw hr => ?_⟩⟩
    have s1:az H1 (upd H1 p (vg (LJS.ir X.w) p (n6 ns))):=cj hp
    have S2:=S1.al s1
    have E2:=Ext.al S1 s1
    refine k _ _ h2.2 _ _ _ _ ((E1.trans E2).trans (Ext.al S2 (cj hr))) (S2.al (cj hr)) ?_
    rw[<-Bj pm pw]
    exact ku S2.sub hr lJ
   ·exact h2.elim
  ·exact h2.elim⟩
theorem HE {F:Hp}:∀ {ps:List (Int × Int)} {vs:List V},af F (ps.map fun p=>D.tup [.int p.1,.int p.2]) vs->∃ as:List Addr,vs=as.map V.ref/\as.length=ps.length/\∀ (i:Nat) (a:Addr) (k:Int × Int),as[i]? = some a->ps[i]? = some k->F a=some (.tup [.int k.1,.int k.2])
 | [],vs,h=>by
  have h:vs=[]:=by simpa only [X1,af] using h
  subst h
  exact⟨[],rfl,rfl,fun i a k e=>by simp at e⟩
 | p :: r,vs,h=>by
  rw[Wb] at h
  simp only[af] at h
  obtain⟨v,r',rfl,h1,h2⟩:=h
  obtain⟨as,rfl,hl,g⟩:=HE h2
  simp only[Is] at h1
  obtain⟨a,us,rfl,e1,e2⟩:=h1
  simp only[af,Is] at e2
  obtain⟨_,_,rfl,rfl,_,_,rfl,rfl,rfl⟩:=e2
  refine⟨a :: as,rfl,by rw[Fm,Fm,hl],fun i b k eb ek => ?_⟩
  cases i with
  | zero =>
   cases (show some a=some b by simpa using eb)
   cases (show some p=some k by simpa using ek)
   exact e1
  | succ i=>exact g i b k (by simpa using eb) (by simpa using ek)
theorem Pr (hc:X.calm=true) (hu:X.A.units + 64 < cLine):g9 X (.type "set") (fun xs H Q=>∃ (l:Addr) (ps:List Addr) (ks:List (Int × Int)),xs=[.ref l]/\bx X.K H l (ps.map V.ref)/\ps.length=ks.length ∧
  (∀ (i:Nat) (a:Addr) (k:Int × Int),ps[i]? = some a->ks[i]? = some k->H a=some (.tup [.int k.1,.int k.2]))/\(∀ k∈ks,0 <= k.1/\k.1 < k.2/\k.2 < 12)/\ks.length <= 30/\∀ p,H p=none->Q (.ref p) (upd H p (lg p (gT ks ks.length).length))):=by
 intro pins s σ H xs us Q I r h
 obtain⟨l,ps,ks,rfl,hq,hl,fY,bd,mf,q⟩:=h
 obtain⟨u,rfl,rx⟩:=vals1 r
 cases rx
 obtain⟨ag,r',pl,_⟩:=I.list hq
 obtain rfl:=FX r'
 have sz:(ps.map Value.ref).toArray.size=ks.length:=by rw[Ad,qx,hl]
 have rl:∀ i,i < ks.length->∃ k,ks[i]? = some k/\ks.getD i (0,0)=k:=fun i hi=>⟨ks[i],qv hi,by rw[wF,qv hi];rfl⟩
 have BG:∀ i,i < ks.length->∃ a,ps[i]? = some a/\ps.getD i 0=a:=fun i hi=>⟨ps[i]'(by rw[hl];exact hi),qv (by rw[hl];exact hi),by rw[wF,qv (by rw[hl];exact hi)];rfl⟩
 have same:∀ i j,i < ks.length->j < ks.length->LJS.hT X.prog X.w [(ks.getD j (0,0)).1,(ks.getD j (0,0)).2]=LJS.hT X.prog X.w [(ks.getD i (0,0)).1,(ks.getD i (0,0)).2]->ks.getD j (0,0)=ks.getD i (0,0):=fun i j hi hj z=>by
  obtain⟨k,ek,dk⟩:=rl i hi
  obtain⟨k',xU,HF⟩:=rl j hj
  rw[dk,HF,LJS.FV,LJS.FV] at z
  rw[dk,HF]
  have b1:=bd k (V0.mpr ⟨i,ek⟩)
  have b2:=bd k' (V0.mpr ⟨j,xU⟩)
  exact LJS.NR (k'.1,k'.2) (LJS.FW b2.1 b2.2.1 b2.2.2) (k.1,k.2) (LJS.FW b1.1 b1.2.1 b1.2.2) z
 refine LJS.Po (fun i=>ps.getD i 0) (fun i=>[(ks.getD i (0,0)).1,(ks.getD i (0,0)).2]) (I.ok.hd hc) (by omega) pl.isList (fun i v hv => ?_) (fun i hi => ?_) (fun i j hi hj z => ?_) (by rw[sz];exact mf) fun h' tk se kp => ?_
 ·rw[Xt,Fl] at hv
  obtain⟨a,ea,rfl⟩:=Vu.mp hv
  rw[wF,ea];rfl
 ·rw[sz] at hi
  obtain⟨k,ek,dk⟩:=rl i hi
  obtain⟨a,ea,da⟩:=BG i hi
  show IsTupleKey _ _ [(ks.getD i (0,0)).1,(ks.getD i (0,0)).2] (ps.getD i 0)
  rw[dk,da]
  obtain⟨_,bc,r2,o,ho,pM,n,hd⟩:=I.aN a _ (fY i a k ea ek)
  cases r2 with
  | cons ra rr =>
   cases rr with
   | cons rb rn =>
    cases rn
    obtain⟨t1,rfl⟩:=ra
    obtain⟨t2,rfl⟩:=rb
    exact⟨o,_,n,ho,pM,hd,.cons (Zg ..) (.cons (Zg ..) .nil)⟩
 ·rw[sz] at hi
  have:=same i j hi (by omega) z
  show [(ks.getD j (0,0)).1,(ks.getD j (0,0)).2]=[(ks.getD i (0,0)).1,(ks.getD i (0,0)).2]
  rw[this]
 ·have key:∀ n,n <= ks.length->(LJS.ip (LJS.aF X.prog X.w fun i=>[(ks.getD i (0,0)).1,(ks.getD i (0,0)).2]) n).map (fun i=>ks.getD i (0,0))=gT ks n:=by
   intro n
   induction n with
   | zero=>intro _;rfl
   | succ n ih =>
    intro hn
    have ih:=ih (by omega)
    unfold LJS.ip gT
    rw[<-ih]
    by_cases c:ks.getD n (0,0)∈(LJS.ip (LJS.aF X.prog X.w fun i=>[(ks.getD i (0,0)).1,(ks.getD i (0,0)).2]) n).map (fun i=>ks.getD i (0,0))
    ·obtain⟨j,hj,ej⟩:=Wg.mp c
     have:LJS.aF X.prog X.w (fun i=>[(ks.getD i (0,0)).1,(ks.getD i (0,0)).2]) n∈(LJS.ip (LJS.aF X.prog X.w fun i=>[(ks.getD i (0,0)).1,(ks.getD i (0,0)).2]) n).map (LJS.aF X.prog X.w fun i=>[(ks.getD i (0,0)).1,(ks.getD i (0,0)).2]):=by
      refine Wg.mpr ⟨j,hj,?_⟩
      have ej:ks.getD j (0,0)=ks.getD n (0,0):=ej
      show LJS.hT _ _ [(ks.getD j (0,0)).1,(ks.getD j (0,0)).2]=LJS.hT _ _ [(ks.getD n (0,0)).1,(ks.getD n (0,0)).2]
      rw[ej]
     rw[MD c,MD this]
    ·have:LJS.aF X.prog X.w (fun i=>[(ks.getD i (0,0)).1,(ks.getD i (0,0)).2]) n∉(LJS.ip (LJS.aF X.prog X.w fun i=>[(ks.getD i (0,0)).1,(ks.getD i (0,0)).2]) n).map (LJS.aF X.prog X.w fun i=>[(ks.getD i (0,0)).1,(ks.getD i (0,0)).2]):=fun z=>by
      obtain⟨j,hj,ej⟩:=Wg.mp z
      have sM:=LJS.xW _ n j hj
      exact c (Wg.mpr ⟨j,hj,same n j (by omega) (by omega) ej⟩)
     rw[MA c,MA this,WD];rfl
  obtain⟨o,es,ep,t,ho,hex,hd,T⟩:=se
  have hlen:((LJS.ip (LJS.aF X.prog X.w fun i=>[(ks.getD i (0,0)).1,(ks.getD i (0,0)).2]) ks.length).map (LJS.aF X.prog X.w fun i=>[(ks.getD i (0,0)).1,(ks.getD i (0,0)).2])).length=(gT ks ks.length).length:=by
   rw[<-key ks.length (wG _),qx,qx]
  have T':=T.P
  rw[sz] at T'
  have By:LJS.kJ h' s.heap.objs.size _:=⟨o,es,ep,t,ho,hex,hd,T'⟩
  exact⟨.ref s.heap.objs.size,upd H s.heap.objs.size (lg s.heap.objs.size (gT ks ks.length).length),I.laid (t':=tk) (fun b o e=>kp b o (My e) e) (wG _) (NS By hlen),rfl,q _ (I.aN.fresh (wG _))⟩
end
end L2
namespace HT
open PySem PySem.Spec PyProof.Rows
section
variable {prog:Program} {w:World} {A:Around} {E:Value->Shared->Prop} {s:Shared}
theorem Pt {t b:Addr} {ws:List Value} {Q:Value->Shared->Prop} (ht:IsTup s.heap t #[]) (hb:IsTup s.heap b ws.toArray) (h:Q (.ref b) s):wpAny (model prog w) A (binaryOp .Add (.ref t) (.ref b)) Q E s:=by
 obtain⟨⟨cls,dd,data,sl⟩,ho,hc,n,hd⟩:=id ht
 obtain⟨⟨ud,oZ,data2,o6⟩,fI,jw,n2,hd2⟩:=id hb
 simp only at hc hd jw hd2
 subst hc hd jw hd2
 exact concat_meets ⟨_,ho,rfl⟩ ⟨_,fI,rfl⟩ noFill_tuple_add seq_tuple_add Y_ YX (YJ _ _)
  (tuple_addW0 t b #[] ws.toArray n n2 dd oZ sl o6 rfl) ⟨ho,fI,h⟩
theorem Pu {t sl:Addr} {items:Array Value} {vl vu:Value} {lo hi:Option Int} {Q:Value->Shared->Prop} (ht:IsTup s.heap t items) (hs:s.heap.IsSliceOf sl vl vu .none) (pl:IsPart vl lo) (pu:IsPart vu hi)
  (hw:bo items.size 0 lo=0/\bo items.size items.size hi=items.size) (h:Q (.ref t) s):wpAny (model prog w) A (getItem (.ref t) (.ref sl)) Q E s:=by
 obtain⟨os,jN,ny,my⟩:=id hs
 have uf:s.TypeIs (.ref sl) "slice" := ⟨os,jN,ny⟩
 unfold getItem
 try with_reducible refine Wo ?_
 first | refine nG (uk ?_) | skip
 refine nG (ZX ht.typeIs (by decide) ?_)
 refine nG (WU (name:=Str.ofString "__getitem__") ht.typeIs Wq
  (WW Wq ht.typeIs ZC ?_ (args_tuple_getitem _ _)))
 show wpAny _ _ (Builtin.Tuple.tupleItemsOf (.ref t) >>= _) _ _ s
 refine nG (tupleItemsOf_ ht ?_)
 refine nG (YD uf ?_)
 rw[MD (by decide)]
 refine nG (ES hs pl pu ?_)
 show wpAny _ _ (if (((bo items.size 0 lo:Nat):Int) == 0 && (1:Int) == 1 && (bo items.size items.size hi - bo items.size 0 lo) == items.size)=true then _ else _) _ _ s
 rw[MD (by rw[hw.1,hw.2];simp)]
 unfold Builtin.Tuple.tupleIsExact
 refine nG (nG (YD ht.typeIs (uk ?_)))
 rw[MD (by decide)]
 refine nG (Zh ?_)
 exact uk ⟨_,rfl,uk h⟩
theorem Pw {sl:Addr} {n:Nat} {t:Tok} {Q:Int × Int × Nat->Shared->Prop} (hs:s.heap.IsSliceOf sl .none .none (.int (-1) t))
  (h:Q ((n:Int) - 1,-1,n) s):wpAny (model prog w) A (Builtin.Slice.sliceApplied (.ref sl) (pure (n:Int))) Q E s:=by
 obtain⟨os,jN,ny,my⟩:=id hs
 unfold Builtin.Slice.sliceApplied Builtin.Slice.sliceFields
 refine nG (nG (Xb jN my (x := .none) rfl (nG (Xb jN my (x := .none) rfl (nG (Xb jN my (x := .int (-1) t) rfl (uk ?_)))))))
 refine nG (ue (.int (-1) t) ?_)
 show wpAny _ _ (if ((-1:Int) == 0)=true then _ else _) _ _ s
 rw[MA (by decide)]
 refine nG (ue .none (nG (ue .none (nG (uk ?_)))))
 refine uk ?_
 have e:Builtin.Slice.slicePlaces ((n:Int) - 1) (-1) (-1)=n:=by
  unfold Builtin.Slice.slicePlaces
  rw[MA (by decide)]
  split
  ·rename_i c
   rw[show -(-1:Int)=1 by decide,Int.ediv_one];omega
  ·omega
 show Q ((n:Int) - 1,-1,Builtin.Slice.slicePlaces ((n:Int) - 1) (-1) (-1)) s
 rw[e];exact h
theorem Px {t sl:Addr} {ag:List Value} {tk:Tok} {Q:Value->Shared->Prop} (ht:IsTup s.heap t ag.toArray) (hs:s.heap.IsSliceOf sl .none .none (.int (-1) tk))
  (h:Q (.ref s.heap.objs.size) { s with heap:=s.heap.push { cls := .type "tuple",data := .seq ag.reverse.toArray } }) (hsz:ag.length <= sizeLine):wpAny (model prog w) A (getItem (.ref t) (.ref sl)) Q E s:=by
 have eu:sizeOk (.seq ag.reverse.toArray):=by
  show ag.reverse.toArray.size <= sizeLine
  rw[Ad,YG];exact hsz
 obtain⟨os,jN,ny,my⟩:=id hs
 have uf:s.TypeIs (.ref sl) "slice" := ⟨os,jN,ny⟩
 unfold getItem
 try with_reducible refine Wo ?_
 first | refine nG (uk ?_) | skip
 refine nG (ZX ht.typeIs (by decide) ?_)
 refine nG (WU (name:=Str.ofString "__getitem__") ht.typeIs Wq
  (WW Wq ht.typeIs ZC ?_ (args_tuple_getitem _ _)))
 show wpAny _ _ (Builtin.Tuple.tupleItemsOf (.ref t) >>= _) _ _ s
 refine nG (tupleItemsOf_ ht ?_)
 refine nG (YD uf ?_)
 rw[MD (by decide)]
 refine nG (Pw hs ?_)
 show wpAny _ _ (if ((((ag.toArray.size:Int) - 1)) == 0 && (-1:Int) == 1 && ag.toArray.size == ag.toArray.size)=true then _ else _) _ _ s
 rw[MA (by simp)]
 have e:((List.range ag.toArray.size).filterMap fun (k:Nat)=>ag.toArray[((ag.toArray.size:Int) - 1 + (k:Int) * -1).toNat]?).toArray=ag.reverse.toArray:=by
  congr 1
  rw[Ad]
  refine XE fun i => ?_
  have all:∀ k∈List.range ag.length,((ag.toArray[((ag.length:Int) - 1 + (k:Int) * -1).toNat]?)).isSome=true:=fun k hk=>by
   have:=Wh.mp hk
   rw[Xt,qv (by omega)];rfl
  have fm:∀ l:List Nat,(∀ k∈l,((ag.toArray[((ag.length:Int) - 1 + (k:Int) * -1).toNat]?)).isSome=true)->∀ i:Nat,(l.filterMap fun (k:Nat)=>ag.toArray[((ag.length:Int) - 1 + (k:Int) * -1).toNat]?)[i]? = (l[i]?).bind fun k=>ag.toArray[((ag.length:Int) - 1 + (k:Int) * -1).toNat]? := by
   intro l
   induction l with
   | nil=>intro _ i;simp
   | cons k r ih =>
    intro hk i
    obtain⟨v,hv⟩:=Yi.mp (hk k Mz)
    rw[Yn,hv]
    dsimp only
    cases i with
    | zero=>exact hv.symm
    | succ i=>simpa using ih (fun k' i8=>hk k' (MB _ i8)) i
  rw[fm _ all]
  by_cases c:i < ag.length
  ·rw[WH c,List.getElem?_reverse c]
   show ag.toArray[((ag.length:Int) - 1 + (i:Int) * -1).toNat]? = _
   rw[Xt]
   congr 1
   omega
  ·rw[Ww (by rw[Ws];omega),Ww (by rw[YG];omega)];rfl
 rw[e]
 first
  | exact nG (m:=Builtin.Tuple.tupleExact _) (Wz (uk ⟨_,rfl,uk h⟩) eu)
  | exact nG (m:=Builtin.Tuple.tupleExact _) (Wz (nG (uk (uk ⟨_,rfl,uk h⟩))) eu)
  | exact nG (nG (m:=Builtin.Tuple.tupleExact _) (Wz (uk (uk ⟨_,rfl,uk h⟩)) eu))
  | exact nG (nG (m:=Builtin.Tuple.tupleExact _) (Wz (uk ⟨_,rfl,uk h⟩) eu))
end
end HT
namespace L2
open PySem PySem.Spec PyProof.Rows
variable [aI]
section
variable {X:Cx} {e:Expr} {te:TE} {pos p2 p3 p4:Pos}
noncomputable def Py (K:PySem.W.Frag):V->Option Int->Option Int->Hp->VK->Prop:=fun x lo hi H Q=>∃ a xs,x = .ref a/\bQ K H a xs ∧
 (HT.bo xs.length 0 lo=0/\HT.bo xs.length xs.length hi=xs.length->Q (.ref a) H)/\(¬ (HT.bo xs.length 0 lo=0/\HT.bo xs.length xs.length hi=xs.length)->∀ p,H p=none->Q (.ref p) (upd H p (.tup (dr xs lo hi))))
theorem Pz:nA X (Py X.K):=by
 intro pins s σ H x v vl vu lo hi sl Q I rx hs pl pu h
 obtain⟨a,xs,rfl,hx,q1,q2⟩:=h
 by_cases hw:HT.bo xs.length 0 lo=0/\HT.bo xs.length xs.length hi=xs.length
 ·cases rx
  obtain⟨ag,r,ht,hz⟩:=I.tuple hx
  have hlen:ag.toArray.size=xs.length:=by rw[Ad];exact r.length.symm
  refine⟨"tuple",_,Wq.lookup,ht.typeIs,?_⟩
  exact HT.Pu ht hs pl pu (by rw[hlen];exact hw) ⟨.ref a,H,I,rfl,q1 hw⟩
 ·exact Me pins s σ H _ v vl vu lo hi sl Q I rx hs pl pu ⟨a,xs,rfl,hx,hw,q2 hw⟩
noncomputable def PB (K:PySem.W.Frag) (te:TE):TE:=fun σ H Q=>te σ H fun x H1=>(∃ a xs,x = .ref a/\bx K H1 a xs/\∀ p,H1 p=none->Q (.ref p) (upd H1 p (.lst xs.reverse)))\/∃ a xs,x = .ref a/\bQ K H1 a xs/\∀ p,H1 p=none->Q (.ref p) (upd H1 p (.tup xs.reverse))
theorem PD {j1} (he:JE X e te):JE X (.Subscript e (.Slice none none (some (.UnaryOp .USub (.Constant (.int 1) j1 p3) p4)) p2) pos) (PB X.K te):=by
 refine⟨?_⟩
 intro pins s σ H Q I h
 refine Subscript_ (bq (he.out pins s σ H _ I h) fun v s1 h0_ => el5 h0_ fun x H1 I1 r1 q1 => ?_)
 refine wpAny_Slice ?_
 rw[evalPart_none]
 refine uk ?_
 refine uk ?_
 rw[evalPart_some]
 have h1:=EA (X:=X) EC (El (X:=X) (i:=1) (j:=j1) (pos:=p3)) (pos:=p4) pins s1 σ H1 (fun v H2=>v = .int (-1)/\H2=H1) I1 ⟨1,rfl,rfl,rfl⟩
 refine bq h1 fun u s3 ⟨y,H3,I3,ry,ey,eH⟩ => ?_
 subst ey eH
 obtain⟨t,rfl⟩:=ry
 have I4:Inv X pins σ H3 { s3 with heap:=s3.heap.push { cls := .type "slice",data := .fields #[.none,.none,.int (-1) t] } }:=I3.kept (t':=s3.toks) fun b ob q=>qw _ q
 rcases q1 with⟨a,xs,rfl,hx,q⟩ | ⟨a,xs,rfl,hx,q⟩
 ·cases r1
  obtain⟨ag,r,ht,hz⟩:=I4.list hx
  have hlen:=r.length
  refine tail_any (ops:=[.ref a,.ref s3.heap.objs.size]) ht.isList.typeIs ZY.lookup ?_ (by with_unfolding_all rfl)
  refine wpAny_getItem_list_slice ht.isList (ZN ..) .none .none (.int (-1) t) (by decide) ?_ (by rw[Ad]<;>omega)
  rw[N0]
  refine⟨.ref _,_,I4.laid (t':=s3.toks) (o := .lst xs.reverse) (fun b ob q=>qw _ q) (wG _) ?_,rfl,q _ (I4.aN.fresh (wG _))⟩
  exact⟨by rw[YG];exact hz,_,0,AN r,MC _ rfl⟩
 ·cases r1
  obtain⟨ag,r,ht,hz⟩:=I4.tuple hx
  have hlen:=r.length
  refine tail_any (ops:=[.ref a,.ref s3.heap.objs.size]) ht.typeIs Wq.lookup ?_ (by with_unfolding_all rfl)
  refine HT.Px ht (ZN ..) ?_ (by omega)
  refine⟨.ref _,_,I4.laid (t':=s3.toks) (o := .tup xs.reverse) (fun b ob q=>qw _ q) (wG _) ?_,rfl,q _ (I4.aN.fresh (wG _))⟩
  exact⟨by rw[YG];exact hz,_,AN r,IsTup.new _ _⟩
theorem PH:dE X (binaryOp .Add) (fun x y H Q=>∃ a b ys,x = .ref a/\y = .ref b/\bQ X.K H a []/\bQ X.K H b ys/\Q (.ref b) H):=by
 intro pins s σ H x y v u Q I rx ry h
 obtain⟨a,b,ys,rfl,rfl,ha,hb,q⟩:=h
 cases rx
 cases ry
 obtain⟨ag,r1,p1,_⟩:=I.tuple ha
 obtain⟨bc,r2,p2,_⟩:=I.tuple hb
 have:ag=[]:=r1.fU.mpr rfl
 subst this
 exact HT.Pt p1 p2 ⟨.ref b,H,I,rfl,q⟩
theorem PJ:dE X (compareOp .Is) (fun x y H Q=>∃ a b,x = .bl a/\y = .bl b/\Q (.bl (a == b)) H):=by
 intro pins s σ H x y v u Q I rx ry h
 obtain⟨a,b,rfl,rfl,q⟩:=h
 cases rx
 cases ry
 exact uk ⟨.bl (a == b),H,I,by cases a<;>cases b<;>rfl,q⟩
noncomputable def dU:D->D->(D->Prop)->Prop
 | .int i,.int j,K=>K (.int (i + j))
 | .lst a,.lst b,K=>a.length + b.length <= 1000/\K (.lst (a ++ b))
 | .tup a,.tup b,K=>a.length + b.length <= 1000/\K (.tup (a ++ b))
 | .str a,.str b,K=>a.length + b.length <= 1000/\K (.str (a ++ b))
 | _,_,_=>False
theorem fg:gg X (binaryOp .Add) dU:=by
 rintro pins s σ H x y v u Q I rx ry ⟨F,d,e,K,sub,rd,re,q,md⟩
 unfold dU at q
 split at q
 ·exact xy pins s σ H x y v u Q I rx ry ⟨F,_,_,K,sub,rd,re,q,md⟩
 ·exact xy pins s σ H x y v u Q I rx ry ⟨F,_,_,K,sub,rd,re,q,md⟩
 ·rename_i as bs
  by_cases c:as=[]
  ·subst c
   have cR:Is F (.tup []) x:=rd
   have jC:Is F (.tup bs) y:=re
   have PK:=jC
   simp only[Is] at cR jC
   obtain⟨a,us,rfl,h1,h2⟩:=cR
   obtain⟨b,ws,rfl,h3,h4⟩:=jC
   have:us=[]:=by simpa only [af] using h2
   subst this
   exact PH pins s σ H _ _ v u Q I rx ry ⟨a,b,ws,rfl,rfl,bQ.of (sub _ _ h1),bQ.of (sub _ _ h3),md _ _ _ q.2 (fun _ _ e=>e) (u3 sub PK)⟩
  ·exact xy pins s σ H x y v u Q I rx ry ⟨F,_,_,K,sub,rd,re,⟨⟨c,q.1⟩,q.2⟩,md⟩
 ·exact xy pins s σ H x y v u Q I rx ry ⟨F,_,_,K,sub,rd,re,q,md⟩
 ·exact q.elim
noncomputable def rm:D->Option Int->Option Int->(D->Prop)->Prop
 | .lst ds,lo,hi,K=>K (.lst (cutD ds lo hi))
 | .tup ds,lo,hi,K=>K (.tup (cutD ds lo hi))
 | _,_,_,_=>False
noncomputable def je (f:WE) (l h:WO):WE:=fun δ K=>f δ fun x δ1=>l δ1 fun lo δ2=>h δ2 fun hi δ3=>fM x δ3 fun d=>rm d lo hi fun z=>K (.p z) δ3
theorem PL {ds:List D} {lo hi:Option Int} (h:HT.bo ds.length 0 lo=0/\HT.bo ds.length ds.length hi=ds.length):cutD ds lo hi=ds:=by
 unfold cutD
 rw[h.1,h.2,Y1,q0g,Xd (wG _)]
theorem xX {e:Expr} {f:WE} {lo hi:Option Expr} {l h:WO} {pos p2:Pos} (he:JE X e (tD f)) (hl:PO X lo (xD l)) (hh:PO X hi (xD h)):JE X (.Subscript e (.Slice lo hi none p2) pos) (tD (je f l h)) :=
 (AG (hU.or Pz) he hl hh).weak fun σ H Q h0_ => el7 h0_ fun F ad δ K S q k =>⟨F,ad,δ,_,S,q,fun x δ1 h1 v F1 aR H1 E1 S1 V1=>⟨F1,aR,δ1,_,S1,h1,fun lo δ2 h2 F2 c7 H2 E2 S2=>⟨F2,c7,δ2,_,S2,h2,fun hi δ3 h3 F3 qJ H3 E3 S3=>by
  obtain⟨d,h4,rd⟩:=iD S3 ((V1.ext E2).ext E3) h3
  have BH:=(E1.trans E2).trans E3
  unfold rm at h4
  split at h4
  ·rename_i ds
   obtain⟨a,vs,rfl,g1,g2⟩:=rd
   refine .inl ⟨a,vs,rfl,bx.of g1,fun p hp => ?_⟩
   exact k _ _ h4 _ _ _ _ (BH.trans (Ext.al S3 (cj hp))) (S3.al (cj hp)) (ku S3.sub hp (GR g2 _ _))
  ·rename_i ds
   have cR:Is F3 (.tup ds) v:=rd
   have Bq:=cR
   simp only[Is] at cR
   obtain⟨a,vs,rfl,g1,g2⟩:=cR
   refine .inr ⟨a,vs,rfl,bQ.of (S3.sub _ _ g1),fun hw => ?_,fun _ p hp => ?_⟩
   ·rw[g2.length] at hw
    rw[PL hw] at h4
    exact k _ _ h4 _ _ _ _ BH S3 Bq
   ·exact k _ _ h4 _ _ _ _ (BH.trans (Ext.al S3 (cj hp))) (S3.al (cj hp)) (xw S3.sub hp (GR g2 _ _))
  ·exact h4.elim⟩⟩⟩
noncomputable def xY:D->(D->Prop)->Prop
 | .lst ds,K=>K (.lst ds.reverse)
 | .tup ds,K=>K (.tup ds.reverse)
 | _,_=>False
theorem PM {e:Expr} {f:WE} {j1} {pos p2 p3 p4:Pos} (he:JE X e (tD f)):JE X (.Subscript e (.Slice none none (some (.UnaryOp .USub (.Constant (.int 1) j1 p3) p4)) p2) pos) (tD (d1 f xY)) :=
 (PD he).weak fun σ H Q h0_ => el7 h0_ fun F ad δ K S q k =>⟨F,ad,δ,_,S,q,fun x δ1 h1 v F1 aR H1 E1 S1 V1=>by
  obtain⟨d,h4,rd⟩:=iD S1 V1 h1
  unfold xY at h4
  split at h4
  ·rename_i ds
   obtain⟨a,vs,rfl,g1,g2⟩:=rd
   refine .inl ⟨a,vs,rfl,bx.of g1,fun p hp => ?_⟩
   exact k _ _ h4 _ _ _ _ (E1.trans (Ext.al S1 (cj hp))) (S1.al (cj hp)) (ku S1.sub hp (Be g2))
  ·rename_i ds
   have cR:Is F1 (.tup ds) v:=rd
   simp only[Is] at cR
   obtain⟨a,vs,rfl,g1,g2⟩:=cR
   refine .inr ⟨a,vs,rfl,bQ.of (S1.sub _ _ g1),fun p hp => ?_⟩
   exact k _ _ h4 _ _ _ _ (E1.trans (Ext.al S1 (cj hp))) (S1.al (cj hp)) (xw S1.sub hp (Be g2))
  ·exact h4.elim⟩
noncomputable def lN:D->D->(D->Prop)->Prop
 | .bl a,.bl b,K=>K (.bl (a == b))
 | d,e,K=>lK d e K
theorem HG:gg X (compareOp .Is) lN:=by
 rintro pins s σ H x y v u Q I rx ry ⟨F,d,e,K,sub,rd,re,q,md⟩
 unfold lN at q
 split at q
 ·rename_i a b
  exact PJ pins s σ H x y v u Q I rx ry ⟨a,b,rd,re,md _ _ _ q (fun _ _ e=>e) rfl⟩
 ·exact OB pins s σ H x y v u Q I rx ry ⟨F,_,_,K,sub,rd,re,q,md⟩
end
end L2
open L2
open Lean in
local macro_rules
 | `(tactic| simp? only [$ls,*] $[$loc:location]?) => do
  let a ← ("Zm dep bH WK Nat.max_self Nat.max_zero Nat.zero_max Nat.reduceLeDiff au aG dN ao ak d1 d2 dC aa iX fM nK jT ay.fix Gk e_ du sD dT qE lA ph gh nL kq AR eW mF aX bP bA gP dG hX iZ cx fA qI cy cg jV jW A6 eD A7 dy ax xq passes mG gj nU qM aP qQ dU rm je xY lN pA nY sL eF oI eX oEq pG oLt lK xC df xG xH u6 nX cS u7 vd Bx ja qS q_ gI lL q9 xJ Bi dz vb ay.trim gG xi Option.join_some Option.join_none Wb X1 q0e List.nil_append WV List.replicate_zero Xz W_ List.getElem?_nil WM WN Fm X0 List.take_succ_cons ZP List.take_nil List.any_nil Yj q0L XR Bool.and_true Zq Bool.or_false V6 Bool.true_eq_false Ym W9 true_and and_true and_self reduceCtorEq beq_self_eq_true Wv Nat.reduceAdd Nat.reduceLT Nat.reduceEqDiff Nat.reduceSub qx Vw".splitOn " ").toArray.mapM fun s => `(Parser.Tactic.simpLemma| $(mkIdent s.toName):ident)
  let r ← `(Parser.Tactic.simpLemma| ↓reduceIte)
  let a : Syntax.TSepArray [`Lean.Parser.Tactic.simpStar, `Lean.Parser.Tactic.simpErase, `Lean.Parser.Tactic.simpLemma] "," := ⟨(Syntax.SepArray.ofElems (sep := ",") ((a.push r).map (·.raw) ++ ls.getElems.map (·.raw))).elemsAndSeps⟩
  `(tactic| simp only [$a,*] $[$loc]?)
set_option maxHeartbeats 8000000
namespace LJ
open PySem L2
variable [aI]
theorem HH {ns:List Int} {k:Int} (h0:0 <= k) (h1:k < (ns.length:Int)):∃ n,dF (ns.map D.int) k=some (.int n):=by
 obtain⟨i,rfl⟩:∃ i:Nat,k=i:=⟨k.toNat,by omega⟩
 have hi:i < ns.length:=by omega
 refine⟨ns[i],o7 ?_⟩
 rw[Fl,qv hi];rfl
theorem gU {α : Type} {x : α} {r:List α}:dF (x :: r) 0=some x:=o7 (j:=0) rfl
theorem jX {α : Type} {x y : α} {r:List α}:dF (x :: y :: r) 1=some y:=o7 (j:=1) rfl
theorem at2 {α : Type} {x y z : α} {r:List α}:dF (x :: y :: z :: r) 2=some z:=o7 (j:=2) rfl
theorem vp {a b A B:Int} (h0:0 <= a) (h1:a <= A) (h2:0 <= b) (h3:b <= B):0 <= a * b/\a * b <= A * B :=
 ⟨Int.mul_nonneg h0 h2,Int.mul_le_mul h1 h3 h2 (Int.le_trans h0 h1)⟩
noncomputable def iG:List Int:=[2147483629,2147483587,2147483579,2147483563,2147483549,2147483543,2147483497,2147483489,2147483477,2147483423,2147483399,2147483353,2147483323]
theorem BI (n:Int):∃ q:Int,dF (iG.map D.int) (n % 13)=some (.int q)/\0 < q/\q < 2147483648:=by
 have h0:0 <= n % 13:=Xv _ (by decide)
 have h1:n % 13 < 13:=Xc _ (by decide)
 generalize n % 13=j at h0 h1
 obtain⟨i,rfl⟩:∃ i:Nat,j=i:=⟨j.toNat,by omega⟩
 have hi:i < 13:=by omega
 have hl:(iG.map D.int)[i]? = some (.int (iG[i]'(by show i < 13;exact hi))):=by
  rw[Fl,qv (by show i < 13;exact hi)];rfl
 refine⟨_,o7 hl,?_⟩
 have all:∀ q∈iG,0 < q/\q < 2147483648:=by decide
 exact all _ (XN _)
theorem PN:iU 3 1=some 1:=rfl
theorem HI:iU 3 2=some 2:=rfl
theorem aZ {A B:WS} {K:KS} {δ : ay} (h:∀ N:ay->Prop,N=B K->A { K with nx:=N } δ):au A B K δ := h _ rfl
theorem vq {t:WT} {G G':WS} {K:KS} {δ : ay} (h:∀ A B:ay->Prop,A=G K->B=G' K->t δ fun b δ1=>if b=true then A δ1 else B δ1):bP t G G' K δ := h _ _ rfl rfl
theorem vt {w:WI} {g:WG} {b:WS} {K:KS} {δ : ay} (h:∀ g' b' K',g'=g->b'=b->K'=K->w δ fun it δ1=>lF δ1 it.bN g' b' K' it.items δ1):cx w g b K δ := h _ _ _ rfl rfl rfl
theorem sN {f:WE} {g:WA} {δ : ay} {K:List DV->ay->Prop} (h:∀ K',K'=(fun x δ1=>g δ1 fun xs δ2=>K (x :: xs) δ2)->f δ K'):ao f g δ K:=h _ rfl
noncomputable def vv:GD:=fun ys ovs K=>∃ cell at_:Int,ys=[.p (.int cell),.p (.int at_)]/\ovs=[]/\0 <= at_/\at_ < 2 ^ 30/\∀ z:Int,K (.p (.int z)) []
noncomputable def BJ:WS:=(au (bP (dT (d2 (aa 0) (d2 (dC (.int 10)) (dC (.int 18)) (eX g_ fun i j => .int (i ^ j.toNat))) (oI fun i j => .bl (decide (j <= i))))) (aX (aa 0)) eW) (au (aG 2 (du (ao (dC (.int 2147483629)) (ao (dC (.int 2147483587)) (ao (dC (.int 2147483579)) (ao (dC (.int 2147483563)) (ao (dC (.int 2147483549)) (ao (dC (.int 2147483543)) (ao (dC (.int 2147483497)) (ao (dC (.int 2147483489)) ak)))))))))) (au (aG 2 (d2 (aa 2) (du (ao (dC (.int 2147483477)) (ao (dC (.int 2147483423)) (ao (dC (.int 2147483399)) (ao (dC (.int 2147483353)) (ao (dC (.int 2147483323)) ak)))))) dU)) (au (aG 3 (d2 (d2 (d2 (d2 (d2 (d2 (aa 0) (dC (.int 1000000007)) (eX (fun _ j=>0 < j) fun i j => .int (i % j))) (d2 (d2 (dC (.int 2)) (aa 1) eF) (dC (.int 69069)) dU) eF) (d2 (aa 1) (dC (.int 40503)) eF) dU) (dC (.int 977)) dU) (dC (.int 3)) (eX g_ fun i j => .int (i ^ j.toNat))) (d2 (aa 2) (d2 (aa 1) (dC (.int 13)) (eX (fun _ j=>0 < j) fun i j => .int (i % j))) aP) (eX (fun _ j=>0 < j) fun i j => .int (i % j)))) (au (aG 4 (d2 (d2 (d2 (d2 (d2 (aa 3) (d2 (aa 1) (dC (.int 3)) dU) eF) (d2 (aa 0) (dC (.int 65537)) (eX (fun _ j=>0 < j) fun i j => .int (i % j))) dU) (dC (.int 5)) dU) (dC (.int 5)) (eX g_ fun i j => .int (i ^ j.toNat))) (d2 (aa 2) (d2 (d2 (aa 1) (dC (.int 5)) dU) (dC (.int 13)) (eX (fun _ j=>0 < j) fun i j => .int (i % j))) aP) (eX (fun _ j=>0 < j) fun i j => .int (i % j)))) (au (aG 5 (d2 (d2 (d2 (d2 (aa 4) (d2 (aa 3) (dC (.int 1009)) (eX (fun _ j=>0 < j) fun i j => .int (i % j))) dU) (aa 1) dU) (dC (.int 3)) (eX g_ fun i j => .int (i ^ j.toNat))) (d2 (aa 2) (d2 (d2 (aa 1) (dC (.int 7)) dU) (dC (.int 13)) (eX (fun _ j=>0 < j) fun i j => .int (i % j))) aP) (eX (fun _ j=>0 < j) fun i j => .int (i % j)))) (aX (d2 (d2 (d2 (d2 (aa 3) (dC (.int 2147483647)) eF) (aa 4) dU) (dC (.int 2147483647)) eF) (aa 5) dU))))))))
theorem PQ:∀ ys ovs K',ys.length=2->vv ys ovs K'->BJ (dz ovs.length K') ⟨ys.map some ++ List.replicate 4 none,ovs.map some⟩:=by
 rintro ys ovs K' - ⟨cell,k,rfl,rfl,h0,h1,fin⟩
 unfold BJ
 have lO:∀ (z:Int) (sl:List (Option DV)),hZ 0 K' (.p (.int z)) ⟨sl,[]⟩:=fun z sl=>⟨[],rfl,rfl,fin z⟩
 simp? only []
 refine⟨⟨by decide,by decide,by decide⟩,?_⟩
 split
 ·exact lO _ _
 obtain⟨q1,e1,p1,b1⟩:=BI k
 obtain⟨q2,e2,p2,b2⟩:=BI (k + 5)
 obtain⟨q3,e3,p3,b3⟩:=BI (k + 7)
 simp only[iG,Wb,X1] at e1 e2 e3
 simp only[e1,e2,e3]
 have c0:0 <= cell % 1000000007:=Xv _ (by decide)
 have c1:cell % 1000000007 < 1000000007:=Xc _ (by decide)
 have m1:=vp c0 (Int.le_of_lt c1) (show (0:Int) <= 2 * k + 69069 by omega) (show 2 * k + 69069 <= 2147552717 by omega)
 refine⟨by decide,.inl ⟨by decide,by decide⟩,.inl ⟨by omega,by omega⟩,.inr ⟨by decide,by decide⟩,⟨by decide,by decide,?cp1⟩,by decide,p1,?_⟩
 case cp1 =>
  generalize cell % 1000000007 * (2 * k + 69069)=m at m1 ⊢
  omega
 generalize (cell % 1000000007 * (2 * k + 69069) + k * 40503 + 977) ^ (3:Int).toNat=x1
 have o0:0 <= x1 % q1:=Xv _ (by omega)
 have o1:x1 % q1 < q1:=Xc _ p1
 have d0:0 <= cell % 65537:=Xv _ (by decide)
 have d1:cell % 65537 < 65537:=Xc _ (by decide)
 have m2:=vp o0 (show x1 % q1 <= 2147483648 by omega) (show (0:Int) <= k + 3 by omega) (show k + 3 <= 1073741827 by omega)
 refine⟨.inl ⟨by omega,by omega⟩,by decide,⟨by decide,by decide,?cp2⟩,by decide,p2,?_⟩
 case cp2 =>
  generalize x1 % q1 * (k + 3)=m at m2 ⊢
  omega
 have t0:0 <= (x1 % q1 * (k + 3) + cell % 65537 + 5) ^ (5:Int).toNat % q2:=Xv _ (by omega)
 have t1:(x1 % q1 * (k + 3) + cell % 65537 + 5) ^ (5:Int).toNat % q2 < q2:=Xc _ p2
 have u0:0 <= x1 % q1 % 1009:=Xv _ (by decide)
 have u1:x1 % q1 % 1009 < 1009:=Xc _ (by decide)
 generalize (x1 % q1 * (k + 3) + cell % 65537 + 5) ^ (5:Int).toNat % q2=m at t0 t1 ⊢
 exact⟨by decide,⟨by decide,by decide,by omega⟩,by decide,p3,.inr ⟨by decide,by decide⟩,.inr ⟨by decide,by decide⟩,lO _ _⟩
noncomputable def jf (ns:List Int) (k z:Int):OV := .lst [.lst (ns.map D.int),.int k,.int z]
structure bg (n:Int) (o:OV):Prop where
 out:∃ ns k z,o=jf ns k z/\ns.length <= 63/\0 <= k/\k <= n
theorem bg.mono {n m:Int} {o:OV} (h:bg n o) (l:n <= m):bg m o:=by
 obtain⟨ns,k,z,e,h1,h2,h3⟩:=h.out
 exact⟨ns,k,z,e,h1,h2,by omega⟩
noncomputable def vw:GD:=fun ys ovs K=>∃ n o,ys=[.o 0]/\ovs=[o]/\bg n o/\∀ o',bg n o'->K (.a 0) [o']
noncomputable def BK:WS:=(au (q_ (dC (.int 0)) (aa 0) (dC (.int 2))) (aX (aa 0)))
theorem PR:∀ ys ovs K',ys.length=1->vw ys ovs K'->BK (dz ovs.length K') ⟨ys.map some ++ List.replicate 0 none,ovs.map some⟩:=by
 rintro ys ovs K' - ⟨n,o,rfl,rfl,P,fin⟩
 obtain⟨ns,k,z,rfl,h1,h2,h3⟩:=P.out
 unfold BK jf
 simp? only []
 exact⟨[jf ns k 0],rfl,rfl,fin _ ⟨ns,k,0,rfl,h1,h2,h3⟩⟩
noncomputable def gu:GD:=fun ys ovs K=>∃ (n m:Int) (o:OV),ys=[.o 0,.p (.int m)]/\ovs=[o]/\bg n o/\n < 2 ^ 30/\0 < m/\m < 1073741824/\∀ r o',0 <= r->r < m->bg (n + 1) o'->K (.p (.int r)) [o']
noncomputable def BL:WS:=(au (bP (dT (d2 (d2 (aa 0) (dC (.int 2)) aP) (aa 1) oLt)) (au (aG 2 (d2 (aa 0) (dC (.int 1)) aP)) (au (aG 3 (dC (.int 0))) (au (bP (dT (d2 (aa 2) (dN (ao (d2 (aa 0) (dC (.int 0)) aP) ak) df) oLt)) (aG 3 (d2 (d2 (aa 0) (dC (.int 0)) aP) (aa 2) aP)) (bP (dT (d2 (dN (ao (d2 (aa 0) (dC (.int 0)) aP) ak) df) (dC (.int 0)) (oI fun i j => .bl (decide (j < i))))) (aG 3 (d2 (d2 (d2 (aa 0) (dC (.int 0)) aP) (d2 (d2 (d2 (aa 2) (dC (.int 5)) eF) (dC (.int 3)) dU) (dN (ao (d2 (aa 0) (dC (.int 0)) aP) ak) df) (eX (fun _ j=>0 < j) fun i j => .int (i % j))) aP) (d2 (d2 (dC (.int 10)) (dC (.int 17)) (eX g_ fun i j => .int (i ^ j.toNat))) (aa 2) dU) (eX (fun _ j=>0 < j) fun i j => .int (i % j)))) eW)) (au (q_ (d2 (aa 2) (dC (.int 1)) dU) (aa 0) (dC (.int 1))) (q_ (ax 2 vv (ao (aa 3) (ao (aa 2) ak))) (aa 0) (dC (.int 2))))))) eW) (au (aG 4 (d2 (d2 (aa 0) (dC (.int 2)) aP) (aa 1) (eX (fun _ j=>0 < j) fun i j => .int (i % j)))) (au (q_ (d2 (d2 (aa 0) (dC (.int 2)) aP) (aa 1) (eX tZ fun i j => .int (i.fdiv j))) (aa 0) (dC (.int 2))) (aX (aa 4)))))
theorem PU:∀ ys ovs K',ys.length=2->gu ys ovs K'->BL (dz ovs.length K') ⟨ys.map some ++ List.replicate 3 none,ovs.map some⟩:=by
 rintro ys ovs K' - ⟨n,m,o,rfl,rfl,P,hn,HJ,VG,fin⟩
 obtain⟨ns,k,z,rfl,h1,h2,h3⟩:=P.out
 unfold BL jf
 have last:∀ (k' z':Int) (sl:List (Option DV)),0 <= k'->k' <= n + 1->hZ 1 K' (.p (.int (z' % m))) ⟨sl,[some (.lst [.lst (ns.map D.int),.int k',.int (z'.fdiv m)])]⟩:=fun k' z' sl a b =>
  ⟨[jf ns k' (z'.fdiv m)],rfl,rfl,fin _ _ (Xv _ (by omega)) (Xc _ HJ) ⟨ns,k',_,rfl,h1,a,b⟩⟩
 have PV:∀ z,tZ z m:=fun z=>⟨by omega,by omega⟩
 have rest:∀ (k' z':Int) (s2 s3 s4:Option DV),0 <= k'->k' <= n + 1->(au (aG 4 (d2 (d2 (aa 0) (dC (.int 2)) aP) (aa 1) (eX (fun _ j=>0 < j) fun i j => .int (i % j)))) (au (q_ (d2 (d2 (aa 0) (dC (.int 2)) aP) (aa 1) (eX tZ fun i j => .int (i.fdiv j))) (aa 0) (dC (.int 2))) (aX (aa 4)))) (dz 1 K') ⟨[some (.o 0),some (.p (.int m)),s2,s3,s4],[some (.lst [.lst (ns.map D.int),.int k',.int z'])]⟩:=fun k' z' s2 s3 s4 a b=>by
  simp? only [at2,HI]
  exact⟨HJ,PV _,last _ _ _ a b⟩
 refine aZ fun N hN => ?_
 refine vq fun A B hA hB => ?_
 simp? only [at2]
 split
 ·subst hA
  refine aZ fun N2 dW => ?_
  simp? only [jX]
  subst dW
  refine aZ fun N2 dW => ?_
  simp? only []
  subst dW
  refine aZ fun N2 dW => ?_
  have go:∀ (c:Int) (s4:Option DV),N2 ⟨[some (.o 0),some (.p (.int m)),some (.p (.int k)),some (.p (.int c)),s4],[some (.lst [.lst (ns.map D.int),.int k,.int z])]⟩:=fun c s4=>by
   subst dW
   simp? only [PN]
   refine⟨c,k,rfl,rfl,h2,by omega,fun z' => ?_⟩
   simp? only [HI]
   subst hN
   exact rest _ _ _ _ _ (by omega) (by omega)
  refine vq fun A B hA hB => ?_
  simp? only [gU]
  split
  ·rename_i cK
   obtain⟨c,ec⟩:=HH h2 (XT cK)
   subst hA
   simp? only [gU]
   rw[ec]
   exact go _ _
  ·subst hB
   refine vq fun A B hA hB => ?_
   simp? only [gU]
   split
   ·rename_i n9
    have n9:=XT n9
    obtain⟨c,ec⟩:=HH (ns:=ns) (k:=(k * 5 + 3) % (ns.length:Int)) (Xv _ (by omega)) (Xc _ n9)
    subst hA
    simp? only [gU]
    refine⟨.inr ⟨by decide,by decide⟩,n9,?_⟩
    rw[ec]
    exact⟨⟨by decide,by decide,by decide⟩,by show (0:Int) < 10 ^ 17 + k;omega,go _ _⟩
   ·subst hB
    exact go _ _
 ·subst hB hN
  exact rest _ _ _ _ _ (by omega) (by omega)
noncomputable def c8 (p:Int × Int):D := .tup [.int p.1,.int p.2]
structure dJ (many:Int) (ps:List (Int × Int)):Prop where
 ends:∀ p∈ps,0 <= p.1/\p.1 < p.2/\p.2 < many
 mT:ps.Nodup
 iK:ps.length <= 66
theorem dJ.sub {many:Int} {ps qs:List (Int × Int)} (h:dJ many ps) (s:qs.Sublist ps):dJ many qs :=
 ⟨fun p hp=>h.ends p (s.subset hp),h.mT.sublist s,WY s.length_le h.iK⟩
noncomputable def vx:GD:=fun ys ovs K=>∃ (n kind many:Int) (o:OV),ys=[.o 0,.p (.int kind),.p (.int many)]/\ovs=[o]/\bg n o/\n + 100 < 2 ^ 30/\1 <= many/\many <= 12/\∀ ps o',dJ many ps->bg (n + 67) o'->K (.n (ps.map c8)) [o']
noncomputable def BM:WS:=(au (aG 3 (sD ak)) (au (cx (jW (ao (aa 2) ak)) (bA 4) (mF (q9 (aa 3) (ao (fA (jW (ao (aa 4) ak)) [none,some 4] (bA 0) cy (e_ (ao (aa 0) (ao (aa 1) ak)))) ak)))) (au (bP (dT (d2 (aa 1) (dC (.int 1)) oEq)) (aX (qI (A6 (ao (dC (.int 1)) (ao (aa 2) ak))) [none,some 0] (bA 0) cy (e_ (ao (ax 2 gu (ao (aa 1) (ao (aa 0) ak))) (ao (aa 0) ak))))) eW) (au (bP (dT (d2 (aa 1) (dC (.int 2)) oEq)) (au (aG 5 (fA (jW (ao (d2 (aa 2) (dC (.int 1)) (oI fun i j => .int (i - j))) ak)) [none] (bA 0) cy (e_ (ao (aa 0) (ao (d2 (aa 0) (dC (.int 1)) dU) ak))))) (aX (Bx (aa 5) (fA (cg (aa 3)) [none,some 2] (bA 0) (lA (dT (d2 (aa 0) (e_ (ao (dC (.int 0)) (ao (d2 (aa 1) (dC (.int 1)) (oI fun i j => .int (i - j))) ak))) oEq)) (dT (d2 (aa 1) (dC (.int 2)) (oI fun i j => .bl (decide (j < i)))))) (aa 0))))) eW) (au (bP (dT (d2 (aa 1) (dC (.int 3)) oEq)) (aX (aa 3)) eW) (au (bP (dT (d2 (aa 1) (dC (.int 4)) oEq)) (aX (qI (cg (aa 3)) [none,some 0] (bA 0) (dT (d2 (ax 2 gu (ao (aa 1) (ao (dC (.int 4)) ak))) (dC (.int 0)) oEq)) (aa 0))) eW) (au (bP (dT (d2 (aa 1) (dC (.int 5)) oEq)) (au (aG 6 (ax 2 gu (ao (aa 0) (ao (d2 (aa 2) (dC (.int 1)) dU) ak)))) (aX (qI (cg (aa 3)) [none,some 6,some 0] (bA 0) (lA (dT (d2 (d2 (d2 (aa 0) (dC (.int 0)) aP) (aa 1) oLt) (d2 (d2 (aa 0) (dC (.int 1)) aP) (aa 1) oLt) oEq)) (dT (d2 (ax 2 gu (ao (aa 2) (ao (dC (.int 3)) ak))) (dC (.int 0)) (oI fun i j => .bl (decide (j < i)))))) (aa 0)))) eW) (aX (qI (cg (aa 3)) [none,some 0] (bA 0) (dT (d2 (ax 2 gu (ao (aa 1) (ao (dC (.int 2)) ak))) (dC (.int 0)) oEq)) (aa 0))))))))))
theorem sub_snoc {α : Type} {zs ps:List α} {i:Nat} {x : α} (h:zs.Sublist (ps.take i)) (e:ps[i]? = some x):(zs ++ [x]).Sublist (ps.take (i + 1))/\zs.Sublist (ps.take (i + 1)):=by
 have:ps.take (i + 1)=ps.take i ++ [x]:=by rw[Xu,e];rfl
 rw[this]
 exact⟨h.append (Z1 _),h.trans (Z9 _ _)⟩
theorem PX {α : Type} {l:List α} {c : α} (h:l.Nodup) (hc:∀ x∈l,x=c):l.length <= 1:=by
 match l,h,hc with
 | [],_,_=>exact WK _
 | [_],_,_=>exact wG _
 | x :: y :: r,h,hc =>
  have:=(Xe.mp h).1 y (Mz)
  exact absurd ((hc x Mz).trans (hc y (MB _ Mz)).symm) this
theorem BN {n:Int} {o:OV} {ps:List (Int × Int)} {t:WT} {K:List D->ay->Prop} {rest:List (Option DV)} {ev:Option OV} {bN:ay->Prop} (hc:∀ sl o',bN ⟨sl,[some o',ev]⟩) (hw:ps.length <= 66) (P:bg n o) (hn:n + 70 < 2 ^ 30)
  (ht:∀ (p:Int × Int) (i:Nat) (o':OV) (Q:Bool->ay->Prop),p∈ps->i <= 66->bg (n + i) o'->(∀ b lP,bg (n + i + 1) lP->Q b ⟨some (.p (c8 p)) :: rest,[some lP,ev]⟩)->t ⟨some (.p (c8 p)) :: rest,[some o',ev]⟩ Q)
  (hr:gG 2 rest rest=rest)
  (fin:∀ (zs:List (Int × Int)) o',zs.Sublist ps->bg (n + ps.length) o'->K (zs.map c8) ⟨none :: rest,[some o',ev]⟩) :
  jA ⟨none :: rest,[some o,ev]⟩ bN (bA 0) t (aa 0) K (ps.map c8) [] ⟨none :: rest,[some o,ev]⟩:=by
 refine Bv (fun i acc δ => ∃ (zs:List (Int × Int)) (o':OV),zs.Sublist (ps.take i)/\acc=zs.map c8/\bg (n + i) o' /\ δ = ⟨none :: rest,[some o',ev]⟩) ⟨[],o,Z1 _,rfl,P.mono (by omega),rfl⟩ ?_ ?_
 ·rintro j d acc δ L hj ⟨zs,o',hz,rfl,P',rfl⟩ hL
  rw[Fl] at hj
  obtain⟨p,hp,rfl⟩:=Vu.mp hj
  have sM:j < ps.length:=(su.mp hp).1
  refine⟨hc _ _,?_⟩
  show t ⟨some (.p (c8 p)) :: rest,[some o',ev]⟩ _
  refine ht p j o' _ (Wk hp) (by omega) P' fun b lP n_ => ?_
  have hlen:(zs.map c8).length < 1000:=by
   rw[qx]
   have:=hz.length_le
   rw[Wn] at this;omega
  have P3:bg (n + ((j + 1:Nat):Int)) lP:=n_.mono (by omega)
  cases b with
  | true =>
   rw[MD rfl]
   refine⟨hlen,hL _ _ ⟨zs ++ [p],lP,(sub_snoc hz hp).1,by rw[WD];rfl,P3,?_⟩⟩
   show (⟨none :: gG 2 rest rest,_⟩:ay)=_
   rw[hr];rfl
  | false =>
   rw[MA (by decide)]
   refine hL _ _ ⟨zs,lP,(sub_snoc hz hp).2,rfl,P3,?_⟩
   show (⟨none :: gG 2 rest rest,_⟩:ay)=_
   rw[hr];rfl
 ·rintro acc δ ⟨zs,o',hz,rfl,P',rfl⟩
  rw[qx] at P' hz
  rw[Xd (wG _)] at hz
  exact⟨hc _ _,fin zs o' hz P'⟩
theorem PY:∀ ys ovs K',ys.length=3->vx ys ovs K'->BM (dz ovs.length K') ⟨ys.map some ++ List.replicate 4 none,ovs.map some⟩:=by
 rintro ys ovs K' - ⟨n,kind,many,o,rfl,rfl,P,hn,m1,jy,fin⟩
 obtain⟨mm,rfl⟩:∃ mm:Nat,many=mm:=⟨many.toNat,by omega⟩
 have BO:mm <= 12:=by omega
 unfold BM
 have cm:dJ mm (jz mm):=⟨fun p hp=>AK hp,F8 mm,F9 mm BO⟩
 refine aZ fun N hN => ?_
 simp? only []
 subst hN
 refine aZ fun N hN => ?_
 simp? only []
 refine⟨by omega,?_⟩
 refine kA (fun i δ => δ = ⟨[some (.o 0),some (.p (.int kind)),some (.p (.int mm)),some (.o 1),none,none,none],[some o,some (.lst ((jz i).map c8))]⟩) rfl ?_ ?_
 ·rintro j d δ L hj rfl hL
  obtain⟨hj,rfl⟩:=mH hj
  simp? only []
  have e:(0 + (j:Int))=j:=by omega
  rw[e]
  refine⟨by omega,?_⟩
  refine jD (fun d=>match d with
   | .int a=>c8 (a,j)
   | _ => .non) (by rw[lI];omega) trivial ?_ ?_
  ·intro d hd acc L' ha h
   obtain⟨i,hi⟩:=V0.mp hd
   obtain⟨hi,rfl⟩:=mH hi
   simp? only []
   exact⟨ha,h⟩
  ·have e2:(jz j).map c8 ++ (cE 0 (j:Int).toNat).map (fun d=>match d with
    | .int a=>c8 (a,j)
    | _ => .non)=(jz (j + 1)).map c8:=by
    show _=(jz j ++ _).map c8
    unfold cE
    rw[WD,Wt,Wt]
    congr 1
    refine XG fun a _ => ?_
    simp[Function.comp]
   simp? only []
   have VH:=F9 j (by omega)
   refine⟨by rw[lI];omega,?_⟩
   rw[e2]
   exact hL _ rfl
 ·rintro δ rfl
  refine⟨trivial,?_⟩
  subst hN
  have eL:((mm:Int)).toNat=mm:=by omega
  rw[lI,eL]
  dsimp only
  have back:∀ (ps:List (Int × Int)) (o':OV) (sl:List (Option DV)) (m:List (Option OV)),dJ mm ps->bg (n + 67) o'->hZ 1 K' (.o (m.length + 1)) ⟨sl,some o' :: (m ++ [some (.lst (ps.map c8))])⟩:=fun ps o' sl m h1 h2=>by
   refine⟨[o'],rfl,rfl,?_⟩
   show if m.length + 1 < 1 then _ else _
   rw[MA (by omega)]
   have:(some o' :: (m ++ [some (OV.lst (ps.map c8))]))[m.length + 1]? = some (some (.lst (ps.map c8))):=by
    rw[W_,VZ (wG _),W6];rfl
   dsimp only
   rw[this]
   exact .inl (fin ps o' h1 h2)
  refine aZ fun N hN => ?_
  simp? only [aA]
  split
  ·refine⟨by omega,?_⟩
   refine Bv (fun i acc δ => ∃ (zs:List (Int × Int)) (o':OV),zs.length=i/\(∀ (q:Nat) (p:Int × Int),zs[q]? = some p->p.2=q + 1/\0 <= p.1/\p.1 < p.2)/\acc=zs.map c8/\bg (n + i) o' /\ δ = ⟨[none,some (.o 0)],[some o',some (.lst ((jz mm).map c8))]⟩) ⟨[],o,rfl,fun q p e=>by simp at e,rfl,P.mono (by omega),rfl⟩ ?_ ?_
   ·rintro j d acc δ L hj ⟨zs,o',hz,hq,rfl,P',rfl⟩ hL
    obtain⟨hj,rfl⟩:=mH hj
    simp? only []
    refine⟨n + j,1 + j,o',rfl,rfl,P',by omega,by omega,by omega,fun r lP r0 r1 n_ => ?_⟩
    simp? only []
    refine⟨by omega,hL _ _ ⟨zs ++ [(r,1 + (j:Int))],lP,by rw[Vw,hz];rfl,fun q p e => ?_,by rw[WD];rfl,n_.mono (by omega),rfl⟩⟩
    by_cases c:q < zs.length
    ·rw[Vz c] at e
     exact hq q p e
    ·have hl:=(su.mp e).1
     rw[Vw,Wx] at hl
     have:q=zs.length:=by omega
     subst this
     rw[VZ (wG _),W6] at e
     cases (show some (r,1 + (j:Int))=some p by simpa using e)
     exact⟨by show 1 + (j:Int)=_;omega,r0,r1⟩
   ·rintro acc δ ⟨zs,o',hz,hq,rfl,P',rfl⟩
    rw[lI] at hz P'
    refine⟨trivial,?_⟩
    refine back zs o' _ [_] ⟨fun p hp => ?_,?_,by omega⟩ (P'.mono (by omega))
    ·obtain⟨q,HK⟩:=V0.mp hp
     have:=hq q p HK
     have hl:=(su.mp HK).1
     omega
    ·refine Yb.mpr fun i j hi hj iP e => ?_
     have q1:=hq i _ (qv hi)
     have q2:=hq j _ (qv hj)
     rw[e] at q1
     omega
  subst hN
  refine aZ fun N hN => ?_
  simp? only [aA]
  split
  ·clear hN
   refine⟨by omega,?_⟩
   refine jD (fun d=>match d with
    | .int a=>c8 (a,a + 1)
    | _ => .non) (by rw[lI];omega) trivial ?_ ?_
   ·intro d hd acc L' ha h
    obtain⟨i,hi⟩:=V0.mp hd
    obtain⟨hi,rfl⟩:=mH hi
    simp? only []
    exact⟨ha,h⟩
   ·simp? only []
    refine Bw (fun d=>aA d (c8 (0,mm - 1)) && decide ((2:Int) < mm)) id (by rw[qx];have:=cm.iK;omega) rfl ?_ ?_
    ·intro d hd acc L' ha h h'
     obtain⟨p,hp,rfl⟩:=Wg.mp hd
     simp only[c8] at h h'
     simp? only [c8]
     split
     ·rename_i q1
      split
      ·rename_i q2
       exact⟨ha,h (by rw[q1,q2];rfl)⟩
      ·rename_i q2
       exact h' (by rw[q1,Bool.not_eq_true _ |>.mp q2];rfl)
     ·rename_i q1
      exact h' (by rw[Bool.not_eq_true _ |>.mp q1];rfl)
    ·simp? only []
     have er:(cE 0 ((mm:Int) - 1).toNat).map (fun d=>match d with
       | D.int a=>c8 (a,a + 1)
       | x=>D.non)=((List.range (mm - 1)).map fun i:Nat=>((i:Int),(i:Int) + 1)).map c8:=by
      unfold cE
      rw[Wt,Wt]
      have:((mm:Int) - 1).toNat=mm - 1:=by omega
      rw[this]
      refine XG fun a _ => ?_
      simp[Function.comp]
     have ef:(((jz mm).map c8).filter fun d=>aA d (c8 (0,mm - 1)) && decide ((2:Int) < mm))=((jz mm).filter fun p=>aA (c8 p) (c8 (0,mm - 1)) && decide ((2:Int) < mm)).map c8:=by
      rw[List.filter_map];rfl
     rw[er,Z3,ef,<-WD]
     have hf:∀ p∈(jz mm).filter (fun p=>aA (c8 p) (c8 (0,mm - 1)) && decide ((2:Int) < mm)),p=(0,(mm:Int) - 1)/\(2:Int) < mm:=fun p hp=>by
      have:=(Yu.mp hp).2
      simp[c8,aA,eE] at this
      obtain⟨a,b⟩:=p
      simp at this ⊢
      omega
     have h1:((jz mm).filter (fun p=>aA (c8 p) (c8 (0,mm - 1)) && decide ((2:Int) < mm))).length <= 1:=PX (cm.mT.sublist List.filter_sublist) fun p hp=>(hf p hp).1
     refine⟨by rw[lI,qx];omega,back _ o _ [_] ⟨fun p hp => ?_,?_,?_⟩ (P.mono (by omega))⟩
     ·rcases W7.mp hp with hp | hp
      ·obtain⟨i,hi,rfl⟩:=Wg.mp hp
       have:=Wh.mp hi
       exact⟨by omega,by omega,by show (i:Int) + 1 < mm;omega⟩
      ·exact cm.ends p (Yu.mp hp).1
     ·refine XU.mpr ⟨?_,cm.mT.sublist List.filter_sublist,fun a ha b hb e => ?_⟩
      ·refine Yf.mpr (Ze.imp fun {a b} ne e=>ne ?_)
       have:=congrArg Prod.fst e
       exact Int.ofNat.inj this
      ·subst e
       obtain⟨i,hi,rfl⟩:=Wg.mp ha
       have:=hf _ hb
       have h2:=congrArg Prod.fst this.1
       have h3:=congrArg Prod.snd this.1
       simp at h2 h3
       omega
     ·rw[Vw,qx,Ws];omega
  subst hN
  refine aZ fun N hN => ?_
  simp? only [aA]
  split
  ·exact⟨[o],rfl,rfl,.inl (fin _ _ cm (P.mono (by omega)))⟩
  subst hN
  refine aZ fun N hN => ?_
  simp? only [aA]
  split
  ·refine BN (fun _ _=>rfl) cm.iK P (by omega) (fun p i o' Q hp hi P' hQ => ?_) rfl fun zs o' hz P' => ?_
   ·simp? only [aA]
    refine⟨n + i,4,o',rfl,rfl,P',by omega,by omega,by omega,fun r lP r0 r1 n_ => ?_⟩
    simp? only []
    exact hQ _ _ n_
   ·exact back zs o' _ [_] (cm.sub hz) (P'.mono (by have:=cm.iK;omega))
  subst hN
  refine aZ fun N hN => ?_
  simp? only [aA]
  split
  ·refine⟨n,mm + 1,o,rfl,rfl,P,by omega,by omega,by omega,fun half o1 r0 r1 P1 => ?_⟩
   simp? only []
   refine BN (n:=n + 1) (fun _ _=>rfl) cm.iK P1 (by omega) (fun p i o' Q hp hi P' hQ => ?_) rfl fun zs o' hz P' => ?_
   ·simp? only [aA,c8,gU,jX]
    split
    ·refine⟨n + 1 + i,3,o',rfl,rfl,P',by omega,by omega,by omega,fun r lP r0 r1 n_ => ?_⟩
     simp? only []
     exact hQ _ _ n_
    ·exact hQ _ _ (P'.mono (by omega))
   ·exact back zs o' _ [_] (cm.sub hz) (P'.mono (by have:=cm.iK;omega))
  subst hN
  simp? only [aA]
  refine BN (fun _ _=>rfl) cm.iK P (by omega) (fun p i o' Q hp hi P' hQ => ?_) rfl fun zs o' hz P' => ?_
  ·simp? only [aA]
   refine⟨n + i,2,o',rfl,rfl,P',by omega,by omega,by omega,fun r lP r0 r1 n_ => ?_⟩
   simp? only []
   exact hQ _ _ n_
  ·exact back zs o' _ [_] (cm.sub hz) (P'.mono (by have:=cm.iK;omega))
theorem BP {α : Type}:∀ {l:List α} {j:Nat} (h:j < l.length),List.Perm (l[j] :: l.eraseIdx j) l
 | x :: r,0,h=>Yo _
 | x :: r,j + 1,h=>by
  have hj:j < r.length:=by simpa using h
  show List.Perm (r[j] :: x :: r.eraseIdx j) (x :: r)
  exact (List.Perm.swap x r[j] _).trans ((BP hj).cons x)
theorem BQ {α β : Type} (f : α -> β):∀ (l:List α) (j:Nat),(l.map f).eraseIdx j=(l.eraseIdx j).map f
 | [],_=>rfl
 | _ :: _,0=>rfl
 | x :: r,j + 1=>by
  show f x :: (r.map f).eraseIdx j=f x :: (r.eraseIdx j).map f
  rw[BQ f r j]
noncomputable def cF (y:Int × Int × Int):D := .tup [.int y.1,.int y.2.1,.int y.2.2]
noncomputable def bu (m:Int) (ys:List (Int × Int × Int)):D := .tup [.int m,.tup (ys.map cF)]
noncomputable def rp (y:Int × Int × Int):Int × Int:=(y.1,y.2.1)
theorem dJ.perm {many:Int} {ps qs:List (Int × Int)} (h:dJ many ps) (p:qs.Perm ps):dJ many qs :=
 ⟨fun x hx=>h.ends x (p.mem_iff.mp hx),p.nodup_iff.mpr h.mT,by rw[p.length_eq];exact h.iK⟩
noncomputable def vy:GD:=fun ys ovs K=>∃ (n dX most:Int) (o:OV),ys=[.o 0,.p (.int dX),.p (.int most)]/\ovs=[o]/\bg n o/\n + 400 < 2 ^ 30/\1 <= dX/\dX <= 12/\0 <= most/\most <= 30 ∧
 ∀ m ws o',gb m ws->m <= dX->(ws.length:Int) <= most->bg (n + 300) o'->K (.p (bu m ws)) [o']
noncomputable def BR:WS:=(au (aG 3 (ax 2 gu (ao (aa 0) (ao (dC (.int 8)) ak)))) (au (aG 4 (ax 2 gu (ao (aa 0) (ao (dC (.int 4)) ak)))) (au (aG 5 (d2 (dC (.int 1)) (ax 2 gu (ao (aa 0) (ao (aa 1) ak))) dU)) (au (aG 6 (xq 3 vx (ao (aa 0) (ao (aa 3) (ao (aa 5) ak))))) (au (aG 7 (sD ak)) (au (cx (jW (ao (dN (ao (aa 2) (ao (dN (ao (aa 6) ak) df) ak)) u6) ak)) (bA 8) (au (iZ (xJ (aa 6) (ao (ax 2 gu (ao (aa 0) (ao (dN (ao (aa 6) ak) df) ak))) ak)) (hX 2 (dG (bA 9) (dG (bA 10) gP)))) (au (aG 11 (d2 (du (ao (dC (.int 7)) (ao (ax 2 gu (ao (aa 0) (ao (dC (.int 3)) ak))) (ao (d2 (d2 (dC (.int 10)) (dC (.int 9)) (eX g_ fun i j => .int (i ^ j.toNat))) (ax 2 gu (ao (aa 0) (ao (dC (.int 2)) ak))) (oI fun i j => .int (i - j))) (ao (ax 2 gu (ao (aa 0) (ao (d2 (d2 (dC (.int 10)) (dC (.int 9)) (eX g_ fun i j => .int (i ^ j.toNat))) (dC (.int 1)) dU) ak))) ak))))) (aa 4) aP)) (mF (lL (aa 7) (ao (e_ (ao (aa 9) (ao (aa 10) (ao (aa 11) ak)))) ak)))))) (aX (e_ (ao (aa 5) (ao (dN (ao (aa 7) ak) xH) ak))))))))))
theorem PZ:∀ ys ovs K',ys.length=3->vy ys ovs K'->BR (dz ovs.length K') ⟨ys.map some ++ List.replicate 9 none,ovs.map some⟩:=by
 rintro ys ovs K' - ⟨n,dX,most,o,rfl,rfl,P,hn,h1,HL,s0,VI,fin⟩
 unfold BR
 refine aZ fun N hN => ?_
 simp? only []
 refine⟨n,8,o,rfl,rfl,P,by omega,by omega,by omega,fun kind o1 _ _ P1 => ?_⟩
 simp? only []
 subst hN
 refine aZ fun N hN => ?_
 simp? only []
 refine⟨n + 1,4,o1,rfl,rfl,P1,by omega,by omega,by omega,fun fq o2 p0 p4 P2 => ?_⟩
 simp? only []
 subst hN
 refine aZ fun N hN => ?_
 simp? only []
 refine⟨n + 1 + 1,dX,o2,rfl,rfl,P2,by omega,by omega,by omega,fun mm o3 m0 mh P3 => ?_⟩
 simp? only []
 subst hN
 refine aZ fun N hN => ?_
 simp? only []
 refine⟨n + 1 + 1 + 1,kind,1 + mm,o3,rfl,rfl,P3,by omega,by omega,by omega,fun ps o4 HM P4 => ?_⟩
 simp? only []
 subst hN
 refine aZ fun N hN => ?_
 simp? only []
 subst hN
 refine aZ fun N hN => ?_
 have VJ:=HM.iK
 simp? only []
 refine⟨by omega,?_⟩
 have ek:(min most (ps.length:Int)).toNat=min most.toNat ps.length:=by omega
 rw[ek]
 generalize hk:min most.toNat ps.length=k
 refine kA (fun i δ => ∃ (qs:List (Int × Int)) (ws:List (Int × Int × Int)) (o':OV),qs.length + i=ps.length/\ws.length=i/\dJ (1 + mm) (ws.map rp ++ qs)/\(∀ y∈ws,0 <= y.2.2/\y.2.2 <= 1000000000)/\bg (n + 70 + 4 * i) o' ∧
  δ = ⟨[some (.o 0),some (.p (.int dX)),some (.p (.int most)),some (.p (.int kind)),some (.p (.int fq)),some (.p (.int (1 + mm))),some (.o 1),some (.o 2),none,none,none,none],[some o',some (.lst (qs.map c8)),some (.lst (ws.map cF))]⟩)
  ⟨ps,[],o4,by omega,rfl,HM,fun y hy=>absurd hy Wd,P4.mono (by omega),rfl⟩ ?_ ?_
 ·rintro j d δ L hj ⟨qs,ws,o',hq,hw,hp,hy,P',rfl⟩ hL
  obtain⟨hj,rfl⟩:=mH hj
  have q0:0 < qs.length:=by omega
  have P0:=hp.iK
  rw[Vw,qx] at P0
  refine⟨trivial,?_⟩
  simp only[bA,WM,WN]
  refine aZ fun N2 dW => ?_
  simp? only []
  refine⟨n + 70 + 4 * j,qs.length,o',rfl,rfl,P',by omega,by omega,by omega,fun r o1 r0 r1 P1 => ?_⟩
  obtain⟨rn,rfl⟩:∃ rn:Nat,r=rn:=⟨r.toNat,by omega⟩
  have hr:rn < qs.length:=by omega
  have ix:seqIndex? (rn:Int) qs.length=some rn:=F_ hr
  have eq:(qs.map c8)[rn]? = some (.tup [.int qs[rn].1,.int qs[rn].2]):=by rw[Fl,qv hr];rfl
  simp? only [ix,eq]
  refine⟨⟨by omega,by omega⟩,?_⟩
  subst dW
  refine aZ fun N2 dW => ?_
  simp only[aG,d2,du]
  refine sN fun K3 lQ => ?_
  simp? only []
  subst lQ
  refine sN fun K3 lQ => ?_
  simp? only []
  refine⟨n + 70 + 4 * j + 1,3,o1,rfl,rfl,P1,by omega,by omega,by omega,fun a1 o2 VL VM P2 => ?_⟩
  simp? only []
  subst lQ
  refine sN fun K3 lQ => ?_
  simp? only []
  refine⟨⟨by decide,by decide,by decide⟩,n + 70 + 4 * j + 1 + 1,2,o2,rfl,rfl,P2,by omega,by omega,by omega,fun a2 o3 VN VO P3 => ?_⟩
  simp? only []
  subst lQ
  refine sN fun K3 lQ => ?_
  simp? only []
  refine⟨⟨by decide,by decide,by decide⟩,n + 70 + 4 * j + 1 + 1 + 1,10 ^ Int.toNat 9 + 1,o3,rfl,rfl,P3,by omega,by decide,by decide,fun a3 o4 VP P5 P4 => ?_⟩
  simp? only []
  subst lQ
  simp? only []
  have e9:(10:Int) ^ Int.toNat 9=1000000000:=by decide
  rw[e9] at P5 ⊢
  obtain⟨pr,P6,P7,P8⟩:∃ pr:Int,dF [D.int 7,D.int a1,D.int (1000000000 - a2),D.int a3] fq=some (.int pr)/\0 <= pr/\pr <= 1000000000:=by
   have:fq=0\/fq=1\/fq=2\/fq=3:=by omega
   rcases this with rfl | rfl | rfl | rfl
   ·exact⟨7,rfl,by omega,by omega⟩
   ·exact⟨a1,rfl,by omega,by omega⟩
   ·exact⟨1000000000 - a2,rfl,by omega,by omega⟩
   ·exact⟨a3,rfl,by omega,by omega⟩
  rw[P6]
  show N2 _
  subst dW
  simp? only []
  refine⟨by omega,hL _ ⟨qs.eraseIdx rn,ws ++ [(qs[rn].1,qs[rn].2,pr)],o4,?_,?_,?_,?_,P4.mono (by omega),?_⟩⟩
  ·rw[Yz hr];omega
  ·rw[Vw,hw];rfl
  ·refine hp.perm ?_
   rw[WD,XS]
   refine Zc _ ?_
   exact BP hr
  ·intro y sO
   rcases W7.mp sO with h | h
   ·exact hy y h
   ·rw[Wc.mp h];exact⟨P7,P8⟩
  ·rw[WD,BQ];rfl
 ·rintro δ ⟨qs,ws,o',hq,hw,hp,hy,P',rfl⟩
  refine⟨trivial,?_⟩
  subst hN
  simp? only []
  rw[lI] at hw P'
  refine⟨[o'],rfl,rfl,?_⟩
  refine fin (1 + mm) ws o' ⟨by omega,by omega,by omega,fun y sO => ?_,?_⟩ (by omega) (by omega) (P'.mono (by omega))
  ·have:=hp.ends (rp y) (WZ _ (Wg.mpr ⟨y,sO,rfl⟩))
   have h2:=hy y sO
   simp only[rp] at this
   omega
  ·exact (XU.mp hp.mT).1
end LJ
namespace L2
open PySem PySem.Spec PyProof.Rows
variable [aI]
noncomputable def xZ:List D->(D->Prop)->Prop
 | [.lst ds],K=>match pL ds with
  | some ps=>(ps.length <= 30/\∀ p∈ps,0 <= p.1/\p.1 < p.2/\p.2 < 12)/\K (.int (gT ps ps.length).length)
  | none=>False
 | _,_=>False
section
variable {X:Cx} {fa:WA}
theorem P9 {a:Expr} {p1 p2 q1 q2:Pos} (hc:X.calm=true) (hu:X.A.units + 64 < cLine) (qU:Gl X "len") (hl:X.mg "len" = none) (qV:bootBuiltins "len" = some (.builtin "len")) (qW:Gl X "set") (hr:X.mg "set" = none) (qX:bootBuiltins "set" = some (.type "set")) (ha:JA X [a] (cC fa))
  (he:starEach [a] X.env=[(false,eval a X.env)]:=by rfl) (qY:starEach [.Call (.Name "set" p2) [a] [] q2] X.env=[(false,eval (.Call (.Name "set" p2) [a] [] q2) X.env)]:=by rfl):JE X (.Call (.Name "len" p1) [.Call (.Name "set" p2) [a] [] q2] [] q1) (tD (dN fa xZ)) :=
 (wQ (NT) qU hl qV (lb (pf (Pr hc hu) qW hr qX ha (he:=he)) bS) (he:=qY)).weak fun σ H Q h0_ => el7 h0_ fun F ad δ K S q k =>⟨F,ad,δ,_,S,q,fun xs δ1 h1 vs F1 aR H1 E1 S1 V1=>by
  obtain⟨ds,h2,lj⟩:=uM S1 V1 h1
  unfold xZ at h2
  split at h2
  ·split at h2
   ·rename_i es ps e
    obtain⟨v,rfl,a,vs,rfl,g1,g2⟩:=cR lj
    rw[HA e] at g2
    obtain⟨as,rfl,hl,g⟩:=HE g2
    refine⟨a,as,ps,rfl,bx.of g1,hl,fun i b k' e1 e2=>S1.sub _ _ (g i b k' e1 e2),h2.1.2,h2.1.1,fun p hp=>⟨p,(gT ps ps.length).length,rfl,bW,by have:=h2.1.1;have:=BF ps ps.length;omega,?_⟩⟩
    have s1:az H1 (upd H1 p (lg p (gT ps ps.length).length)):=cj hp
    exact k _ _ h2.2 _ _ _ _ (E1.trans (Ext.al S1 s1)) (S1.al s1) rfl
   ·exact h2.elim
  ·exact h2.elim⟩
end
end L2
namespace LJ
open PySem L2
variable [aI]
noncomputable def HN:D->Bool
 | .int _=>true
 | _=>false
noncomputable def jY:D->Int->Int->Bool
 | .int i,lo,hi=>decide (lo <= i) && decide (i <= hi)
 | _,_,_=>false
noncomputable def oa:D->Int->Bool
 | .tup ds,n=>(ds.length:Int) == n
 | _,_=>false
theorem dA {K:RV->List OV->Prop} {d:D} {sl:List (Option DV)} (h:K (.p d) []):hZ 0 K (.p d) ⟨sl,[]⟩:=⟨[],rfl,rfl,h⟩
noncomputable def vz:GD:=fun ys ovs K=>∃ d,ys=[.p d]/\ovs=[]/\K (.p (.bl (HN d))) []
noncomputable def BS:WS:=(aX (kq (d1 (aa 0) (cS "int")) (AR (d1 (aa 0) (cS "bool")))))
theorem P_:∀ ys ovs K',ys.length=1->vz ys ovs K'->BS (dz ovs.length K') ⟨ys.map some ++ List.replicate 0 none,ovs.map some⟩:=by
 rintro ys ovs K' - ⟨d,rfl,rfl,k⟩
 unfold BS
 simp? only []
 cases d<;>simp only[cA,aS]<;>exact dA k
noncomputable def kB:GD:=fun ys ovs K=>∃ d lo hi,ys=[.p d,.p (.int lo),.p (.int hi)]/\ovs=[]/\K (.p (.bl (jY d lo hi))) []
noncomputable def BU:WS:=(aX (kq (ax 1 vz (ao (aa 0) ak)) (Bi (aa 1) (aa 0) (aa 2) (oI fun i j => .bl (decide (i <= j))) (oI fun i j => .bl (decide (i <= j))))))
theorem Qa:∀ ys ovs K',ys.length=3->kB ys ovs K'->BU (dz ovs.length K') ⟨ys.map some ++ List.replicate 0 none,ovs.map some⟩:=by
 rintro ys ovs K' - ⟨d,lo,hi,rfl,rfl,k⟩
 unfold BU
 simp? only []
 refine⟨d,rfl,rfl,?_⟩
 cases d<;>simp? only [HN,jY] at k ⊢ <;> first | exact dA k | skip
 rename_i i
 by_cases c:lo <= i
 ·rw[V_ c] at k ⊢
  simp only[Zr] at k
  exact dA k
 ·rw[We c] at k ⊢
  simp only[q0I] at k
  exact dA k
noncomputable def rq:GD:=fun ys ovs K=>∃ d n,ys=[.p d,.p (.int n)]/\ovs=[]/\K (.p (.bl (oa d n))) []
noncomputable def BV:WS:=(aX (kq (d1 (aa 0) (cS "tuple")) (d2 (dN (ao (aa 0) ak) df) (aa 1) oEq)))
theorem Qb:∀ ys ovs K',ys.length=2->rq ys ovs K'->BV (dz ovs.length K') ⟨ys.map some ++ List.replicate 0 none,ovs.map some⟩:=by
 rintro ys ovs K' - ⟨d,n,rfl,rfl,k⟩
 unfold BV
 simp? only []
 cases d<;>simp? only [cA,aS,oa,aA] at k ⊢ <;> exact dA k
noncomputable def HP (m:Int):D->D->Bool
 | .int i,b=>jY b (i + 1) (m - 1)
 | _,_=>false
noncomputable def vA (m:Int) (a b:D):Bool:=jY a 0 (m - 1) && HP m a b
theorem vB {d:D} {lo hi:Int} (h:jY d lo hi=true):∃ i,d = .int i/\lo <= i/\i <= hi:=by
 cases d with
 | int i =>
  have h:(decide (lo <= i) && decide (i <= hi))=true:=h
  rw[Wl,Xs,Xs] at h
  exact⟨i,rfl,h⟩
 | _=>cases h
noncomputable def vC:GD:=fun ys ovs K=>∃ m a b,ys=[.p (.int m),.p a,.p b]/\ovs=[]/\K (.p (.bl (vA m a b))) []
noncomputable def BW:WS:=(aX (kq (ax 3 kB (ao (aa 1) (ao (dC (.int 0)) (ao (d2 (aa 0) (dC (.int 1)) (oI fun i j => .int (i - j))) ak)))) (ax 3 kB (ao (aa 2) (ao (d2 (aa 1) (dC (.int 1)) dU) (ao (d2 (aa 0) (dC (.int 1)) (oI fun i j => .int (i - j))) ak))))))
theorem Qc:∀ ys ovs K',ys.length=3->vC ys ovs K'->BW (dz ovs.length K') ⟨ys.map some ++ List.replicate 0 none,ovs.map some⟩:=by
 rintro ys ovs K' - ⟨m,a,b,rfl,rfl,k⟩
 unfold BW
 simp? only []
 refine⟨a,0,m - 1,rfl,rfl,?_⟩
 simp? only []
 unfold vA at k
 cases q:jY a 0 (m - 1)
 ·rw[q] at k
  exact dA k
 ·rw[q] at k
  obtain⟨i,rfl,_,_⟩:=vB q
  simp? only [Zr,HP] at k ⊢
  refine⟨b,i + 1,m - 1,rfl,rfl,?_⟩
  simp? only []
  exact dA k
noncomputable def cU (m:Int):D->Bool
 | .tup [a,b,p]=>vA m a b && jY p 0 1000000000
 | _=>false
noncomputable def vD:GD:=fun ys ovs K=>∃ m d,ys=[.p (.int m),.p d]/\ovs=[]/\K (.p (.bl (cU m d))) []
noncomputable def BX:WS:=(au (bP (gh (dT (ax 2 rq (ao (aa 1) (ao (dC (.int 3)) ak))))) (aX (dC (.bl false))) eW) (aX (kq (ax 3 vC (ao (aa 0) (ao (d2 (aa 1) (dC (.int 0)) aP) (ao (d2 (aa 1) (dC (.int 1)) aP) ak)))) (ax 3 kB (ao (d2 (aa 1) (dC (.int 2)) aP) (ao (dC (.int 0)) (ao (dC (.int 1000000000)) ak)))))))
theorem Qd {m:Int} {d:D} (h:oa d 3=false):cU m d=false:=by
 unfold cU
 split
 ·exact absurd h (by simp[oa])
 ·rfl
theorem BY {d:D} (h:oa d 3=true):∃ a b c,d = .tup [a,b,c]:=by
 cases d with
 | tup ds =>
  have h:((ds.length:Int) == 3)=true:=h
  have h:=Xm h
  match ds,h with
  | [a,b,c],_=>exact⟨a,b,c,rfl⟩
  | [],h=>simp at h
  | [_],h=>simp at h
  | [_,_],h=>simp at h
  | _ :: _ :: _ :: _ :: r,h=>simp at h;omega
 | _=>cases h
theorem BZ {d:D} (h:oa d 2=true):∃ a b,d = .tup [a,b]:=by
 cases d with
 | tup ds =>
  have h:((ds.length:Int) == 2)=true:=h
  have h:=Xm h
  match ds,h with
  | [a,b],_=>exact⟨a,b,rfl⟩
  | [],h=>simp at h
  | [_],h=>simp at h
  | _ :: _ :: _ :: r,h=>simp at h;omega
 | _=>cases h
theorem Qe:∀ ys ovs K',ys.length=2->vD ys ovs K'->BX (dz ovs.length K') ⟨ys.map some ++ List.replicate 0 none,ovs.map some⟩:=by
 rintro ys ovs K' - ⟨m,d,rfl,rfl,k⟩
 unfold BX
 refine aZ fun N hN => ?_
 simp? only []
 refine⟨d,3,rfl,rfl,?_⟩
 simp? only []
 cases q:oa d 3
 ·rw[Qd q] at k
  simp only[q0L,Ym]
  exact dA k
 ·simp only[XR,V6,W9]
  subst hN
  obtain⟨a,b,c,rfl⟩:=BY q
  simp? only [gU,jX,at2]
  refine⟨m,a,b,rfl,rfl,?_⟩
  simp? only [cU] at k ⊢
  cases q2:vA m a b
  ·rw[q2] at k
   exact dA k
  ·rw[q2] at k
   refine⟨c,0,1000000000,rfl,rfl,?_⟩
   simp? only [Zr] at k ⊢
   exact dA k
noncomputable def pairOf:D->Int × Int
 | .tup [.int i,.int j,_]=>(i,j)
 | _=>(0,0)
theorem HQ {m:Int} {d:D} (h:cU m d=true):∃ i j p,d = .tup [.int i,.int j,.int p]/\0 <= i/\i < j/\j < m/\0 <= p/\p <= 1000000000:=by
 unfold cU at h
 split at h
 ·rename_i a b p
  rw[Wl] at h
  obtain⟨h1,h2⟩:=h
  unfold vA at h1
  rw[Wl] at h1
  obtain⟨i,rfl,i0,i1⟩:=vB h1.1
  have h3:jY b (i + 1) (m - 1)=true:=h1.2
  obtain⟨j,rfl,j0,j1⟩:=vB h3
  obtain⟨p',rfl,p0,p1⟩:=vB h2
  exact⟨i,j,p',rfl,i0,by omega,by omega,p0,p1⟩
 ·cases h
noncomputable def rz (m:Int):D->Bool
 | .tup ws=>decide (ws.length <= 30) && (ws.all (cU m) && decide ((ws.map pairOf).Nodup))
 | _=>false
noncomputable def vE:GD:=fun ys ovs K=>∃ m d,ys=[.p (.int m),.p d]/\ovs=[]/\m <= 12/\K (.p (.bl (rz m d))) []
noncomputable def B0:WS:=(au (bP (ph (gh (dT (d1 (aa 1) (cS "tuple")))) (dT (d2 (dN (ao (aa 1) ak) df) (dC (.int 30)) (oI fun i j => .bl (decide (j < i)))))) (aX (dC (.bl false))) eW) (au (bP (gh (dT (dN (ao (fA (cg (aa 1)) [none,some 0] (bA 0) cy (ax 2 vD (ao (aa 1) (ao (aa 0) ak)))) ak) nY))) (aX (dC (.bl false))) eW) (aX (d2 (dN (ao (fA (cg (aa 1)) [none] (bA 0) cy (je (aa 0) ja (qS (dC (.int 2))))) ak) xZ) (dN (ao (aa 1) ak) df) oEq))))
theorem Qf:∀ ys ovs K',ys.length=2->vE ys ovs K'->B0 (dz ovs.length K') ⟨ys.map some ++ List.replicate 0 none,ovs.map some⟩:=by
 rintro ys ovs K' - ⟨m,d,rfl,rfl,hm,k⟩
 unfold B0
 refine aZ fun N hN => ?_
 by_cases ht:∃ ws,d = .tup ws
 ·obtain⟨ws,rfl⟩:=ht
  simp? only [cA,show aS "tuple" "tuple" = true from rfl]
  by_cases HR:(30:Int) < ws.length
  ·rw[MD (V_ HR)]
   have:rz m (.tup ws)=false:=by
    show (decide (ws.length <= 30) && _)=false
    rw[We (by omega)];rfl
   rw[this] at k
   exact dA k
  ·rw[MA (by rw[We HR];decide)]
   subst hN
   have vF:ws.length <= 30:=by omega
   refine aZ fun N hN => ?_
   simp? only []
   refine jD (fun d => .bl (cU m d)) (by omega) trivial ?_ ?_
   ·intro d hd acc L ha h
    simp? only []
    refine⟨m,d,rfl,rfl,?_⟩
    simp? only []
    exact⟨ha,h⟩
   ·have e:qT (ws.map fun d=>D.bl (cU m d))=some (ws.map (cU m)):=by
     have:=GU (ws.map (cU m))
     rw[Wt] at this
     exact this
    simp? only [e]
    have ea:(ws.map (cU m)).all id=ws.all (cU m):=by rw[List.all_map];rfl
    rw[ea]
    cases q:ws.all (cU m)
    ·have:rz m (.tup ws)=false:=by
      show (decide (ws.length <= 30) && (ws.all (cU m) && _))=false
      rw[q];simp
     rw[this] at k
     exact dA k
    ·simp only[XR,V6,W9]
     subst hN
     have hw:∀ w∈ws,cU m w=true:=Xw.mp q
     simp? only []
     refine jD (fun d => .tup [.int (pairOf d).1,.int (pairOf d).2]) (by omega) trivial ?_ ?_
     ·intro d hd acc L ha h
      obtain⟨i,j,p,rfl,_⟩:=HQ (hw d hd)
      have ec:cutD [D.int i,D.int j,D.int p] none (some 2)=[D.int i,D.int j]:=by
       unfold cutD;rfl
      simp? only [ec]
      exact⟨ha,h⟩
     ·have ep:pL (ws.map fun d=>D.tup [.int (pairOf d).1,.int (pairOf d).2])=some (ws.map pairOf):=by
       have:=HB (ws.map pairOf)
       rw[Wt] at this
       exact this
      have kk:rz m (.tup ws)=decide ((ws.map pairOf).Nodup):=by
       show (decide (ws.length <= 30) && (ws.all (cU m) && _))=_
       rw[q,V_ vF];rfl
      rw[kk] at k
      simp? only [xZ,ep,aA]
      refine⟨⟨vF,fun p hp => ?_⟩,dA ?_⟩
      ·obtain⟨w,Qg,rfl⟩:=Wg.mp hp
       obtain⟨i,j,p,rfl,a1,a2,a3,_⟩:=HQ (hw w Qg)
       exact⟨a1,a2,by show j < 12;omega⟩
      ·have:(((gT (ws.map pairOf) ws.length).length:Int) == (ws.length:Int))=decide ((ws.map pairOf).Nodup):=by
        by_cases c:(ws.map pairOf).Nodup
        ·have e2:=HC c (ws.map pairOf).length (wG _)
         rw[qx] at e2
         rw[V_ c,e2,Wn,qx,Nat.min_self]
         simp
        ·rw[We c]
         refine beq_false_of_ne fun z=>c (Pp ?_)
         rw[qx];omega
       rw[this];exact k
 ·have:rz m d=false:=by
   cases d with
   | tup ws=>exact absurd ⟨ws,rfl⟩ ht
   | _=>rfl
  rw[this] at k
  cases d with
  | tup ws=>exact absurd ⟨ws,rfl⟩ ht
  | _=>simp? only [cA];exact dA k
noncomputable def lR:D->Bool
 | .tup [m,ws]=>jY m 1 12 && (match m with
  | .int i=>rz i ws
  | _=>false)
 | _=>false
noncomputable def vG:GD:=fun ys ovs K=>∃ d,ys=[.p d]/\ovs=[]/\K (.p (.bl (lR d))) []
noncomputable def B2:WS:=(au (bP (gh (dT (ax 2 rq (ao (aa 0) (ao (dC (.int 2)) ak))))) (aX (dC (.bl false))) eW) (aX (kq (ax 3 kB (ao (d2 (aa 0) (dC (.int 0)) aP) (ao (dC (.int 1)) (ao (dC (.int 12)) ak)))) (ax 2 vE (ao (d2 (aa 0) (dC (.int 0)) aP) (ao (d2 (aa 0) (dC (.int 1)) aP) ak))))))
theorem Qh:∀ ys ovs K',ys.length=1->vG ys ovs K'->B2 (dz ovs.length K') ⟨ys.map some ++ List.replicate 0 none,ovs.map some⟩:=by
 rintro ys ovs K' - ⟨d,rfl,rfl,k⟩
 unfold B2
 refine aZ fun N hN => ?_
 simp? only []
 refine⟨d,2,rfl,rfl,?_⟩
 simp? only []
 cases q:oa d 2
 ·have:lR d=false:=by
   unfold lR
   split
   ·exact absurd q (by simp[oa])
   ·rfl
  rw[this] at k
  simp only[q0L,Ym]
  exact dA k
 ·simp only[XR,V6,W9]
  subst hN
  obtain⟨a,b,rfl⟩:=BZ q
  simp? only [gU,jX]
  refine⟨a,1,12,rfl,rfl,?_⟩
  simp? only [lR] at k ⊢
  cases q2:jY a 1 12
  ·rw[q2] at k
   exact dA k
  ·rw[q2] at k
   obtain⟨i,rfl,_,hi⟩:=vB q2
   refine⟨i,b,rfl,rfl,hi,?_⟩
   simp? only [Zr] at k ⊢
   exact dA k
theorem jZ {K:RV->List OV->Prop} {d:D} {sl:List (Option DV)} {mu:List (Option OV)} (h:K (.p d) []):hZ 0 K (.p d) ⟨sl,mu⟩:=⟨[],rfl,rfl,h⟩
theorem B3:∀ {ds:List D} {d:D},d∈ds->dep d <= bH ds
 | a :: r,d,h=>by
  simp only[bH]
  rcases Fo.mp h with rfl | h
  ·omega
  ·have:=B3 h;omega
theorem oh:aS "NoneType" "bool" = false:=rfl
theorem oj:aS "NoneType" "int" = false:=rfl
theorem om:aS "NoneType" "str" = false:=rfl
theorem oo:aS "NoneType" "tuple" = false:=rfl
theorem oq:aS "NoneType" "list" = false:=rfl
theorem mK:aS "bool" "bool" = true:=rfl
theorem mL:aS "bool" "int" = true:=rfl
theorem mM:aS "bool" "str" = false:=rfl
theorem mN:aS "bool" "tuple" = false:=rfl
theorem mO:aS "bool" "list" = false:=rfl
theorem lT:aS "int" "bool" = false:=rfl
theorem lU:aS "int" "int" = true:=rfl
theorem lV:aS "int" "str" = false:=rfl
theorem lW:aS "int" "tuple" = false:=rfl
theorem lX:aS "int" "list" = false:=rfl
theorem kC:aS "str" "bool" = false:=rfl
theorem kD:aS "str" "int" = false:=rfl
theorem kE:aS "str" "str" = true:=rfl
theorem kF:aS "str" "tuple" = false:=rfl
theorem kG:aS "str" "list" = false:=rfl
theorem ot:aS "tuple" "bool" = false:=rfl
theorem ou:aS "tuple" "int" = false:=rfl
theorem oy:aS "tuple" "str" = false:=rfl
theorem oz:aS "tuple" "tuple" = true:=rfl
theorem oA:aS "tuple" "list" = false:=rfl
theorem oB:aS "list" "bool" = false:=rfl
theorem oC:aS "list" "int" = false:=rfl
theorem oD:aS "list" "str" = false:=rfl
theorem oE:aS "list" "tuple" = false:=rfl
theorem oF:aS "list" "list" = true:=rfl
theorem B4:∀ {as:List D} {d:D},d∈cQ as as->∃ a,d = .tup [a,a]/\a∈as
 | [],d,h=>nomatch h
 | x :: r,d,h=>by
  simp only[cQ] at h
  rcases Fo.mp h with rfl | h
  ·exact⟨x,rfl,Mz⟩
  ·obtain⟨a,e,m⟩:=B4 h
   exact⟨a,e,MB _ m⟩
theorem B5:∀ l:List D,bH (l.map fun _=>D.bl true) <= 55
 | []=>WK _
 | _ :: r=>by
  rw[Wb]
  have:=B5 r
  simp only[bH,dep]
  omega
noncomputable def bE (ns:List Int):D := .lst (ns.map D.int)
noncomputable def jF (fs:List Int) (i j:Nat):List Int:=fs.map fun x=>if x=max (fs.getD i 0) (fs.getD j 0) then min (fs.getD i 0) (fs.getD j 0) else x
theorem Qi (fs:List Int) (i j:Nat):(jF fs i j).length=fs.length:=by unfold jF;rw[qx]
theorem j2 {ns:List Int} {i:Nat} (h:i < ns.length):dF (ns.map D.int) (i:Int)=some (.int (ns.getD i 0)):=by
 refine o7 ?_
 rw[Fl,qv h,wF,qv h];rfl
theorem jg {K:RV->List OV->Prop} {d:D} {sl:List (Option DV)} {mu:List (Option OV)} (h:K (.p d) []):hZ 0 K (.p d) ⟨sl,mu⟩:=⟨[],rfl,rfl,h⟩
noncomputable def fO (ws:List (Int × Int × Int)) (n:Int):Nat × Nat:=((ws.getD n.toNat (0,0,0)).1.toNat,(ws.getD n.toNat (0,0,0)).2.1.toNat)
noncomputable def jG (ws:List (Int × Int × Int)) (fs:List Int) (ns:List Int):List Int:=ns.foldl (fun fs n=>jF fs (fO ws n).1 (fO ws n).2) fs
theorem B6 (ws:List (Int × Int × Int)):∀ (ns:List Int) (fs:List Int),(jG ws fs ns).length=fs.length
 | [],fs=>rfl
 | n :: r,fs=>by
  show (jG ws (jF fs _ _) r).length=_
  rw[B6 ws r,Qi]
noncomputable def gW (m:Int) (ws:List (Int × Int × Int)) (ns:List Int):List Int:=jG ws (bO m.toNat) ns
noncomputable def Nums (ws:List (Int × Int × Int)) (ns:List Int):Prop:=∀ n∈ns,0 <= n/\n < (ws.length:Int)
theorem vH {m:Int} {ws:List (Int × Int × Int)} (W:gb m ws) {n:Int} (h0:0 <= n) (h1:n < (ws.length:Int)):∃ y,ws.getD n.toNat (0,0,0)=y/\y∈ws/\dF (ws.map cF) n=some (cF y)/\∃ i j:Nat,y.1=i/\y.2.1=j/\i < m.toNat/\j < m.toNat/\i < j:=by
 obtain⟨k,rfl⟩:∃ k:Nat,n=k:=⟨n.toNat,by omega⟩
 have hk:k < ws.length:=by omega
 refine⟨ws[k],?_,XN hk,o7 ?_,?_⟩
 ·rw[V7,wF,qv hk];rfl
 ·rw[Fl,qv hk];rfl
 ·obtain⟨a,b,c,_,_⟩:=W.ends _ (XN hk)
  exact⟨ws[k].1.toNat,ws[k].2.1.toNat,by omega,by omega,by omega,by omega,by omega⟩
noncomputable def Qj:GD:=fun ys ovs K=>∃ (m:Int) (ws:List (Int × Int × Int)) (ns:List Int),gb m ws/\Nums ws ns/\((ys=[.p (bu m ws),.p (bE ns)]/\ovs=[]/\K (.p (bE (gW m ws ns))) [])\/(ys=[.p (bu m ws),.o 0]/\ovs=[.lst (ns.map D.int)]/\K (.p (bE (gW m ws ns))) [.lst (ns.map D.int)]))
theorem Qk (a b:Int):sortI [a,b]=[min a b,max a b]:=by
 refine (Bj (as:=[min a b,max a b]) ?_ ?_).symm
 ·by_cases c:a <= b
  ·rw[Int.min_eq_left c,Int.max_eq_right c]
  ·rw[Int.min_eq_right (by omega),Int.max_eq_left (by omega)]
   exact List.Perm.swap ..
 ·refine List.Pairwise.cons (fun x hx => ?_) (List.pairwise_singleton _ _)
  rw[Wc.mp hx];omega
noncomputable def vI:GD:=Qj
noncomputable def x_:WS:=(au (aG 2 (u7 (ao (d2 (aa 0) (dC (.int 0)) aP) ak))) (au (cx (cg (aa 1)) (bA 3) (au (iZ (dN (ao (fA (cg (je (d2 (d2 (aa 0) (dC (.int 1)) aP) (aa 3) aP) ja (qS (dC (.int 2))))) [none,some 2] (bA 0) cy (d2 (aa 1) (aa 0) aP)) ak) u5) (hX 2 (dG (bA 4) (dG (bA 5) gP)))) (aG 2 (fA (cg (aa 2)) [none,some 4,some 5] (bA 0) cy (nL (dT (d2 (aa 0) (aa 2) oEq)) (aa 1) (aa 0)))))) (aX (aa 2))))
theorem Ql:∀ ys ovs K',ys.length=2->vI ys ovs K'->x_ (dz ovs.length K') ⟨ys.map some ++ List.replicate 4 none,ovs.map some⟩:=by
 rintro ys ovs K' - ⟨m,ws,ns,W,hn,h⟩
 have m1:=W.m1
 have jy:=W.jy
 have il:(bO m.toNat).length=m.toNat:=by unfold bO;simp
 have core:∀ (x:DV) (mu:List (Option OV)) (bN:ay->Prop) (K:KS),(∀ sl,bN ⟨sl,mu⟩)->(∀ fs,fs=gW m ws ns->K.nx ⟨[some (.p (bu m ws)),some x,some (.p (bE fs)),none,none,none],mu⟩)->(∀ k,x = .o k->k < mu.length) →
   lF ⟨[some (.p (bu m ws)),some x,some (.p (bE (bO m.toNat))),none,none,none],mu⟩ bN (bA 3) (au (iZ (dN (ao (fA (cg (je (d2 (d2 (aa 0) (dC (.int 1)) aP) (aa 3) aP) ja (qS (dC (.int 2))))) [none,some 2] (bA 0) cy (d2 (aa 1) (aa 0) aP)) ak) u5) (hX 2 (dG (bA 4) (dG (bA 5) gP)))) (aG 2 (fA (cg (aa 2)) [none,some 4,some 5] (bA 0) cy (nL (dT (d2 (aa 0) (aa 2) oEq)) (aa 1) (aa 0))))) K (ns.map D.int) ⟨[some (.p (bu m ws)),some x,some (.p (bE (bO m.toNat))),none,none,none],mu⟩:=by
  intro x mu bN K hc hK hx
  refine kA (fun i δ => δ = ⟨[some (.p (bu m ws)),some x,some (.p (bE (jG ws (bO m.toNat) (ns.take i)))),none,none,none],mu⟩) rfl ?_ ?_
  ·rintro j d δ L hj rfl hL
   rw[Fl] at hj
   obtain⟨n,iH,rfl⟩:=Vu.mp hj
   obtain⟨n0,n1⟩:=hn n (Wk iH)
   obtain⟨y,ey,hy,ea,i,k,e1,e2,h1,h2,_⟩:=vH W n0 n1
   refine⟨hc _,?_⟩
   have hlen:(jG ws (bO m.toNat) (ns.take j)).length=m.toNat:=by rw[B6,il]
   have ej:jF (jG ws (bO m.toNat) (ns.take j)) i k=jG ws (bO m.toNat) (ns.take (j + 1)):=by
    have:ns.take (j + 1)=ns.take j ++ [n]:=by rw[Xu,iH];rfl
    rw[this]
    unfold jG
    rw[Z4]
    show _=jF _ (fO ws n).1 (fO ws n).2
    have:fO ws n=(i,k):=by
     unfold fO
     rw[ey,e1,e2,V7,V7]
    rw[this]
   generalize VQ:jG ws (bO m.toNat) (ns.take j)=fs at hlen ej
   have a1:=j2 (ns:=fs) (i:=i) (by omega)
   have a2:=j2 (ns:=fs) (i:=k) (by omega)
   simp only[bA,WM,WN]
   refine aZ fun N hN => ?_
   have ec:cutD [D.int y.1,D.int y.2.1,D.int y.2.2] none (some 2)=[D.int i,D.int k]:=by rw[<-e1,<-e2];rfl
   simp? only [jX,bu,ea,cF,ec]
   refine L2.jD (fun d=>match d with
    | .int z => .int (fs.getD z.toNat 0)
    | _ => .non) (by show 2 <= 1000;decide) trivial ?_ ?_
   ·intro d hd acc L' ha h'
    simp only[Fo,Wd,Xr] at hd
    rcases hd with rfl | rfl
    ·simp? only [bE,a1]
     simp only[V7] at h'
     exact⟨ha,h'⟩
    ·simp? only [bE,a2]
     simp only[V7] at h'
     exact⟨ha,h'⟩
   ·have es:intsOf [D.int (fs.getD i 0),D.int (fs.getD k 0)]=some [fs.getD i 0,fs.getD k 0]:=rfl
    simp? only [V7,u5,es,Qk]
    subst hN
    simp? only [bE]
    refine L2.jD (fun d=>match d with
     | .int x => .int (if x=max (fs.getD i 0) (fs.getD k 0) then min (fs.getD i 0) (fs.getD k 0) else x)
     | _ => .non) (by rw[qx];omega) trivial ?_ ?_
    ·intro d hd acc L' ha h'
     obtain⟨z,_,rfl⟩:=Wg.mp hd
     simp? only []
     cases q:aA (.int z) (.int (max (fs.getD i 0) (fs.getD k 0)))
     ·have:¬ z=max (fs.getD i 0) (fs.getD k 0):=fun w=>by rw[w,gH] at q;cases q
      simp only[this,W9] at h'
      exact⟨ha,h'⟩
     ·have:z=max (fs.getD i 0) (fs.getD k 0):=by simp only[aA] at q;exact Xm q
      simp only[this,Ym] at h'
      exact⟨ha,h'⟩
    ·have e:(fs.map D.int).map (fun d=>match d with
      | .int x=>D.int (if x=max (fs.getD i 0) (fs.getD k 0) then min (fs.getD i 0) (fs.getD k 0) else x)
      | _ => .non)=(jF fs i k).map D.int:=by
      unfold jF
      rw[Wt,Wt];rfl
     rw[e,ej]
     have eq:(ay.trim ⟨[some (.p (bu m ws)),some x,some (.p (bE (bO m.toNat))),none,none,none],mu⟩ ⟨[some (.p (bu m ws)),some x,some (.p (bE (jG ws (bO m.toNat) (ns.take (j + 1))))),some (.p (.int n)),some (.p (.int (min (fs.getD i 0) (fs.getD k 0)))),some (.p (.int (max (fs.getD i 0) (fs.getD k 0))))],mu⟩)=⟨[some (.p (bu m ws)),some x,some (.p (bE (jG ws (bO m.toNat) (ns.take (j + 1))))),none,none,none],mu⟩:=by
      unfold ay.trim
      rw[Zm]
      cases x with
      | p d=>rfl
      | o q =>
       have:=hx q rfl
       simp only[gG,xi,this,Ym]
     have:=hL _ rfl
     rw[<-eq] at this
     exact this
  ·rintro δ rfl
   rw[qx,Xd (wG _)]
   exact⟨hc _,hK _ rfl⟩
 have rg:cE 0 m.toNat=(bO m.toNat).map D.int:=nZ m.toNat
 rcases h with⟨rfl,rfl,k⟩ | ⟨rfl,rfl,k⟩
 ·unfold x_
  refine aZ fun N hN => ?_
  simp? only [gU,bu]
  refine⟨⟨by omega,by omega⟩,?_⟩
  subst hN
  rw[rg]
  refine aZ fun N hN=>vt fun g' b' K2 hg d6 hK => ?_
  simp? only [bE]
  subst hg d6 hK
  refine core (.p (bE ns)) [] _ _ (fun _=>trivial) (fun fs e => ?_) (fun k z=>by cases z)
  subst e
  show N _
  subst hN
  simp? only []
  exact jg k
 ·unfold x_
  refine aZ fun N hN => ?_
  simp? only [gU,bu]
  refine⟨⟨by omega,by omega⟩,?_⟩
  subst hN
  rw[rg]
  refine aZ fun N hN=>vt fun g' b' K2 hg d6 hK => ?_
  simp? only []
  subst hg d6 hK
  refine core (.o 0) [some (.lst (ns.map D.int))] _ _ (fun _=>rfl) (fun fs e => ?_) (fun k z=>by cases z;exact Nat.zero_lt_one)
  subst e
  show N _
  subst hN
  simp? only []
  exact⟨[.lst (ns.map D.int)],rfl,rfl,k⟩
noncomputable def vJ (marks:List Int) (f:Int):List Int:=(bO marks.length).filter fun h=>decide (marks.getD h.toNat 0=f)
noncomputable def pN (marks:List Int):List (List Int):=(sortI (n6 marks)).map (vJ marks)
noncomputable def sP (ls:List (List Int)):D := .lst (ls.map bE)
noncomputable def sQ:GD:=fun ys ovs K=>∃ (m:Int) (ws:List (Int × Int × Int)) (ns:List Int),gb m ws/\Nums ws ns/\((ys=[.p (bu m ws),.p (bE ns)]/\ovs=[]/\K (.p (sP (pN (gW m ws ns)))) [])\/(ys=[.p (bu m ws),.o 0]/\ovs=[.lst (ns.map D.int)]/\K (.p (sP (pN (gW m ws ns)))) [.lst (ns.map D.int)]))
noncomputable def ya:WS:=(au (aG 2 (ax 2 vI (ao (aa 0) (ao (aa 1) ak)))) (aX (fA (cg (dN (ao (aa 2) ak) sL)) [none,some 0,some 2] (bA 0) cy (fA (jW (ao (d2 (aa 1) (dC (.int 0)) aP) ak)) [none,some 0,some 2] (bA 0) (dT (d2 (d2 (aa 2) (aa 0) aP) (aa 1) oEq)) (aa 0)))))
theorem Qm {m:Int} {ws:List (Int × Int × Int)} {ns:List Int}:(gW m ws ns).length=m.toNat:=by
 unfold gW
 rw[B6];unfold bO;simp
theorem Qn:∀ ys ovs K',ys.length=2->sQ ys ovs K'->ya (dz ovs.length K') ⟨ys.map some ++ List.replicate 1 none,ovs.map some⟩:=by
 rintro ys ovs K' - ⟨m,ws,ns,W,hn,h⟩
 have m1:=W.m1
 have jy:=W.jy
 have ml:=Qm (m:=m) (ws:=ws) (ns:=ns)
 have core:∀ (x:DV) (mu:List (Option OV)) (K:KS),K.rt (.p (sP (pN (gW m ws ns)))) ⟨[some (.p (bu m ws)),some x,some (.p (bE (gW m ws ns)))],mu⟩ →
   (aX (fA (cg (dN (ao (aa 2) ak) sL)) [none,some 0,some 2] (bA 0) cy (fA (jW (ao (d2 (aa 1) (dC (.int 0)) aP) ak)) [none,some 0,some 2] (bA 0) (dT (d2 (d2 (aa 2) (aa 0) aP) (aa 1) oEq)) (aa 0)))) K ⟨[some (.p (bu m ws)),some x,some (.p (bE (gW m ws ns)))],mu⟩:=by
  intro x mu K k
  generalize gW m ws ns=marks at ml k
  have ei:intsOf (marks.map D.int)=some marks:=GH marks
  have ol:=HD marks
  simp only[aX,fA,cg,dN,ao,ak,aa,Xz,W_,iX,fM,sL,bE,ei,jV,dy,Wb,X1,Option.join_some]
  refine⟨by omega,?_⟩
  refine L2.jD (fun d=>match d with
   | .int f=>bE (vJ marks f)
   | _ => .non) (by rw[qx,OH];omega) trivial ?_ ?_
  ·intro d hd acc L ha h
   obtain⟨f,_,rfl⟩:=Wg.mp hd
   simp? only [gU,bu]
   refine⟨by omega,?_⟩
   refine L2.Bw (fun d=>match d with
    | .int z=>decide (marks.getD z.toNat 0=f)
    | _=>false) id (by rw[lI];omega) trivial ?_ ?_
   ·intro d hd eZ L' Qo h1 h2
    obtain⟨i,hi⟩:=V0.mp hd
    obtain⟨hi,rfl⟩:=mH hi
    have e0:(0 + (i:Int))=i:=by omega
    rw[e0] at h1 h2 ⊢
    have ai:=j2 (ns:=marks) (i:=i) (by omega)
    simp? only [ai]
    cases q:aA (.int (marks.getD i 0)) (.int f)
    ·refine h2 ?_
     show decide (marks.getD (i:Int).toNat 0=f)=false
     rw[V7]
     refine We fun z => ?_
     rw[z,gH] at q;cases q
    ·refine⟨Qo,h1 ?_⟩
     show decide (marks.getD (i:Int).toNat 0=f)=true
     rw[V7]
     simp only[aA] at q
     exact V_ (Xm q)
   ·simp? only []
    refine⟨ha,?_⟩
    have e:((cE 0 m.toNat).filter fun d=>match d with
     | .int z=>decide (marks.getD z.toNat 0=f)
     | _=>false).map id=(vJ marks f).map D.int:=by
     rw[Z3,nZ,List.filter_map]
     unfold vJ
     rw[ml];rfl
    rw[e]
    exact h
  ·have e:((sortI (n6 marks)).map D.int).map (fun d=>match d with
    | .int f=>bE (vJ marks f)
    | _ => .non)=(pN marks).map bE:=by
    unfold pN
    rw[Wt,Wt];rfl
   rw[e]
   exact k
 rcases h with⟨rfl,rfl,k⟩ | ⟨rfl,rfl,k⟩
 ·unfold ya
  refine aZ fun N hN => ?_
  simp? only []
  refine⟨m,ws,ns,W,hn,.inl ⟨rfl,rfl,?_⟩⟩
  simp? only []
  subst hN
  exact core _ _ _ (jg k)
 ·unfold ya
  refine aZ fun N hN => ?_
  simp? only []
  refine⟨m,ws,ns,W,hn,.inr ⟨rfl,rfl,?_⟩⟩
  simp? only []
  subst hN
  exact core _ _ _ ⟨[.lst (ns.map D.int)],rfl,rfl,k⟩
theorem Qp {n:Nat} {z:Int} (h:z∈bO n):0 <= z/\z < (n:Int):=by
 unfold bO at h
 obtain⟨i,hi,rfl⟩:=Wg.mp h
 have:=Wh.mp hi
 simp;omega
theorem Qq (n:Nat):(bO n).Nodup:=by
 unfold bO
 refine Yf.mpr (Ze.imp fun {a b} ne e=>ne ?_)
 exact Int.ofNat.inj e
noncomputable def vK:GD:=fun ys ovs K=>∃ (n m most:Int) (ws:List (Int × Int × Int)) (o:OV),gb m ws/\ys=[.o 0,.p (bu m ws),.p (.int most)]/\ovs=[o]/\bg n o/\n + 100 < 2 ^ 30/\0 <= most/\most <= 1000 ∧
 ∀ ns o',Nums ws ns->ns.Nodup->(ns.length:Int) <= most->ns.length <= ws.length->bg (n + 31) o'->K (.n (ns.map D.int)) [o']
noncomputable def B7:WS:=(au (aG 3 (vd (ao (dN (ao (d2 (aa 1) (dC (.int 1)) aP) ak) df) ak))) (au (aG 4 (sD ak)) (au (cx (jW (ao (dN (ao (dN (ao (aa 3) ak) df) (ao (ax 2 gu (ao (aa 0) (ao (d2 (aa 2) (dC (.int 1)) dU) ak))) ak)) u6) ak)) (bA 5) (mF (lL (aa 4) (ao (xJ (aa 3) (ao (ax 2 gu (ao (aa 0) (ao (dN (ao (aa 3) ak) df) ak))) ak)) ak)))) (aX (aa 4)))))
theorem Qr:∀ ys ovs K',ys.length=3->vK ys ovs K'->B7 (dz ovs.length K') ⟨ys.map some ++ List.replicate 3 none,ovs.map some⟩:=by
 rintro ys ovs K' - ⟨n,m,most,ws,o,W,rfl,rfl,P,hn,s0,s1,fin⟩
 have HS:=W.mf
 unfold B7
 refine aZ fun N hN => ?_
 simp? only [jX,bu]
 refine⟨⟨by omega,by omega⟩,?_⟩
 subst hN
 rw[V7,nZ]
 refine aZ fun N hN => ?_
 simp? only []
 subst hN
 refine aZ fun N hN=>vt fun g' b' K2 hg d6 hK => ?_
 simp? only []
 refine⟨n,most + 1,o,rfl,rfl,P,by omega,by omega,by omega,fun r o1 r0 r1 P1 => ?_⟩
 have il:(bO ws.length).length=ws.length:=by unfold bO;simp
 simp? only [il]
 refine⟨by omega,?_⟩
 subst hg d6 hK
 have ek:(min (ws.length:Int) r).toNat=min ws.length r.toNat:=by omega
 rw[ek]
 generalize hk:min ws.length r.toNat=k
 refine kA (fun i δ => ∃ (ls fs:List Int) (o':OV),ls.length + i=ws.length/\fs.length=i/\(fs ++ ls).Nodup/\Nums ws (fs ++ ls)/\bg (n + 1 + i) o' ∧
  δ = ⟨[some (.o 0),some (.p (.tup [.int m,.tup (ws.map cF)])),some (.p (.int most)),some (.o 1),some (.o 2),none],[some o',some (.lst (ls.map D.int)),some (.lst (fs.map D.int))]⟩)
  ⟨bO ws.length,[],o1,by omega,rfl,Qq _,fun z hz=>Qp hz,P1.mono (by omega),rfl⟩ ?_ ?_
 ·rintro j d δ L hj ⟨ls,fs,o',hl,hf,nd,nu,P',rfl⟩ hL
  obtain⟨hj,rfl⟩:=mH hj
  have q0:0 < ls.length:=by omega
  simp? only []
  refine⟨n + 1 + j,ls.length,o',rfl,rfl,P',by omega,by omega,by omega,fun z o2 z0 z1 P2 => ?_⟩
  obtain⟨zn,rfl⟩:∃ zn:Nat,z=zn:=⟨z.toNat,by omega⟩
  have hz:zn < ls.length:=by omega
  have ix:seqIndex? (zn:Int) ls.length=some zn:=F_ hz
  have eq:(ls.map D.int)[zn]? = some (.int ls[zn]):=by rw[Fl,qv hz];rfl
  simp? only [ix,eq]
  have pm:((fs ++ [ls[zn]]) ++ ls.eraseIdx zn).Perm (fs ++ ls):=by
   rw[XS]
   exact Zc _ (BP hz)
  refine⟨⟨by omega,by omega⟩,by omega,hL _ ⟨ls.eraseIdx zn,fs ++ [ls[zn]],o2,?_,?_,pm.nodup_iff.mpr nd,fun x hx=>nu x (pm.mem_iff.mp hx),P2.mono (by omega),?_⟩⟩
  ·rw[Yz hz];omega
  ·rw[Vw,hf];rfl
  ·rw[WD,BQ];rfl
 ·rintro δ ⟨ls,fs,o',hl,hf,nd,nu,P',rfl⟩
  refine⟨trivial,?_⟩
  show N _
  subst hN
  simp? only []
  rw[lI] at hf P'
  refine⟨[o'],rfl,rfl,.inl (fin fs o' (fun x hx=>nu x (WZ _ hx)) (XU.mp nd).1 (by omega) (by omega) (P'.mono (by omega)))⟩
theorem sR {H:Hp} {a:Addr} {o:HO} (h:H a=none):az H (upd H a o):=fun b u e=>by rw[aO (di e h)];exact e
structure yb (H:Hp) (p c:Addr) (at_ z:Int):Prop where
 lst:H p=some (.lst [.ref c,.int at_,.int z])
 cells:∃ ns:List Int,H c=some (.lst (ns.map V.int))/\ns.length <= 63
 pos:0 <= at_
theorem yb.ne {H:Hp} {p c:Addr} {k z:Int} (P:yb H p c k z):c≠p:=by
 obtain⟨ns,h,_⟩:=P.cells
 intro e
 subst e
 rw[P.lst] at h
 have h':=Wf h
 injection h' with sC
 cases ns with
 | nil=>cases sC
 | cons n r=>injection sC with h1 _;cases h1
theorem Qs {ns:List Int} {k:Int} (h0:0 <= k) (h1:k < (ns.length:Int)):∃ n,dF (ns.map V.int) k=some (.int n):=by
 obtain⟨i,rfl⟩:∃ i:Nat,k=i:=⟨k.toNat,by omega⟩
 have hi:i < ns.length:=by omega
 refine⟨ns[i],o7 ?_⟩
 rw[Fl,qv hi];rfl
noncomputable def B8 (K:PySem.W.Frag):Sp:=fun vs H Q _=>∃ (a:Addr) (ns:List Int),vs=[.ref a]/\bx K H a (ns.map V.int)/\ns.length <= 63/\∀ (p c:Addr) (H':Hp),az H H'->H p=none->yb H' p c 0 0->Q (.ref p) H'
noncomputable def yc (K:PySem.W.Frag):Sp:=fun vs H Q _=>∃ (a:Addr) (ns:List Int),vs=[.ref a]/\bx K H a (ns.map V.int)/\ns.length <= 63/\aI.ok H/\∀ H',Q (.bl true) H'
theorem B9 (ns:List Int) (lo hi:Option Int):dr (ns.map V.int) lo hi=((ns.drop (HT.bo ns.length 0 lo)).take (HT.bo ns.length ns.length hi - HT.bo ns.length 0 lo)).map V.int:=by
 unfold dr
 rw[qx,List.map_take,List.map_drop]
theorem Qt {H:Hp} {p c a:Addr} {n:Nat} (hT:aI.ok H) (N:yb H p c 0 0):∃ (F:Hp) (ns:List Int),ns.length <= 63/\SR F [p] ⟨none :: some (.o 0) :: List.replicate n none,[some (.lst [.lst (ns.map D.int),.int 0,.int 0])]⟩ (some (.ref a) :: some (.ref p) :: List.replicate n none) H:=by
 obtain⟨ns,hc,hn⟩:=N.cells
 have ne:=N.ne
 refine⟨upd (fun _=>none) c (.lst (ns.map V.int)),ns,hn,⟨fun b o e => ?_,fun b ⟨k,ov,e1,e2⟩ => ?_,rfl,fun k l a ov ow e1 e2 _ _ => ?_,fun k ov e => ?_,fun i x e => ?_,by simp,hT,fun b hb=>by
  obtain⟨ps,q⟩:=aI.tb hT hb
  rw[aO fun z=>by subst z;rw[hc] at q;cases q]⟩⟩
 ·by_cases z:b=c
  ·subst z;rw[bW] at e;cases e;exact hc
  ·rw[aO z] at e;cases e
 ·cases k with
  | zero=>cases (show some p=some b by simpa using e1);rw[aO (XA ne)]
  | succ k=>simp at e1
 ·cases k with
  | zero =>
   cases l with
   | zero=>rfl
   | succ l=>simp at e2
  | succ k=>simp at e1
 ·cases k with
  | zero =>
   cases (show OV.lst [.lst (ns.map D.int),.int 0,.int 0]=ov by simpa using e)
   refine⟨p,_,rfl,N.lst,_,rfl,?_⟩
   refine .cons ?_ (.cons rfl (.cons rfl .nil))
   simp only[Is]
   exact⟨c,_,rfl,bW,lJ⟩
  | succ k=>simp at e
 ·cases i with
  | zero=>simp at e
  | succ i =>
   cases i with
   | zero =>
    cases (show DV.o 0=x by simpa using e)
    exact⟨_,rfl,p,rfl,rfl⟩
   | succ i =>
    exfalso
    have e:(List.replicate n (none:Option DV))[i]? = some (some x):=by simpa using e
    rw[XX] at e
    split at e<;>cases e
theorem Qu {B:WS} {F:Hp} {ad:List Addr} {δ : ay} {σ : St} {H:Hp} {Q:VK} (S:SR F ad δ σ H) (h:B ⟨fun _=>False,fun x _=>x = .p (.bl true),fun _=>False,fun _=>False⟩ δ) (q:∀ H',Q (.bl true) H'):dw B { nx:=fun _ H'=>Q .non H',rt:=Q } σ H :=
 ⟨F,ad,δ,_,S,h,⟨fun δ' h=>h.elim,fun δ' h=>h.elim,fun δ' h=>h.elim,fun x δ' h v F' aC σ' H' E' S' V=>by
  have h:x = .p (.bl true):=h
  subst h
  have V:v = .bl true:=V
  subst V
  exact q H'⟩⟩
end LJ
namespace L2
open PySem PySem.Spec PyProof.Rows
noncomputable def B_ (Ts:List (Addr × Array Value)) (H:Hp):Prop:=∀ b,(∃ ps,Ts.lookup b=some ps/\H b=some (.tbl ps))\/(Ts.lookup b=none/\(H b=none\/∃ o xs,H b=some (.frz o (.lst xs))))
theorem Qv {P:Program} {w:World} {K:PySem.W.Frag} {mg mb:Str->Option Value} {CX:jM} {k:Nat} {fa a:Addr} {fd:FuncData} {x:Str} {sp:Sp} {s₁ : Shared} {vs:List Value} {ns:List Int} (Ts:List (Addr × Array Value))
  (hT:∀ b ps,Ts.lookup b=some ps->s₁.heap.get? b=some { cls := .none,data := .fields ps }/\isCodeTable s₁.heap b/\K.lookup b=none)
  (KX:K.In s₁.heap) (vL:s₁.heap.Ns mainGlobals mg) (hb:s₁.heap.Ns builtinsNs mb) (Qw:∀ x:Str,x ≠ "__name__" -> mb x=bootBuiltins x) (Ca:s₁.heap.NoLimit) (hg:s₁.gens = #[])
  (ha:s₁.heap.get? a=some { cls := .type "list",data := .seq vs.toArray }) (hi:IntsAre vs ns) (hl:ns.length <= sizeLine) (hr:bG k callerA)
  (hB:∃ bm ob,mg "__builtins__" = some (.ref bm)/\bm≠builtinsNs/\s₁.heap.get? bm=some ob/\ob.cls = .type "module" /\ ob.dict=some builtinsNs/\ob.data = .plain)
  (F:∀ base:Heap,K.In base->base.Ns mainGlobals mg->(∀ b ps,Ts.lookup b=some ps->base.BuiltinsAt mg b)->ba P w K mg base CX k fa fd [x] sp) (vM:∀ (s:Shared) (u:Value),BindsTo s fd ⟨[u],[]⟩ [(x,u)])
  (oY:∀ H:Hp,B_ Ts H->bx K H a (ns.map V.int)->sp [.ref a] H (fun v _=>v = .bl true) fun _ _ _=>False)
  (Cb:∀ H e s',CX [] H s₁ (fun _ _ _=>False) e s'->False) :
  codeAny (model P w) callerA (.call (.ref fa) ⟨[.ref a],[]⟩) (fun r s'=>r = .ok (.ret (.bool true))/\OldK s₁.heap s'.heap/\s'.os=s₁.os/\AllBare s'.gens) s₁ := by
 have rv:=Fi hi
 have Cc:=hi.length
 have aT:Ts.lookup a=none:=by
  cases q:Ts.lookup a with
  | none=>rfl
  | some ps =>
   have:=(hT a ps q).1
   rw[ha] at this
   have z:=congrArg Obj.cls (Wf this)
   cases (show Value.type "list" = Value.none from z)
 have core:∀ H:Hp,B_ Ts H->bx K H a (ns.map V.int)->d4 P w H s₁.heap->(∀ b,Ts.lookup b=none->H b≠none->b=a)->(H a≠none->K.lookup a=none) →
   codeAny (model P w) callerA (.call (.ref fa) ⟨[.ref a],[]⟩) (fun r s'=>r = .ok (.ret (.bool true))/\OldK s₁.heap s'.heap/\s'.os=s₁.os/\AllBare s'.gens) s₁ := by
  intro H hO hS aN hA hK
  have h9:∀ {b:Addr} {o:Obj},s₁.heap.get? b=some o->H b=none->(gA s₁.heap H).get? b=some o:=fun e n=>Kw e n
  have nr:∀ {b:Addr} {o:Obj} {es:Array DictEntry} {ep:Nat},s₁.heap.get? b=some o->o.data = .dict es ep->H b=none:=fun {b o es ep} e d=>by
   cases q:H b with
   | none=>rfl
   | some u =>
    cases t:Ts.lookup b with
    | some ps =>
     have:=(hT b ps t).1
     rw[e] at this;cases this
     cases d
    | none =>
     have e':b=a:=hA b t (by rw[q];simp)
     subst e'
     rw[ha] at e;cases e
     have d':Data.seq vs.toArray _=Data.dict es ep:=d
     cases d'
  have yd:∀ {b:Addr} {m:Str->Option Value},s₁.heap.Ns b m->(gA s₁.heap H).Ns b m:=fun {b m} ⟨o,es,ep,e,d,r⟩=>⟨o,es,ep,h9 e (nr e d),d,r⟩
  have HU:K.In (gA s₁.heap H):=fun b o e=>h9 (KX b o e) (by
   cases q:H b with
   | none=>rfl
   | some u =>
    cases t:Ts.lookup b with
    | some ps=>rw[(hT b ps t).2.2] at e;cases e
    | none =>
     have e':b=a:=hA b t (by rw[q];simp)
     subst e'
     rw[hK (by rw[q];simp)] at e;cases e)
  have Qx:∀ b ps,Ts.lookup b=some ps->(gA s₁.heap H).BuiltinsAt mg b:=fun b ps t=>by
   obtain⟨bm,ob,b1,b2,b3,b4,b5,b6⟩:=hB
   refine⟨bm,ob,b1,b2,fun z => ?_,fun z => ?_,h9 b3 ?_,b4,b5,b6⟩
   ·obtain⟨o,es,ep,e1,e2,_⟩:=vL
    rw[z,e1] at b3;cases b3
    rw[e2] at b6;cases b6
   ·have:=(hT b ps t).1
    rw[z,this] at b3;cases b3
    cases b6
   ·cases q:H bm with
    | none=>rfl
    | some u =>
     cases t':Ts.lookup bm with
     | some Qy =>
      have:=(hT bm Qy t').1
      rw[b3] at this;cases this
      cases b6
     | none =>
      have e':bm=a:=hA bm t' (by rw[q];simp)
      rw[e',ha] at b3;cases b3
      cases b6
  have hM:Mod K mg (gA s₁.heap H):=⟨HU,yd vL,⟨mb,yd hb,Qw⟩,let ⟨mc,h1,h2⟩:=Ca; ⟨mc,yd h1,h2⟩⟩
  have e0:nq P w K mg (gA s₁.heap H) callerA [] s₁ H:=⟨rfl,hM,fun b o e=>Kx e,q0m (Kv _ _),trivial,fun b hb=>absurd (show b∈([]:List Addr) from hb) (by simp),aN,.of_eq hg⟩
  refine YC ((F _ HU (yd vL) Qx).run callerA [] s₁ H ⟨[.ref a],[]⟩ [.ref a] [.ref a] _ _ hr e0 (vM s₁ (.ref a)) (.cons rfl .nil) (oY H hO hS)) fun r s' h => ?_
  cases r with
  | error e=>exact (Cb H e s' h).elim
  | ok fl =>
   cases fl with
   | next=>exact False.elim h
   | brk=>exact False.elim h
   | cont=>exact False.elim h
   | ret u =>
    obtain⟨v,H',os,bare,un,vN,r',q⟩:=h
    have q':v = .bl true:=q
    subst q'
    obtain rfl:u=Value.bool true:=r'
    have all:∀ b o,s₁.heap.get? b=some o->asItWas s₁.heap s'.heap b o/\∃ o',s'.heap.get? b=some o':=fun b o e=>by
     rcases hO b with⟨ps,t,z⟩ | ⟨t,z | ⟨ob,xs,z⟩⟩
     ·obtain⟨more,z2⟩:=un.gz b ps z
      have e2:s'.heap.get? b=some { cls := .none,data := .fields (ps ++ more) }:=vN b _ z2
      have e1:=(hT b ps t).1
      rw[e] at e1;cases e1
      exact⟨.inr (.inl ⟨(hT b ps t).2.1,rfl,ps,more,rfl,e2⟩),_,e2⟩
     ·have e2:=un.keep b o e z (by intro z;exact absurd (show b∈([]:List Addr) from z) (by simp)) (by simp)
      exact⟨.inl e2,_,e2⟩
     ·have z2:=un.gy b ob _ z
      obtain⟨e1,_⟩:=aN b _ z
      obtain⟨e2,_⟩:=vN b _ z2
      rw[e] at e1;cases e1
      exact⟨.inl e2,_,e2⟩
    exact⟨rfl,⟨fun b o e=>(all b o e).1,fun b o e=>(all b o e).2⟩,os,bare⟩
 have pO:∀ (H:Hp) b ps,Ts.lookup b=some ps->aJ P w H s₁.heap b (.tbl ps):=fun H b ps t=>(hT b ps t).1
 cases hk:K.lookup a with
 | some o =>
  have e:=KX a o hk
  rw[ha] at e
  cases e
  have hv:∀ b,(fun b=>(Ts.lookup b).map HO.tbl:Hp) b=(Ts.lookup b).map HO.tbl:=fun _=>rfl
  refine core (fun b=>(Ts.lookup b).map HO.tbl) (fun b => ?_) (.inr ⟨_,vs.toArray,_,hk,rfl,rfl,rfl,by rw[Ad,Cc];exact hl,by simpa using rv⟩) (fun b u z => ?_) (fun b t z => ?_) fun z => ?_
  ·cases t:Ts.lookup b with
   | some ps=>exact .inl ⟨ps,rfl,by show (Ts.lookup b).map HO.tbl=_;rw[t];rfl⟩
   | none=>exact .inr ⟨rfl,.inl (by show (Ts.lookup b).map HO.tbl=_;rw[t];rfl)⟩
  ·obtain⟨ps,t,rfl⟩:=Vu.mp (show (Ts.lookup b).map HO.tbl=some u from z)
   exact pO _ b ps t
  ·exact absurd (show (Ts.lookup b).map HO.tbl=none by rw[t];rfl) z
  ·exact absurd (show (Ts.lookup a).map HO.tbl=none by rw[aT];rfl) z
 | none =>
  refine core (fun b=>if b=a then some (.frz { cls := .type "list",data := .seq vs.toArray } (.lst (ns.map V.int))) else (Ts.lookup b).map HO.tbl) (fun b => ?_) (.inl (.inr ⟨{ cls := .type "list",data := .seq vs.toArray },MD rfl⟩)) (fun b u z => ?_) (fun b t z => ?_) fun _=>hk
  ·by_cases hb:b=a
   ·subst hb
    exact .inr ⟨aT,.inr ⟨_,_,MD rfl⟩⟩
   ·cases t:Ts.lookup b with
    | some ps=>exact .inl ⟨ps,rfl,(MA hb).trans (by rw[t];rfl)⟩
    | none=>exact .inr ⟨rfl,.inl ((MA hb).trans (by rw[t];rfl))⟩
  ·by_cases hb:b=a
   ·have z':=(MD hb).symm.trans z
    cases z'
    subst hb
    exact⟨ha,by rw[qx];exact hl,vs,_,rv,ha⟩
   ·have z':=(MA hb).symm.trans z
    obtain⟨ps,t,rfl⟩:=Vu.mp z'
    exact pO _ b ps t
  ·by_cases hb:b=a
   ·exact hb
   ·exact absurd ((MA hb).trans (by rw[t];rfl)) z
theorem Qz {l:PySem.W.OpenLaw} {n k:Nat} {q:Program} {loose:List Str} {XP:(Str->Option Value)->Heap->Prop} {YP:World->Heap->Prop} {d:DefRec} {K:World->PySem.W.Frag} {CX:World->jM} {sp:World->Sp} {x:Str} {Ts:World->List (Addr × Array Value)}
  (hn:l.most=some n) (QA:n <= sizeLine) (uq:d.params.defaults=[]) (hr:bG k callerA)
  (hY:∀ (w:World) (h:Heap),YP w h->(K w).In h)
  (hT:∀ (w:World) (h:Heap),YP w h->∀ b ps,(Ts w).lookup b=some ps->h.get? b=some { cls := .none,data := .fields ps }/\isCodeTable h b/\(K w).lookup b=none)
  (F:∀ (w:World) (mg:Str->Option Value) (fa:Addr) (h:Heap),(K w).In h->h.Ns mainGlobals mg->mg d.name=some (.ref fa) →
   ∃ fd:FuncData,(∀ (s:Shared) (u:Value),BindsTo s fd ⟨[u],[]⟩ [(x,u)]) ∧
    ∀ base:Heap,(K w).In base->base.Ns mainGlobals mg->(∀ b ps,(Ts w).lookup b=some ps->base.BuiltinsAt mg b)->ba l.prog w (K w) mg base (CX w) k fa fd [x] (sp w))
  (oY:∀ (w:World) (H:Hp) (a:Addr) (ns:List Int),ns.length <= n->B_ (Ts w) H->bx (K w) H a (ns.map V.int)->sp w [.ref a] H (fun v _=>v = .bl true) fun _ _ _=>False)
  (Cb:∀ (w:World) (H:Hp) (s:Shared) (e:Value) (s':Shared),CX w [] H s (fun _ _ _=>False) e s'->False) :
  PySem.W.WalkO q loose XP YP l.row.toRowW d [] (fun f vs=>PySem.call f vs):=by
 refine Att.iB hn uq fun w s₀ s₁ mg mb fa o pm cd doc a vs ns G Y ho hd fZ nE qu hints hlen hg => ?_
 have KX:=hY w _ Y
 obtain⟨fd,hb,hF⟩:=F w mg fa _ KX G.T.g nE
 exact Qv (Ts w) (hT w _ Y) KX G.T.g G.T.b G.T.builtins G.T.nolimit hg qu hints (WY hlen QA) hr G.T.bmain hF hb (fun H hO hS=>oY w H a ns hlen hO hS) fun H e s'=>Cb w H s₁ e s'
section
variable {X:Cx} {pins:List (Addr × Obj)} {σ : St} {H:Hp} {s:Shared} {h':Heap}
theorem Inv.grow {T c f:Addr} {ps more:Array Value} {oc of:HO} {t':Nat} (I:Inv X pins σ H s) (hT:H T=some (.tbl ps)) (k:∀ b u,b≠T->s.heap.get? b=some u->h'.get? b=some u) (HV:h'.get? T=some { cls := .none,data := .fields (ps ++ more) })
  (hc:s.heap.objs.size <= c) (hf:s.heap.objs.size <= f) (Cd:c≠f) (QB:∀ H2,aJ X.prog X.w H2 h' c oc) (QC:∀ H2,aJ X.prog X.w H2 h' f of) :
  Inv X pins σ (upd (upd (upd H T (.tbl (ps ++ more))) c oc) f of) { s with heap:=h',toks:=t' }:=by
 have tl:T < s.heap.objs.size:=(I.aN T _ hT).lt
 have cT:c≠T:=Xq (V8 tl hc)
 have fT:f≠T:=Xq (V8 tl hf)
 have VR:H c=none:=I.aN.fresh hc
 have QD:H f=none:=I.aN.fresh hf
 have old:∀ b,b < s.heap.objs.size->b≠T->upd (upd (upd H T (.tbl (ps ++ more))) c oc) f of b=H b:=fun b hb nT=>by
  rw[aO (Vx (V8 hb hf)),aO (Vx (V8 hb hc)),aO nT]
 have atT:upd (upd (upd H T (.tbl (ps ++ more))) c oc) f of T=some (.tbl (ps ++ more)):=by
  rw[aO (XA fT),aO (XA cT),bW]
 have lt:∀ b u,H b=some u->b < s.heap.objs.size:=fun b u e=>(I.aN b u e).lt
 have eG:∀ b u,H b=some u->(∀ qs,u ≠ .tbl qs)->upd (upd (upd H T (.tbl (ps ++ more))) c oc) f of b=some u:=fun b u e n=>by
  rw[old b (lt b u e) (fun z=>by subst z;rw[hT] at e;cases e;exact n _ rfl)];exact e
 refine I.un (t':=t') ⟨fun b o e n _ _=>k b o (fun z=>by subst z;rw[hT] at n;cases n) e,fun b o e n _ _=>⟨o.slots,k b o (fun z=>by subst z;rw[hT] at n;cases n) e⟩,fun b o e n _ => ?_,fun b o e _ => ?_,fun b xs e=>eG b _ e (fun _ z=>by cases z),fun b o u e=>eG b _ e (fun _ z=>by cases z),fun b qs e => ?_⟩ fun b u e => ?_
 ·rw[old b (My e) (fun z=>by subst z;rw[hT] at n;cases n)];exact n
 ·by_cases z:b=T
  ·subst z;exact⟨_,HV⟩
  ·exact⟨o,k b o z e⟩
 ·by_cases z:b=T
  ·subst z;rw[hT] at e;cases e;exact⟨more,atT⟩
  ·exact⟨#[],by rw[old b (lt b _ e) z,e];simp⟩
 ·by_cases z1:b=f
  ·subst z1;rw[bW] at e;cases e;exact QC _
  ·rw[aO z1] at e
   by_cases z2:b=c
   ·subst z2;rw[bW] at e;cases e;exact QB _
   ·rw[aO z2] at e
    by_cases z3:b=T
    ·subst z3;rw[bW] at e;cases e;exact HV
    ·rw[aO z3] at e
     refine aJ.fJ (I.aN b u e) (fun d v hd q => ?_) (fun d q=>eG d _ q (fun _ z=>by cases z)) (fun d xs q=>eG d _ q (fun _ z=>by cases z))
     ·refine k d v (fun y => ?_) q
      subst y
      rcases hd with y | y
      ·exact z3 y.symm
      ·rw[hT] at y;cases y
noncomputable def mP (c:Addr) (q:Str):HO := .ext fun h=>∃ o vs tq,h.get? c=some o/\o.data = .fields vs/\vs[1]? = some (.str q tq)
theorem QE {P:Program} {w:World} {H:Hp} {h:Heap} {c:Addr} {q:Str} (e:h.CodeRec (.ref c) q):aJ P w H h c (mP c q):=by
 obtain⟨c',o,vs,tq,z,ho,hd,hq⟩:=e
 cases z
 exact⟨⟨o,vs,tq,ho,hd,hq⟩,⟨o,ho⟩,fun h1 h2 ⟨o,vs,tq,e1,e2,e3⟩ k=>⟨o,vs,tq,k o e1,e2,e3⟩⟩
theorem QF {P:Program} {w:World} {H:Hp} {h:Heap} {c:Addr} {q:Str} (x:aJ P w H h c (mP c q)):h.CodeRec (.ref c) q:=by
 obtain⟨⟨o,vs,tq,ho,hd,hq⟩,_⟩:=x
 exact⟨c,o,vs,tq,rfl,ho,hd,hq⟩
end
end L2
namespace L2
open PySem PySem.Spec PyProof.Rows PySem.W
section
variable {X:Cx} {pins:List (Addr × Obj)} {σ : St} {H:Hp} {s:Shared} {params:Arguments} {body:Expr} {scope:Scope} {pos:Pos} {iI:List (Str × Addr)} {cc T:Addr} {ps:Array Value} {E:Value->Shared->Prop} {Q:Value->Shared->Prop}
noncomputable def jh (f:Addr) (name qual:Str) (params:Arguments) (body:Expr) (scope:Scope) (iI:List (Str × Addr)) (pm cd:Value):HO := .ext fun h=>∃ vO,h.get? f=some { cls := .type "function",data := .func (kla_fn name qual params body scope iI pm cd vO) }
noncomputable def eI (H:Hp) (T:Addr) (pos:Pos) (qual:Str):Prop:=∃ ps,H T=some (.tbl ps)/\TriplesOk ps.toList/\(codeAmong pos ps.toList=none\/∃ c,codeAmong pos ps.toList=some (.ref c)/\H c=some (mP c qual))
theorem QG (I:Inv X pins σ H s) (hT:eI H T pos (X.env.qual ++ "<lambda>")) (Ce:defaultsOf params X.env=([],[])) (pM:closureFor scope X.env=pure iI) (jH:X.env.code = .ref cc) (C:CodeHd s.heap cc T) (QH:mainGlobals≠T) (hg:s.heap.Ns mainGlobals X.mg) (hb:s.heap.BuiltinsAt X.mg T)
  (h:∀ f H' s' c,Inv X pins σ H' s'->eI H' T pos (X.env.qual ++ "<lambda>")->(∀ b o,H b=some o->b≠T->H' b=some o)->H f=none->H' f=some (jh f "<lambda>" (X.env.qual ++ "<lambda>") params body scope iI ((X.mg "__name__").getD .none) (.ref c))->H' c=some (mP c (X.env.qual ++ "<lambda>"))->Q (.ref f) s') :
  wpAny (model X.prog X.w) X.A (eval (.Lambda params body scope pos) X.env) Q E s:=by
 obtain⟨ps,hP,ht,hf⟩:=hT
 have Cf:s.heap.get? T=some { cls := .none,data := .fields ps }:=I.aN T _ hP
 refine kla_eval Ce ?_
 rcases hf with HW | ⟨c,hf,ye⟩
 ·refine kla_makeFunction pM I.ok.glob hg jH C Cf ht HW QH hb fun c' vO h' tk hx yf cK Cg QI => ?_
  have hsz:s.heap.objs.size <= h'.objs.size:=Xj (YT yf cK)
  have tl:T < s.heap.objs.size:=My Cf
  have QJ:T≠h'.objs.size:=Vx (V8 tl hsz)
  have QK:T≠c':=Vx (V8 tl yf)
  have Cd:c'≠h'.objs.size:=Vx cK
  have HX:(ps ++ #[rawInt pos.line,rawInt pos.col,Value.ref c']).toList=ps.toList ++ [rawInt pos.line,rawInt pos.col,Value.ref c']:=by simp
  have atT:upd (upd (upd H T (.tbl (ps ++ #[rawInt pos.line,rawInt pos.col,.ref c']))) c' (mP c' (X.env.qual ++ "<lambda>"))) h'.objs.size (jh h'.objs.size "<lambda>" (X.env.qual ++ "<lambda>") params body scope iI ((X.mg "__name__").getD .none) (.ref c')) T=some (.tbl (ps ++ #[rawInt pos.line,rawInt pos.col,.ref c'])):=by
   rw[aO QJ,aO QK,bW]
  have atC:upd (upd (upd H T (.tbl (ps ++ #[rawInt pos.line,rawInt pos.col,.ref c']))) c' (mP c' (X.env.qual ++ "<lambda>"))) h'.objs.size (jh h'.objs.size "<lambda>" (X.env.qual ++ "<lambda>") params body scope iI ((X.mg "__name__").getD .none) (.ref c')) c'=some (mP c' (X.env.qual ++ "<lambda>")):=by
   rw[aO Cd,bW]
  refine h h'.objs.size _ _ c' (I.grow (t':=tk) (oc:=mP c' (X.env.qual ++ "<lambda>")) (of:=jh h'.objs.size "<lambda>" (X.env.qual ++ "<lambda>") params body scope iI ((X.mg "__name__").getD .none) (.ref c')) hP (fun b u nb e=>qw _ (hx b u nb e)) (qw _ QI) yf hsz Cd (fun _=>QE (Cg.push _)) fun _ => ?_) ⟨_,atT,?_,.inr ⟨c',?_,atC⟩⟩ (fun b o e nb => ?_) (I.aN.fresh hsz) bW atC
  ·exact⟨⟨vO,MC _ rfl⟩,⟨_,MC _ rfl⟩,fun h1 h2 ⟨v,e⟩ k=>⟨v,k _ e⟩⟩
  ·rw[HX];exact TriplesOk_snoc _ _ _ _ ht
  ·rw[HX];exact codeAmong_snoc _ ht HW
  ·have bl:b < s.heap.objs.size:=(I.aN b o e).lt
   rw[aO (Vx (V8 bl hsz)),aO (Vx (V8 bl yf)),aO nb];exact e
 ·refine kla_makeFunctionHit pM I.ok.glob hg jH C Cf ht hf hb fun vO h' tk hk hsz => ?_
  have hn:H h'.objs.size=none:=I.aN.fresh hsz
  refine h h'.objs.size _ _ c (I.laid (a:=h'.objs.size) (o:=jh h'.objs.size "<lambda>" (X.env.qual ++ "<lambda>") params body scope iI ((X.mg "__name__").getD .none) (.ref c)) (t':=tk) (fun b u e=>qw _ (hk b u e)) hsz ?_) ⟨ps,?_,ht,.inr ⟨c,hf,?_⟩⟩ (fun b o e _ => ?_) hn bW ?_
  ·exact⟨⟨vO,MC _ rfl⟩,⟨_,MC _ rfl⟩,fun h1 h2 ⟨v,e⟩ k=>⟨v,k _ e⟩⟩
  ·rw[aO (di hP hn)];exact hP
  ·rw[aO (di ye hn)];exact ye
  ·rw[aO (di e hn)];exact e
  ·rw[aO (di ye hn)];exact ye
end
structure LD where
 A:Around
 cl:List (Str × Addr)
 f:Addr
 cd:Value
 s:Shared
 H:Hp
@[reducible] noncomputable def oG (X:Cx) (qual:Str) (scope:Scope) (Nb:List Str) (d:LD):Cx where
 prog:=X.prog
 w:=X.w
 K:=X.K
 mg:=X.mg
 base:=X.base
 A:=d.A.deeper (envX qual scope d.s.heap.objs.size d.f d.cd d.cl)
 N:=Nb
 s₀ := d.s
 H₀ := d.H
 env:=envX qual scope d.s.heap.objs.size d.f d.cd d.cl
 outer:=X.stack
 stack:=envX qual scope d.s.heap.objs.size d.f d.cd d.cl :: X.stack
 ex:=[]
 fn:=fun _=>false
 calm:=true
 pn:=[]
 xe:=fun _ _=>False
noncomputable def yg (N:List Str) (wI scope:Scope) (x:Str) (Nb:List Str) (cp:List (Option Nat)):Bool :=
 mB N wI scope (x :: Nb) (none :: cp) && (scope.names.all fun y=>decide (y.2 ≠ .cell)) && decide (scope.names.lookup x=some .local) && cp.all (·.isSome)
section
variable {X:Cx} {pins:List (Addr × Obj)} {σ : St} {H:Hp} {s:Shared} {params:Arguments} {body:Expr} {scope:Scope} {cl:List (Str × Addr)} {E:Value->Shared->Prop} {Q:VK} {name qual x:Str} {f c:Addr} {pm:Value} {A:Around} {v:V} {u:Value} {Nb:List Str} {cp:List (Option Nat)} {t:TE}
theorem QL (I:Inv X pins σ H s) (hf:H f=some (jh f name qual params body scope cl pm (.ref c))) (hc:H c=some (mP c qual)) (hA:A.frames=some X.stack) (hh:A.handled=none) (hd:A.depth < recursionLimit)
  (hk:scope.kind = .function) (ho:yg X.N X.env.scope scope x Nb cp=true) (QM:scope.isCoroutine=false) (Ci:scope.isGenerator=false)
  (rA:∀ y c,cl.lookup y=some c->X.env.cells.lookup y=some c) (yh:∀ y∈scope.names,y.2 = .free->∃ c,cl.lookup y.1=some c)
  (hb:∀ (ct:Value),bindArgs (kla_fn name qual params body scope cl pm (.ref c) ct) ⟨[u],[]⟩=pure [(x,u)]) (r:RelV v u)
  (J:JE (oG X qual scope (x :: Nb) ⟨A,cl,f,.ref c,s,H⟩) body t) (h:t (some v :: iM cp σ) H Q):wpAny (model X.prog X.w) A (call (.ref f) [u]) (EP X pins σ Q) E s:=by
 unfold yg at ho
 simp only[Wl,Xw,Xs] at ho
 obtain⟨⟨⟨ho,HY⟩,hx⟩,cps⟩:=ho
 have S:=x1c hk ho
 obtain⟨⟨ct,QN⟩,_⟩:=I.aN f _ hf
 have fZ:=QF (I.aN c _ hc)
 refine wpAny_call (kla_callFunE hd QN rfl QM Ci rfl fZ ?_)
 rw[hb ct]
 refine uk (wpAny_newFunctionEnv (fun y hy=>HY y hy) (fun y hy=>by rw[Wc.mp hy];exact hx) (fun h₁ vL ux => ?_) hk)
 have vP:∀ b o,s.heap.get? b=some o->h₁.get? b=some o:=fun b o e=>ux.extBut b o (Vx (My e)) (qw _ e)
 refine⟨I.nolimit.keeps vP,?_⟩
 have e0:=I.t7
 show codeAny _ _ (.expr body (envX qual scope s.heap.objs.size f (.ref c) cl)) _ _
 have nr:∀ b:Addr,b∉(oG X qual scope (x :: Nb) ⟨A,cl,f,.ref c,s,H⟩).ex:=fun b z=>absurd (show b∈([]:List Addr) from z) (by simp)
 have mem:∀ {y:Str} {k:NameKind},scope.names.lookup y=some k->(y,k)∈scope.names:=fun e=>Xi e
 have I1:Inv (oG X qual scope (x :: Nb) ⟨A,cl,f,.ref c,s,H⟩) [] (some v :: iM cp σ) H { s with heap:=h₁,toks:=s.toks + [(x,u)].length }:=by
  refine⟨⟨e0.mod,hk,rfl,rfl,wG _,fun y z d h1 h2=>I.ok.inj y z d (rA y d h1) (rA z d h2),fun y hy => ?_,fun y d z _=>(by cases z),fun _=>hh,Around.frames_deeper hA,.inr ⟨rfl,rfl⟩,fun b z=>absurd z (nr b),e0.bs,e0.oV,fun b _ _=>nr b,fun b z=>absurd z (nr b),e0.fK,e0.qb⟩,
   rfl,e0.bare,Un.kept vP,⟨_,vL,fun i y w h1 h2 h3 => ?_⟩,fun y d hy => ?_,e0.aN.fresh (wG _),fun y d hy=>I.c6 y d (rA y d hy),fun p hp=>absurd (show p∈([]:List (Addr × Obj)) from hp) (by simp),e0.aN.kept vP,?_⟩
  ·have hy:scope.names.lookup y=some .cell\/scope.names.lookup y=some .free:=hy
   rcases hy with hy | hy
   ·exact absurd rfl (HY _ (mem hy))
   ·exact yh _ (mem hy) rfl
  ·cases i with
   | zero =>
    cases (show some x=some y by simpa using h1)
    cases (show v=w by simpa using h2)
    exact⟨u,r,.inl ⟨hx,by simp⟩⟩
   | succ j =>
    have h1:Nb[j]? = some y:=by simpa using h1
    have h2:(iM cp σ)[j]? = some (some w):=by simpa using h2
    unfold iM at h2
    rw[Fl] at h2
    obtain⟨o,q1,q2⟩:=Vu.mp h2
    match o,q2 with
    | none,q2=>cases q2
    | some i',q2 =>
     have q2:(σ[i']?).join=some w:=q2
     obtain⟨n1,n2⟩:=S.ur (j + 1) i' y (by simpa using q1) (by simpa using h1)
     have hs : σ[i']? = some (some w):=by
      cases q : σ[i']? with
      | none=>rw[q] at q2;cases q2
      | some z=>rw[q] at q2;cases (show z=some w from q2);rfl
     have kd:=S.free _ (mem n2) rfl
     obtain⟨m,hn,hl⟩:=I.loc
     obtain⟨u',rv,lk⟩:=hl i' y w n1 hs (by rcases kd with z | z;exact .inr (.inl z);exact .inr (.inr z))
     refine⟨u',rv,?_⟩
     rcases lk with⟨z,_⟩ | ⟨_,d,e1,o,e2,e3⟩
     ·rcases kd with k | k<;>(rw[show X.env.kindOf y=some .local from z] at k;cases k)
     ·obtain⟨d',e4⟩:=yh _ (mem n2) rfl
      have:=rA _ _ e4
      rw[e1] at this;cases this
      exact .inr ⟨.inr n2,d,e4,o,vP _ _ e2,e3⟩
  ·obtain⟨z,o,e2,e3⟩:=I.cell y d (rA y d hy)
   exact⟨z,o,vP _ _ e2,e3⟩
  ·have:=S.len
   show (some v :: iM cp σ).length=(x :: Nb).length
   unfold iM
   rw[Fm,qx]
   simpa using this
 refine kla_codeExpr (XQ (J.out [] _ _ H Q I1 h) (fun u' s' hs => ?_) fun e s' hs=>hs.elim)
 obtain⟨w,H',J',rv,q⟩:=hs
 exact I.after ⟨w,H',J'.os,J'.bare,J'.base,J'.aN,rv,q⟩
end
noncomputable def jj (h:Heap) (k:LK) (v:Value):Prop:=∃ a o xs n,v = .ref a/\h.get? a=some o/\o.cls = .type "tuple" /\ o.data = .seq xs n/\IntsAre xs.toList k
section
variable {prog:Program} {w:World} {A:Around} {E:Value->Shared->Prop} {s:Shared} {Q:Bool->Shared->Prop}
theorem HZ {fin:Bool}:∀ {us ws:List Value} {ks ls:LK} (i:Nat),IntsAre us ks->IntsAre ws ls->fin=decide (us.length < ws.length)->Q (HT.lexLt ks ls) s->KatLex prog w A true fin Q (us.zip ws) i s
 | _,_,_,_,i,.nil,.nil,hf,h=>by
  rw[Y9]
  subst hf
  exact h
 | _,_,_,_,i,.nil,.cons m u r,hf,h=>by
  rw[Y9]
  have:fin=true:=by rw[hf];simp
  subst this
  exact h
 | _,_,_,_,i,.cons n t r,.nil,hf,h=>by
  rw[List.zip_nil_right]
  have:fin=false:=by rw[hf];simp
  subst this
  exact h
 | _,_,_,_,i,.cons n t r,.cons m u r',hf,h=>by
  rw[Yr]
  refine kat_cons (wpAny_eqBool_int (kat_go (fun e => ?_) fun e => ?_))
  ·have e:n=m:=Xm e
   subst e
   rw[HT.mx,MD rfl] at h
   exact kat_yes (HZ (i + 1) r r' (by rw[hf];simp) h)
  ·have e:¬ n=m:=fun z=>by subst z;simp at e
   rw[HT.mx,MA e] at h
   refine kat_no ?_
   cases q:(true && i == 0) with
   | true=>exact oneLt_int h
   | false=>exact kat_one _ _ (ZA h)
theorem H_ {k l:LK} {x y:Value} (hx:jj s.heap k x) (hy:jj s.heap l y) (h:Q (HT.lexLt k l) s):wpAny (model prog w) A (keyLt' (tuples' true) x y) Q E s:=by
 obtain⟨a,o,xs,n,rfl,h1,_,h2,h3⟩:=hx
 obtain⟨b,o',ys,n',rfl,g1,_,g2,g3⟩:=hy
 exact kat_lt h1 h2 g1 g2 (HZ 0 h3 g3 (by rw[Fj,Fj]) h)
theorem Ia {h:Heap}:∀ {keys:List Value} {ks:List LK},(∀ k∈ks,k≠[])->keys.length=ks.length->(∀ (i:Nat) (k:LK) (v:Value),ks[i]? = some k->keys[i]? = some v->jj h k v)->∃ fs,KatTups h keys fs/\fs.length=keys.length/\∀ v∈fs,∃ n t,v=Value.int n t
 | [],[],_,_,_=>⟨[],.nil,rfl,fun v hv=>nomatch hv⟩
 | [],_ :: _,_,hl,_=>by simp at hl
 | _ :: _,[],_,hl,_=>by simp at hl
 | v :: keys,k :: ks,fX,hl,ht=>by
  obtain⟨fs,t,hf,hi⟩:=Ia (h:=h) (keys:=keys) (ks:=ks) (fun k hk=>fX k (MB _ hk)) (by simpa using hl) fun i k v e1 e2=>ht (i + 1) k v (by simpa using e1) (by simpa using e2)
  obtain⟨a,o,xs,n,rfl,h1,hc,h2,h3⟩:=ht 0 k v rfl rfl
  have hk:=fX k Mz
  generalize hx:xs.toList=xl at h3
  cases h3 with
  | nil=>exact absurd rfl hk
  | cons m t' r =>
   have h0:xs[0]? = some (.int m t'):=by rw[<-Wa,hx];rfl
   refine⟨.int m t' :: fs,.cons h1 hc h2 h0 t,by rw[Fm,Fm,hf],fun v hv => ?_⟩
   rcases Fo.mp hv with rfl | hv
   ·exact⟨m,t',rfl⟩
   ·exact hi v hv
theorem Ib {M:Model} {keys:List Value} {ks:List LK} {Q:SortKind->Shared->Prop} (h0:0 < keys.length) (fX:∀ k∈ks,k≠[]) (hl:keys.length=ks.length) (ht:∀ (i:Nat) (k:LK) (v:Value),ks[i]? = some k->keys[i]? = some v->jj s.heap k v) (h:Q (tuples' true) s) :
  wpAny M A (keyKind' keys.toArray) Q E s:=by
 obtain⟨fs,t,hf,hi⟩:=Ia fX hl ht
 refine kat_kind (T := .type "int") t (by omega) (fun v hv => ?_) (by decide) ?_
 ·obtain⟨n,t',rfl⟩:=hi v hv
  exact .now
 ·exact h
theorem getD_some {α : Type} {l:List α} {i:Nat} {d : α} (h:i < l.length):l[i]? = some (l.getD i d):=by
 rw[qv h,wF,qv h];rfl
theorem QO {a kS:Addr} {e1:Nat} {vs keys:List Value} {ks:List LK} {P:PySem.Fin->Shared->Prop} (hv:keys.length=vs.length) (iN:vs.length < 64) (fX:∀ k∈ks,k≠[]) (hl:keys.length=ks.length) (ht:∀ (i:Nat) (k:LK) (v:Value),ks[i]? = some k->keys[i]? = some v->jj s.heap k v)
  (fin:∀ st (p:Array Nat),(arrOf st).map (·.2)=List.toArray (p.toList.map fun i=>vs.getD i Value.none)->failedOf st=none->dg vs.length p->Up (fun i=>ks.getD i []) p vs.length->wpAny (model prog w) A (ksk_tail a false e1 (.ref kS) st) P E s) :
  wpAny (model prog w) A (ksk_end a false vs.toArray e1 (.ref kS) (List.toArray keys)) P E s:=by
 unfold ksk_end
 try dsimp only
 simp only[V6,W9]
 by_cases h2:vs.toArray.size < 2
 ·rw[MD h2,MD h2]
  refine nG (uk ?_)
  rw[StateT.run_pure]
  refine nG (uk ?_)
  try dsimp only
  rw[Ad] at h2
  refine fin _ (List.range vs.length).toArray ?_ rfl ⟨q0w _⟩ fun i j iP hj => ?_
  ·have Cj:arrOf (SortSt.mk' general' (keys.toArray.zip vs.toArray) #[] 7 none)=(List.toArray (List.range vs.length)).map (kas_item (keys.toArray.zip vs.toArray)):=by
    have e:=kas_range (keys.toArray.zip vs.toArray)
    rw[show (keys.toArray.zip vs.toArray).size=vs.length by simp[hv]] at e
    rw[e]
   exact kat_snds hv Cj
  ·have:i=j:=by omega
   subst this
   exact kle_refl _
 ·rw[MA h2,MA h2]
  rw[Ad] at h2
  refine nG (Ib (by omega) fX hl ht ?_)
  refine nG (XQ (kat_run (κ := tuples' true) (E:=E) (Q:=fun eT s'=>s'=s/\∃ p:Array Nat,arrOf eT=p.map (kas_item (keys.toArray.zip vs.toArray))/\failedOf eT=none/\dg vs.length p/\Up (fun i=>ks.getD i []) p vs.length)
   (G:=fun p s'=>s'=s/\dg vs.length p/\Up (fun i=>ks.getD i []) p vs.length) hv (by omega) iN (fun p eT s' a1 a2 a3 a4=>⟨a4.1,p,a2,a3,a4.2.1,a4.2.2⟩) ?_) ?_ fun _ _ x=>x)
  ·refine G9 (k:=fun i=>ks.getD i []) (I:=fun s'=>s'=s) (fun i j C s' hi hj e hC => ?_) (by omega) rfl fun p s' a1 a2 a3=>⟨a3,a1,a2⟩
   subst e
   exact H_ (ht i _ _ (getD_some (by omega)) (getD_some (by omega))) (ht j _ _ (getD_some (by omega)) (getD_some (by omega))) (hC _ rfl)
  ·rintro ⟨⟨⟩,eT⟩ s' ⟨rfl,p,a1,a2,a3,a4⟩
   try dsimp only
   exact fin eT p (kat_snds hv a1) a2 a3 a4
end
theorem bC.at {X:Cx} {pins:List (Addr × Obj)} {H H':Hp} {b:Addr} (f:bC X pins H b) (h:H' b=none):bC X pins H' b:=⟨h,f.2⟩
section
variable {X:Cx} {pins:List (Addr × Obj)} {σ : St} {H:Hp} {s:Shared} {A:Around} {E:Value->Shared->Prop} {a:Addr} {vs:List Value} {f:Value}
theorem Inv.gX {h':Heap} {t':Nat} {b:Addr} (I:Inv X pins σ H s) (fb:bC X pins H b) (k:∀ c o,c≠b->s.heap.get? c=some o->h'.get? c=some o):Inv X pins σ H { s with heap:=h',toks:=t' } :=
 I.turned k fb.1 fb.2.1 fb.2.2.2.1 fb.2.2.2.2.1 fb.2.2.2.2.2
theorem Inv.oH {b:Addr} {o:Obj} (I:Inv X pins σ H s) (fb:bC X pins H b) (e:s.heap.get? b=some o) (hc:∀ v,o.data ≠ .cell v):Inv X ((b,o) :: pins) σ H s :=
 I.fR fun p hp=>by
  rcases Fo.mp hp with rfl | hp
  ·exact⟨e,fb.1,fb.2.1,fb.2.2.1,hc⟩
  ·exact I.pin p (V9 _ hp)
theorem Inv.h_ {p:Addr × Obj} (I:Inv X (p :: pins) σ H s):Inv X pins σ H s:=I.fR fun q hq=>I.pin q (V9 _ (MB _ hq))
theorem bC.cons {b:Addr} {p:Addr × Obj} (f:bC X pins H b) (n:p.1≠b):bC X (p :: pins) H b :=
 ⟨f.1,f.2.1,f.2.2.1,f.2.2.2.1,f.2.2.2.2.1,fun q hq=>by
  rcases W7.mp hq with z | z
  ·exact f.2.2.2.2.2 q (WZ _ z)
  ·rcases Fo.mp z with rfl | z
   ·exact n
   ·exact f.2.2.2.2.2 q (V9 _ z)⟩
theorem yi {c:String} {xs:Array Value} {n:Nat}:∀ v,(seqObj c xs n).data ≠ .cell v:=fun v z=>by cases z
theorem QP {P:List V->Hp->Prop} {n0:Nat} {R:PySem.Fin->Shared->Prop} (I:Inv X pins σ H s) (fa:bC X pins H a) (ha:s.heap.get? a=some (seqObj "list" vs.toArray n0)) (iN:vs.length < 64) (p0:P [] H)
  (rB:∀ (dj:List (Addr × Obj)) (v:Value) (kvs:List V) (H':Hp) (s':Shared),vs[kvs.length]? = some v->Inv X dj σ H' s'->P kvs H'->wpAny (model X.prog X.w) A (call f [v]) (EP X dj σ fun k km=>P (kvs ++ [k]) km) (fun _ _=>False) s')
  (fin:∀ kvs H',kvs.length=vs.length->P kvs H'->∃ ks:List LK,ks.length=vs.length/\(∀ k∈ks,k≠[])/\(∀ (i:Nat) (k:LK),ks[i]? = some k->∃ t,kvs[i]? = some (.ref t)/\H' t=some (.tup (k.map V.int))) ∧
   ∀ (p:Array Nat) (s':Shared) (c:Nat),dg vs.length p->Up (fun i=>ks.getD i []) p vs.length->Inv X pins σ H' s'->bC X pins H' a->s'.heap.get? a=some (seqObj "list" (List.toArray (p.toList.map fun i=>vs.getD i Value.none)) c)->R (.done (.ret .none)) s') :
  wpAny (model X.prog X.w) A (ksk_tree a f false) R E s:=by
 unfold ksk_tree
 refine nG (listItems_at ha rfl ?_)
 refine nG (YL ha rfl ?_ (by rw[Ad,WX];omega) (WK _))
 have sb:=Wr s.heap a (Obj.mapSeq fun _=>(#[]:Array Value))
 obtain⟨e1,fW⟩:∃ e1,(s.heap.update a (Obj.mapSeq fun _=>(#[]:Array Value))).get? a=some (seqObj "list" #[] e1):=⟨_,YR ha fun _ => #[]⟩
 have I1:Inv X pins σ H { s with heap:=s.heap.update a (Obj.mapSeq fun _=>(#[]:Array Value)) }:=I.gX (t':=s.toks) fa fun c o n e=>(sb.2 c n).trans e
 refine nG (seqEpoch_at fW rfl ?_)
 refine nG (wpAny_newTuple ?_ (by show vs.length <= _;rw[WX];omega))
 refine nG (Zp ?_ (WK _))
 refine Wo ?_
 generalize Ck:s.heap.update a (Obj.mapSeq fun _=>(#[]:Array Value))=g0 at fW I1
 show wpAny _ _ (ksk_rest a f false vs.toArray e1 (.ref (g0.push (seqObj "tuple" vs.toArray 0)).objs.size)) R E { s with heap:=(g0.push (seqObj "tuple" vs.toArray 0)).push (seqObj "list" #[] 0) }
 have I2:Inv X pins σ H { s with heap:=(g0.push (seqObj "tuple" vs.toArray 0)) }:=I1.kept (h':=g0.push (seqObj "tuple" vs.toArray 0)) (t':=s.toks) fun b u e=>qw _ e
 have fI:(g0.push (seqObj "tuple" vs.toArray 0)).get? a=some (seqObj "list" #[] e1):=qw _ fW
 generalize g0.push (seqObj "tuple" vs.toArray 0)=g1 at I2 fI
 have fk:bC X pins H g1.objs.size:=I2.g8 (wG _) (I2.aN.fresh (wG _))
 have I3:Inv X pins σ H { s with heap:=g1.push (seqObj "list" #[] 0) }:=I2.kept (h':=g1.push (seqObj "list" #[] 0)) (t':=s.toks) fun b u e=>qw _ e
 have vQ:g1.objs.size≠a:=Xq (My fI)
 have I4:=(I3.oH fk (MC _ rfl) yi).oH (fa.cons (p:=(g1.objs.size,seqObj "list" #[] 0)) vQ) (qw _ fI) yi
 generalize g1.objs.size=kS at I4 vQ fk
 unfold ksk_rest
 refine nG (Zh ?_)
 first
  | rw[List.forIn_toArray]
  | (rw[<-YU];simp only[List.toList_toArray])
  | rw[<-YU]
 refine nG (ksk_fold (fun i s'=>∃ H' kvs ks e,Inv X ((a,seqObj "list" #[] e1) :: (kS,seqObj "list" (List.toArray ks) e) :: pins) σ H' s'/\P kvs H'/\Vals kvs ks/\kvs.length=i) vs 0 _ ⟨H,[],[],0,I4,p0,.nil,rfl⟩ ?step ?done)
 case step =>
  rintro j x s' hx ⟨H',kvs,ks,e,J,pk,rv,hl⟩
  rw[Wv] at hl
  have hj:j < vs.length:=(su.mp hx).1
  refine nG (Zn (XQ (rB _ x kvs H' s' (by rw[hl];exact hx) J pk) (fun u s2 hs => ?_) fun _ _ z=>z.elim))
  obtain⟨k,H2,J2,r2,p2⟩:=hs
  try dsimp only
  have pa:=J2.pin (a,seqObj "list" #[] e1) (V9 _ (.head _))
  have pP:=J2.pin (kS,seqObj "list" (List.toArray ks) e) (V9 _ (.tail _ (.head _)))
  have lk:ks.length=j:=by rw[<-rv.length];exact hl
  refine nG (YL pP.1 rfl ?_ (by rw[Ad,WX];omega) (WY (q0m (q0p ..)) (by rw[Ad,WX];omega)))
  have s1:=Wr s2.heap kS (Obj.mapSeq (·.push u))
  have ea:(List.toArray ks).push u=List.toArray (ks ++ [u]):=by simp
  obtain⟨c2,jw⟩:∃ c2,(s2.heap.update kS (Obj.mapSeq (·.push u))).get? kS=some (seqObj "list" (List.toArray (ks ++ [u])) c2):=⟨_,by rw[<-ea];exact YR pP.1 (·.push u)⟩
  have J3:=J2.h_.h_
  have J4:Inv X pins σ H2 { s2 with heap:=s2.heap.update kS (Obj.mapSeq (·.push u)) }:=J3.gX (t':=s2.toks) (fk.at pP.2.1) fun c o n e=>(s1.2 c n).trans e
  refine uk ⟨rfl,H2,kvs ++ [k],ks ++ [u],c2,?_,p2,rv.append (.cons r2 .nil),by rw[Vw,hl,Wv];rfl⟩
  exact (J4.oH (fk.at pP.2.1) jw yi).oH ((fa.at pa.2.1).cons vQ) ((s1.2 a vQ.symm).trans pa.1) yi
 case done =>
  rintro s' ⟨H',kvs,ks,e,J,pk,rv,hl⟩
  rw[Wv] at hl
  have pa:=J.pin (a,seqObj "list" #[] e1) (V9 _ (.head _))
  have pP:=J.pin (kS,seqObj "list" (List.toArray ks) e) (V9 _ (.tail _ (.head _)))
  have lk:ks.length=vs.length:=by rw[<-rv.length];exact hl
  obtain⟨kk,k1,k2,k3,k4⟩:=fin kvs H' hl pk
  try dsimp only
  refine nG (listItems_at pP.1 rfl ?_)
  refine QO (ks:=kk) lk iN k2 (by rw[lk,k1]) (fun i k v e1 e2 => ?_) fun st p rC hf hp up => ?_
  ·obtain⟨t,e3,e4⟩:=k3 i k e1
   obtain⟨u,e5,e6⟩:=rv.get e3
   rw[e2] at e5;cases e5
   cases e6
   obtain⟨ag,r',it,_⟩:=J.tuple (bQ.of e4)
   obtain⟨o,o1,o2,n,o3⟩:=it
   exact⟨t,o,_,n,rfl,o1,o2,o3,by simpa using intsAre_of r'⟩
  ·have hz:(p.toList.map fun i=>vs.getD i Value.none).length=vs.length:=by rw[qx,Fj,hp.size]
   unfold ksk_tail
   try dsimp only
   rw[rC]
   refine nG (YL pP.1 rfl ?_ (by rw[Ad,WX];omega) (WK _))
   refine nG (wpAny_letGo ?_)
   have s1:=Wr s'.heap kS (Obj.mapSeq fun _=>(#[]:Array Value))
   have na:(s'.heap.update kS (Obj.mapSeq fun _=>(#[]:Array Value))).get? a=some (seqObj "list" #[] e1):=(s1.2 a vQ.symm).trans pa.1
   refine nG (seqEpoch_at na rfl ?_)
   simp only[V6,W9]
   refine nG (YL na rfl ?_ (WK _) (WY (q0m (by rw[Ad,hz])) (by rw[WX];omega)))
   rw[hf]
   simp only[ZV,V6,W9]
   have J1:Inv X pins σ H' { s' with heap:=s'.heap.update kS (Obj.mapSeq fun _=>(#[]:Array Value)) }:=J.h_.h_.gX (t':=s'.toks) (fk.at pP.2.1) fun c o n e=>(s1.2 c n).trans e
   have s2:=Wr (s'.heap.update kS (Obj.mapSeq fun _=>(#[]:Array Value))) a (Obj.mapSeq fun _=>List.toArray (p.toList.map fun i=>vs.getD i Value.none))
   have J2:Inv X pins σ H' { s' with heap:=(s'.heap.update kS (Obj.mapSeq fun _=>(#[]:Array Value))).update a (Obj.mapSeq fun _=>List.toArray (p.toList.map fun i=>vs.getD i Value.none)) }:=J1.gX (t':=s'.toks) (fa.at pa.2.1) fun c o n e=>(s2.2 c n).trans e
   obtain⟨c2,jw⟩:∃ c2,((s'.heap.update kS (Obj.mapSeq fun _=>(#[]:Array Value))).update a (Obj.mapSeq fun _=>List.toArray (p.toList.map fun i=>vs.getD i Value.none))).get? a=some (seqObj "list" (List.toArray (p.toList.map fun i=>vs.getD i Value.none)) c2):=⟨_,YR na fun _=>List.toArray (p.toList.map fun i=>vs.getD i Value.none)⟩
   exact uk (k4 p _ c2 hp up J2 (fa.at pa.2.1) jw)
end
section
variable {prog:Program} {w:World} {A:Around} {E:Value->Shared->Prop} {s:Shared}
end
section
variable {X:Cx} {pins:List (Addr × Obj)} {σ : St} {H:Hp} {s:Shared} {E:Value->Shared->Prop}
theorem Inv.pQ {a:Addr} {o:HO} (I:Inv X pins σ H s) (fa:bC X pins H a) (ha:X.s₀.heap.objs.size <= a) (new:aJ X.prog X.w (upd H a o) s.heap a o):Inv X pins σ (upd H a o) s:=by
 obtain⟨f0,f1,f2,_,f4,f5⟩:=fa
 have ne:∀ {b u},H b=some u->b≠a:=fun e z=>by rw[z,f0] at e;cases e
 refine⟨I.ok,I.os,I.bare,⟨I.base.keep,I.base.slot,fun b u e n hx => ?_,I.base.there,fun b xs e => ?_,fun b u v e => ?_,fun b ps e => ?_⟩,I.loc,I.cell,?_,fun x c e => ?_,fun p hp => ?_,fun b u e => ?_,I.len⟩
 ·rw[aO (Vx (V8 (My e) ha))];exact I.base.free b u e n hx
 ·have:=I.base.fY b xs e
  rw[aO (ne this)];exact this
 ·have:=I.base.gy b u v e
  rw[aO (ne this)];exact this
 ·obtain⟨more,this⟩:=I.base.gz b ps e
  exact⟨more,by rw[aO (ne this)];exact this⟩
 ·rw[aO (XA f1)];exact I.free
 ·rw[aO (f4 x c e)];exact I.c6 x c e
 ·obtain⟨e1,e2,e3⟩:=I.pin p hp
  exact⟨e1,by rw[aO (f5 p hp)];exact e2,e3⟩
 ·by_cases z:b=a
  ·subst z;rw[bW] at e;cases e;exact new
  ·rw[aO z] at e
   refine (I.aN b u e).fJ (fun c v _ q=>q) (fun c q => ?_) fun c xs q => ?_
   ·rw[aO (ne q)];exact q
   ·rw[aO (ne q)];exact q
theorem Ic {xs:List V} {vs:List Value} (r:Vals xs vs) {p:List Nat} (hp:∀ i∈p,i < vs.length):Vals (p.map fun i=>xs.getD i .non) (p.map fun i=>vs.getD i Value.none):=by
 induction p with
 | nil=>exact .nil
 | cons i q ih =>
  refine .cons ?_ (ih fun j hj=>hp j (MB _ hj))
  have hi:=hp i Mz
  obtain⟨u,e1,e2⟩:=r.get (getD_some (l:=xs) (d:=V.non) (by rw[r.length];exact hi))
  have:=getD_some (l:=vs) (d:=Value.none) hi
  rw[this] at e1;cases e1
  exact e2
theorem dg.mem {n:Nat} {p:Array Nat} (h:dg n p) {i:Nat} (hi:i∈p.toList):i < n:=by
 have:=(YA.mp h.perm).mem_iff.mp hi
 simpa using this
theorem QQ {l q:Addr} {P:List V->Hp->Prop} {xs:List V} {Q:Value->Shared->Prop} (I:Inv X pins σ H s)
  (col:∀ Q':List Value->Shared->Prop,(∀ h' tk vs,(∀ b o,s.heap.get? b=some o->h'.get? b=some o)->Vals xs vs->Q' vs { s with heap:=h',toks:=tk })->wpAny (model X.prog X.w) X.A.in1 (collect (.ref l)) Q' E s)
  (iN:xs.length < 64) (p0:P [] H)
  (rB:∀ (dj:List (Addr × Obj)) (x:V) (u:Value) (kvs:List V) (H':Hp) (s':Shared),xs[kvs.length]? = some x->RelV x u->Inv X dj σ H' s'->P kvs H'->wpAny (model X.prog X.w) X.A.in1.in1 (call (.ref q) [u]) (EP X dj σ fun k km=>P (kvs ++ [k]) km) (fun _ _=>False) s')
  (fin:∀ kvs H',kvs.length=xs.length->P kvs H'->∃ ks:List LK,ks.length=xs.length/\(∀ k∈ks,k≠[])/\(∀ (i:Nat) (k:LK),ks[i]? = some k->∃ t,kvs[i]? = some (.ref t)/\H' t=some (.tup (k.map V.int))) ∧
   ∀ (p:Array Nat) (s':Shared) (a:Addr),dg xs.length p->Up (fun i=>ks.getD i []) p xs.length->H' a=none->Inv X pins σ (upd H' a (.lst (p.toList.map fun i=>xs.getD i .non))) s'->Q (.ref a) s') :
  wpAny (model X.prog X.w) X.A (call (.builtin "sorted") [.ref l] [(Str.ofString "key",.ref q)]) Q E s:=by
 refine call_function_entry_kw kind_sorted plain_sorted entry_sorted (ksk_s1 _ _) ?_
 unfold Builtin.«sorted»
 refine nG (m:=checkCount "sorted" 1 1 _) (uk ?_)
 refine nG (col _ fun h' tk vs kp rv => ?_)
 have lv:vs.length=xs.length:=rv.length.symm
 refine nG (Zp ?_ (by rw[WX];omega))
 have I1:Inv X pins σ H { s with heap:=h',toks:=tk }:=I.kept kp
 have fa:bC X pins H h'.objs.size:=I1.g8 (wG _) (I1.aN.fresh (wG _))
 have Cm:X.s₀.heap.objs.size <= h'.objs.size:=I1.sz
 have I2:Inv X pins σ H { s with heap:=h'.push (seqObj "list" vs.toArray 0),toks:=tk }:=I1.kept (h':=h'.push (seqObj "list" vs.toArray 0)) (t':=tk) fun b u e=>qw _ e
 have kR:(h'.push (seqObj "list" vs.toArray 0)).get? h'.objs.size=some (seqObj "list" vs.toArray 0):=MC _ rfl
 refine nG (Wo (wpAny_call_entry_kw slot_list_sort ⟨_,kR,rfl⟩ entry_list_sort ?body (ksk_l1 _ _)))
 case body =>
  show wpAny (model X.prog X.w) X.A.in1.in1 (Builtin.«list.sort» ⟨[.ref h'.objs.size],[(Str.ofString "key",.ref q)]⟩) _ _ _
  rw[ksk_t1]
  refine QP (P:=P) I2 fa kR (by omega) p0 (fun dj v kvs H' s' hv J pk => ?_) fun kvs H' hl pk => ?_
  ·have hi:kvs.length < xs.length:=by rw[<-lv];exact (su.mp hv).1
   obtain⟨u,e1,e2⟩:=rv.get (qv hi)
   rw[hv] at e1;cases e1
   exact rB dj _ v kvs H' s' (qv hi) e2 J pk
  ·obtain⟨ks,k1,k2,k3,k4⟩:=fin kvs H' (by omega) pk
   refine⟨ks,by omega,k2,k3,fun p s' c hp up J fj e=>⟨_,rfl,?_⟩⟩
   rw[lv] at hp up
   refine uk ⟨_,rfl,k4 p s' h'.objs.size hp up fj.1 (J.pQ fj Cm ?_)⟩
   have hz:(p.toList.map fun i=>xs.getD i V.non).length=xs.length:=by rw[qx,Fj,hp.size]
   exact⟨by rw[hz,WX];omega,_,c,Ic rv fun i hi=>by rw[lv];exact hp.mem hi,e⟩
end
theorem af.at {H:Hp} {ds:List D} {vs:List V} {i:Nat} {d:D} {v:V} (h:af H ds vs) (e1:ds[i]? = some d) (e2:vs[i]? = some v):Is H d v:=by
 obtain⟨d',e3,h'⟩:=h.get e2
 rw[e1] at e3;cases e3
 exact h'
theorem af.rD {H:Hp}:∀ {ds:List D} {vs:List V},vs.length=ds.length->(∀ (i:Nat) (d:D),ds[i]? = some d->∃ v,vs[i]? = some v/\Is H d v)->af H ds vs
 | [],[],_,_ => .nil
 | [],_ :: _,h,_=>by simp at h
 | _ :: _,[],h,_=>by simp at h
 | d :: ds,v :: vs,h,g=>by
  obtain⟨v',e,h1⟩:=g 0 d rfl
  cases (show some v=some v' from e)
  exact .cons h1 (af.rD (by simpa using h) fun i d e=>by simpa using g (i + 1) d (by simpa using e))
structure pR where
 T:Addr
 pos:Pos
 qual:Str
theorem eI.same {H H':Hp} {T:Addr} {pos:Pos} {q:Str} (h:eI H T pos q) (s:az H H'):eI H' T pos q:=by
 obtain⟨ps,e,t,c⟩:=h
 exact⟨ps,s _ _ e,t,c.imp id fun ⟨c,e1,e2⟩=>⟨c,e1,s _ _ e2⟩⟩
theorem eI.keep {H H':Hp} {T T':Addr} {pos:Pos} {q:Str} (h:eI H T pos q) (ne:T≠T') (hT:∃ ps,H T'=some (.tbl ps)) (s:∀ b o,H b=some o->b≠T'->H' b=some o):eI H' T pos q:=by
 obtain⟨ps,e,t,c⟩:=h
 refine⟨ps,s _ _ e ne,t,c.imp id fun ⟨c,e1,e2⟩=>⟨c,e1,s _ _ e2 fun z => ?_⟩⟩
 obtain⟨qs,hT⟩:=hT
 rw[z,hT] at e2;cases e2
theorem eI.put {H:Hp} {T a:Addr} {pos:Pos} {q:Str} {o o':HO} (h:eI H T pos q) (ha:H a=some o) (hk:(∃ vs,o = .lst vs)\/∃ ws,o = .dK ws):eI (upd H a o') T pos q:=by
 obtain⟨ps,e,t,c⟩:=h
 have ne:∀ {b u},H b=some u->(∀ vs,u ≠ .lst vs)->(∀ ws,u ≠ .dK ws)->b≠a:=fun {b u} e n1 n2 z=>by
  subst z
  rw[ha] at e;cases e
  rcases hk with⟨_,z⟩ | ⟨_,z⟩
  ·exact n1 _ z
  ·exact n2 _ z
 refine⟨ps,by rw[aO (ne e (fun _ z=>by cases z) fun _ z=>by cases z)];exact e,t,c.imp id fun ⟨c,e1,e2⟩=>⟨c,e1,?_⟩⟩
 rw[aO (ne e2 (fun _ z=>by cases z) fun _ z=>by cases z)];exact e2
@[reducible] noncomputable def rE (ls:List pR):aI where
 ad:=ls.map (·.T)
 ok:=fun H=>∀ l∈ls,eI H l.T l.pos l.qual
 same:=fun h s l hl=>(h l hl).same s
 put:=fun h ha hk l hl=>(h l hl).put ha hk
 tb:=fun h ha=>by
  obtain⟨l,hl,rfl⟩:=Wg.mp ha
  obtain⟨ps,e,_⟩:=h l hl
  exact⟨ps,e⟩
variable [aI]
structure Co (T:Addr) (pos:Pos) (q:Str):Prop where
 mem:T∈aI.ad
 get:∀ H:Hp,aI.ok H->eI H T pos q
 put:∀ H H':Hp,aI.ok H->eI H' T pos q->(∀ b o,H b=some o->b≠T->H' b=some o)->aI.ok H'
omit [aI] in
theorem QR {ls:List pR} {l:pR} (hl:l∈ls) (nd:∀ a∈ls,∀ b∈ls,a.T=b.T->a=b):@Co (rE ls) l.T l.pos l.qual:=by
 letI:aI:=rE ls
 refine⟨List.mem_map_of_mem hl,fun H h=>h l hl,fun H H' h t k l' iE => ?_⟩
 by_cases z:l'.T=l.T
 ·rw[nd _ iE _ hl z];exact t
 ·obtain⟨ps,e,_⟩:=h l hl
  exact (h l' iE).keep z ⟨ps,e⟩ k
structure QS (X:Cx) (T:Addr):Prop where
 code:∃ cc,X.env.code = .ref cc/\CodeHd X.base cc T
 ng:mainGlobals≠T
 blt:X.base.BuiltinsAt X.mg T
section
variable {F H H':Hp} {ad:List Addr} {δ : ay} {σ : St}
theorem SR.sS (S:SR F ad δ σ H) (k:∀ b o,H b=some o->b∉aI.ad->H' b=some o) (tk:aI.ok H'):SR (Nw F H H') ad δ σ H':=by
 have sm:=Nw.same (H':=H') S.sub
 have nF:∀ {a o},F a=some o->a∉aI.ad:=fun {a o} e t=>by rw[S.nt a t] at e;cases e
 have nO:∀ {i a ov},ad[i]? = some a -> δ.mu[i]? = some (some ov)->a∉aI.ad:=fun {i a ov} e1 e2 t=>by
  obtain⟨a',o,e3,e4,h⟩:=S.mu i ov e2
  rw[e1] at e3;cases e3
  obtain⟨ps,q⟩:=aI.tb S.tab t
  rw[e4] at q;cases q
  rcases h.kind with⟨_,z⟩ | ⟨_,z⟩<;>cases z
 refine⟨fun a o e => ?_,fun a l => ?_,S.cP,S.inj,fun i ov e => ?_,fun i x e => ?_,S.len,tk,fun a ha => ?_⟩
 ·unfold Nw at e
  cases q:H a with
  | none=>rw[q] at e;exact e
  | some u=>rw[q] at e;exact k a o (S.sub a o e) (nF e)
 ·obtain⟨i,ov,e1,e2⟩:=l
  obtain⟨a',o,e3,e4,_⟩:=S.mu i ov e2
  rw[e1] at e3;cases e3
  unfold Nw;rw[e4];exact S.off a ⟨i,ov,e1,e2⟩
 ·obtain⟨a,o,e1,e2,h⟩:=S.mu i ov e
  exact⟨a,o,e1,k a o e2 (nO e1 e),h.same sm⟩
 ·obtain⟨v,e1,h⟩:=S.sl i x e
  refine⟨v,e1,?_⟩
  cases x with
  | p d=>exact Is.same sm h
  | o k=>exact h
 ·obtain⟨ps,q⟩:=aI.tb S.tab ha
  unfold Nw;rw[q];exact S.nt a ha
theorem Ext.sS (S:SR F ad δ σ H) (k:∀ b o,H b=some o->b∉aI.ad->H' b=some o) (tk:aI.ok H'):Ext F ad δ.mu H (Nw F H H') ad δ.mu H' where
 same:=Nw.same S.sub
 new:=fun a o e=>by
  unfold Nw at e
  cases q:H a with
  | none=>exact .inr (.inl rfl)
  | some u=>rw[q] at e;exact .inl e
 keep:=fun a o e _ t=>k a o e t
 pre:=fun _ _ e=>e
 cB:=fun _ l => .inl l
 iO:=fun a o e=>by
  by_cases t:a∈aI.ad
  ·obtain⟨ps,q⟩:=aI.tb tk t
   exact⟨_,q⟩
  ·exact⟨o,k a o e t⟩
theorem SR.vR {sl:List (Option DV)} {mu:List (Option OV)} {τ : St} {d:D} {v:V} (S:SR F ad ⟨sl,mu⟩ τ H) (h:Is F d v):SR F ad ⟨some (.p d) :: sl,mu⟩ (some v :: τ) H:=by
 refine⟨S.sub,S.off,S.cP,S.inj,S.mu,fun i x e => ?_,by have:=S.len;simp only[Fm];exact congrArg (· + 1) this,S.tab,S.nt⟩
 cases i with
 | zero=>cases (show some (some (DV.p d))=some (some x) from e);exact⟨v,rfl,h⟩
 | succ i=>exact S.sl i x e
theorem Ext.pS {F' H':Hp} {aC:List Addr} {dP:List (Option OV)} {a:Addr} {o:HO} (S:SR F ad δ σ H) (e:Ext F ad δ.mu H F' aC dP H') (h:H a=some o) (n1:∀ vs,o ≠ .lst vs) (n2:∀ ws,o ≠ .dK ws) (n3:∀ ps,o ≠ .tbl ps):H' a=some o:=by
 refine e.keep a o h (fun ⟨i,ov,e1,e2⟩ => ?_) fun t => ?_
 ·obtain⟨a',u,e3,e4,q⟩:=S.mu i ov e2
  rw[e1] at e3;cases e3
  rw[h] at e4;cases e4
  rcases q.kind with⟨_,z⟩ | ⟨_,z⟩
  ·exact n1 _ z
  ·exact n2 _ z
 ·obtain⟨ps,q⟩:=aI.tb S.tab t
  rw[h] at q;exact n3 _ (Wf q)
end
noncomputable def QT (cp:List (Option Nat)) (fb:WE) (δ : ay) (ds:List D) (key:D->LK):Prop :=
 ∀ d∈ds,key d≠[]/\fb ⟨some (.p d) :: dy cp δ.sl,δ.mu⟩ fun y δ'=>y = .p (.tup ((key d).map D.int)) /\ δ'.mu = δ.mu
noncomputable def sortBy (cp:List (Option Nat)) (fb:WE) (δ : ay) (ds:List D) (K:List D->Prop):Prop :=
 ds.length < 64/\∃ key:D->LK,QT cp fb δ ds key/\∀ out:List D,out.Perm ds->(out.map key).Pairwise kle->K out
section
variable {X:Cx} {params:Arguments} {body:Expr} {scope:Scope} {ic:Pos} {x:Str} {Nb:List Str} {cp:List (Option Nat)} {fb:WE} {T:Addr}
structure lY (X:Cx) (params:Arguments) (body:Expr) (scope:Scope) (ic:Pos) (T:Addr) (x:Str) (Nb:List Str) (cp:List (Option Nat)) (fb:WE):Prop where
 env:QS X T
 tbl:Co T ic (X.env.qual ++ "<lambda>")
 QU:defaultsOf params X.env=([],[])
 kind:scope.kind = .function
 names:yg X.N X.env.scope scope x Nb cp=true
 co:scope.isCoroutine=false
 gen:scope.isGenerator=false
 bind:∀ (cl:List (Str × Addr)) (pm cd ct u:Value),bindArgs (kla_fn "<lambda>" (X.env.qual ++ "<lambda>") params body scope cl pm cd ct) ⟨[u],[]⟩=pure [(x,u)]
 room:∃ k,bG (k + 3) X.A/\∀ d:LD,bG k (d.A.deeper (envX (X.env.qual ++ "<lambda>") scope d.s.heap.objs.size d.f d.cd d.cl))->JE (oG X (X.env.qual ++ "<lambda>") scope (x :: Nb) d) body (tD fb)
theorem QV {pins:List (Addr × Obj)} {σ : St} {H:Hp} {s:Shared} {E:Value->Shared->Prop} {l:Addr} {F:Hp} {ad:List Addr} {δ : ay} {ds:List D} {xs:List V} {kZ pos:Pos} {Q:VK} (L:lY X params body scope ic T x Nb cp fb)
  (I:Inv X pins σ H s) (S:SR F ad δ σ H) (hx:af F ds xs)
  (col:∀ (s:Shared) (H':Hp),Inv X pins σ H' s->(∀ b o,H b=some o->b∉aI.ad->H' b=some o)->∀ Q':List Value->Shared->Prop,(∀ h' tk vs,(∀ b o,s.heap.get? b=some o->h'.get? b=some o)->Vals xs vs->Q' vs { s with heap:=h',toks:=tk })->wpAny (model X.prog X.w) X.A.in1 (collect (.ref l)) Q' E s)
  (hs:sortBy cp fb δ ds fun out=>∀ a F' H' us,Ext F ad δ.mu H F' ad δ.mu H'->SR F' ad δ σ H'->H' a=none->af F' out us->Q (.ref a) (upd H' a (.lst us))) :
  wpAny (model X.prog X.w) X.A (evalAll ((backToKw pos (keywordEach [⟨some "key",.Lambda params body scope ic,kZ⟩] X.env)).map (·.2))) (fun kvs s₂ => wpAny (model X.prog X.w) X.A (call (.builtin "sorted") [.ref l] (((backToKw pos (keywordEach [⟨some "key",.Lambda params body scope ic,kZ⟩] X.env)).filterMap (·.1)).zip kvs)) (EP X pins σ Q) E s₂) E s:=by
 obtain⟨iN,key,hk,K⟩:=hs
 obtain⟨k,vS,J⟩:=L.room
 obtain⟨cc,jH,hC⟩:=L.env.code
 show wpAny _ _ (evalAll [do let v <- eval (.Lambda params body scope ic) X.env;standAt pos;pure v]) _ _ _
 refine evalAll_cons (nG ?_)
 have Cp:=L.names
 unfold yg at Cp
 simp only[Wl,Xw,Xs] at Cp
 have SC:=x1c L.kind Cp.1.1.1
 obtain⟨cl,pM,rA,yh⟩:=Fp (scope:=scope) (env:=X.env) fun y hy e=>I.ok.has y.1 (SC.free y hy e)
 refine QG I (L.tbl.get H S.tab) L.QU pM jH (hC.keeps I.bk) L.env.ng (I.mod.glob.keeps I.bk) (L.env.blt.keeps I.bk) fun f H1 s1 c I1 t1 k1 QD hf hc => ?_
 refine nG (Zo (uk ?_))
 refine evalAll_nil ?_
 show wpAny _ _ (call (.builtin "sorted") [.ref l] [(Str.ofString "key",.ref f)]) _ _ _
 have kT:∀ b o,H b=some o->b∉aI.ad->H1 b=some o:=fun b o e t=>k1 b o e fun z=>t (by rw[z];exact L.tbl.mem)
 have lh:=L.tbl.put H H1 S.tab t1 k1
 have S1:=S.sS kT lh
 have E1:=Ext.sS S kT lh
 have lx:=hx.length
 refine QQ (xs:=xs) (P:=fun kvs H'=>∃ F',Ext F ad δ.mu H F' ad δ.mu H'/\SR F' ad δ σ H'/\H' f=some (jh f "<lambda>" (X.env.qual ++ "<lambda>") params body scope cl ((X.mg "__name__").getD .none) (.ref c))/\H' c=some (mP c (X.env.qual ++ "<lambda>"))/\∀ (i:Nat) (d:D) (kv:V),ds[i]? = some d->kvs[i]? = some kv->Is F' (.tup ((key d).map D.int)) kv)
  I1 (col s1 H1 I1 kT) (by omega) ⟨_,E1,S1,hf,hc,fun i d kv _ e=>by simp at e⟩ (fun dj v u kvs H' s' hv rv I' ⟨F',E',S',Cq,j_,Cr⟩ => ?_) fun kvs H' hl ⟨F',E',S',Cq,j_,Cr⟩ => ?_
 ·have hi:kvs.length < ds.length:=by rw[<-lx];exact (su.mp hv).1
  have hd:=qv hi
  have QW:Is F' ds[kvs.length] v:=af.at (hx.same E'.same) hd hv
  obtain⟨VS,QX⟩:=hk _ (XN hi)
  have r2:bG (k + 1) X.A.in1.in1:=(bG.in1 (bG.in1 (k:=k + 2) vS))
  refine QL I' Cq j_ (by rw[show X.A.in1.in1.frames=X.A.frames from rfl];exact I'.ok.frames) r2.hd r2.depth L.kind L.names L.co L.gen rA yh (fun ct=>L.bind cl _ _ ct u) rv (J ⟨X.A.in1.in1,cl,f,.ref c,s',H'⟩ (r2.deeper _)) ?_
  refine⟨F',ad,_,_,(S'.uU (cp:=cp)).vR QW,QX,fun y δ' ⟨ey,em⟩ w F2 c7 H2 E2 S2 V2 => ?_⟩
  subst ey
  have ea:c7=ad:=by
   have l2:c7.length=ad.length:=by rw[S2.cP,em,S'.cP]
   refine XE fun i => ?_
   by_cases hi:i < ad.length
   ·rw[qv hi];exact E2.pre i _ (qv hi)
   ·rw[Ww (by omega),Ww (by omega)]
  subst ea
  obtain⟨Ed,dP⟩ := δ'
  have em:dP = δ.mu:=em
  subst em
  refine⟨F2,E'.trans E2,SR.back S' E2 S2,E2.pS S' Cq (fun _ z=>by cases z) (fun _ z=>by cases z) (fun _ z=>by cases z),E2.pS S' j_ (fun _ z=>by cases z) (fun _ z=>by cases z) (fun _ z=>by cases z),fun i d kv e1 e2 => ?_⟩
  by_cases n5:i < kvs.length
  ·rw[Vz n5] at e2
   exact Is.same E2.same (Cr i d kv e1 e2)
  ·have:i=kvs.length:=by
    have:=(su.mp e2).1
    rw[Vw,Wx] at this
    omega
   subst this
   rw[VZ (wG _),W6] at e2
   cases (show some w=some kv from e2)
   rw[hd] at e1;cases e1
   exact V2
 ·refine⟨ds.map key,by rw[qx];omega,fun k i8 => ?_,fun i k' e => ?_,fun p s' a hp up ha I' => ?_⟩
  ·obtain⟨d,hd,rfl⟩:=Wg.mp i8
   exact (hk d hd).1
  ·rw[Fl] at e
   obtain⟨d,hd,rfl⟩:=Vu.mp e
   have hi:i < kvs.length:=by rw[hl,lx];exact (su.mp hd).1
   have is:=Cr i d _ hd (qv hi)
   simp only[Is] at is
   obtain⟨t,us,e1,e2,e3⟩:=is
   refine⟨t,by rw[qv hi,e1],?_⟩
   rw[<-jB e3];exact S'.sub _ _ e2
  ·have pm:(p.toList.map fun i=>ds.getD i .non).Perm ds:=by
    have h1:=(YA.mp hp.perm).map fun i=>ds.getD i .non
    have h2:(List.range xs.length).map (fun i=>ds.getD i D.non)=ds:=by
     refine XE fun i => ?_
     rw[Fl]
     by_cases hi:i < ds.length
     ·rw[WH (by omega),YN,qv hi,wF,qv hi];rfl
     ·rw[Ww (by rw[Ws];omega),Ww (by omega)];rfl
    rw[show (List.range xs.length).toArray.toList=List.range xs.length from rfl,h2] at h1
    exact h1
   refine⟨.ref a,_,I',rfl,K _ pm ?_ a _ _ _ E' S' ha ?_⟩
   ·rw[Wt,Yb]
    intro i j hi hj iP
    rw[qx,Fj,hp.size] at hi hj
    have:=up i j (Xj iP) hj
    unfold KA at this
    rw[X7,X7]
    have gp:∀ {i:Nat} (h:i < p.toList.length),p.getD i 0=p.toList[i]:=fun {i} h=>by
     have h':i < p.size:=by rw[<-Fj];exact h
     simp[Array.getD,h']
    have gk:∀ {i:Nat},i < ds.length->(ds.map key).getD i []=key (ds.getD i .non):=fun {i} h=>by
     rw[wF,Fl,qv h,wF,qv h];rfl
    have pi:=hp.lt hi
    have pj:=hp.lt hj
    dsimp only at this
    rw[gk (by omega),gk (by omega),gp (by rw[Fj,hp.size];exact hi),gp (by rw[Fj,hp.size];exact hj)] at this
    exact this
   ·refine af.rD ?_ fun i d e => ?_
    ·rw[qx,qx]
    ·rw[Fl] at e ⊢
     obtain⟨z,e1,rfl⟩:=Vu.mp e
     rw[e1]
     have hz:=hp.mem (Wk e1)
     refine⟨_,rfl,af.at (hx.same E'.same) (getD_some (by omega)) (getD_some (by omega))⟩
end
structure QY (mg:Str->Option Value) (base:Heap) (fd:FuncData) (T:Addr) (pos:Pos) (q:Str):Prop where
 code:∃ cc,fd.code = .ref cc/\CodeHd base cc T
 ng:mainGlobals≠T
 blt:base.BuiltinsAt mg T
 tbl:Co T pos q
theorem c_.Cs {P:Program} {w:World} {K:PySem.W.Frag} {mg:Str->Option Value} {base:Heap} {x qual:Str} {st:Stmt} {f:Addr} {fd:FuncData} {N ps:List Str} {k:Nat} {G:GD} (F:c_ K x qual st f fd) (S:d5 N ps (cb st))
  (eg:∀ (bD:Value) (A:Around) (outer:List Env) (s:Shared) (H:Hp) (E:XK),fd.code=bD->bG k (A.deeper (envOfC qual (cb st) s.heap.objs.size f bD)) →
   ∃ B:WS,gn (gD cz P w K mg base N qual (cb st) f bD A outer s H E).mY (jQ st) (dw B)/\∀ ys ovs K',ys.length=ps.length->G ys ovs K'->B (dz ovs.length K') ⟨ys.map some ++ List.replicate (N.length - ps.length) none,ovs.map some⟩) :
  ba P w K mg base cz (k + 1) f fd ps (bf G ps.length):=by
 obtain⟨oc,od,kV,doc,pm,an,bD,ct,nv,rfl,lk,fZ⟩:=F.ex
 refine EM lk fZ S (fun vs H Q E h=>h.1) fun A outer s H vs Q E hr h => ?_
 obtain⟨hl,Fz,ad,ys,ovs,K',S0,g,kk⟩:=h
 obtain⟨B,jb,hb⟩:=eg bD A outer s H E rfl hr
 have hy:ys.length=ps.length:=by
  have:=S0.len
  rw[qx] at this
  rw[<-hl,this];show _=(ys.map some).length;rw[qx]
 refine⟨_,jb.out.mY,Fz,ad,⟨ys.map some ++ List.replicate (N.length - ps.length) none,ovs.map some⟩,dz ovs.length K',by rw[<-hl];exact S0.start,hb ys ovs K' hy g,⟨fun δ' h F' aC σ' H' E' S' => ?_,fun δ' h=>h.elim,fun δ' h=>h.elim,fun y δ' h v F' aC σ' H' E' S' V => ?_⟩⟩
 ·exact qL (σ' := σ') S0 E' S' (x := .p .non) (v := .non) rfl h kk
 ·exact qL (σ' := σ') S0 E' S' V h kk
section
variable {X:Cx} {params:Arguments} {body a e:Expr} {scope:Scope} {ic p1 p2 q1 q2 kZ:Pos} {x:Str} {Nb:List Str} {cp:List (Option Nat)} {fb f:WE} {fa:WA} {T:Addr}
noncomputable def Ct (f:WE) (cp:List (Option Nat)) (fb:WE):WE:=fun δ K=>f δ fun x δ1=>fM x δ1 fun d=>match d with
 | .lst ds=>sortBy cp fb δ1 ds fun out=>K (.p (.lst out)) δ1
 | _=>False
theorem QZ (L:lY X params body scope ic T x Nb cp fb) (Q0:Gl X "sorted") (hs:X.mg "sorted" = none) (Q1:bootBuiltins "sorted" = some (.builtin "sorted")) (ha:JA X [e] (cC (ao f ak)))
  (he:starEach [e] X.env=[(false,eval e X.env)]:=by rfl):JE X (.Call (.Name "sorted" p1) [e] [⟨some "key",.Lambda params body scope ic,kZ⟩] q1) (tD (Ct f cp fb)) :=
 ⟨fun pins s σ H Q I h0_ => el7 h0_ fun F ad δ K S q k =>by
  refine YV (mX I Q0 hs Q1 ?_)
  refine callWith_kw ?_ (he:=by rw[he];rfl) (hplain:=by rw[he];rfl)
  refine bq (ha.out q1 pins s σ H (fun vs H1=>∃ (l:Addr) (F1:Hp) (aR:List Addr) (δ1:ay) (ds:List D) (us:List V),vs=[.ref l]/\H1 l=some (.lst us)/\af F1 ds us/\Ext F ad δ.mu H F1 aR δ1.mu H1/\SR F1 aR δ1 σ H1/\sortBy cp fb δ1 ds fun out=>K (.p (.lst out)) δ1) I ?_) fun us s1 Q2 => ?_
  ·refine⟨F,ad,δ,fun xs δ1=>match xs with
    | [x]=>fM x δ1 fun d=>match d with
     | .lst ds=>sortBy cp fb δ1 ds fun out=>K (.p (.lst out)) δ1
     | _=>False
    | _=>False,S,q,fun xs δ1 h1 vs F1 aR H1 E1 S1 V1 => ?_⟩
   match xs,h1,V1 with
   | [],h1,_=>exact h1.elim
   | _ :: _ :: _,h1,_=>exact h1.elim
   | [x],h1,V1 =>
    obtain⟨v,r,e,W1,W2⟩:=V1
    have W2:r=[]:=W2
    subst W2 e
    obtain⟨d,h2,rd⟩:=iD S1 W1 h1
    match d,h2,rd with
    | .lst ds,h2,rd =>
     obtain⟨a,us,rfl,g1,g2⟩:=rd
     exact⟨a,F1,aR,δ1,ds,us,rfl,g1,g2,E1,S1,h2⟩
  ·obtain⟨vs,H1,I1,r1,l,F1,aR,δ1,ds,ws,ev,hl,hi,E1,S1,Q3⟩:=Q2
   subst ev
   obtain⟨u,rfl,rx⟩:=vals1 r1
   cases rx
   refine QV L I1 S1 hi (fun s' H' I' kp Q' hQ => ?_) ?_
   ·have iE:H' l=some (.lst ws):=kp l _ hl fun t=>by
     obtain⟨ps,z⟩:=aI.tb S1.tab t
     rw[hl] at z;cases z
    obtain⟨ag,r',pl,hz⟩:=I'.list (bx.of iE)
    exact collect_list (by simpa using pl.isList) (hQ _ s'.toks ag (fun b o e=>by
     have cK:b < s'.heap.objs.size:=My e
     rw[Heap.get?_update_ne _ _ _ _ (Vx cK),Heap.get?_push_ne _ _ _ (Vx cK)]
     exact e) r') (by rw[<-r'.length];exact hz)
   ·obtain⟨iN,key,hk,hK⟩:=Q3
    exact⟨iN,key,hk,fun out pm pw a F' H' us E' S' hn is=>k _ _ (hK out pm pw) _ _ _ _ ((E1.trans E').trans (Ext.al S' (cj hn))) (S'.al (cj hn)) (ku S'.sub hn is)⟩⟩
end
end L2
namespace L2
open PySem PySem.Spec PyProof.Rows PySem.W
theorem Cu:∀ {k l:LK} (n m:Int),k.length=l.length->HT.lexLt (k ++ [n]) (l ++ [m])=if k=l then decide (n < m) else HT.lexLt k l
 | [],[],n,m,_=>by
  show (if n=m then HT.lexLt [] [] else decide (n < m))=_
  rw[MD rfl]
  by_cases h:n=m
  ·rw[MD h];subst h;simp[HT.lexLt]
  ·rw[MA h]
 | [],_ :: _,_,_,h=>by simp at h
 | _ :: _,[],_,_,h=>by simp at h
 | a :: k,b :: l,n,m,h=>by
  rw[q0e,q0e,HT.mx,HT.mx,Cu n m (by simpa using h)]
  by_cases e:a=b
  ·subst e
   rw[MD rfl,MD rfl]
   by_cases e2:k=l
   ·subst e2;rw[MD rfl,MD rfl]
   ·rw[MA e2,MA fun z=>e2 (Z8 z).2]
  ·rw[MA e,MA e,MA fun z=>e (Z8 z).1]
noncomputable def lZ (h:Heap) (L:Nat) (k:LK) (v:Value):Prop:=∃ a o xs n b kb m t,v = .ref a/\h.get? a=some o/\o.cls = .type "tuple" /\ o.data = .seq xs n/\xs.toList=[.ref b,.int m t]/\jj h kb (.ref b)/\kb.length=L/\k=kb ++ [m]
section
variable {prog:Program} {w:World} {A:Around} {E:Value->Shared->Prop} {s:Shared} {Q:Bool->Shared->Prop}
theorem Cv:∀ {us:List Value} {ns:List Int},IntsAre us ns->ItemsAre (intKind prog w) ns us
 | _,_,.nil => .nil
 | _,_,.cons n t r => .cons (Zg ..) (Cv r)
theorem Q4 {L:Nat} {k l:LK} {x y:Value} (hu:A.units < cLine) (hx:lZ s.heap L k x) (hy:lZ s.heap L l y) (h:Q (HT.lexLt k l) s):wpAny (model prog w) A (keyLt' (tuples' false) x y) Q E s:=by
 obtain⟨a,o,xs,n,b,kb,m,t,rfl,h1,_,h2,h3,⟨b',ob,bs,nb,eb,g1,gc,g2,g3⟩,hL,rfl⟩:=hx
 obtain⟨a',o',Q5,n',c,kc,m',t',rfl,nH,_,iu,zq,⟨c',oc,cs,nc,ec,f1,fc,f2,f3⟩,Q6,rfl⟩:=hy
 cases eb
 cases ec
 have hz:xs.size=2:=by rw[<-Fj,h3];rfl
 have BA:Q5.size=2:=by rw[<-Fj,zq];rfl
 rw[Cu m m' (by rw[hL,Q6])] at h
 have k1:IsTupleKey (intKind prog w) s.heap kb b:=⟨ob,bs,nb,g1,gc,g2,Cv g3⟩
 have k2:IsTupleKey (intKind prog w) s.heap kc c:=⟨oc,cs,nc,f1,fc,f2,Cv f3⟩
 refine kat_lt h1 h2 nH iu ?_
 rw[h3,zq,hz,BA,Yr,Yr,Y9]
 refine kat_cons (wpAny_eqBool_tuple hu k1 k2 (kat_go (fun e => ?_) fun e => ?_))
 ·have e:kb=kc:=by simpa using e
  rw[MD e] at h
  refine kat_yes (kat_cons (wpAny_eqBool_int (kat_go (fun e2 => ?_) fun e2 => ?_)))
  ·have e2:m=m':=Xm e2
   subst e2
   refine kat_yes (kat_nil ?_)
   simpa using h
  ·exact kat_no (kat_one _ _ (ZA h))
 ·have e:¬ kb=kc:=by simpa using e
  rw[MA e] at h
  exact kat_no (kat_one _ _ (HT.EN ⟨ob,g1,gc,nb,g2⟩ ⟨oc,f1,fc,nc,f2⟩ g3 f3 hu h))
theorem Q7 {M:Model} {L:Nat} {vs:List Value} {ks:List LK} {Q:SortKind->Shared->Prop} (h0:0 < vs.length) (hl:vs.length=ks.length) (ht:∀ (i:Nat) (k:LK) (v:Value),ks[i]? = some k->vs[i]? = some v->lZ s.heap L k v) (h:Q (tuples' false) s) :
  wpAny M A (keyKind' vs.toArray) Q E s:=by
 have key:∀ (vs:List Value) (ks:List LK),vs.length=ks.length->(∀ (i:Nat) (k:LK) (v:Value),ks[i]? = some k->vs[i]? = some v->lZ s.heap L k v)->∃ fs,KatTups s.heap vs fs/\fs.length=vs.length/\∀ v∈fs,Looks M s.heap (typeOf v) (.type "tuple"):=by
  intro vs
  induction vs with
  | nil=>exact fun ks _ _=>⟨[],.nil,rfl,fun v hv=>nomatch hv⟩
  | cons v vs ih =>
   intro ks hl ht
   match ks,hl,ht with
   | k :: ks,hl,ht =>
    obtain⟨fs,t,hf,hi⟩:=ih ks (by simpa using hl) fun i k v e1 e2=>ht (i + 1) k v (by simpa using e1) (by simpa using e2)
    obtain⟨a,o,xs,n,b,kb,m,t',rfl,h1,hc,h2,h3,⟨b',ob,bs,nb,eb,g1,gc,g2,g3⟩,_⟩:=ht 0 k v rfl rfl
    cases eb
    have h0:xs[0]? = some (.ref b):=by rw[<-Wa,h3];rfl
    refine⟨.ref b :: fs,.cons h1 hc h2 h0 t,by rw[Fm,Fm,hf],fun v hv => ?_⟩
    rcases Fo.mp hv with rfl | hv
    ·rw[<-gc];exact (Looks.ld g1).andThen .now
    ·exact hi v hv
 obtain⟨fs,t,hf,hi⟩:=key vs ks hl ht
 exact kat_kind (T := .type "tuple") t (by omega) hi (by decide) h
end
section
variable {X:Cx} {pins:List (Addr × Obj)} {σ : St} {H:Hp} {s:Shared} {A:Around} {E:Value->Shared->Prop} {a:Addr} {vs:List Value} {ks:List LK} {κ : SortKind}
theorem Q8 {n0:Nat} {R:PySem.Fin->Shared->Prop} (I:Inv X pins σ H s) (fa:bC X pins H a) (ha:s.heap.get? a=some (seqObj "list" vs.toArray n0)) (iN:vs.length < 64)
  (kind:∀ s':Shared,Inv X pins σ H s'->2 <= vs.length->∀ Q:SortKind->Shared->Prop,Q κ s'->wpAny (model X.prog X.w) A (keyKind' vs.toArray) Q E s')
  (ask:∀ s':Shared,Inv X pins σ H s'->∀ (i j:Nat) (C:Bool->Shared->Prop),i < vs.length->j < vs.length->C (HT.lexLt (ks.getD i []) (ks.getD j [])) s'->wpAny (model X.prog X.w) A (keyLt' κ (vs.getD i Value.none) (vs.getD j Value.none)) C (fun _ _=>False) s')
  (fin:∀ (p:Array Nat) (s':Shared) (c:Nat),dg vs.length p->Up (fun i=>ks.getD i []) p vs.length->Inv X pins σ H s'->s'.heap.get? a=some (seqObj "list" (List.toArray (p.toList.map fun i=>vs.getD i Value.none)) c)->R (.done (.ret .none)) s') :
  wpAny (model X.prog X.w) A (Builtin.«list.sort» ⟨[.ref a],[]⟩) R E s:=by
 have sb:=Wr s.heap a (Obj.mapSeq fun _=>(#[]:Array Value))
 obtain⟨e1,fW⟩:∃ e1,(s.heap.update a (Obj.mapSeq fun _=>(#[]:Array Value))).get? a=some (seqObj "list" #[] e1):=⟨_,YR ha fun _ => #[]⟩
 have I1:Inv X pins σ H { s with heap:=s.heap.update a (Obj.mapSeq fun _=>(#[]:Array Value)) }:=I.gX (t':=s.toks) fa fun c o n e=>(sb.2 c n).trans e
 rw[list_sort_plain]
 refine nG (listItems_at ha rfl ?_)
 refine nG (YL ha rfl ?_ (by rw[Ad,WX];omega) (WK _))
 refine nG (seqEpoch_at fW rfl ?_)
 refine nG (wpAny_newTuple ?_ (by show vs.length <= _;rw[WX];omega))
 refine nG (Zp ?_ (WK _))
 refine Wo ?_
 generalize Ck:s.heap.update a (Obj.mapSeq fun _=>(#[]:Array Value))=g0 at fW I1 sb
 show wpAny (model X.prog X.w) A _ R E { s with heap:=(g0.push (seqObj "tuple" vs.toArray 0)).push (seqObj "list" #[] 0) }
 have I2:Inv X pins σ H { s with heap:=(g0.push (seqObj "tuple" vs.toArray 0)).push (seqObj "list" #[] 0) }:=I1.kept (h':=(g0.push (seqObj "tuple" vs.toArray 0)).push (seqObj "list" #[] 0)) (t':=s.toks) fun b u e=>qw _ (qw _ e)
 have fI:((g0.push (seqObj "tuple" vs.toArray 0)).push (seqObj "list" #[] 0)).get? a=some (seqObj "list" #[] e1):=qw _ (qw _ fW)
 have kp:∀ b o,b≠a->s.heap.get? b=some o->((g0.push (seqObj "tuple" vs.toArray 0)).push (seqObj "list" #[] 0)).get? b=some o:=fun b o n e=>qw _ (qw _ ((sb.2 b n).trans e))
 generalize (g0.push (seqObj "tuple" vs.toArray 0)).push (seqObj "list" #[] 0)=g1 at I2 fI kp
 dsimp only
 have tail:∀ (st:SortSt) (p:Array Nat),(arrOf st).map (·.2)=List.toArray (p.toList.map fun i=>vs.getD i Value.none)->failedOf st=none->dg vs.length p->Up (fun i=>ks.getD i []) p vs.length->wpAny (model X.prog X.w) A (do
   let touched:=(<- seqEpoch a) != e1
   Builtin.List.listUpdate (.ref a) fun _=>(arrOf st).map (·.2)
   if let some e:=failedOf st then rule "list.sort.comparison-raised";throw e
   if touched then rule "list.sort.modified";raiseError "ValueError" "list modified during sort"
   ret .none) R E { s with heap:=g1 }:=by
  intro st p rC hf hp up
  have hz:(p.toList.map fun i=>vs.getD i Value.none).length=vs.length:=by rw[qx,Fj,hp.size]
  rw[rC]
  have s2:=Wr g1 a (Obj.mapSeq fun _=>List.toArray (p.toList.map fun i=>vs.getD i Value.none))
  obtain⟨c2,jw⟩:∃ c2,(g1.update a (Obj.mapSeq fun _=>List.toArray (p.toList.map fun i=>vs.getD i Value.none))).get? a=some (seqObj "list" (List.toArray (p.toList.map fun i=>vs.getD i Value.none)) c2):=⟨_,YR fI fun _=>List.toArray (p.toList.map fun i=>vs.getD i Value.none)⟩
  have J:Inv X pins σ H { s with heap:=g1.update a (Obj.mapSeq fun _=>List.toArray (p.toList.map fun i=>vs.getD i Value.none)) }:=I2.gX (h':=g1.update a (Obj.mapSeq fun _=>List.toArray (p.toList.map fun i=>vs.getD i Value.none))) (t':=s.toks) fa fun c o n e=>(s2.2 c n).trans e
  refine nG (seqEpoch_at fI rfl ?_)
  refine nG (YL fI rfl ?_ (WK _) (WY (q0m (by rw[Ad,hz])) (by rw[WX];omega)))
  rw[hf]
  simp only[ZV,V6,W9]
  exact uk (fin p _ c2 hp up J jw)
 by_cases h2:vs.toArray.size < 2
 ·rw[MD h2,MD h2]
  refine nG (uk ?_)
  rw[StateT.run_pure]
  refine nG (uk ?_)
  rw[Ad] at h2
  refine tail (SortSt.mk' general' (vs.toArray.zip vs.toArray) #[] 7 none) (List.range vs.length).toArray ?_ rfl ⟨q0w _⟩ fun i j iP hj => ?_
  ·have Cj:arrOf (SortSt.mk' general' (vs.toArray.zip vs.toArray) #[] 7 none)=(List.toArray (List.range vs.length)).map (kas_item (vs.toArray.zip vs.toArray)):=by
    have e:=kas_range (vs.toArray.zip vs.toArray)
    rw[show (vs.toArray.zip vs.toArray).size=vs.length by simp] at e
    rw[e]
   exact kat_snds rfl Cj
  ·have:i=j:=by omega
   subst this
   exact kle_refl _
 ·rw[MA h2,MA h2]
  rw[Ad] at h2
  refine nG (kind _ I2 (by omega) _ ?_)
  refine nG (XQ (kat_run (κ := κ) (E:=E) (Q:=fun eT s'=>s'={ s with heap:=g1 }/\∃ p:Array Nat,arrOf eT=p.map (kas_item (vs.toArray.zip vs.toArray))/\failedOf eT=none/\dg vs.length p/\Up (fun i=>ks.getD i []) p vs.length)
   (G:=fun p s'=>s'={ s with heap:=g1 }/\dg vs.length p/\Up (fun i=>ks.getD i []) p vs.length) rfl (by omega) iN (fun p eT s' a1 a2 a3 a4=>⟨a4.1,p,a2,a3,a4.2.1,a4.2.2⟩) ?_) ?_ fun _ _ x=>x)
  ·refine G9 (k:=fun i=>ks.getD i []) (I:=fun s'=>s'={ s with heap:=g1 }) (fun i j C s' hi hj e hC => ?_) (by omega) rfl fun p s' a1 a2 a3=>⟨a3,a1,a2⟩
   subst e
   exact ask _ I2 i j C hi hj (hC _ rfl)
  ·rintro ⟨⟨⟩,eT⟩ s' ⟨rfl,p,a1,a2,a3,a4⟩
   exact tail eT p (kat_snds rfl a1) a2 a3 a4
theorem Ie {l:Addr} {xs:List V} {Q:Value->Shared->Prop} (I:Inv X pins σ H s)
  (col:∀ Q':List Value->Shared->Prop,(∀ h' tk vs,(∀ b o,s.heap.get? b=some o->h'.get? b=some o)->Vals xs vs->Q' vs { s with heap:=h',toks:=tk })->wpAny (model X.prog X.w) X.A.in1 (collect (.ref l)) Q' E s) (iN:xs.length < 64)
  (kind:∀ (s':Shared) (vs:List Value),Vals xs vs->Inv X pins σ H s'->2 <= vs.length->∀ Q:SortKind->Shared->Prop,Q κ s'->wpAny (model X.prog X.w) X.A.in1.in1 (keyKind' vs.toArray) Q E s')
  (ask:∀ (s':Shared) (vs:List Value),Vals xs vs->Inv X pins σ H s'->∀ (i j:Nat) (C:Bool->Shared->Prop),i < vs.length->j < vs.length->C (HT.lexLt (ks.getD i []) (ks.getD j [])) s'->wpAny (model X.prog X.w) X.A.in1.in1 (keyLt' κ (vs.getD i Value.none) (vs.getD j Value.none)) C (fun _ _=>False) s')
  (fin:∀ (p:Array Nat) (s':Shared) (a:Addr),dg xs.length p->Up (fun i=>ks.getD i []) p xs.length->H a=none->Inv X pins σ (upd H a (.lst (p.toList.map fun i=>xs.getD i .non))) s'->Q (.ref a) s') :
  wpAny (model X.prog X.w) X.A (call (.builtin "sorted") [.ref l]) Q E s:=by
 refine Calls.call_function_entry kind_sorted plain_sorted entry_sorted (args_sorted1 _) ?_
 unfold Builtin.«sorted»
 refine nG (m:=checkCount "sorted" 1 1 _) (uk ?_)
 refine nG (col _ fun h' tk ag kp rv => ?_)
 have lv:ag.length=xs.length:=rv.length.symm
 refine nG (Zp ?_ (by rw[WX];omega))
 have I1:Inv X pins σ H { s with heap:=h',toks:=tk }:=I.kept kp
 have fa:bC X pins H h'.objs.size:=I1.g8 (wG _) (I1.aN.fresh (wG _))
 have Cm:X.s₀.heap.objs.size <= h'.objs.size:=I1.sz
 have I2:Inv X pins σ H { s with heap:=h'.push (seqObj "list" ag.toArray 0),toks:=tk }:=I1.kept (h':=h'.push (seqObj "list" ag.toArray 0)) (t':=tk) fun b u e=>qw _ e
 have kR:(h'.push (seqObj "list" ag.toArray 0)).get? h'.objs.size=some (seqObj "list" ag.toArray 0):=MC _ rfl
 refine nG (Wo (WW slot_list_sort ⟨_,kR,rfl⟩ entry_list_sort ?body (args_list_sort _)))
 case body =>
  refine Q8 (κ := κ) (ks:=ks) I2 fa kR (by omega) (fun s' J h2 Q' hq=>kind s' ag rv J h2 Q' hq) (fun s' J i j C hi hj hC=>ask s' ag rv J i j C hi hj hC) fun p s' c hp up J e=>⟨_,rfl,?_⟩
  rw[lv] at hp up
  refine uk ⟨_,rfl,fin p s' h'.objs.size hp up fa.1 (J.pQ fa Cm ?_)⟩
  have hz:(p.toList.map fun i=>xs.getD i V.non).length=xs.length:=by rw[qx,Fj,hp.size]
  exact⟨by rw[hz,WX];omega,_,c,Ic rv fun i hi=>by rw[lv];exact hp.mem hi,e⟩
end
noncomputable def Cw (ds:List D) (key:D->LK):Prop :=
 (∀ d∈ds,key d≠[]/\d = .tup ((key d).map D.int))\/∃ L:Nat,∀ d∈ds,∃ (k:LK) (n:Int),k.length=L/\d = .tup [.tup (k.map D.int),.int n]/\key d=k ++ [n]
noncomputable def yj:List D->(D->Prop)->Prop
 | [.lst ds],K=>ds.length < 64/\∃ key:D->LK,Cw ds key/\∀ out:List D,out.Perm ds->(out.map key).Pairwise kle->K (.lst out)
 | [.tup ds],K=>ds.length < 64/\∃ key:D->LK,Cw ds key/\∀ out:List D,out.Perm ds->(out.map key).Pairwise kle->K (.lst out)
 | _,_=>False
theorem Q9 {ds:List D} {key:D->LK} {p:Array Nat} {n:Nat} (hn:ds.length=n) (hp:dg n p) (up:Up (fun i=>(ds.map key).getD i []) p n):(p.toList.map fun i=>ds.getD i .non).Perm ds/\((p.toList.map fun i=>ds.getD i .non).map key).Pairwise kle:=by
 subst hn
 constructor
 ·have h1:=(YA.mp hp.perm).map fun i=>ds.getD i D.non
  have h2:(List.range ds.length).map (fun i=>ds.getD i D.non)=ds:=by
   refine XE fun i => ?_
   rw[Fl]
   by_cases hi:i < ds.length
   ·rw[WH hi,YN,qv hi,wF,qv hi];rfl
   ·rw[Ww (by rw[Ws];omega),Ww (by omega)];rfl
  rw[show (List.range ds.length).toArray.toList=List.range ds.length from rfl,h2] at h1
  exact h1
 ·rw[Wt,Yb]
  intro i j hi hj iP
  rw[qx,Fj,hp.size] at hi hj
  have:=up i j (Xj iP) hj
  unfold KA at this
  rw[X7,X7]
  have gp:∀ {i:Nat} (h:i < p.toList.length),p.getD i 0=p.toList[i]:=fun {i} h=>by
   have h':i < p.size:=by rw[<-Fj];exact h
   simp[Array.getD,h']
  have gk:∀ {i:Nat},i < ds.length->(ds.map key).getD i []=key (ds.getD i .non):=fun {i} h=>by
   rw[wF,Fl,qv h,wF,qv h];rfl
  have pi:=hp.lt hi
  have pj:=hp.lt hj
  dsimp only at this
  rw[gk pi,gk pj,gp (by rw[Fj,hp.size];exact hi),gp (by rw[Fj,hp.size];exact hj)] at this
  exact this
theorem Q_ {F:Hp} {ds:List D} {xs:List V} {p:List Nat} (h:af F ds xs) (hp:∀ i∈p,i < ds.length):af F (p.map fun i=>ds.getD i .non) (p.map fun i=>xs.getD i .non):=by
 refine af.rD (by rw[qx,qx]) fun i d e => ?_
 rw[Fl] at e ⊢
 obtain⟨z,e1,rfl⟩:=Vu.mp e
 rw[e1]
 have hz:=hp z (Wk e1)
 exact⟨_,rfl,af.at h (getD_some hz) (getD_some (by rw[h.length];exact hz))⟩
section
variable [aI] {X:Cx}
theorem yk {pins:List (Addr × Obj)} {σ : St} {H F:Hp} {s:Shared} {k:LK} {v:V} {u:Value} (I:Inv X pins σ H s) (sub:az F H) (h:Is F (.tup (k.map D.int)) v) (r:RelV v u):jj s.heap k u:=by
 simp only[Is] at h
 obtain⟨a,us,rfl,e,i⟩:=h
 cases r
 rw[jB i] at e
 obtain⟨ag,rv,⟨o,o1,o2,n,o3⟩,_⟩:=I.tuple (bQ.of (sub _ _ e))
 exact⟨a,o,_,n,rfl,o1,o2,o3,by simpa using intsAre_of rv⟩
theorem Cy {pins:List (Addr × Obj)} {σ : St} {H F:Hp} {s:Shared} {k:LK} {m:Int} {v:V} {u:Value} (I:Inv X pins σ H s) (sub:az F H) (h:Is F (.tup [.tup (k.map D.int),.int m]) v) (r:RelV v u):lZ s.heap k.length (k ++ [m]) u:=by
 simp only[Is,af] at h
 obtain⟨a,us,rfl,e,v1,r1,rfl,h1,v2,r2,rfl,h2,rfl⟩:=h
 cases r
 obtain⟨ag,rv,⟨o,o1,o2,n,o3⟩,_⟩:=I.tuple (bQ.of (sub _ _ e))
 have h2:v2 = .int m:=h2
 subst h2
 have nH:Is F (.tup (k.map D.int)) v1:=by simp only[Is];exact h1
 cases rv with
 | cons q1 rv =>
  cases rv with
  | cons q2 rv =>
   cases rv
   have t1:=yk I sub nH q1
   obtain⟨b,_,_,_,rfl,_⟩:=id t1
   obtain⟨t,rfl⟩:=q2
   exact⟨a,o,_,n,b,k,m,t,rfl,o1,o2,o3,rfl,t1,rfl,rfl⟩
theorem Ig {pins:List (Addr × Obj)} {σ : St} {H F:Hp} {s:Shared} {E:Value->Shared->Prop} {l:Addr} {ds:List D} {us:List V} {key:D->LK} {Q:Value->Shared->Prop} (hu:X.A.units + 64 < cLine) (I:Inv X pins σ H s) (sub:az F H) (hl:H l=some (.lst us)\/H l=some (.tup us)) (hi:af F ds us) (iN:ds.length < 64) (sh:Cw ds key)
  (fin:∀ (out:List D) (ws:List V) (a:Addr) (s':Shared),out.Perm ds->(out.map key).Pairwise kle->af F out ws->H a=none->Inv X pins σ (upd H a (.lst ws)) s'->Q (.ref a) s'):wpAny (model X.prog X.w) X.A (call (.builtin "sorted") [.ref l]) Q E s:=by
 have col:∀ Q':List Value->Shared->Prop,(∀ h' tk vs,(∀ b o,s.heap.get? b=some o->h'.get? b=some o)->Vals us vs->Q' vs { s with heap:=h',toks:=tk })->wpAny (model X.prog X.w) X.A.in1 (collect (.ref l)) Q' E s:=fun Q' hQ=>by
  rcases hl with hl | hl
  ·obtain⟨ag,rv,pl,hz⟩:=I.list (bx.of hl)
   obtain⟨o,o1,o2,n,o3⟩:=pl.isList
   exact wpAny_collect_seq l (.inl rfl) o1 o2 o3 (fun h' kp=>hQ h' s.toks _ kp (by simpa using rv)) (by rw[Ad,<-rv.length];exact hz)
  ·obtain⟨ag,rv,⟨o,o1,o2,n,o3⟩,hz⟩:=I.tuple (bQ.of hl)
   exact wpAny_collect_seq l (.inr rfl) o1 o2 o3 (fun h' kp=>hQ h' s.toks _ kp (by simpa using rv)) (by rw[Ad,<-rv.length];exact hz)
 have lu:=hi.length
 have Ra:X.A.in1.in1.units < cLine:=by show X.A.units + 1 + 1 < cLine;omega
 have gk:∀ {i:Nat},i < ds.length->(ds.map key).getD i []=key (ds.getD i .non):=fun {i} h=>by
  rw[wF,Fl,qv h,wF,qv h];rfl
 have isAt:∀ {i:Nat},i < ds.length->∀ {vs:List Value},Vals us vs->∃ v,Is F (ds.getD i .non) v/\RelV v (vs.getD i Value.none):=fun {i} h {vs} rv=>by
  obtain⟨u,e1,e2⟩:=rv.get (getD_some (l:=us) (d:=V.non) (i:=i) (by omega))
  have:=getD_some (l:=vs) (d:=Value.none) (i:=i) (by rw[<-rv.length];omega)
  rw[this] at e1;cases e1
  exact⟨_,af.at hi (getD_some h) (getD_some (by omega)),e2⟩
 have mem:∀ {i:Nat},i < ds.length->ds.getD i .non∈ds:=fun {i} h=>Wk (getD_some h)
 have ke:∀ {i:Nat} {k:LK},(ds.map key)[i]? = some k->i < ds.length/\k=key (ds.getD i .non):=fun {i k} e=>by
  have h:i < ds.length:=by have:=(su.mp e).1;rwa [qx] at this
  refine⟨h,?_⟩
  have:=getD_some (l:=ds.map key) (d:=[]) (i:=i) (by rw[qx];exact h)
  rw[e,gk h] at this
  exact Wf this
 have ve:∀ {i:Nat} {v:Value} {vs:List Value},vs[i]? = some v->v=vs.getD i Value.none:=fun {i v vs} e=>by
  rw[wF,e];rfl
 have lO:∀ (p:Array Nat) (s':Shared) (a:Addr),dg us.length p->Up (fun i=>(ds.map key).getD i []) p us.length->H a=none->Inv X pins σ (upd H a (.lst (p.toList.map fun i=>us.getD i .non))) s'->Q (.ref a) s':=fun p s' a hp up ha J=>by
  obtain⟨o1,o2⟩:=Q9 lu.symm hp up
  exact fin _ _ a s' o1 o2 (Q_ hi fun i bZ=>by rw[<-lu];exact hp.mem bZ) ha J
 rcases sh with sh | ⟨L,sh⟩
 ·refine Ie (κ := tuples' true) (ks:=ds.map key) I col (by omega) (fun s' vs rv J h2 Q' hq => ?_) (fun s' vs rv J i j C bZ vj hC => ?_) lO
  ·refine Ib (ks:=ds.map key) (by omega) (fun k hk => ?_) (by rw[qx,<-rv.length];omega) (fun i k v e1 e2 => ?_) hq
   ·obtain⟨d,hd,rfl⟩:=Wg.mp hk
    exact (sh d hd).1
   ·obtain⟨h,rfl⟩:=ke e1
    obtain⟨w,i1,r1⟩:=isAt h rv
    rw[(sh _ (mem h)).2] at i1
    rw[<-ve e2] at r1
    exact yk J sub i1 r1
  ·rw[<-rv.length] at bZ vj
   rw[gk (by omega),gk (by omega)] at hC
   obtain⟨w,i1,r1⟩:=isAt (i:=i) (by omega) rv
   obtain⟨w',i2,r2⟩:=isAt (i:=j) (by omega) rv
   rw[(sh _ (mem (by omega))).2] at i1 i2
   exact H_ (yk J sub i1 r1) (yk J sub i2 r2) hC
 ·refine Ie (κ := tuples' false) (ks:=ds.map key) I col (by omega) (fun s' vs rv J h2 Q' hq => ?_) (fun s' vs rv J i j C bZ vj hC => ?_) lO
  ·refine Q7 (L:=L) (ks:=ds.map key) (by omega) (by rw[qx,<-rv.length];omega) (fun i k v e1 e2 => ?_) hq
   obtain⟨h,rfl⟩:=ke e1
   obtain⟨w,i1,r1⟩:=isAt h rv
   obtain⟨k,n,hk,e3,e4⟩:=sh _ (mem h)
   rw[e3] at i1
   rw[<-ve e2] at r1
   rw[e4,<-hk]
   exact Cy J sub i1 r1
  ·rw[<-rv.length] at bZ vj
   rw[gk (by omega),gk (by omega)] at hC
   obtain⟨w,i1,r1⟩:=isAt (i:=i) (by omega) rv
   obtain⟨w',i2,r2⟩:=isAt (i:=j) (by omega) rv
   obtain⟨k,n,hk,e3,e4⟩:=sh _ (mem (i:=i) (by omega))
   obtain⟨k',n',i8,Rb,Rc⟩:=sh _ (mem (i:=j) (by omega))
   rw[e3] at i1
   rw[Rb] at i2
   rw[e4,Rc] at hC
   have t1:=Cy J sub i1 r1
   have t2:=Cy J sub i2 r2
   rw[hk] at t1
   rw[i8] at t2
   exact Q4 Ra t1 t2 hC
theorem Rf (hu:X.A.units + 64 < cLine):dH X (.builtin "sorted") yj:=by
 rintro pins s σ H xs us Q I r ⟨F,ds,K,sub,rd,q,md⟩
 unfold yj at q
 split at q
 ·rename_i es
  obtain⟨iN,key,sh,hK⟩:=q
  obtain⟨v,rfl,a,vs,rfl,h1,h2⟩:=cR rd
  obtain⟨u,rfl,rx⟩:=vals1 r
  cases rx
  exact Ig hu I sub (.inl h1) h2 iN sh fun out ws b s' o1 o2 o3 hb J=>⟨.ref b,_,J,rfl,md _ _ _ (hK out o1 o2) (cj hb) (ku sub hb o3)⟩
 ·rename_i es
  obtain⟨iN,key,sh,hK⟩:=q
  obtain⟨v,rfl,h⟩:=cR rd
  have h:Is F (.tup es) v:=h
  simp only[Is] at h
  obtain⟨a,vs,rfl,h1,h2⟩:=h
  obtain⟨u,rfl,rx⟩:=vals1 r
  cases rx
  exact Ig hu I sub (.inr (sub _ _ h1)) h2 iN sh fun out ws b s' o1 o2 o3 hb J=>⟨.ref b,_,J,rfl,md _ _ _ (hK out o1 o2) (cj hb) (ku sub hb o3)⟩
 ·exact q.elim
end
end L2
namespace LJ
open PySem L2 PySem.W
theorem Rg {ls:List pR} {b:Addr} {ps:Array Value}:(ls.map fun l=>(l.T,(#[]:Array Value))).lookup b=some ps->(∃ l∈ls,l.T=b)/\ps = #[]:=by
 induction ls with
 | nil=>intro h;cases h
 | cons l ls ih =>
  intro h
  rw[Wb,Wj] at h
  cases q:b == l.T with
  | true =>
   rw[q] at h
   exact⟨⟨l,Mz,(Xm q).symm⟩,(Wf h).symm⟩
  | false =>
   rw[q] at h
   obtain⟨⟨l',h1,h2⟩,h3⟩:=ih h
   exact⟨⟨l',MB _ h1,h2⟩,h3⟩
theorem Cz {ls:List pR} {l:pR} (h:l∈ls):(ls.map fun l=>(l.T,(#[]:Array Value))).lookup l.T=some #[]:=by
 induction ls with
 | nil=>cases h
 | cons l' ls ih =>
  rw[Wb,Wj]
  cases q:l.T == l'.T with
  | true=>rfl
  | false =>
   rcases Fo.mp h with rfl | h
   ·simp at q
   ·exact ih h
theorem Rh {l:OpenLaw} {q:Program} {loose:List Str} {XP:(Str->Option Value)->Heap->Prop} {d:DefRec} {K:Params->Frag} {as:List Addr} {e:∀ P,as=(K P).map (·.1)} {ts:List Addr} {kk:Nat} (ls:List pR) (Ri:ls.map (·.T)=ts) (hn:l.most=some 63) (uq:d.params.defaults=[]) (hr:bG kk callerA)
  (fZ:∀ (w:World) (h:Heap),(K w.params).In h->∀ t∈ls,∃ cc,CodeHd h cc t.T) (Rj:∀ P,noTabs (K P)=true)
  (F:∀ (w:World) (mg:Str->Option Value) (fa:Addr) (h:Heap),(K w.params).In h->h.Ns mainGlobals mg->mg d.name=some (.ref fa) →
   ∃ fd:FuncData,(∀ (s:Shared) (u:Value),BindsTo s fd ⟨[u],[]⟩ [("script",u)])/\∀ base:Heap,(K w.params).In base->base.Ns mainGlobals mg->(∀ t∈ls,base.BuiltinsAt mg t.T)->ba l.prog w (K w.params) mg base cz kk fa fd ["script"] (@yc (rE ls) (K w.params))) :
  WalkO q loose XP (kmHook K as e ts).says l.row.toRowW d [] (fun f vs=>PySem.call f vs) :=
 L2.Qz (n:=63) (k:=kk) (x := "script") (K:=fun w=>K w.params) (CX:=fun _=>cz) (sp:=fun w=>@yc (rE ls) (K w.params)) (Ts:=fun _=>ls.map fun l=>(l.T,#[])) hn (by decide) uq hr (fun w h Y=>km_in_of Y)
  (fun w h Y b ps hl=>by
   obtain⟨⟨t,ht,rfl⟩,rfl⟩:=Rg hl
   have e1:h.get? t.T=some (tabObj #[]):=km_tabs_of Y t.T (by rw[<-Ri];exact List.mem_map_of_mem ht)
   refine⟨e1,?_,?_⟩
   ·obtain⟨cc,o,vs,_,_,_,_,_,_,_,c1,c2,c3,c4,_⟩:=fZ w h (km_in_of Y) t ht
    exact⟨cc,o,vs,c1,c2,c3,c4⟩
   ·cases z:(K w.params).lookup t.T with
    | none=>rfl
    | some o =>
     have e2:=km_in_of Y t.T o z
     rw[e1] at e2;cases e2
     have h2:=Xw.mp (Rj w.params) (t.T,tabObj #[]) (mem_of_lookupK z)
     exact absurd (show false=true from h2) Vy)
  (fun w mg fa h KX G nE=>by
   obtain⟨fd,hb,hF⟩:=F w mg fa h KX G nE
   exact⟨fd,hb,fun base k1 k2 k3=>hF base k1 k2 fun t ht=>k3 t.T #[] (Cz ht)⟩)
  (fun w H a ns hl hO hS=>by
   letI:aI:=rE ls
   refine⟨a,ns,rfl,hS,hl,fun t ht => ?_,fun _=>rfl⟩
   rcases hO t.T with⟨ps,z1,z2⟩ | ⟨z1,_⟩
   ·rw[Cz ht] at z1;cases z1
    exact⟨#[],z2,trivial,.inl rfl⟩
   ·rw[Cz ht] at z1;cases z1)
  fun _ _ _ _ _ z=>z
end LJ
namespace LJ
open PySem L2
variable [aI]
omit [aI] in
theorem Rk {m:Int} {ws:List (Int × Int × Int)} (h:gb m ws):lR (bu m ws)=true:=by
 show (jY (.int m) 1 12 && rz m (.tup (ws.map cF)))=true
 have h1:jY (.int m) 1 12=true:=by
  show (decide (1 <= m) && decide (m <= 12))=true
  rw[V_ h.m1,V_ h.jy];rfl
 rw[h1,Zr]
 show (decide ((ws.map cF).length <= 30) && ((ws.map cF).all (cU m) && decide (((ws.map cF).map pairOf).Nodup)))=true
 have h2:(ws.map cF).all (cU m)=true:=by
  refine Xw.mpr fun d hd => ?_
  obtain⟨y,hy,rfl⟩:=Wg.mp hd
  obtain⟨a,b,c,d,e⟩:=h.ends y hy
  show (((decide (0 <= y.1) && decide (y.1 <= m - 1)) && (decide (y.1 + 1 <= y.2.1) && decide (y.2.1 <= m - 1))) && (decide (0 <= y.2.2) && decide (y.2.2 <= 1000000000)))=true
  rw[V_ a,V_ (by omega:y.1 <= m - 1),V_ (by omega:y.1 + 1 <= y.2.1),V_ (by omega:y.2.1 <= m - 1),V_ d,V_ e];rfl
 have h3:(ws.map cF).map pairOf=ws.map fun y=>(y.1,y.2.1):=by rw[Wt];rfl
 rw[h2,h3,V_ h.unlike,qx,V_ h.mf];rfl
noncomputable def vT:GD:=fun ys ovs K=>∃ (m:Int) (ws:List (Int × Int × Int)),gb m ws/\ys=[.p (bu m ws)]/\ovs=[]/\K (.p .non) []
noncomputable def CA:WS:=(bP (gh (dT (ax 1 vG (ao (aa 0) ak)))) pA eW)
theorem Rl:∀ ys ovs K',ys.length=1->vT ys ovs K'->CA (dz ovs.length K') ⟨ys.map some ++ List.replicate 0 none,ovs.map some⟩:=by
 rintro ys ovs K' - ⟨m,ws,W,rfl,rfl,k⟩
 unfold CA
 simp? only []
 refine⟨bu m ws,rfl,rfl,?_⟩
 rw[Rk W]
 simp? only []
 exact jg k
theorem Rm {out:List D} {l:List Int} (h:out.Perm (l.map D.int)):∃ ns:List Int,out=ns.map D.int/\ns.Perm l:=by
 refine⟨out.map fun d=>match d with
  | .int n=>n
  | _=>0,?_,?_⟩
 ·rw[Wt]
  refine (Z3 out).symm.trans (XG fun d hd => ?_)
  obtain⟨n,_,rfl⟩:=Wg.mp (h.mem_iff.mp hd)
  rfl
 ·have:=h.map fun d=>match d with
   | .int n=>n
   | _=>0
  rw[Wt] at this
  exact this.trans (List.Perm.of_eq ((XG fun n _=>rfl).trans (Z3 l)))
theorem Rn {a b:LK} {n m:Int} (hl:a.length=b.length) (h:kle (a ++ [n]) (b ++ [m])):kle a b:=by
 unfold kle at h ⊢
 rw[Cu _ _ hl.symm] at h
 by_cases e:b=a
 ·rw[e];exact xM a
 ·rw[MA e] at h;exact h
end LJ
namespace L2
open PySem PySem.Spec PyProof.Rows
variable [aI]
noncomputable def dh (kvs:List (Key × D)) (k:Key):Option D:=(kvs.find? fun kv=>decide (kv.1=k)).map (·.2)
noncomputable def putD (kvs:List (Key × D)) (k:Key) (d:D):List (Key × D) :=
 if (kvs.any fun kv=>decide (kv.1=k))=true then kvs.map (fun kv=>if kv.1=k then (kv.1,d) else kv) else kvs ++ [(k,d)]
theorem gf.val {F:Hp} (k:Key):∀ {gE:List (Key × D)} {ws:List (Key × V)},gf F gE ws->(dh gE k=none/\eA ws k=none)\/∃ d v,dh gE k=some d/\eA ws k=some v/\Is F d v
 | [],_,h=>by have h:_=[]:=h;subst h;exact .inl ⟨rfl,rfl⟩
 | kd :: r,_,⟨v,t,e,h1,h2⟩=>by
  subst e
  by_cases c:kd.1=k
  ·refine .inr ⟨kd.2,v,?_,wK c,h1⟩
   unfold dh;rw[List.find?_cons_of_pos (by simpa using c)];rfl
  ·rw[wL c]
   have e:dh (kd :: r) k=dh r k:=by unfold dh;rw[List.find?_cons_of_neg (by simpa using c)]
   rw[e]
   exact gf.val k h2
theorem gf.length {F:Hp}:∀ {gE:List (Key × D)} {ws:List (Key × V)},gf F gE ws->ws.length=gE.length
 | [],_,h=>by have h:_=[]:=h;subst h;rfl
 | kd :: r,_,⟨v,t,e,h1,h2⟩=>by subst e;rw[Fm,Fm,h2.length]
theorem gf.any {F:Hp} (k:Key):∀ {gE:List (Key × D)} {ws:List (Key × V)},gf F gE ws->(ws.any fun kv=>decide (kv.1=k))=gE.any fun kv=>decide (kv.1=k)
 | [],_,h=>by have h:_=[]:=h;subst h;rfl
 | kd :: r,_,⟨v,t,e,h1,h2⟩=>by subst e;rw[Yj,Yj,h2.any k]
theorem gf.iV {F:Hp} (k:Key) {d:D} {v:V} (hd:Is F d v):∀ {gE:List (Key × D)} {ws:List (Key × V)},gf F gE ws->gf F (gE.map fun kv=>if kv.1=k then (kv.1,d) else kv) (ws.map fun kv=>if kv.1=k then (kv.1,v) else kv)
 | [],_,h=>by have h:_=[]:=h;subst h;rfl
 | kd :: r,_,⟨u,t,e,h1,h2⟩=>by
  subst e
  by_cases c:kd.1=k
  ·rw[Wb,Wb,MD c,MD c]
   exact⟨v,_,rfl,hd,h2.iV k hd⟩
  ·rw[Wb,Wb,MA c,MA c]
   exact⟨u,_,rfl,h1,h2.iV k hd⟩
theorem gf.snoc {F:Hp} {k:Key} {d:D} {v:V} (hd:Is F d v):∀ {gE:List (Key × D)} {ws:List (Key × V)},gf F gE ws->gf F (gE ++ [(k,d)]) (ws ++ [(k,v)])
 | [],_,h=>by have h:_=[]:=h;subst h;exact⟨v,[],rfl,hd,rfl⟩
 | kd :: r,_,⟨u,t,e,h1,h2⟩=>by subst e;exact⟨u,_,rfl,h1,h2.snoc hd⟩
theorem gf.put {F:Hp} {gE:List (Key × D)} {ws:List (Key × V)} {k:Key} {d:D} {v:V} (h:gf F gE ws) (hd:Is F d v):gf F (putD gE k d) (putK ws k v):=by
 unfold putD putK
 rw[h.any k]
 split
 ·exact h.iV k hd
 ·exact h.snoc hd
noncomputable def j3 (x:DV) (δ : ay) (K:Nat->List (Key × D)->Prop):Prop:=match x with
 | .o k=>match δ.mu[k]? with
  | some (some (.dct kvs))=>K k kvs
  | _=>False
 | _=>False
theorem Ih {F H:Hp} {ad:List Addr} {δ : ay} {σ : St} {x:DV} {v:V} {K:Nat->List (Key × D)->Prop} (S:SR F ad δ σ H) (V1:gF F ad x v) (h:j3 x δ K):∃ k kvs a ws,x = .o k/\K k kvs/\v = .ref a/\ad[k]? = some a/\H a=some (.dK ws)/\gf F kvs ws /\ δ.mu[k]? = some (some (.dct kvs)):=by
 unfold j3 at h
 split at h
 ·rename_i k
  split at h
  ·rename_i kvs e
   obtain⟨a,e1,rfl⟩:=V1
   obtain⟨a',o,e2,e3,ws,rfl,h4⟩:=S.mu k _ e
   rw[e1] at e2;cases e2
   exact⟨k,kvs,a,ws,rfl,h,rfl,e1,e3,h4,e⟩
  ·exact h.elim
 ·exact h.elim
noncomputable def j4 (x:DV) (P:Int->Prop):Prop:=match x with
 | .p (.int i)=>P i
 | _=>False
theorem Ii {F:Hp} {ad:List Addr} {x:DV} {v:V} {P:Int->Prop} (hv:gF F ad x v) (h:j4 x P):∃ i,v=kV (.inl i)/\P i:=by
 unfold j4 at h
 split at h
 ·rename_i i;exact⟨i,hv,h⟩
 ·exact h.elim
noncomputable def CB:WE:=fun δ K=>K (.o δ.mu.length) ⟨δ.sl,δ.mu ++ [some (.dct [])]⟩
noncomputable def oJ (neg:Bool) (fi fo:WE):WE:=fun δ K=>fi δ fun x δ1=>fo δ1 fun y δ2=>j4 x fun i=>j3 y δ2 fun _ kvs=>K (.p (.bl (neg != (dh kvs (.inl i)).isSome))) δ2
noncomputable def CC (fv fo fi:WE):WS:=fun K δ => fv δ fun z δ1=>fo δ1 fun x δ2=>fi δ2 fun y δ3=>nK z δ3 fun d δ4=>j4 y fun i=>j3 x δ4 fun k kvs=>kvs.length < 1000/\K.nx ⟨δ4.sl,δ4.mu.set k (some (.dct (putD kvs (.inl i) d)))⟩
section
variable {X:Cx} {o i e v:Expr} {fo fi fv fk fe:WE} {pos:Pos}
theorem Ro:JE X (.Dict [] [] pos) (tD CB):=la.weak fun σ H Q ⟨F,ad,δ,K,S,q,k⟩ p hp=>by
 have oi:gq F (.dct []) (.dK []):=⟨[],rfl,rfl⟩
 refine k _ _ q _ _ _ _ (Ext.own S hp) (S.own hp oi) ⟨p,?_,rfl⟩
 rw[<-S.cP,VZ (wG _),W6];rfl
theorem Rp {neg:Bool} (td:TE) (hn:∀ σ H (Q:VK),(tD fi σ H fun y H1=>tD fo σ H1 fun x H2=>∃ a o,x = .ref a/\jS H2 a y o/\Q (.bl (neg != o.isSome)) H2)->td σ H Q):∀ σ H Q,tD (oJ neg fi fo) σ H Q->td σ H Q:=fun σ H Q h0_ => el7 h0_ fun F ad δ K S q k =>hn σ H Q ⟨F,ad,δ,_,S,q,fun x δ1 h1 v F1 aR H1 E1 S1 V1=>⟨F1,aR,δ1,_,S1,h1,fun y δ2 h2 u F2 c7 H2 E2 S2 V2=>by
  obtain⟨i,rfl,h3⟩:=Ii (V1.ext E2) h2
  obtain⟨k0,kvs,a,ws,rfl,h4,rfl,e1,e2,i1,m1⟩:=Ih S2 V2 h3
  refine⟨a,_,rfl,jS.k e2,?_⟩
  have es:(eA ws (Sum.inl i:Key)).isSome=(dh kvs (.inl i)).isSome:=by
   rcases i1.val (.inl i) with⟨z1,z2⟩ | ⟨d,v,z1,z2,_⟩
   ·rw[z1,z2];rfl
   ·rw[z1,z2];rfl
  rw[es]
  exact k _ _ h4 _ _ _ _ (E1.trans E2) S2 rfl⟩⟩
theorem Rq {t:TE} {f:WE} (h:∀ σ H Q,tD f σ H Q->t σ H Q):∀ σ H Q,de (dT f) σ H Q->tB t σ H Q:=fun σ H Q h0_ => el7 h0_ fun F ad δ K S q k =>h σ H _ ⟨F,ad,δ,_,S,q,fun x δ1 h1 v F1 aR H1 E1 S1 V1=>by
  obtain⟨b,rfl,h2⟩:=uQ V1 h1
  exact⟨b,rfl,k _ _ h2 _ _ _ E1 S1⟩⟩
theorem Rr (hu:X.A.units + 64 < cLine) (hi:JE X i (tD fi)) (ho:JE X o (tD fo)) (hm:behindInMarks .In o=false:=by rfl):JT X (.Compare i [.In] [o] pos) (de (dT (oJ false fi fo))) :=
 (Nr (NM (by omega) hi ho) hm).weak (Rq (Rp (qz (tD fi) (tD fo)) fun σ H Q h=>by simp only[Bool.false_bne] at h;exact h))
theorem Rt {pos':Pos} (hu:X.A.units + 64 < cLine) (ho:JE X o (tD fo)) (hi:JE X i (tD fi)) (hv:JE X v (tD fv)) (hs:swapsWith v (some (.Subscript o i pos')) pos.line X.env=pure false:=by rfl):JS X (.Assign [.Subscript o i pos'] v pos) (dw (CC fv fo fi)) :=
 (NN (by omega) ho hi hv hs).weak fun D σ H h0_ => el7 h0_ fun F ad δ K S q k =>⟨F,ad,δ,_,S,q,fun z δ1 h1 w F1 aR H1 E1 S1 V1=>⟨F1,aR,δ1,_,S1,h1,fun x δ2 h2 u F2 c7 H2 E2 S2 V2=>⟨F2,c7,δ2,_,S2,h2,fun y δ3 h3 t F3 qJ H3 E3 S3 V3=>by
  obtain⟨d,δ4,F4,h4,E4,S4,i4⟩:=uP S3 ((V1.ext E2).ext E3) h3
  obtain⟨i,rfl,h5⟩:=Ii V3 h4
  obtain⟨k0,kvs,a,ws,rfl,h6,rfl,e1,e2,i1,m1⟩:=Ih S4 ((V2.ext E3).ext E4) h5
  have oi:gq F4 (.dct (putD kvs (.inl i) d)) (.dK (putK ws (.inl i) w)):=⟨_,rfl,i1.put i4⟩
  refine⟨a,_,rfl,k_.k e2 (o_ (by rw[i1.length];exact Xj h6.1)),?_⟩
  exact k.nx _ h6.2 _ _ _ _ ((((E1.trans E2).trans E3).trans E4).trans (Ext.put S4 m1 e1)) (S4.put m1 e1 oi)⟩⟩⟩
end
end L2
namespace LJ
open PySem L2
variable [aI]
theorem Ru {kvs:List (Key × D)} {k l:Key} {d:D} (h:dh kvs k=none):dh (putD kvs k d) l=if l=k then some d else dh kvs l:=by
 have na:(kvs.any fun kv=>decide (kv.1=k))=false:=by
  cases q:kvs.any fun kv=>decide (kv.1=k) with
  | false=>rfl
  | true =>
   obtain⟨kv,h1,h2⟩:=List.any_eq_true.mp q
   unfold dh at h
   rw[Option.map_eq_none_iff] at h
   exact absurd h2 (ZF.mp h kv h1)
 unfold putD
 rw[na,MA Vy]
 unfold dh
 rw[List.find?_append]
 cases q:kvs.find? fun kv=>decide (kv.1=l) with
 | some kv =>
  have e:=Zv q
  have e:kv.1=l:=by simpa using e
  rw[MA]
  ·rfl
  ·intro z
   subst z
   have hm:=ZT q
   have:=Yh.mp na kv hm
   exact this (by simpa using e)
 | none =>
  by_cases c:l=k
  ·subst c
   rw[MD rfl]
   simp
  ·rw[MA c]
   simp[show ¬ k=l from fun z=>c z.symm]
theorem Rv {kvs:List (Key × D)} {k:Key} {d:D}:(putD kvs k d).length <= kvs.length + 1:=by
 unfold putD
 split
 ·rw[qx];omega
 ·rw[Vw];simp
noncomputable def rF:GD:=fun ys ovs K=>∃ (m:Int) (ws:List (Int × Int × Int)) (ns:List Int),gb m ws/\Nums ws ns/\ns.Nodup/\ns.length <= 900/\ys=[.p (bu m ws),.p (bE ns)]/\ovs=[]/\K (.p .non) []
noncomputable def CD:WS:=(au (mF (ax 1 vT (ao (aa 0) ak))) (au (bP (gh (dT (d1 (aa 1) (cS "list")))) pA eW) (au (aG 2 (d2 (dN (ao (d2 (aa 0) (dC (.int 1)) aP) ak) df) (dC (.int 1)) (oI fun i j => .int (i - j)))) (au (aG 3 CB) (cx (eD (ao (aa 1) ak)) (hX 2 (dG (bA 4) (dG (bA 5) gP))) (au (bP (ph (gh (dT (ax 3 kB (ao (aa 5) (ao (dC (.int 0)) (ao (aa 2) ak)))))) (dT (oJ false (aa 5) (aa 3)))) pA eW) (CC (dC (.bl true)) (aa 3) (aa 5))))))))
theorem Rw:∀ ys ovs K',ys.length=2->rF ys ovs K'->CD (dz ovs.length K') ⟨ys.map some ++ List.replicate 4 none,ovs.map some⟩:=by
 rintro ys ovs K' - ⟨m,ws,ns,W,hn,nd,hl,rfl,rfl,k⟩
 unfold CD
 refine aZ fun N hN => ?_
 simp? only []
 refine⟨m,ws,W,rfl,rfl,?_⟩
 show N _
 subst hN
 refine aZ fun N hN => ?_
 simp? only []
 rw[show bE ns = .lst (ns.map D.int) from rfl]
 simp? only [cA,aS,Bool.true_or]
 subst hN
 refine aZ fun N hN => ?_
 simp? only [jX,bu]
 subst hN
 refine aZ fun N hN => ?_
 simp? only [CB]
 subst hN
 have il:∀ (j:Nat) (d:D),(i9 0 (ns.map D.int))[j]? = some d->∃ n:Int,ns[j]? = some n/\d=D.tup [.int (j:Int),.int n]:=fun j d hd=>by
  obtain⟨e,h1,h2⟩:=pD hd
  rw[Fl] at h1
  obtain⟨n,h3,rfl⟩:=Vu.mp h1
  exact⟨n,h3,by rw[h2,Wv]⟩
 have el:(i9 0 (ns.map D.int)).length=ns.length:=by rw[nV,qx]
 simp only[cx,eD,ao,aa,ak,Xz,W_,jV]
 refine kA (fun i δ => ∃ kvs:List (Key × D),kvs.length <= i/\(∀ n:Int,(dh kvs (.inl n)).isSome=decide (n∈ns.take i)) /\ δ = ⟨[some (.p (.tup [.int m,.tup (ws.map cF)])),some (.p (.lst (ns.map D.int))),some (.p (.int (ws.length - 1))),some (.o 0),none,none],[some (.dct kvs)]⟩) ?_ ?_ ?_
 ·refine⟨[],wG _,fun n=>by simp[dh],?_⟩
  simp only[qx]
 ·rintro j d δ L hj ⟨kvs,kl,kv,rfl⟩ hL
  obtain⟨n,iH,rfl⟩:=il j d hj
  obtain⟨n0,n1⟩:=hn n (Wk iH)
  have jl:j < ns.length:=(su.mp iH).1
  have ff:(dh kvs (.inl n)).isSome=false:=by
   rw[kv n]
   refine We fun hm => ?_
   obtain⟨i,hi,ei⟩:=Xa.mp hm
   rw[Wn] at hi
   rw[Y2] at ei
   have e2:ns[j]=n:=(su.mp iH).2
   have:=(YE (h₀ := by omega) (h₁ := jl) nd).mp (ei.trans e2.symm)
   omega
  have fn:dh kvs (.inl n)=none:=by
   cases q:dh kvs (.inl n) with
   | none=>rfl
   | some d=>rw[q] at ff;cases ff
  have wb:jY (.int n) 0 (ws.length - 1)=true:=by
   show (decide (0 <= n) && decide (n <= (ws.length:Int) - 1))=true
   rw[V_ n0,V_ (by omega)];rfl
  refine⟨trivial,?_⟩
  simp only[hX,dG,gP,bA,fM,WM,WN,Fm,X0]
  refine⟨trivial,?_⟩
  refine aZ fun N hN => ?_
  simp? only []
  refine⟨.int n,0,ws.length - 1,rfl,rfl,?_⟩
  simp? only [wb,oJ,j4,j3,ff,Bool.false_bne]
  subst hN
  simp? only [CC,j4,j3]
  refine⟨by omega,hL _ ⟨putD kvs (.inl n) (.bl true),?_,fun l => ?_,?_⟩⟩
  ·have:=Rv (kvs:=kvs) (k := .inl n) (d := .bl true);omega
  ·rw[Ru fn,Xu,iH]
   by_cases c:l=n
   ·subst c
    rw[MD rfl]
    exact (V_ (by simp)).symm
   ·rw[MA (fun z=>c (Sum.inl.inj z)),kv l]
    simp[c]
  ·simp? only []
 ·rintro δ ⟨kvs,_,_,rfl⟩
  exact⟨trivial,jg k⟩
end LJ
namespace L2
open PySem PySem.Spec PyProof.Rows PySem.W
section
open PySem.SeqAt
open PySem.AutoSeq1 (wpAny_loadPart')
open PySem.MeetsSeq PySem.MeetsSeq2 PySem.MeetsSeq3
end
section
variable {prog:Program} {w:World} {A:Around} {E:Value->Shared->Prop} {s:Shared} {Q:Bool->Shared->Prop}
end
section
variable [aI] {X:Cx}
end
end L2
namespace LJ
open PySem L2
variable [aI]
end LJ
namespace L2
open PySem
variable [aI]
noncomputable def j8 (δ : ay):ay:=⟨δ.sl,δ.mu.map fun _=>none⟩
section
variable {F F' H H':Hp} {ad aC:List Addr} {δ δ':ay} {σ σ':St}
theorem CF {a:Addr}:¬ Lv ad (j8 δ).mu a:=fun ⟨k,ov,_,e⟩=>by
 unfold j8 at e
 rw[show (ay.mk δ.sl (δ.mu.map fun _=>(none:Option OV))).mu = δ.mu.map fun _=>none from rfl,Fl] at e
 obtain⟨_,_,z⟩:=Vu.mp e
 cases z
theorem SR.hide (S:SR F ad δ σ H):SR F ad (j8 δ) σ H:=by
 have no:∀ (k:Nat) (ov:OV),(j8 δ).mu[k]? = some (some ov)->False:=fun k ov e=>by
  unfold j8 at e
  rw[show (ay.mk δ.sl (δ.mu.map fun _=>(none:Option OV))).mu = δ.mu.map fun _=>none from rfl,Fl] at e
  obtain⟨_,_,z⟩:=Vu.mp e
  cases z
 exact⟨S.sub,fun a l=>absurd l CF,by rw[S.cP];unfold j8;rw[qx],fun k l a ov ow _ _ e _=>(no _ _ e).elim,fun k ov e=>(no _ _ e).elim,S.sl,S.len,S.tab,S.nt⟩
theorem Rx {x:V} {r:List V}:dF (x :: r) 0=some x:=by
 unfold dF iU
 rw[Fm,MD (by omega),MD (by omega)]
 rfl
end
section
variable {X:Cx} {ym iL g6 ka:Stmt} {i n:Nat} {G:GD} {fa:WA} {t:WT} {B:TS} {E:XK}
end
end L2
namespace LJ
open PySem L2
variable [aI]
noncomputable def cJ (p q:Int) (fs:List Int):List Int:=fs.map fun x=>if x=p then q else x
theorem Ry {p q x y:Int}:(if x=p then q else x)=(if y=p then q else y)↔x=y\/((x=p\/x=q)/\(y=p\/y=q)):=by
 by_cases h1:x=p<;>by_cases h2:y=p
 ·rw[MD h1,MD h2];constructor<;>intro h<;>omega
 ·rw[MD h1,MA h2];constructor<;>intro h<;>omega
 ·rw[MA h1,MD h2];constructor<;>intro h<;>omega
 ·rw[MA h1,MA h2];constructor<;>intro h<;>omega
theorem Ij {f:Int->Int} {fs:List Int} {i:Nat} (h:i < fs.length):(fs.map f).getD i 0=f (fs.getD i 0):=by
 rw[wF,Fl,qv h,wF,qv h];rfl
theorem rG {a b:Int}:aA (.int a) (.int b)=decide (a=b):=by
 cases q:aA (.int a) (.int b)
 ·exact (We fun z=>by rw[z,gH] at q;cases q).symm
 ·simp only[aA] at q
  exact (V_ (Xm q)).symm
end LJ
namespace LJ
open PySem L2
noncomputable abbrev Wy:=Int × Int × Int
noncomputable def yn (S:Wy->Prop) (a b:Int):Prop:=∃ w,S w/\((w.1=a/\w.2.1=b)\/(w.1=b/\w.2.1=a))
inductive aQ (S:Wy->Prop) (a:Int):Int->Prop
 | rf:aQ S a a
 | st {b c:Int}:aQ S a b->yn S b c->aQ S a c
section
variable {S S':Wy->Prop} {a b c:Int}
theorem yn.symm (h:yn S a b):yn S b a:=let ⟨w,h1,h2⟩:=h; ⟨w,h1,h2.symm⟩
theorem aQ.trans (h:aQ S a b) (h':aQ S b c):aQ S a c:=by
 induction h' with
 | rf=>exact h
 | st _ e ih=>exact .st ih e
theorem aQ.symm (h:aQ S a b):aQ S b a:=by
 induction h with
 | rf=>exact .rf
 | st _ e ih=>exact (aQ.st .rf e.symm).trans ih
theorem aQ.bind (h:aQ S a b) (k:∀ w,S w->aQ S' w.1 w.2.1):aQ S' a b:=by
 induction h with
 | rf=>exact .rf
 | st _ e ih =>
  obtain⟨w,h1,h2⟩:=e
  rcases h2 with⟨rfl,rfl⟩ | ⟨rfl,rfl⟩
  ·exact ih.trans (k w h1)
  ·exact ih.trans (k w h1).symm
theorem aQ.one {w:Wy} (h:S w):aQ S w.1 w.2.1 := .st .rf ⟨w,h,.inl ⟨rfl,rfl⟩⟩
theorem aQ.mono (h:aQ S a b) (k:∀ w,S w->S' w):aQ S' a b:=h.bind fun w hw => .one (k w hw)
theorem aQ.none (h:aQ S a b) (k:∀ w,¬ S w):a=b:=by
 cases h with
 | rf=>rfl
 | st _ e=>obtain⟨w,h1,_⟩:=e;exact absurd h1 (k w)
theorem aQ.add {w:Wy} (k:∀ v,S' v↔S v\/v=w):aQ S' a b↔aQ S a b\/(aQ S a w.1/\aQ S w.2.1 b)\/(aQ S a w.2.1/\aQ S w.1 b):=by
 constructor
 ·intro h
  induction h with
  | rf=>exact .inl .rf
  | st _ e ih =>
   rename_i b c _
   obtain⟨v,h1,h2⟩:=e
   rcases (k v).mp h1 with h1 | rfl
   ·have e':aQ S b c := .st .rf ⟨v,h1,h2⟩
    rcases ih with i | ⟨i,j⟩ | ⟨i,j⟩
    ·exact .inl (i.trans e')
    ·exact .inr (.inl ⟨i,j.trans e'⟩)
    ·exact .inr (.inr ⟨i,j.trans e'⟩)
   ·rcases h2 with⟨rfl,rfl⟩ | ⟨rfl,rfl⟩
    ·rcases ih with i | ⟨i,j⟩ | ⟨i,j⟩
     ·exact .inr (.inl ⟨i,.rf⟩)
     ·exact .inr (.inl ⟨i,.rf⟩)
     ·exact .inl i
    ·rcases ih with i | ⟨i,j⟩ | ⟨i,j⟩
     ·exact .inr (.inr ⟨i,.rf⟩)
     ·exact .inl i
     ·exact .inr (.inr ⟨i,.rf⟩)
 ·have up:∀ {x y},aQ S x y->aQ S' x y:=fun h=>h.mono fun v hv=>(k v).mpr (.inl hv)
  have o:aQ S' w.1 w.2.1 := .one ((k w).mpr (.inr rfl))
  rintro (h | ⟨h,h'⟩ | ⟨h,h'⟩)
  ·exact up h
  ·exact ((up h).trans o).trans (up h')
  ·exact ((up h).trans o.symm).trans (up h')
end
variable [aI]
noncomputable def bF (n:Nat) (fs:List Int) (S:Wy->Prop):Prop:=fs.length=n/\∀ i j:Nat,i < n->j < n->(fs.getD i 0=fs.getD j 0↔aQ S i j)
theorem sT {n i:Nat} (h:i < n):(bO n).getD i 0=i:=by
 unfold bO
 rw[wF,Fl,WH h];rfl
theorem bF.start (n:Nat):bF n (bO n) (fun _=>False):=by
 refine⟨by unfold bO;simp,fun i j hi hj => ?_⟩
 rw[sT hi,sT hj]
 exact⟨fun e=>by rw[e];exact .rf,fun h=>h.none fun _ z=>z⟩
theorem bF.join {n i j:Nat} {fs:List Int} {S S':Wy->Prop} {w:Wy} {p q:Int} (h:bF n fs S) (hi:i < n) (hj:j < n) (e1:w.1=i) (e2:w.2.1=j) (k:∀ v,S' v↔S v\/v=w) (pq:(p=fs.getD i 0/\q=fs.getD j 0)\/(p=fs.getD j 0/\q=fs.getD i 0)):bF n (cJ p q fs) S':=by
 refine⟨by unfold cJ;rw[qx,h.1],fun x y hx hy => ?_⟩
 unfold cJ
 rw[Ij (by rw[h.1];exact hx),Ij (by rw[h.1];exact hy),Ry,aQ.add k,e1,e2,<-h.2 x y hx hy,<-h.2 x i hx hi,<-h.2 x j hx hj,<-h.2 j y hj hy,<-h.2 i y hi hy]
 rcases pq with⟨rfl,rfl⟩ | ⟨rfl,rfl⟩
 ·constructor
  ·rintro (h | ⟨h1 | h1,h2 | h2⟩)
   ·exact .inl h
   ·exact .inl (h1.trans h2.symm)
   ·exact .inr (.inl ⟨h1,h2.symm⟩)
   ·exact .inr (.inr ⟨h1,h2.symm⟩)
   ·exact .inl (h1.trans h2.symm)
  ·rintro (h | ⟨h1,h2⟩ | ⟨h1,h2⟩)
   ·exact .inl h
   ·exact .inr ⟨.inl h1,.inr h2.symm⟩
   ·exact .inr ⟨.inr h1,.inl h2.symm⟩
 ·constructor
  ·rintro (h | ⟨h1 | h1,h2 | h2⟩)
   ·exact .inl h
   ·exact .inl (h1.trans h2.symm)
   ·exact .inr (.inr ⟨h1,h2.symm⟩)
   ·exact .inr (.inl ⟨h1,h2.symm⟩)
   ·exact .inl (h1.trans h2.symm)
  ·rintro (h | ⟨h1,h2⟩ | ⟨h1,h2⟩)
   ·exact .inl h
   ·exact .inr ⟨.inr h1,.inl h2.symm⟩
   ·exact .inr ⟨.inl h1,.inr h2.symm⟩
noncomputable def aV (ws:List Wy) (n:Int):Wy:=ws.getD n.toNat (0,0,0)
end LJ
namespace LJ
open PySem L2
variable [aI]
open Classical in
theorem Rz {m:Int} {ws:List Wy} (W:gb m ws):ws.Nodup:=by
 have:=W.unlike
 unfold List.Nodup at this ⊢
 rw[Yf] at this
 exact this.imp fun {a b} h e=>h (by rw[e])
open Classical in
open Classical in
theorem Ik {α : Type} {p q : α -> Bool} {x : α}:∀ {l:List α},(∀ y∈l,p y=true->q y=true)->x∈l->q x=true->p x=false->l.countP p < l.countP q
 | y :: l,h,hx,h1,h2=>by
  have le:l.countP p <= l.countP q:=List.countP_mono_left fun z hz=>h z (MB _ hz)
  rw[WB,WB]
  rcases Fo.mp hx with rfl | hx
  ·rw[h1,h2];simp;omega
  ·have:=Ik (fun z hz=>h z (MB _ hz)) hx h1 h2
   have hy:=h y Mz
   cases q1:p y with
   | false=>simp;split<;>omega
   | true=>rw[hy q1];simp;omega
noncomputable def k3 (w:Wy):LK:=[w.1,w.2.1,w.2.2]
theorem Il (n:Nat):(bO n).length=n:=by unfold bO;simp
theorem CG {m:Int} {ws:List Wy} (W:gb m ws) {n:Int} (h0:0 <= n) (h1:n < (ws.length:Int)):∃ i k:Nat,fO ws n=(i,k)/\(aV ws n).1=i/\(aV ws n).2.1=k/\i < m.toNat/\k < m.toNat:=by
 obtain⟨y,ey,hy,_,i,k,e1,e2,h1,h2,_⟩:=vH W h0 h1
 refine⟨i,k,?_,by unfold aV;rw[ey];exact e1,by unfold aV;rw[ey];exact e2,h1,h2⟩
 unfold fO
 rw[ey,e1,e2,V7,V7]
theorem Im {m:Int} {ws:List Wy} (W:gb m ws):∀ (ns fs:List Int) (S:Wy->Prop),Nums ws ns->bF m.toNat fs S->bF m.toNat (jG ws fs ns) (fun v=>S v\/∃ k∈ns,v=aV ws k)
 | [],fs,S,_,h=>by
  have:(fun v=>S v\/∃ k∈([]:List Int),v=aV ws k)=S:=funext fun v=>propext (by simp)
  rw[this];exact h
 | n :: ns,fs,S,hn,h=>by
  have b:=hn n (Mz ..)
  obtain⟨i,k,e,e1,e2,h1,h2⟩:=CG W b.1 b.2
  have step:bF m.toNat (jF fs i k) (fun v=>S v\/v=aV ws n):=by
   refine bF.join (w:=aV ws n) (p:=max (fs.getD i 0) (fs.getD k 0)) (q:=min (fs.getD i 0) (fs.getD k 0)) h h1 h2 e1 e2 (fun v=>Iff.rfl) ?_
   omega
  have:=Im W ns _ _ (fun x hx=>hn x (MB _ hx)) step
  have eq:(fun v=>(S v\/v=aV ws n)\/∃ k∈ns,v=aV ws k)=(fun v=>S v\/∃ k∈n :: ns,v=aV ws k):=funext fun v=>propext (by
   constructor
   ·rintro ((h | h) | ⟨k,hk,h⟩)
    ·exact .inl h
    ·exact .inr ⟨n,Mz,h⟩
    ·exact .inr ⟨k,MB _ hk,h⟩
   ·rintro (h | ⟨k,hk,h⟩)
    ·exact .inl (.inl h)
    ·rcases Fo.mp hk with rfl | hk
     ·exact .inl (.inr h)
     ·exact .inr ⟨k,hk,h⟩)
  rw[eq] at this
  show bF _ (jG ws (jF fs (fO ws n).1 (fO ws n).2) ns) _
  rw[e]
  exact this
noncomputable def jk (ws:List Wy) (ns:List Int):Wy->Prop:=fun v=>∃ k∈ns,v=aV ws k
theorem RA {m:Int} {ws:List Wy} (W:gb m ws) {ns:List Int} (hn:Nums ws ns):bF m.toNat (gW m ws ns) (jk ws ns):=by
 have:=Im W ns _ _ hn (bF.start m.toNat)
 have eq:(fun v=>False\/∃ k∈ns,v=aV ws k)=jk ws ns:=funext fun v=>propext (by unfold jk;simp)
 rw[eq] at this
 exact this
theorem Io:∀ {a b:List Int},a.Pairwise (· < ·)->b.Pairwise (· < ·)->(∀ x,x∈a↔x∈b)->a=b
 | [],[],_,_,_=>rfl
 | [],y :: _,_,_,h=>absurd ((h y).mpr (Mz ..)) (by simp)
 | x :: _,[],_,_,h=>absurd ((h x).mp (Mz ..)) (by simp)
 | x :: a,y :: b,ha,hb,h=>by
  obtain⟨h1,h2⟩:=Xe.mp ha
  obtain⟨h3,h4⟩:=Xe.mp hb
  have RB:x=y:=by
   rcases Fo.mp ((h x).mp (Mz ..)) with e | e
   ·exact e
   ·rcases Fo.mp ((h y).mpr (Mz ..)) with e' | e'
    ·exact e'.symm
    ·have:=h3 x e
     have:=h1 y e'
     omega
  subst RB
  rw[Io h2 h4 fun z => ?_]
  constructor
  ·intro hz
   rcases Fo.mp ((h z).mp (MB _ hz)) with e | e
   ·have:=h1 z hz;omega
   ·exact e
  ·intro hz
   rcases Fo.mp ((h z).mpr (MB _ hz)) with e | e
   ·have:=h3 z hz;omega
   ·exact e
open Classical in
noncomputable def cls (n:Nat) (S:Wy->Prop) (h:Int):List Int:=(bO n).filter fun x=>decide (aQ S h x)
theorem ft {n:Nat} {x:Int}:x∈bO n↔0 <= x/\x < n:=by
 unfold bO
 constructor
 ·intro h
  obtain⟨k,hk,rfl⟩:=Wg.mp h
  have:=Wh.mp hk
  omega
 ·intro h
  exact Wg.mpr ⟨x.toNat,Wh.mpr (by omega),by omega⟩
theorem Ip (n:Nat):(bO n).Pairwise (· < ·):=by
 unfold bO
 exact Yf.mpr ((List.pairwise_lt_range (n:=n)).imp fun h=>by omega)
open Classical in
theorem RC {n:Nat} {S:Wy->Prop} {h x:Int}:x∈cls n S h↔(0 <= x/\x < n)/\aQ S h x:=by
 unfold cls
 rw[Yu,ft,Xs]
open Classical in
theorem RD (n:Nat) (S:Wy->Prop) (h:Int):(cls n S h).Pairwise (· < ·):=(Ip n).filter _
theorem vU:∀ us:List Int,bH (us.map D.int)=0
 | []=>by simp[bH]
 | u :: r=>by rw[Wb];simp only[bH,dep];rw[vU r];rfl
theorem Iq:∀ ls:List (List Int),bH (ls.map bE) <= 1
 | []=>by simp[bH]
 | l :: r=>by
  rw[Wb]
  have h1:=Iq r
  have h2:=vU l
  simp only[bH,dep,bE]
  omega
end LJ
namespace L2
open PySem PySem.Spec PyProof.Rows PySem.W
section
variable {X:Cx}
end
variable [aI] {X:Cx}
end L2
namespace LJ
open PySem L2
variable [aI]
noncomputable def a_ (fs:List Int) (x:Int):Nat:=fs.countP fun y=>decide (y=x)
theorem Ir (fs:List Int) (x:Int):(fs.map D.int).countP (fun e=>aA e (.int x))=a_ fs x:=by
 unfold a_
 rw[q0o]
 refine List.countP_congr fun y _ => ?_
 show aA (.int y) (.int x)=true↔_
 rw[rG]
theorem CH:∀ fs:List Int,(fs.map D.int).all bM.dI=true
 | []=>rfl
 | _ :: r=>by rw[Wb,YK,CH r];rfl
noncomputable def dY (fs:List Int) (x:Int):LK:=[(a_ fs x:Int),-x]
noncomputable def rH:GD:=fun ys ovs K=>∃ (fs:List Int) (i j:Nat),ys=[.p (bE fs),.p (.int i),.p (.int j)]/\ovs=[]/\i < fs.length/\j < fs.length/\fs.length <= 12 ∧
 ∀ p q,((p=fs.getD i 0/\q=fs.getD j 0)\/(p=fs.getD j 0/\q=fs.getD i 0))->a_ fs p <= a_ fs q->kle (dY fs p) (dY fs q)->K (.p (bE (cJ p q fs))) []
noncomputable def CI:WS:=(au (aG 3 (Ct (du (ao (d2 (aa 0) (aa 1) aP) (ao (d2 (aa 0) (aa 2) aP) ak))) [some 0] (e_ (ao (jd (aa 1) (ao (aa 0) ak) bM) (ao (d1 (aa 0) nX) ak))))) (aX (fA (cg (aa 0)) [none,some 3] (bA 0) cy (nL (dT (d2 (aa 0) (d2 (aa 1) (dC (.int 0)) aP) oEq)) (d2 (aa 1) (dC (.int 1)) aP) (aa 0)))))
theorem RE:∀ ys ovs K',ys.length=3->rH ys ovs K'->CI (dz ovs.length K') ⟨ys.map some ++ List.replicate 1 none,ovs.map some⟩:=by
 rintro ys ovs K' - ⟨fs,i,j,rfl,rfl,hi,hj,HL,k⟩
 unfold CI bE
 refine aZ fun N hN => ?_
 have ai:=j2 (ns:=fs) (i:=i) hi
 have aj:=j2 (ns:=fs) (i:=j) hj
 simp? only [Ct,ai,aj,sortBy]
 refine⟨fun d=>match d with
  | .int x=>[(a_ fs x:Int),-x]
  | _=>[],fun d hd => ?_,fun out pm pw => ?_⟩
 ·obtain⟨x,rfl⟩:∃ x,d = .int x:=by
   rcases Fo.mp hd with e | e
   ·exact⟨_,e⟩
   ·exact⟨_,Wc.mp e⟩
  refine⟨(by intro z;cases z),?_⟩
  simp? only [jd,bM,CH,Ir,bM.dI]
  rfl
 ·obtain⟨ns,rfl,pn⟩:=Rm (l:=[fs.getD i 0,fs.getD j 0]) pm
  have hl:=pn.length_eq
  match ns,hl,pn,pw with
  | [p,q],_,pn,pw =>
   have c:(p=fs.getD i 0/\q=fs.getD j 0)\/(p=fs.getD j 0/\q=fs.getD i 0):=by
    rcases Fo.mp (pn.mem_iff.mp (Mz (a:=p) (l:=[q]))) with e | e
    ·subst e
     exact .inl ⟨rfl,by simpa using pn.cons_inv.mem_iff.mp (Wc.mpr rfl)⟩
    ·have e:p=fs.getD j 0:=Wc.mp e
     have p2:=pn.trans (List.Perm.swap (fs.getD j 0) (fs.getD i 0) [])
     subst e
     exact .inr ⟨rfl,by simpa using p2.cons_inv.mem_iff.mp (Wc.mpr rfl)⟩
   have kl:kle (dY fs p) (dY fs q):=(Xe.mp pw).1 [(a_ fs q:Int),-q] (by simp)
   have le:a_ fs p <= a_ fs q:=by
    have h:=kl
    have h:HT.lexLt [(a_ fs q:Int),-q] [(a_ fs p:Int),-p]=false:=h
    rw[HT.mx] at h
    split at h
    ·omega
    ·have:=YS h;omega
   subst hN
   have a0:dF [D.int p,D.int q] 0=some (.int p):=gU
   have a1:dF [D.int p,D.int q] 1=some (.int q):=jX
   simp? only []
   refine jD (fun d=>match d with
    | .int x => .int (if x=p then q else x)
    | _ => .non) (by rw[qx];omega) trivial ?_ ?_
   ·intro d hd acc L ha h
    obtain⟨x,hx,rfl⟩:=Wg.mp hd
    simp? only [a0,a1]
    rw[rG]
    by_cases e:x=p
    ·rw[V_ e]
     simp? only []
     refine⟨ha,?_⟩
     dsimp only at h
     rw[MD e] at h
     exact h
    ·rw[We e]
     simp? only []
     refine⟨ha,?_⟩
     dsimp only at h
     rw[MA e] at h
     exact h
   ·have e:(fs.map D.int).map (fun d=>match d with
     | .int x => .int (if x=p then q else x)
     | _ => .non)=(cJ p q fs).map D.int:=by
     unfold cJ
     rw[Wt,Wt];rfl
    rw[e]
    exact jg (k p q c le kl)
theorem CJ {p q:Int} (ne:p≠q):∀ fs:List Int,a_ (cJ p q fs) q=a_ fs p + a_ fs q
 | []=>rfl
 | x :: r=>by
  have ih:=CJ ne r
  unfold a_ cJ at ih ⊢
  rw[Wb,WB,WB,WB,ih]
  by_cases c1:x=p
  ·subst c1;simp[ne];omega
  ·by_cases c2:x=q
   ·subst c2;simp[c1];omega
   ·simp[c1,c2]
theorem Iu {p q r:Int} (h1:r≠p) (h2:r≠q):∀ fs:List Int,a_ (cJ p q fs) r=a_ fs r
 | []=>rfl
 | x :: t=>by
  have ih:=Iu h1 h2 t
  unfold a_ cJ at ih ⊢
  rw[Wb,WB,WB,ih]
  by_cases c1:x=p
  ·subst c1;simp[XA h1,XA h2]
  ·simp[c1]
noncomputable def gv (fs gs tk:List Int):List Int:=(List.range fs.length).map fun h=>if fs.getD h 0=gs.getD h 0 then tk.getD h 0 else tk.getD h 0 + 1
theorem mQ {p q:Int} {fs:List Int} {h:Nat} (hl:h < fs.length):(cJ p q fs).getD h 0=if fs.getD h 0=p then q else fs.getD h 0:=by
 unfold cJ
 rw[wF,Fl,qv hl,wF,qv hl];rfl
theorem CK {fs gs tk:List Int} {h:Nat} (hl:h < fs.length):(gv fs gs tk).getD h 0=if fs.getD h 0=gs.getD h 0 then tk.getD h 0 else tk.getD h 0 + 1:=by
 unfold gv
 rw[wF,Fl,WH hl];rfl
theorem Iv {p q:Int} (ne:p≠q):∀ (fs tk:List Int),tk.length=fs.length->(gv fs (cJ p q fs) tk).sum=tk.sum + a_ fs p
 | [],[],_=>rfl
 | [],_ :: _,h=>by simp at h
 | _ :: _,[],h=>by simp at h
 | x :: fs,t :: tk,h=>by
  have ih:=Iv ne fs tk (by simpa using h)
  have e:gv (x :: fs) (cJ p q (x :: fs)) (t :: tk)=(if x=(if x=p then q else x) then t else t + 1) :: gv fs (cJ p q fs) tk:=by
   unfold gv cJ
   rw[Fm,List.range_succ_eq_map,Wb,Wt,Wb]
   rfl
  rw[e,List.sum_cons,ih,List.sum_cons]
  unfold a_
  rw[WB]
  by_cases c:x=p
  ·subst c
   rw[MD rfl,MA ne]
   simp;omega
  ·rw[MA c,MD rfl]
   simp[c];omega
theorem Iw {n:Nat} {fs:List Int} {S:Wy->Prop} (M:bF n fs S) {h:Nat} (hh:h < n):a_ fs (fs.getD h 0)=(cls n S h).length:=by
 have e:cls n S h=(bO n).filter fun x=>decide (fs.getD x.toNat 0=fs.getD h 0):=by
  refine Io (RD _ _ _) ((Ip n).filter _) fun x => ?_
  rw[RC,Yu,ft,Xs]
  constructor
  ·rintro ⟨hx,c⟩
   obtain⟨k,rfl⟩:∃ k:Nat,x=k:=⟨x.toNat,by omega⟩
   exact⟨hx,by rw[V7];exact ((M.2 h k hh (by omega)).mpr c).symm⟩
  ·rintro ⟨hx,c⟩
   obtain⟨k,rfl⟩:∃ k:Nat,x=k:=⟨x.toNat,by omega⟩
   rw[V7] at c
   exact⟨hx,(M.2 h k hh (by omega)).mp c.symm⟩
 rw[e,<-List.countP_eq_length_filter]
 have hf:fs=(bO n).map fun x=>fs.getD x.toNat 0:=by
  refine List.ext_getElem (by rw[qx,Il,M.1]) fun i h1 h2 => ?_
  rw[X7]
  unfold bO
  rw[X7,List.getElem_range,V7,wF,qv h1];rfl
 unfold a_
 generalize fs.getD h 0=z
 conv=>lhs;rw[hf]
 rw[q0o];rfl
noncomputable def yo (n:Nat) (ws:List Wy) (ns:List Int) (k:Nat):Int:=min ((cls n (jk ws (ns.take k)) (aV ws (ns.getD k 0)).1).length:Int) ((cls n (jk ws (ns.take k)) (aV ws (ns.getD k 0)).2.1).length:Int)
noncomputable def Joins (ws:List Wy) (ns:List Int):Prop:=∀ k,k < ns.length->¬ aQ (jk ws (ns.take k)) (aV ws (ns.getD k 0)).1 (aV ws (ns.getD k 0)).2.1
structure bz (m:Int) (ws:List Wy) (ns:List Int) (k:Nat) (fs tk:List Int):Prop where
 mo:bF m.toNat fs (jk ws (ns.take k))
 own:∀ h,h < m.toNat->(0 <= fs.getD h 0/\fs.getD h 0 < m)/\fs.getD (fs.getD h 0).toNat 0=fs.getD h 0
 tl:tk.length=m.toNat
 pw:∀ h,h < m.toNat->(0 <= tk.getD h 0/\tk.getD h 0 <= k)/\2 ^ (tk.getD h 0).toNat <= a_ fs (fs.getD h 0)
 sum:tk.sum=((List.range k).map (yo m.toNat ws ns)).sum
theorem bz.step {m:Int} {ws:List Wy} (W:gb m ws) {ns:List Int} (hn:Nums ws ns) (J:Joins ws ns) {k:Nat} (hk:k < ns.length) {fs tk:List Int} (M:bz m ws ns k fs tk) {i j:Nat} (e1:(aV ws (ns.getD k 0)).1=i) (e2:(aV ws (ns.getD k 0)).2.1=j) (hi:i < m.toNat) (hj:j < m.toNat) :
  fs.getD i 0≠fs.getD j 0/\∀ p q,((p=fs.getD i 0/\q=fs.getD j 0)\/(p=fs.getD j 0/\q=fs.getD i 0))->a_ fs p <= a_ fs q->bz m ws ns (k + 1) (cJ p q fs) (gv fs (cJ p q fs) tk):=by
 have hl:=M.mo.1
 have ne:fs.getD i 0≠fs.getD j 0:=fun e=>J k hk (by rw[e1,e2];exact (M.mo.2 i j hi hj).mp e)
 refine⟨ne,fun p q pq le => ?_⟩
 have vV:p≠q:=by
  rcases pq with⟨rfl,rfl⟩ | ⟨rfl,rfl⟩
  ·exact ne
  ·exact XA ne
 have et:ns.take (k + 1)=ns.take k ++ [ns.getD k 0]:=by
  rw[Xu,qv hk,wF,qv hk];rfl
 have ck:a_ fs p=(yo m.toNat ws ns k).toNat/\0 <= yo m.toNat ws ns k:=by
  unfold yo
  rw[e1,e2,<-Iw M.mo hi,<-Iw M.mo hj]
  rcases pq with⟨rfl,rfl⟩ | ⟨rfl,rfl⟩<;>omega
 refine⟨?_,fun h hh => ?_,by unfold gv;rw[qx,Ws,hl],fun h hh => ?_,?_⟩
 ·refine bF.join (w:=aV ws (ns.getD k 0)) M.mo hi hj e1 e2 (fun v => ?_) pq
  rw[et]
  unfold jk
  constructor
  ·rintro ⟨x,hx,rfl⟩
   rcases W7.mp hx with z | z
   ·exact .inl ⟨x,z,rfl⟩
   ·rw[Wc.mp z];exact .inr rfl
  ·rintro (⟨x,hx,rfl⟩ | rfl)
   ·exact⟨x,WZ _ hx,rfl⟩
   ·exact⟨_,V9 _ (Wc.mpr rfl),rfl⟩
 ·have qo:(0 <= q/\q < m)/\fs.getD q.toNat 0=q:=by
   rcases pq with⟨rfl,rfl⟩ | ⟨rfl,rfl⟩
   ·exact M.own j hj
   ·exact M.own i hi
  have ho:=M.own h hh
  rw[mQ (by omega)]
  by_cases c:fs.getD h 0=p
  ·rw[MD c]
   refine⟨qo.1,?_⟩
   rw[mQ (by omega),qo.2,MA (XA vV)]
  ·rw[MA c]
   refine⟨ho.1,?_⟩
   rw[mQ (by omega),ho.2,MA c]
 ·have hp:=M.pw h hh
  rw[CK (by omega),mQ (by omega)]
  by_cases c:fs.getD h 0=p
  ·rw[MD c,c,MA vV,CJ vV]
   rw[c] at hp
   refine⟨by omega,?_⟩
   have:(tk.getD h 0 + 1).toNat=(tk.getD h 0).toNat + 1:=by omega
   rw[this,Nat.pow_succ]
   omega
  ·rw[MA c,MD rfl]
   refine⟨by omega,?_⟩
   by_cases d:fs.getD h 0=q
   ·rw[d,CJ vV]
    rw[d] at hp
    omega
   ·rw[Iu c d]
    exact hp.2
 ·rw[Iv vV fs tk (by rw[M.tl,hl]),M.sum,List.range_succ,WD,List.sum_append]
  simp only[Wb,X1,List.sum_cons,List.sum_nil]
  omega
theorem CL (n:Nat):(List.replicate n [D.int 0]).flatten=(List.replicate n (0:Int)).map D.int:=by
 induction n with
 | zero=>rfl
 | succ n ih=>rw[WV,WV,XY,Wb,ih];rfl
theorem yp {m:Int} {ws:List Wy} (W:gb m ws) (ns:List Int):bz m ws ns 0 (bO m.toNat) (List.replicate m.toNat 0):=by
 have m1:=W.m1
 have e:jk ws (ns.take 0)=fun _=>False:=funext fun v=>propext (by unfold jk;simp)
 have r0:∀ h,h < m.toNat->(List.replicate m.toNat (0:Int)).getD h 0=0:=fun h hh=>by
  rw[wF,XX,MD hh];rfl
 refine⟨by rw[e];exact bF.start _,fun h hh => ?_,by simp,fun h hh => ?_,?_⟩
 ·rw[sT hh]
  refine⟨by omega,?_⟩
  rw[V7,sT hh]
 ·rw[r0 h hh]
  refine⟨by omega,?_⟩
  show 1 <= a_ _ _
  unfold a_
  refine List.countP_pos_iff.mpr ⟨(h:Int),ft.mpr (by omega),?_⟩
  rw[sT hh];simp
 ·simp
noncomputable def CM (fs:List Int) (a b:Int):Int × Int:=if HT.lexLt (dY fs b) (dY fs a)=true then (b,a) else (a,b)
theorem Iy {fs:List Int} {a b p q:Int} (ne:a≠b) (pq:(p=a/\q=b)\/(p=b/\q=a)) (h:kle (dY fs p) (dY fs q)):CM fs a b=(p,q):=by
 unfold CM
 rcases pq with⟨rfl,rfl⟩ | ⟨rfl,rfl⟩
 ·unfold kle at h
  rw[h];rfl
 ·cases z:HT.lexLt (dY fs p) (dY fs q) with
  | true=>rfl
  | false =>
   have:=G2 h z
   unfold dY at this
   simp only[List.cons.injEq,and_true] at this
   exact absurd (by omega) ne
noncomputable def vW (ws:List Wy) (st:List Int × List Int) (n:Int):List Int × List Int :=
 let pq:=CM st.1 (st.1.getD (aV ws n).1.toNat 0) (st.1.getD (aV ws n).2.1.toNat 0)
 (cJ pq.1 pq.2 st.1,gv st.1 (cJ pq.1 pq.2 st.1) st.2)
noncomputable def bw (m:Int) (ws:List Wy) (ns:List Int) (k:Nat):List Int × List Int:=(ns.take k).foldl (vW ws) (bO m.toNat,List.replicate m.toNat 0)
theorem CN {m:Int} {ws:List Wy} {ns:List Int} {k:Nat} {n:Int} (h:ns[k]? = some n):bw m ws ns (k + 1)=vW ws (bw m ws ns k) n:=by
 unfold bw
 rw[Xu,h,Z4]
 rfl
noncomputable def Zero (n:Nat) (fs tk:List Int):Prop:=∀ h,h < n->tk.getD (fs.getD h 0).toNat 0=0/\(tk.getD h 0=0->fs.getD h 0=h)
theorem Iz (n:Nat):Zero n (bO n) (List.replicate n 0):=fun h hh=>by
 rw[sT hh,V7]
 exact⟨by rw[wF,XX,MD hh];rfl,fun _=>rfl⟩
theorem RF {m:Int} {ws:List Wy} {ns:List Int} {k:Nat} {fs tk:List Int} (M:bz m ws ns k fs tk) (Z:Zero m.toNat fs tk) {p q:Int} (ne:p≠q) (hq:∃ h,h < m.toNat/\fs.getD h 0=q):Zero m.toNat (cJ p q fs) (gv fs (cJ p q fs) tk):=fun h hh=>by
 have fl:=M.mo.1
 have hf:h < fs.length:=by omega
 obtain⟨h0,Ck,IA⟩:=hq
 have fJ:∀ x,x < m.toNat->fs.getD x 0≠p->(gv fs (cJ p q fs) tk).getD (fs.getD x 0).toNat 0=0:=fun x hx nx=>by
  have o:=M.own x hx
  have r:(fs.getD x 0).toNat < fs.length:=by omega
  rw[CK r,mQ r,o.2,MA nx,MD rfl]
  exact (Z x hx).1
 rw[mQ hf]
 refine⟨?_,?_⟩
 ·by_cases c:fs.getD h 0=p
  ·rw[MD c]
   have:=fJ h0 Ck (by rw[IA];exact ne.symm)
   rw[IA] at this
   exact this
  ·rw[MA c]
   exact fJ h hh c
 ·rw[CK hf,mQ hf]
  intro z
  by_cases c:fs.getD h 0=p
  ·rw[MD c,MA (by rw[c];exact ne)] at z
   have:=(M.pw h hh).1.1
   omega
  ·rw[MA c,MD rfl] at z
   rw[MA c]
   exact (Z h hh).2 z
theorem RG {m:Int} {ws:List Wy} {ns:List Int} {k:Nat} {fs tk:List Int} (M:bz m ws ns k fs tk) (Z:Zero m.toNat fs tk) (m2:2 <= m):fs≠tk:=fun e=>by
 have r0:∀ h,h < m.toNat->fs.getD h 0=0:=fun h hh=>by
  have o:=M.own h hh
  have z:=(Z h hh).1
  rw[<-e,o.2] at z
  exact z
 have h1:=r0 1 (by omega)
 have:=(Z 1 (by omega)).2 (by rw[<-e];exact h1)
 omega
noncomputable def vX:GD:=fun ys ovs K=>∃ (m:Int) (ws:List (Int × Int × Int)) (ns:List Int),gb m ws/\Nums ws ns/\ns.Nodup/\ns.length <= 900/\Joins ws ns/\ys=[.p (bu m ws),.p (bE ns)]/\ovs=[]/\∀ fs tk,bz m ws ns ns.length fs tk->(fs,tk)=bw m ws ns ns.length->Zero m.toNat fs tk->K (.p (.tup [bE fs,bE tk])) []
noncomputable def CO:WS:=(au (mF (ax 2 rF (ao (aa 0) (ao (aa 1) ak)))) (au (aG 2 (u7 (ao (d2 (aa 0) (dC (.int 0)) aP) ak))) (au (aG 3 (d2 (du (ao (dC (.int 0)) ak)) (d2 (aa 0) (dC (.int 0)) aP) eF)) (au (cx (eD (ao (aa 1) ak)) (hX 2 (dG (bA 4) (dG (bA 5) gP))) (au (aG 6 (d2 (d2 (aa 0) (dC (.int 1)) aP) (aa 5) aP)) (au (bP (dT (d2 (d2 (aa 2) (d2 (aa 6) (dC (.int 0)) aP) aP) (d2 (aa 2) (d2 (aa 6) (dC (.int 1)) aP) aP) oEq)) pA eW) (au (aG 7 (ax 3 rH (ao (aa 2) (ao (d2 (aa 6) (dC (.int 0)) aP) (ao (d2 (aa 6) (dC (.int 1)) aP) ak))))) (au (aG 3 (fA (eD (ao (aa 7) ak)) [none,none,some 3,some 2] (hX 2 (dG (bA 0) (dG (bA 1) gP))) cy (nL (dT (d2 (d2 (aa 3) (aa 0) aP) (aa 1) oEq)) (d2 (aa 2) (aa 0) aP) (d2 (d2 (aa 2) (aa 0) aP) (dC (.int 1)) dU)))) (aG 2 (aa 7))))))) (aX (e_ (ao (aa 2) (ao (aa 3) ak))))))))
theorem RH:∀ ys ovs K',ys.length=2->vX ys ovs K'->CO (dz ovs.length K') ⟨ys.map some ++ List.replicate 6 none,ovs.map some⟩:=by
 rintro ys ovs K' - ⟨m,ws,ns,W,hn,nd,hl,J,rfl,rfl,k⟩
 have m1:=W.m1
 have jy:=W.jy
 unfold CO
 refine aZ fun N hN => ?_
 simp? only []
 refine⟨m,ws,ns,W,hn,nd,hl,rfl,rfl,?_⟩
 show N _
 subst hN
 refine aZ fun N hN => ?_
 simp? only [gU,bu]
 refine⟨⟨by omega,by omega⟩,?_⟩
 rw[nZ]
 subst hN
 refine aZ fun N hN => ?_
 simp? only [gU]
 refine⟨⟨by omega,by omega,by omega⟩,?_⟩
 rw[CL]
 subst hN
 refine aZ fun N hN => ?_
 have il:∀ (j:Nat) (d:D),(i9 0 (ns.map D.int))[j]? = some d->∃ n:Int,ns[j]? = some n/\d=D.tup [.int (j:Int),.int n]:=fun j d hd=>by
  obtain⟨e,h1,h2⟩:=pD hd
  rw[Fl] at h1
  obtain⟨n,h3,rfl⟩:=Vu.mp h1
  exact⟨n,h3,by rw[h2,Wv]⟩
 rw[show bE ns = .lst (ns.map D.int) from rfl]
 simp only[cx,eD,ao,aa,ak,Xz,W_,jV]
 refine kA (fun i δ => ∃ fs tk,bz m ws ns i fs tk/\(fs,tk)=bw m ws ns i/\Zero m.toNat fs tk /\ δ = ⟨[some (.p (.tup [.int m,.tup (ws.map cF)])),some (.p (.lst (ns.map D.int))),some (.p (.lst (fs.map D.int))),some (.p (.lst (tk.map D.int))),none,none,none,none],[]⟩) ⟨_,_,yp W ns,rfl,Iz _,rfl⟩ ?_ ?_
 ·rintro j d δ L hj ⟨fs,tk,M,em,Z,rfl⟩ hL
  obtain⟨n,iH,rfl⟩:=il j d hj
  have sM:=(su.mp iH).1
  have en:ns.getD j 0=n:=by rw[wF,iH];rfl
  obtain⟨n0,n1⟩:=hn n (Wk iH)
  obtain⟨y,ey,hy,ea,i,k2,e1,e2,h1,h2,_⟩:=vH W n0 n1
  have fl:=M.mo.1
  obtain⟨ne,st⟩:=M.step W hn J sM (i:=i) (j:=k2) (by rw[en];unfold aV;rw[ey];exact e1) (by rw[en];unfold aV;rw[ey];exact e2) h1 h2
  have ai:=j2 (ns:=fs) (i:=i) (by omega)
  have aj:=j2 (ns:=fs) (i:=k2) (by omega)
  refine⟨trivial,?_⟩
  simp only[hX,dG,gP,bA,fM,WM,WN,Fm,X0]
  refine⟨trivial,?_⟩
  refine aZ fun N2 dW => ?_
  simp? only [jX,ea]
  subst dW
  refine aZ fun N2 dW => ?_
  simp? only [cF,gU,jX,e1,e2,ai,aj]
  rw[rG,We ne]
  simp? only []
  subst dW
  refine aZ fun N2 dW => ?_
  simp? only [gU,jX,e1,e2]
  refine⟨fs,i,k2,rfl,rfl,by omega,by omega,by omega,fun p q pq le kl => ?_⟩
  have M2:=st p q pq le
  have pe:=Iy ne pq kl
  have Z2:Zero m.toNat (cJ p q fs) (gv fs (cJ p q fs) tk):=RF M Z (by rcases pq with⟨rfl,rfl⟩ | ⟨rfl,rfl⟩;exact ne;exact ne.symm) (by rcases pq with⟨_,rfl⟩ | ⟨_,rfl⟩;exact⟨k2,h2,rfl⟩;exact⟨i,h1,rfl⟩)
  have yq:(cJ p q fs,gv fs (cJ p q fs) tk)=bw m ws ns (j + 1):=by
   rw[CN iH,<-em]
   have x1:(aV ws n).1.toNat=i:=by unfold aV;rw[ey,e1];rfl
   have x2:(aV ws n).2.1.toNat=k2:=by unfold aV;rw[ey,e2];rfl
   unfold vW
   dsimp only
   rw[x1,x2,pe]
  show N2 _
  subst dW
  have gl:(cJ p q fs).length=fs.length:=by unfold cJ;rw[qx]
  have mj:∀ (h:Nat),h < fs.length->dF (fs.map D.int) (h:Int)=some (.int (fs.getD h 0)):=fun h hh=>j2 hh
  have tj:∀ (h:Nat),h < fs.length->dF (tk.map D.int) (h:Int)=some (.int (tk.getD h 0)):=fun h hh=>j2 (by rw[M.tl,<-fl];exact hh)
  have gd:∀ (h:Nat) (x:Int),(cJ p q fs)[h]? = some x->(cJ p q fs).getD h 0=x:=fun h x e=>by rw[wF,e];rfl
  generalize cJ p q fs=gs at M2 gl gd yq Z2
  refine aZ fun N2 dW => ?_
  rw[show bE gs = .lst (gs.map D.int) from rfl]
  simp? only []
  refine jD (fun d=>match d with
   | .tup [.int h,.int x] => .int (if fs.getD h.toNat 0=x then tk.getD h.toNat 0 else tk.getD h.toNat 0 + 1)
   | _ => .non) (by rw[nV,qx];omega) trivial ?_ ?_
  ·intro d hd acc L' ha h
   obtain⟨z,hz⟩:=V0.mp hd
   obtain⟨e,z1,z2⟩:=pD hz
   rw[Fl] at z1
   obtain⟨x,z3,rfl⟩:=Vu.mp z1
   rw[Wv] at z2
   subst z2
   have zl:z < fs.length:=by rw[<-gl];exact (su.mp z3).1
   dsimp only at h
   rw[V7] at h
   simp? only [mj z zl,tj z zl]
   rw[rG]
   by_cases c:fs.getD z 0=x
   ·rw[V_ c]
    rw[MD c] at h
    simp? only []
    exact⟨ha,h⟩
   ·rw[We c]
    rw[MA c] at h
    simp? only []
    exact⟨ha,h⟩
  have et:(i9 0 (gs.map D.int)).map (fun d=>match d with
   | .tup [.int h,.int x] => .int (if fs.getD h.toNat 0=x then tk.getD h.toNat 0 else tk.getD h.toNat 0 + 1)
   | _ => .non)=(gv fs gs tk).map D.int:=by
   refine XE fun h => ?_
   rw[Fl,Fl]
   by_cases hh:h < fs.length
   ·have oT:h < (i9 0 (gs.map D.int)).length:=by rw[nV,qx,gl];exact hh
    obtain⟨e,z1,z2⟩:=pD (qv oT)
    rw[Fl] at z1
    obtain⟨x,z3,rfl⟩:=Vu.mp z1
    rw[Wv] at z2
    rw[qv oT,z2]
    have:(gv fs gs tk)[h]? = some (if fs.getD h 0=gs.getD h 0 then tk.getD h 0 else tk.getD h 0 + 1):=by
     unfold gv
     rw[Fl,WH hh];rfl
    rw[this,gd h x z3]
    simp only[YN,V7]
   ·rw[Ww (by rw[nV,qx,gl];omega),Ww (by unfold gv;rw[qx,Ws];omega)]
    rfl
  rw[et]
  subst dW
  simp? only []
  exact hL _ ⟨gs,gv fs gs tk,M2,yq,Z2,rfl⟩
 ·rintro δ ⟨fs,tk,M,em,Z,rfl⟩
  refine⟨trivial,?_⟩
  rw[nV,qx] at M em
  subst hN
  dsimp only
  simp? only []
  exact jg (k fs tk M em Z)
noncomputable def Indep (A:Wy->Prop):Prop:=∀ a,A a->¬ aQ (fun v=>A v/\v≠a) a.1 a.2.1
omit [aI] in
theorem Indep.add {A B:Wy->Prop} {w:Wy} (h:Indep A) (k:∀ v,B v↔A v\/v=w) (n:¬ aQ A w.1 w.2.1):Indep B:=by
 intro a ha c
 rcases (k a).mp ha with ha | rfl
 ·have aw:a≠w:=fun e=>n (by rw[<-e];exact .one ha)
  have c':aQ (fun v=>(A v/\v≠a)\/v=w) a.1 a.2.1:=c.mono fun v hv=>by
   rcases (k v).mp hv.1 with z | z
   ·exact .inl ⟨z,hv.2⟩
   ·exact .inr z
  have m:∀ {x y:Int},aQ (fun v=>A v/\v≠a) x y->aQ A x y:=fun z=>z.mono fun v hv=>hv.1
  rcases (aQ.add fun v=>Iff.rfl).mp c' with z | ⟨z1,z2⟩ | ⟨z1,z2⟩
  ·exact h a ha z
  ·exact n (((m z1).symm.trans (.one ha)).trans (m z2).symm)
  ·exact n (((m z2).trans (aQ.one ha).symm).trans (m z1))
 ·exact n (c.mono fun v hv=>by
   rcases (k v).mp hv.1 with z | z
   ·exact z
   ·exact absurd z hv.2)
theorem RI {m:Int} {ws:List Wy} (W:gb m ws) {a b:Int} (ha:0 <= a/\a < (ws.length:Int)) (hb:0 <= b/\b < (ws.length:Int)) (e:aV ws a=aV ws b):a=b:=by
 have nd:=Rz W
 unfold aV at e
 have h1:a.toNat < ws.length:=by omega
 have h2:b.toNat < ws.length:=by omega
 rw[wF,wF,qv h1,qv h2] at e
 have:=(YE (h₀ := h1) (h₁ := h2) nd).mp (by simpa using e)
 omega
theorem RJ {m:Int} {ws:List Wy} (W:gb m ws) {A:Wy->Prop} (h:Indep A) {ns:List Int} (hn:Nums ws ns) (nd:ns.Nodup) (hA:∀ n∈ns,A (aV ws n)):Joins ws ns:=by
 intro k hk c
 have ek:ns.getD k 0=ns[k]:=by rw[wF,qv hk];rfl
 rw[ek] at c
 have hm:=XN hk
 refine h _ (hA _ hm) (c.mono fun v hv => ?_)
 obtain⟨x,hx,rfl⟩:=hv
 have kh:=Zt hx
 refine⟨hA x kh,fun e => ?_⟩
 have e2:=RI W (hn x kh) (hn _ hm) e
 obtain⟨i,hi,ei⟩:=Xa.mp hx
 rw[Wn] at hi
 rw[Y2] at ei
 have:=(YE (h₀ := by omega) (h₁ := hk) nd).mp (ei.trans e2)
 omega
theorem Joins.snoc {ws:List Wy} {ns:List Int} {n:Int} (J:Joins ws ns) (c:¬ aQ (jk ws ns) (aV ws n).1 (aV ws n).2.1):Joins ws (ns ++ [n]):=by
 intro k hk
 rw[Vw,Wx] at hk
 by_cases e:k < ns.length
 ·rw[List.take_append_of_le_length (by omega)]
  have:(ns ++ [n]).getD k 0=ns.getD k 0:=by rw[wF,wF,Vz e]
  rw[this]
  exact J k e
 ·have e:k=ns.length:=by omega
  subst e
  have:(ns ++ [n]).getD ns.length 0=n:=by rw[wF,VZ (wG _),W6];rfl
  rw[this,List.take_left]
  exact c
theorem RK {m:Int} {ws:List Wy} (W:gb m ws) {ns:List Int} (hn:Nums ws ns) {n:Int} (h0:0 <= n) (h1:n < (ws.length:Int)) (c:aQ (jk ws ns) (aV ws n).1 (aV ws n).2.1):gW m ws (ns ++ [n])=gW m ws ns:=by
 obtain⟨i,k,e,e1,e2,l1,l2⟩:=CG W h0 h1
 have M:=RA W hn
 rw[e1,e2] at c
 have eq:=(M.2 i k l1 l2).mpr c
 have st:∀ fs:List Int,fs.getD i 0=fs.getD k 0->jF fs i k=fs:=fun fs e=>by
  unfold jF
  rw[e]
  refine (XG fun x _ => ?_).trans (Z3 _)
  show (if x=max _ _ then min _ _ else x)=x
  split<;>omega
 have e3:gW m ws (ns ++ [n])=jF (gW m ws ns) i k:=by
  unfold gW jG
  rw[Z4]
  show jF _ (fO ws n).1 (fO ws n).2=_
  rw[e]
 rw[e3,st _ eq]
noncomputable def vY:GD:=fun ys ovs K=>∃ (n m:Int) (ws:List (Int × Int × Int)) (o:OV),gb m ws/\ys=[.o 0,.p (bu m ws)]/\ovs=[o]/\bg n o/\n + 100 < 2 ^ 30 ∧
 ∀ us o',Nums ws us->us.Nodup->us.length <= 30->Joins ws us->bg (n + 31) o'->K (.n (us.map D.int)) [o']
noncomputable def CP:WS:=(au (aG 2 (sD ak)) (au (cx (cg (ax 3 vK (ao (aa 0) (ao (aa 1) (ao (dC (.int 30)) ak))))) (bA 3) (bP (dT (d2 (ax 2 sQ (ao (aa 1) (ao (aa 2) ak))) (ax 2 sQ (ao (aa 1) (ao (d2 (aa 2) (du (ao (aa 3) ak)) dU) ak))) pG)) (mF (lL (aa 2) (ao (aa 3) ak))) eW)) (aX (aa 2))))
theorem RL:∀ ys ovs K',ys.length=2->vY ys ovs K'->CP (dz ovs.length K') ⟨ys.map some ++ List.replicate 2 none,ovs.map some⟩:=by
 rintro ys ovs K' - ⟨n,m,ws,o,W,rfl,rfl,P,hn,fin⟩
 have HS:=W.mf
 unfold CP
 refine aZ fun N hN => ?_
 simp? only []
 subst hN
 refine aZ fun N hN=>vt fun g' b' K2 hg d6 hK => ?_
 simp? only []
 refine⟨n,m,30,ws,o,W,rfl,rfl,P,hn,by omega,by omega,fun us o1 nu nd ul _ P1 => ?_⟩
 simp? only []
 subst hg d6 hK
 refine kA (fun i δ => ∃ fs:List Int,fs.Sublist (us.take i)/\Joins ws fs /\ δ = ⟨[some (.o 0),some (.p (bu m ws)),some (.o 1),none],[some o1,some (.lst (fs.map D.int))]⟩) ⟨[],List.nil_sublist _,fun k hk=>by simp at hk,rfl⟩ ?_ ?_
 ·rintro j d δ L hj ⟨fs,sub,J,rfl⟩ hL
  rw[Fl] at hj
  obtain⟨x,hx,rfl⟩:=Vu.mp hj
  have sM:=(su.mp hx).1
  have et:us.take (j + 1)=us.take j ++ [x]:=by rw[Xu,hx];rfl
  obtain⟨x0,x1⟩:=nu x (Wk hx)
  have fl:=sub.length_le
  rw[Wn] at fl
  have fu:Nums ws fs:=fun z hz=>nu z (Zt (sub.subset hz))
  have RM:Nums ws (fs ++ [x]):=fun z hz=>by
   rcases W7.mp hz with h | h
   ·exact fu z h
   ·rw[Wc.mp h];exact⟨x0,x1⟩
  refine⟨trivial,?_⟩
  simp only[bA,WM,WN]
  refine vq fun A1 B1 hA hB => ?_
  simp? only []
  refine⟨m,ws,fs,W,fu,.inr ⟨rfl,rfl,?_⟩⟩
  simp? only []
  refine⟨by omega,?_⟩
  rw[show fs.map D.int ++ [D.int x]=(fs ++ [x]).map D.int by rw[WD];rfl]
  refine⟨m,ws,fs ++ [x],W,RM,.inl ⟨rfl,rfl,?_⟩⟩
  simp only[nU,gj,fM,pG,qE]
  refine⟨by have:=Iq (pN (gW m ws fs));unfold sP;simp only[dep];omega,?_⟩
  cases q:aA (sP (pN (gW m ws fs))) (sP (pN (gW m ws (fs ++ [x])))) with
  | true =>
   simp? only []
   subst hB
   simp? only []
   exact hL _ ⟨fs,by rw[et];exact sub.trans (Z9 _ _),J,rfl⟩
  | false =>
   simp? only []
   subst hA
   have nc:¬ aQ (jk ws fs) (aV ws x).1 (aV ws x).2.1:=fun c=>by
    rw[RK W fu x0 x1 c,gH] at q;cases q
   simp? only []
   refine⟨by omega,hL _ ⟨fs ++ [x],by rw[et];exact sub.append (Z1 _),J.snoc nc,?_⟩⟩
   rw[WD];rfl
 ·rintro δ ⟨fs,sub,J,rfl⟩
  refine⟨trivial,?_⟩
  rw[qx,Zm] at sub
  subst hN
  have fl:=sub.length_le
  simp? only []
  exact⟨[o1],rfl,rfl,.inl (fin fs o1 (fun z hz=>nu z (sub.subset hz)) (sub.nodup nd) (by omega) J P1)⟩
end LJ
namespace L2
open PySem PySem.Spec PyProof.Rows
noncomputable def oK:List D->(D->Prop)->Prop
 | [.bl b],K=>K (.int (if b then 1 else 0))
 | _,_=>False
variable [aI] {X:Cx}
theorem RN:dH X (.type "int") oK:=by
 rintro pins s σ H xs us Q I r ⟨F,ds,K,sub,rd,q,md⟩
 unfold oK at q
 split at q
 ·rename_i b
  obtain⟨v,rfl,rfl⟩:=cR rd
  obtain⟨u,rfl,rx⟩:=vals1 r
  cases rx
  refine call_int_bool ⟨.int (if b then 1 else 0),H,I.tok _,⟨_,rfl⟩,md _ _ _ q (fun _ _ e=>e) rfl⟩
 ·exact q.elim
end L2
namespace LJ
open PySem L2
variable [aI]
noncomputable def fw (fs:List Int) (x:Int):D := .tup [.int (a_ fs x:Nat),.int (0 - x),.int x]
noncomputable def oM:D->LK
 | .tup [.int a,.int b,.int c]=>[a,b,c]
 | _=>[]
noncomputable def sU:GD:=fun ys ovs K=>∃ (m:Int) (ws:List Wy) (ns:List Int),gb m ws/\Nums ws ns/\ns.Nodup/\ns.length <= 900/\Joins ws ns/\ys=[.p (bu m ws),.p (bE ns)]/\ovs=[]/\K (.p (.tup [bE (bw m ws ns ns.length).1,bE (bw m ws ns ns.length).2])) []
noncomputable def CQ:WS:=(au (aG 2 (u7 (ao (d2 (aa 0) (dC (.int 0)) aP) ak))) (au (aG 3 (d2 (du (ao (dC (.int 0)) ak)) (d2 (aa 0) (dC (.int 0)) aP) eF)) (au (cx (eD (ao (aa 1) ak)) (hX 2 (dG (bA 4) (dG (bA 5) gP))) (au (iZ (fA (cg (je (d2 (d2 (aa 0) (dC (.int 1)) aP) (aa 5) aP) ja (qS (dC (.int 2))))) [none,some 2] (bA 0) cy (d2 (aa 1) (aa 0) aP)) (hX 2 (dG (bA 6) (dG (bA 7) gP)))) (au (bP (dT (d2 (aa 6) (aa 7) oEq)) (aX (du (ao (dC (.str "join")) (ao (aa 4) ak)))) eW) (au (iZ (dN (ao (du (ao (e_ (ao (jd (aa 2) (ao (aa 6) ak) bM) (ao (d2 (dC (.int 0)) (aa 6) (oI fun i j => .int (i - j))) (ao (aa 6) ak)))) (ao (e_ (ao (jd (aa 2) (ao (aa 7) ak) bM) (ao (d2 (dC (.int 0)) (aa 7) (oI fun i j => .int (i - j))) (ao (aa 7) ak)))) ak))) ak) yj) (hX 2 (dG (bA 8) (dG (bA 9) gP)))) (au (aG 3 (fA (jW (ao (d2 (aa 0) (dC (.int 0)) aP) ak)) [none,some 3,some 2,some 8] (bA 0) cy (d2 (d2 (aa 1) (aa 0) aP) (dN (ao (d2 (d2 (aa 2) (aa 0) aP) (d2 (aa 3) (dC (.int 2)) aP) oEq) ak) oK) dU))) (aG 2 (fA (cg (aa 2)) [none,some 9,some 8] (bA 0) cy (nL (dT (d2 (aa 0) (d2 (aa 2) (dC (.int 2)) aP) oEq)) (d2 (aa 1) (dC (.int 2)) aP) (aa 0))))))))) (aX (e_ (ao (aa 2) (ao (aa 3) ak)))))))
theorem RO:∀ ys ovs K',ys.length=2->sU ys ovs K'->CQ (dz ovs.length K') ⟨ys.map some ++ List.replicate 8 none,ovs.map some⟩:=by
 rintro ys ovs K' - ⟨m,ws,ns,W,hn,nd,hl,J,rfl,rfl,k⟩
 have m1:=W.m1
 have jy:=W.jy
 unfold CQ
 refine aZ fun N hN => ?_
 simp? only [gU,bu]
 refine⟨⟨by omega,by omega⟩,?_⟩
 rw[nZ]
 subst hN
 refine aZ fun N hN => ?_
 simp? only [gU]
 refine⟨⟨by omega,by omega,by omega⟩,?_⟩
 rw[CL]
 subst hN
 refine aZ fun N hN => ?_
 have il:∀ (j:Nat) (d:D),(i9 0 (ns.map D.int))[j]? = some d->∃ n:Int,ns[j]? = some n/\d=D.tup [.int (j:Int),.int n]:=fun j d hd=>by
  obtain⟨e,h1,h2⟩:=pD hd
  rw[Fl] at h1
  obtain⟨n,h3,rfl⟩:=Vu.mp h1
  exact⟨n,h3,by rw[h2,Wv]⟩
 rw[show bE ns = .lst (ns.map D.int) from rfl]
 simp only[cx,eD,ao,aa,ak,Xz,W_,jV]
 refine kA (fun i δ => ∃ fs tk,bz m ws ns i fs tk/\(fs,tk)=bw m ws ns i /\ δ = ⟨[some (.p (.tup [.int m,.tup (ws.map cF)])),some (.p (.lst (ns.map D.int))),some (.p (.lst (fs.map D.int))),some (.p (.lst (tk.map D.int))),none,none,none,none,none,none],[]⟩) ⟨_,_,yp W ns,rfl,rfl⟩ ?_ ?_
 ·rintro j d δ L hj ⟨fs,tk,M,em,rfl⟩ hL
  obtain⟨n,iH,rfl⟩:=il j d hj
  have sM:=(su.mp iH).1
  have en:ns.getD j 0=n:=by rw[wF,iH];rfl
  obtain⟨n0,n1⟩:=hn n (Wk iH)
  obtain⟨y,ey,hy,ea,i,k2,e1,e2,h1,h2,_⟩:=vH W n0 n1
  have fl:=M.mo.1
  obtain⟨ne,st⟩:=M.step W hn J sM (i:=i) (j:=k2) (by rw[en];unfold aV;rw[ey];exact e1) (by rw[en];unfold aV;rw[ey];exact e2) h1 h2
  have a1:=j2 (ns:=fs) (i:=i) (by omega)
  have a2:=j2 (ns:=fs) (i:=k2) (by omega)
  refine⟨trivial,?_⟩
  simp only[hX,dG,gP,bA,fM,WM,WN,Fm,X0]
  refine⟨trivial,?_⟩
  refine aZ fun N2 dW => ?_
  have ec:cutD [D.int y.1,D.int y.2.1,D.int y.2.2] none (some 2)=[D.int i,D.int k2]:=by rw[<-e1,<-e2];rfl
  simp? only [jX,ea,cF,ec]
  refine L2.jD (fun d=>match d with
   | .int z => .int (fs.getD z.toNat 0)
   | _ => .non) (by show 2 <= 1000;decide) trivial ?_ ?_
  ·intro d hd acc L' ha h'
   simp only[Fo,Wd,Xr] at hd
   rcases hd with rfl | rfl
   ·simp? only [a1]
    simp only[V7] at h'
    exact⟨ha,h'⟩
   ·simp? only [a2]
    simp only[V7] at h'
    exact⟨ha,h'⟩
  simp? only [V7]
  generalize hp:fs.getD i 0=pa at ne st
  generalize hq:fs.getD k2 0=pb at ne st
  subst dW
  refine aZ fun N2 dW => ?_
  refine vq fun Ay Bn hA hB => ?_
  simp? only []
  rw[rG,We ne]
  simp? only []
  subst hB
  show N2 _
  subst dW
  refine aZ fun N2 dW => ?_
  simp? only [jd,rV,bM,CH,Ir,bM.dI,yj]
  refine⟨oM,.inl fun d hd => ?_,fun out pm pw => ?_⟩
  ·rcases Fo.mp hd with rfl | hd
   ·exact⟨(by intro z;cases z),rfl⟩
   ·rw[Wc.mp hd];exact⟨(by intro z;cases z),rfl⟩
  obtain⟨p,q,rfl,pq,kl⟩:∃ p q,out=[fw fs p,fw fs q]/\((p=pa/\q=pb)\/(p=pb/\q=pa))/\kle (dY fs p) (dY fs q):=by
   obtain⟨u,r,rfl⟩:=List.exists_cons_of_length_eq_add_one pm.length_eq
   obtain⟨v,rfl⟩:=List.length_eq_one_iff.mp (Nat.succ.inj pm.length_eq)
   have kk:∀ x z,kle (oM (fw fs x)) (oM (fw fs z))->kle (dY fs x) (dY fs z):=fun x z h=>by
    have h:kle ([(a_ fs x:Int),0 - x] ++ [x]) ([(a_ fs z:Int),0 - z] ++ [z]):=h
    have:=Rn (a:=[(a_ fs x:Int),0 - x]) (b:=[(a_ fs z:Int),0 - z]) rfl h
    rw[Int.zero_sub,Int.zero_sub] at this
    exact this
   have pw:=(Xe.mp pw).1 (oM v) (by simp)
   rcases Fo.mp (pm.mem_iff.mp (Mz (a:=u) (l:=[v]))) with e | e
   ·have e:u=fw fs pa:=e
    subst e
    have ev:v=fw fs pb:=by simpa [fw] using pm.cons_inv.mem_iff.mp (Wc.mpr rfl)
    subst ev
    exact⟨pa,pb,rfl,.inl ⟨rfl,rfl⟩,kk _ _ pw⟩
   ·have e:u=fw fs pb:=Wc.mp e
    have p2:=pm.trans (List.Perm.swap (fw fs pb) (fw fs pa) [])
    subst e
    have ev:v=fw fs pa:=by simpa [fw] using p2.cons_inv.mem_iff.mp (Wc.mpr rfl)
    subst ev
    exact⟨pb,pa,rfl,.inr ⟨rfl,rfl⟩,kk _ _ pw⟩
  have le:a_ fs p <= a_ fs q:=by
   have h:HT.lexLt [(a_ fs q:Int),-q] [(a_ fs p:Int),-p]=false:=kl
   rw[HT.mx] at h
   split at h
   ·omega
   ·have:=YS h;omega
  have M2:=st p q pq le
  have qp:q≠p:=by rcases pq with⟨rfl,rfl⟩ | ⟨rfl,rfl⟩<;>omega
  have pe:=Iy ne pq kl
  have yq:(cJ p q fs,gv fs (cJ p q fs) tk)=bw m ws ns (j + 1):=by
   rw[CN iH,<-em]
   have x1:(aV ws n).1.toNat=i:=by unfold aV;rw[ey,e1];rfl
   have x2:(aV ws n).2.1.toNat=k2:=by unfold aV;rw[ey,e2];rfl
   unfold vW
   dsimp only
   rw[x1,x2,hp,hq,pe]
  have hL:=hL _ ⟨_,_,M2,yq,rfl⟩
  refine⟨rfl,?_⟩
  show N2 _
  subst dW
  have t2:∀ x,dF [D.int (a_ fs x:Nat),D.int (0 - x),D.int x] 2=some (.int x):=fun x=>at2
  have mj:∀ (h:Nat),h < fs.length->dF (fs.map D.int) (h:Int)=some (.int (fs.getD h 0)):=fun h hh=>j2 hh
  have tj:∀ (h:Nat),h < fs.length->dF (tk.map D.int) (h:Int)=some (.int (tk.getD h 0)):=fun h hh=>j2 (by rw[M.tl,<-fl];exact hh)
  refine aZ fun N2 dW => ?_
  simp? only [gU,fw]
  refine⟨by omega,?_⟩
  refine jD (fun d=>match d with
   | .int h => .int (tk.getD h.toNat 0 + if decide (fs.getD h.toNat 0=p)=true then 1 else 0)
   | _ => .non) (by rw[lI];omega) trivial ?_ ?_
  ·intro d hd acc L' ha h
   obtain⟨z,hz⟩:=V0.mp hd
   obtain⟨zl,rfl⟩:=mH hz
   have z0:(0 + (z:Int))=z:=by omega
   rw[z0] at h ⊢
   dsimp only at h
   rw[V7] at h
   have zf:z < fs.length:=by omega
   simp? only [mj z zf,tj z zf,t2,oK]
   rw[rG]
   exact⟨ha,h⟩
  have et:(cE 0 m.toNat).map (fun d=>match d with
   | .int h => .int (tk.getD h.toNat 0 + if decide (fs.getD h.toNat 0=p)=true then 1 else 0)
   | _ => .non)=(gv fs (cJ p q fs) tk).map D.int:=by
   rw[nZ]
   unfold bO gv
   rw[fl,Wt,Wt,Wt]
   refine XG fun h hh => ?_
   have hh:h < fs.length:=by rw[fl];exact Wh.mp hh
   show D.int (tk.getD ((h:Int)).toNat 0 + if decide (fs.getD ((h:Int)).toNat 0=p)=true then 1 else 0)=D.int (if fs.getD h 0=(cJ p q fs).getD h 0 then tk.getD h 0 else tk.getD h 0 + 1)
   rw[V7,mQ hh]
   by_cases c:fs.getD h 0=p
   ·rw[V_ c,MD rfl,MD c,MA (by rw[c];exact fun z=>qp z.symm)]
   ·rw[We c,MA (by decide),MA c,MD rfl,Int.add_zero]
  rw[et]
  subst dW
  simp? only []
  refine L2.jD (fun d=>match d with
   | .int x => .int (if x=p then q else x)
   | _ => .non) (by rw[qx];omega) trivial ?_ ?_
  ·intro d hd acc L' ha h
   obtain⟨x,hx,rfl⟩:=Wg.mp hd
   simp? only [t2]
   rw[rG]
   by_cases e:x=p
   ·rw[V_ e]
    simp? only []
    refine⟨ha,?_⟩
    dsimp only at h
    rw[MD e] at h
    exact h
   ·rw[We e]
    simp? only []
    refine⟨ha,?_⟩
    dsimp only at h
    rw[MA e] at h
    exact h
  ·have e:(fs.map D.int).map (fun d=>match d with
    | .int x => .int (if x=p then q else x)
    | _ => .non)=(cJ p q fs).map D.int:=by
    unfold cJ
    rw[Wt,Wt];rfl
   rw[e]
   exact hL
 ·rintro δ ⟨fs,tk,M,em,rfl⟩
  refine⟨trivial,?_⟩
  rw[nV,qx] at em
  subst hN
  dsimp only
  simp? only []
  rw[<-em] at k
  exact jg k
end LJ
namespace PySem
open Sem (wp)
structure ZG (z TI TO i j:Addr) (fp gp:List Addr):Prop where
 a1:TI≠z
 a2:TO≠z
 a3:i≠z
 a4:j≠z
 a5:TI≠TO
 a6:TI≠i
 a7:TI≠j
 a8:TO≠i
 a9:TO≠j
 b1:i≠j
 f1:z∉fp
 f2:TO∉fp
 f3:j∉fp
 g1:z∉gp
 g2:TO∉gp
 g3:i∉gp
theorem bk {a:Addr} {h h':Heap} (hs:Heap.SameBut a h h') {b:Addr} {o:Obj} (n:b≠a) (e:h.get? b=some o):h'.get? b=some o:=(hs.2 b n).trans e
section
variable {prog:Program} {w:World} {A:Around} {E:Value->Shared->Prop} {s:Shared} {z TI TO i j:Addr} {fp gp:List Addr} {n m k:Nat} {P P':Nat->Value->Prop} {St j5:Nat->Heap->Prop} {a b:Value}
theorem RP {Q:Value->Shared->Prop} (D:Draws prog w A i fp n P St) (D':Draws prog w A j gp m P' j5) (Z:ZG z TI TO i j fp gp)
  (hz:IsZip s.heap z TI TO .none) (hI:IsPair s.heap TI (.ref i) (.ref j)) (hO:IsPair s.heap TO a b) (st:St k s.heap) (eT:j5 k s.heap) (hk:k < n) (i8:k < m)
  (hQ:∀ x y h' tk,P k x->P' k y->IsZip h' z TI TO (rawInt s.heap.objs.size)->IsPair h' TO x y->St (k + 1) h'->j5 (k + 1) h'->IsPair h' s.heap.objs.size x y →
   (∀ c o,c≠z->c≠TO->c≠i->c≠j->s.heap.get? c=some o->h'.get? c=some o)->Q (.ref s.heap.objs.size) { s with heap:=h',toks:=tk }) :
  wpAny (model prog w) A (Builtin.«zip.__next__» ⟨[.ref z],[]⟩) (fun fin s'=>∃ v,fin = .done (.ret v)/\Q v s') E s:=by
 show wpAny _ _ (field (.ref z) 2 >>= _) _ _ _;refine nG (Xb hz rfl (x := .bool false) rfl ?_)
 show wpAny _ _ (field (.ref z) 3 >>= _) _ _ _;refine nG (Xb hz rfl (x := .ref TI) rfl (nG (XF hI rfl ?_)))
 show wpAny _ _ (Builtin.SmallTypes.ownedTupleIsFree (.ref z) >>= _) _ _ _;refine nG ?_;unfold Builtin.SmallTypes.ownedTupleIsFree
 refine nG (Xb hz rfl (x := .none) rfl (uk ?_));simp only[Ym]
 refine nG (Zh (nG (Xb hz rfl (x := .ref TO) rfl (nG (Ya hz (by simp) fun k1 z1 s1 => ?_)))))
 have z1:IsZip k1 z TI TO .ellipsis:=z1
 refine nG ?_;simp only[List.zipIdx_cons,List.zipIdx_nil,q0v,q0J]
 refine nG (nG (Z_ ?_));show wpAny _ _ (Builtin.SmallTypes.nextOf (.ref i) >>= _) _ _ _
 refine nG (D.item k { s with heap:=k1 } _ _ hk (D.frame k _ _ st fun c hc o e=>bk s1 (fun y=>Z.f1 (y ▸ hc)) e) fun x k2 t2 px g6 s2=>uk ?_)
 have o2:IsPair k2 TO a b:=bk s2 Z.a8 (bk s1 Z.a2 hO)
 refine nG (XF o2 rfl (nG (Zu o2 fun k3 o3 s3 => ?_)))
 have o3:IsPair k3 TO x b:=o3
 refine nG (wpAny_letGo (uk (nG (nG (Z_ ?_)))));show wpAny _ _ (Builtin.SmallTypes.nextOf (.ref j) >>= _) _ _ _
 have rJ:j5 k k3:=D'.frame k _ _ eT fun c hc o e=>bk s3 (fun y=>Z.g2 (y ▸ hc)) (bk s2 (fun y=>Z.g3 (y ▸ hc)) (bk s1 (fun y=>Z.g1 (y ▸ hc)) e))
 have ka:St (k + 1) k3:=D.frame _ _ _ g6 fun c hc o e=>bk s3 (fun y=>Z.f2 (y ▸ hc)) e
 refine nG (D'.item k { s with heap:=k3,toks:=t2 } _ _ i8 rJ fun y k4 t4 py yr s4=>uk ?_)
 have o4:IsPair k4 TO x b:=bk s4 Z.a9 o3
 refine nG (XF o4 rfl (nG (Zu o4 fun k5 o5 s5 => ?_)))
 have o5:IsPair k5 TO x y:=o5
 refine nG (wpAny_letGo (uk (uk (nG (XF o5 rfl (nG (wpAny_newTuple ?_)))))))
 have sz:k5.objs.size=s.heap.objs.size:=by rw[s5.1,s4.1,s3.1,s2.1,s1.1]
 have z5:IsZip k5 z TI TO .ellipsis:=bk s5 Z.a2.symm (bk s4 Z.a4.symm (bk s3 Z.a2.symm (bk s2 Z.a3.symm z1)))
 have kp:∀ c o,c≠z->c≠TO->c≠i->c≠j->s.heap.get? c=some o->k5.get? c=some o:=fun c o c1 c2 c3 c4 e=>bk s5 c2 (bk s4 c4 (bk s3 c2 (bk s2 c3 (bk s1 c1 e))))
 have t5:St (k + 1) k5:=D.frame _ _ _ ka fun c hc o e=>bk s5 (fun y=>Z.f2 (y ▸ hc)) (bk s4 (fun y=>Z.f3 (y ▸ hc)) e)
 have RQ:j5 (k + 1) k5:=D'.frame _ _ _ yr fun c hc o e=>bk s5 (fun y=>Z.g2 (y ▸ hc)) e
 have zl:z < k5.objs.size:=My z5
 show wpAny _ _ (Builtin.SmallTypes.ownedTupleHandOut (.ref z) (.ref k5.objs.size) >>= _) _ _ _
 refine nG ?_;unfold Builtin.SmallTypes.ownedTupleHandOut
 refine nG (Ya (show IsZip (k5.push { cls := .type "tuple",data := .seq #[x,y] }) z TI TO .ellipsis from qw _ z5) (by simp) fun k7 z7 s7 => ?_)
 have z7:IsZip k7 z TI TO (rawInt k5.objs.size):=z7
 refine Ya z7 (by simp) fun k8 z8 s8 => ?_
 have z8:IsZip k8 z TI TO (rawInt k5.objs.size):=z8
 have up:∀ c o,c≠z->k5.get? c=some o->k8.get? c=some o:=fun c o c1 e=>bk s8 c1 (bk s7 c1 (qw _ e))
 have p8:IsPair k8 k5.objs.size x y:=bk s8 (Xq zl) (bk s7 (Xq zl) (MC _ rfl))
 rw[sz] at z8 p8
 refine uk ⟨_,rfl,?_⟩;show Q (.ref k5.objs.size) _;rw[sz]
 exact hQ x y k8 t4 px py z8 (up _ _ Z.a2 o5) (D.frame _ _ _ t5 fun c hc o e=>up c o (fun y=>Z.f1 (y ▸ hc)) e) (D'.frame _ _ _ RQ fun c hc o e=>up c o (fun y=>Z.g1 (y ▸ hc)) e) p8 fun c o c1 c2 c3 c4 e=>up c o c1 (kp c o c1 c2 c3 c4 e)
theorem RR {Q:Fin->Shared->Prop} (D:Draws prog w A i fp n P St) (D':Draws prog w A j gp m P' j5) (Z:ZG z TI TO i j fp gp)
  (hz:IsZip s.heap z TI TO .none) (hI:IsPair s.heap TI (.ref i) (.ref j)) (hO:IsPair s.heap TO a b) (st:St k s.heap) (eT:j5 k s.heap) (hk:k=n\/(k < n/\k=m))
  (hE:∀ h' e tk,(∀ c o,c≠z->c≠TO->c≠i->c≠j->s.heap.get? c=some o->h'.get? c=some o)->(∃ o,h'.get? e=some o/\o.cls = .type "StopIteration")->E (.ref e) { s with heap:=h',toks:=tk }) :
  wpAny (model prog w) A (Builtin.«zip.__next__» ⟨[.ref z],[]⟩) Q E s:=by
 show wpAny _ _ (field (.ref z) 2 >>= _) _ _ _;refine nG (Xb hz rfl (x := .bool false) rfl ?_)
 show wpAny _ _ (field (.ref z) 3 >>= _) _ _ _;refine nG (Xb hz rfl (x := .ref TI) rfl (nG (XF hI rfl ?_)))
 show wpAny _ _ (Builtin.SmallTypes.ownedTupleIsFree (.ref z) >>= _) _ _ _;refine nG ?_;unfold Builtin.SmallTypes.ownedTupleIsFree
 refine nG (Xb hz rfl (x := .none) rfl (uk ?_));simp only[Ym]
 refine nG (Zh (nG (Xb hz rfl (x := .ref TO) rfl (nG (Ya hz (by simp) fun k1 z1 s1 => ?_)))))
 have z1:IsZip k1 z TI TO .ellipsis:=z1
 refine nG ?_;simp only[List.zipIdx_cons,List.zipIdx_nil,q0v,q0J]
 refine nG (nG (Z_ ?_));show wpAny _ _ (Builtin.SmallTypes.nextOf (.ref i) >>= _) _ _ _
 have iL:St k k1:=D.frame k _ _ st fun c hc o e=>bk s1 (fun y=>Z.f1 (y ▸ hc)) e
 rcases hk with rfl | ⟨hk,rfl⟩
 ·refine nG (D.done { s with heap:=k1 } _ _ iL fun k2 e s2 he => ?_)
  obtain⟨oe,ho,hc⟩:=he
  have z2:IsZip k2 z TI TO .ellipsis:=s2 _ _ Z.a3.symm z1
  have ez:e≠z:=fun x=>by subst x;rw[z2] at ho;cases ho;simp at hc
  exact Ya z2 (by simp) fun k3 _ s3=>hE k3 e _ (fun c o c1 _ c3 _ x=>bk s3 c1 (s2 _ _ c3 (bk s1 c1 x))) ⟨oe,bk s3 ez ho,hc⟩
 ·refine nG (D.item k { s with heap:=k1 } _ _ hk iL fun x k2 t2 px g6 s2=>uk ?_)
  have o2:IsPair k2 TO a b:=bk s2 Z.a8 (bk s1 Z.a2 hO)
  refine nG (XF o2 rfl (nG (Zu o2 fun k3 o3 s3 => ?_)))
  refine nG (wpAny_letGo (uk (nG (nG (Z_ ?_)))));show wpAny _ _ (Builtin.SmallTypes.nextOf (.ref j) >>= _) _ _ _
  have rJ:j5 k k3:=D'.frame k _ _ eT fun c hc o e=>bk s3 (fun y=>Z.g2 (y ▸ hc)) (bk s2 (fun y=>Z.g3 (y ▸ hc)) (bk s1 (fun y=>Z.g1 (y ▸ hc)) e))
  refine nG (D'.done { s with heap:=k3,toks:=t2 } _ _ rJ fun k4 e s4 he => ?_)
  obtain⟨oe,ho,hc⟩:=he
  have z4:IsZip k4 z TI TO .ellipsis:=s4 _ _ Z.a4.symm (bk s3 Z.a2.symm (bk s2 Z.a3.symm z1))
  have ez:e≠z:=fun x=>by subst x;rw[z4] at ho;cases ho;simp at hc
  exact Ya z4 (by simp) fun k5 _ s5=>hE k5 e _ (fun c o c1 c2 c3 c4 x=>bk s5 c1 (s4 _ _ c4 (bk s3 c2 (bk s2 c3 (bk s1 c1 x))))) ⟨oe,bk s5 ez ho,hc⟩
theorem RS {Q:Option Value->Shared->Prop} (D:Draws prog w A.in1 i fp n P St) (D':Draws prog w A.in1 j gp m P' j5) (Z:ZG z TI TO i j fp gp)
  (hz:IsZip s.heap z TI TO .none) (hI:IsPair s.heap TI (.ref i) (.ref j)) (hO:IsPair s.heap TO a b) (st:St k s.heap) (eT:j5 k s.heap) (hk:k < n) (i8:k < m)
  (hQ:∀ x y h' tk,P k x->P' k y->IsZip h' z TI TO (rawInt s.heap.objs.size)->IsPair h' TO x y->St (k + 1) h'->j5 (k + 1) h'->IsPair h' s.heap.objs.size x y →
   (∀ c o,c≠z->c≠TO->c≠i->c≠j->s.heap.get? c=some o->h'.get? c=some o)->Q (some (.ref s.heap.objs.size)) { s with heap:=h',toks:=tk }):wpAny (model prog w) A (pyNext (.ref z)) Q E s:=by
 have hT:s.TypeIs (.ref z) "zip" := ⟨_,hz,rfl⟩
 unfold pyNext
 exact nG (Zn (WU (name:=Str.ofString "__next__") hT Zy (WW Zy hT F.entry_zip_next (RP D D' Z hz hI hO st eT hk i8 fun x y h' tk a1 a2 a3 a4 a5 a6 a7 a8=>uk (hQ x y h' tk a1 a2 a3 a4 a5 a6 a7 a8)) (F.args_zip_next_1 _))))
theorem RT {Q:Option Value->Shared->Prop} (D:Draws prog w A.in1 i fp n P St) (D':Draws prog w A.in1 j gp m P' j5) (Z:ZG z TI TO i j fp gp)
  (hz:IsZip s.heap z TI TO .none) (hI:IsPair s.heap TI (.ref i) (.ref j)) (hO:IsPair s.heap TO a b) (st:St k s.heap) (eT:j5 k s.heap) (hk:k=n\/(k < n/\k=m))
  (hQ:∀ h' tk,(∀ c o,c≠z->c≠TO->c≠i->c≠j->s.heap.get? c=some o->h'.get? c=some o)->Q none { s with heap:=h',toks:=tk }):wpAny (model prog w) A (pyNext (.ref z)) Q E s:=by
 have hT:s.TypeIs (.ref z) "zip" := ⟨_,hz,rfl⟩
 unfold pyNext
 refine nG (Zn (WU (name:=Str.ofString "__next__") hT Zy (WW Zy hT F.entry_zip_next (RR D D' Z hz hI hO st eT hk fun h' e tk kp he => ?_) (F.args_zip_next_1 _))))
 obtain⟨o,ho,hc⟩:=he
 exact nG (wpAny_isInstance (T := "StopIteration") (b:=true) ⟨o,ho,hc⟩ isSubtype_stop (uk (hQ _ _ kp)))
end
noncomputable def dZ (h:Heap) (t:Bool) (l:Addr) (xs:Array Value):Prop:=match t with
 | true=>h.IsTuple l xs
 | false=>h.IsList l xs
noncomputable abbrev jm (t:Bool) (l:Addr) (k:Nat):Obj:={ cls := .type (match t with | true => "tuple_iterator" | false => "list_iterator"),data := .fields #[.ref l,.int k 0] }
noncomputable def fP (h:Heap) (t:Bool) (it l:Addr) (k:Nat):Prop:=match t with
 | true=>h.IsTupleIter it l k
 | false=>h.IsListIter it l k
theorem dZ.lt {h:Heap} {t:Bool} {l:Addr} {xs:Array Value} (x:dZ h t l xs):l < h.objs.size:=by
 cases t<;>(obtain⟨o,e,_⟩:=x;exact My e)
theorem dZ.at {h h':Heap} {t:Bool} {l:Addr} {xs:Array Value} (x:dZ h t l xs) (k:∀ o,h.get? l=some o->h'.get? l=some o):dZ h' t l xs:=by
 cases t with
 | true=>exact Heap.IsTuple.at x k
 | false=>exact Heap.IsList.at x k
theorem fP.at {h h':Heap} {t:Bool} {i l:Addr} {n:Nat} (x:fP h t i l n) (k:∀ o,h.get? i=some o->h'.get? i=some o):fP h' t i l n:=by
 cases t with
 | true=>exact Heap.IsTupleIter.at x k
 | false=>exact Heap.IsListIter.at x k
theorem fP.obj {h:Heap} {t:Bool} {i l:Addr} {n:Nat} (x:fP h t i l n):∃ o,h.get? i=some o/\∀ v,o.data ≠ .cell v:=by
 cases t<;>(obtain⟨o,e,_,d⟩:=x;exact⟨o,e,fun v z=>by rw[d] at z;cases z⟩)
theorem fP.new {h:Heap} {t:Bool} {i l:Addr} (e:h.get? i=some (jm t l 0)):fP h t i l 0:=by
 cases t<;>exact⟨_,e,rfl,rfl⟩
section
variable {prog:Program} {w:World} {A:Around} {E:Value->Shared->Prop} {s:Shared}
theorem yt (hh:A.handled=none) (t:Bool) (it l:Addr) (fX:l≠it) (items:Array Value):Draws prog w A it [it,l] items.size (fun i v=>items[i]? = some v) (fun i h=>fP h t it l i/\dZ h t l items):=by
 cases t
 ·exact Draws.list hh it l fX items
 ·exact A3 hh it l fX items
theorem IB {t:Bool} {l:Addr} {xs:Array Value} {Q:Value->Shared->Prop} (hl:dZ s.heap t l xs) (h:Q (.ref s.heap.objs.size) { s with heap:=s.heap.push (jm t l 0) }):wpAny (model prog w) A (pyIter (.ref l)) Q E s:=by
 cases t
 ·exact Yg hl h
 ·exact Yt hl h
end
noncomputable abbrev yu (h:Heap) (t:Bool) (l:Addr):Heap:=h.push (jm t l 0)
noncomputable abbrev yw (h:Heap) (t u:Bool) (l m:Addr):Heap:=(yu h t l).push (jm u m 0)
noncomputable abbrev yx (h:Heap) (t u:Bool) (l m:Addr):Heap:=(yw h t u l m).push { cls := .type "tuple",data := .seq #[.ref h.objs.size,.ref (yu h t l).objs.size] }
noncomputable abbrev yy (h:Heap) (t u:Bool) (l m:Addr):Heap:=(yx h t u l m).push { cls := .type "tuple",data := .seq #[.none,.none] }
noncomputable abbrev sV (h:Heap) (t u:Bool) (l m:Addr):Heap:=(yy h t u l m).push { cls := .type "zip",data := .fields #[.none,.bool false,.bool false,.ref (yw h t u l m).objs.size,.ref (yx h t u l m).objs.size] }
theorem RU (t u:Bool) (l m:Addr) (xs ys:Array Value) :
  Meets (Builtin.«zip.__new__» ⟨[.type "zip",.ref l,.ref m],[]⟩) (fun _ R s=>dZ s.heap t l xs/\dZ s.heap u m ys/\R (.ok (.ret (.ref (yy s.heap t u l m).objs.size))) { s with heap:=sV s.heap t u l m }) :=
 .of_wp fun prog w A R s h=>by
  obtain⟨hp,g,d,tk,os⟩:=s;obtain⟨h1,h2,h⟩:=h
  have AZ:=sub_zip
  have e1:dZ (Shared.heap ⟨hp,g,d,tk,os⟩) t l xs:=h1
  have e2:dZ (Shared.heap ⟨hp.push (jm t l 0),g,d,tk,os⟩) u m ys:=dZ.at h2 fun o e=>qw _ e
  wp_walk using IB e1,IB e2
  exact⟨_,rfl,h⟩
section
variable {prog:Program} {w:World} {A:Around} {E:Value->Shared->Prop} {s:Shared}
theorem RW {t u:Bool} {l m:Addr} {xs ys:Array Value} {Q:Value->Shared->Prop} (h1:dZ s.heap t l xs) (h2:dZ s.heap u m ys)
  (h:∀ h',IsZip h' (s.heap.objs.size + 4) (s.heap.objs.size + 2) (s.heap.objs.size + 3) .none->IsPair h' (s.heap.objs.size + 2) (.ref s.heap.objs.size) (.ref (s.heap.objs.size + 1)) →
   IsPair h' (s.heap.objs.size + 3) .none .none->fP h' t s.heap.objs.size l 0->fP h' u (s.heap.objs.size + 1) m 0->(∀ c o,s.heap.get? c=some o->h'.get? c=some o)->Q (.ref (s.heap.objs.size + 4)) { s with heap:=h' }) :
  wpAny (model prog w) A (call (.type "zip") [.ref l,.ref m]) Q E s:=by
 refine callType_new F.called_zip (by decide) (F.typeCall_zip_2 _ _) (F.newCall_zip_2 _ _) (fun obj=>F.args_object_init_3 obj _ _) F.entry_zip_new (RU t u l m xs ys) ⟨h1,h2,?_⟩
 have z1:(yu s.heap t l).objs.size=s.heap.objs.size + 1:=Xh ..
 have z2:(yw s.heap t u l m).objs.size=s.heap.objs.size + 2:=by rw[Xh,z1]
 have z3:(yx s.heap t u l m).objs.size=s.heap.objs.size + 3:=by rw[Xh,z2]
 have z4:(yy s.heap t u l m).objs.size=s.heap.objs.size + 4:=by rw[Xh,z3]
 have q5:(sV s.heap t u l m).get? (yy s.heap t u l m).objs.size=some _:=MC _ rfl
 have q4:(sV s.heap t u l m).get? (yx s.heap t u l m).objs.size=some _:=qw _ (MC _ rfl)
 have q3:(sV s.heap t u l m).get? (yw s.heap t u l m).objs.size=some _:=qw _ (qw _ (MC _ rfl))
 have q2:(sV s.heap t u l m).get? (yu s.heap t l).objs.size=some (jm u m 0):=qw _ (qw _ (qw _ (MC _ rfl)))
 have q1:(sV s.heap t u l m).get? s.heap.objs.size=some (jm t l 0):=qw _ (qw _ (qw _ (qw _ (MC _ rfl))))
 show _/\_
 rw[z2,z3,z4] at q5;rw[z1,z2] at q3;rw[z3] at q4;rw[z1] at q2;rw[z4]
 exact⟨⟨_,q5,rfl⟩,h _ q5 q3 q4 (.new q1) (.new q2) fun c o x=>qw _ (qw _ (qw _ (qw _ (qw _ x))))⟩
end
end PySem
namespace L2
open PySem PySem.Spec PyProof.Rows
noncomputable def j6 (K:PySem.W.Frag) (H:Hp) (t:Bool) (a:Addr) (xs:List V):Prop:=match t with
 | true=>bQ K H a xs
 | false=>bx K H a xs
section
variable {X:Cx} {pins:List (Addr × Obj)} {σ : St} {H:Hp} {s:Shared}
theorem Inv.sq {t:Bool} {a:Addr} {xs:List V} (I:Inv X pins σ H s) (h:j6 X.K H t a xs):∃ ag:List Value,Vals xs ag/\dZ s.heap t a ag.toArray:=by
 cases t
 ·obtain⟨ag,r,p,_⟩:=I.list h;exact⟨ag,r,p.isList⟩
 ·obtain⟨ag,r,⟨o,o1,o2,n,o3⟩,_⟩:=I.tuple h;exact⟨ag,r,o,o1,o2,n,o3⟩
theorem Inv.l3 {t:Bool} {a:Addr} {xs ys:List V} (I:Inv X pins σ H s) (h:j6 X.K H t a xs) (h':j6 X.K H t a ys):xs=ys:=by
 cases t
 ·exact I.f6 h h'
 ·exact I.e7 h h'
end
noncomputable def vZ (K:PySem.W.Frag) (t u:Bool) (a b:Addr):It :=
 ⟨fun i H=>∃ xs ys x y,j6 K H t a xs/\j6 K H u b ys/\xs[i]? = some x/\ys[i]? = some y,
  fun i H v H'=>∃ T x y,v = .ref T/\H T=none/\H'=upd H T (.tup [x,y])/\(∀ xs,j6 K H t a xs->xs[i]? = some x)/\∀ ys,j6 K H u b ys->ys[i]? = some y,
  fun i H=>∃ xs ys,j6 K H t a xs/\j6 K H u b ys/\((xs.length=i)\/(i < xs.length/\ys.length=i))⟩
structure CS (t u:Bool) (z TI TO i1 i2 l1 l2:Addr) (i:Nat) (h:Heap):Prop where
 hz:IsZip h z TI TO .none
 kH:IsPair h TI (.ref i1) (.ref i2)
 l4:∃ x y,IsPair h TO x y
 h1:fP h t i1 l1 i
 h2:fP h u i2 l2 i
theorem RX {P:Program} {w:World} {K:PySem.W.Frag} {elts:List Expr} {x1} {tp:Pos} {t u:Bool} {z TI TO i1 i2 l1 l2:Addr} (D:ZG z TI TO i1 i2 [i1,l1] [i2,l2]) (n1:l1≠i1) (n2:l2≠i2) :
  Turn P w K (.Tuple elts x1 tp) (vZ K t u l1 l2) [z,TI,TO,i1,i2] z (CS t u z TI TO i1 i2 l1 l2) where
 mem:=by simp
 obj:=fun i h st b hb=>by
  obtain⟨hz,kH,⟨x,y,l4⟩,g1,g2⟩:=st
  simp only[Fo,Wd,Xr] at hb
  rcases hb with rfl | rfl | rfl | rfl | rfl
  ·exact⟨_,hz,fun v z=>by cases z⟩
  ·exact⟨_,kH,fun v z=>by cases z⟩
  ·exact⟨_,l4,fun v z=>by cases z⟩
  ·exact g1.obj
  ·exact g2.obj
 keep:=fun i h h' st k=>by
  obtain⟨hz,kH,⟨x,y,l4⟩,g1,g2⟩:=st
  exact⟨k z (by simp) _ hz,k TI (by simp) _ kH,⟨x,y,k TO (by simp) _ l4⟩,g1.at fun o q=>k i1 (by simp) o q,g2.at fun o q=>k i2 (by simp) o q⟩
 item:=by
  intro X hP hw hK hc i pins s σ H E I hf st hg
  subst hP hw hK
  obtain⟨hz,kH,⟨a,b,l4⟩,g1,g2⟩:=id st
  obtain⟨xs,ys,x,y,sW,sX,hx,hy⟩:=hg
  obtain⟨ag,rv,p⟩:=I.sq sW
  obtain⟨bc,v5,p2⟩:=I.sq sX
  have hh:X.A.in1.handled=none:=by rw[Ys];exact I.ok.hd hc
  have lx:=(su.mp hx).1
  have ly:=(su.mp hy).1
  refine RS (yt hh t i1 l1 n1 ag.toArray) (yt hh u i2 l2 n2 bc.toArray) D hz kH l4 ⟨g1,p⟩ ⟨g2,p2⟩ (by rw[Ad,<-rv.length];exact lx) (by rw[Ad,<-v5.length];exact ly) fun cu cv k1 tk pu pv z1 t1 a1 a2 RY yz=>⟨_,rfl,?_⟩
  obtain⟨u',hu,ru⟩:=rv.get hx
  obtain⟨v',hv,RZ⟩:=v5.get hy
  have pu:ag[i]? = some cu:=by simpa using pu
  have pv:bc[i]? = some cv:=by simpa using pv
  rw[hu] at pu
  rw[hv] at pv
  obtain rfl:=Wf pu
  obtain rfl:=Wf pv
  refine wpAny_letOwnedTupleGo_zip z1 fun k2 z2 eU => ?_
  have R0:s.heap.objs.size≠z:=Xq (My hz)
  have R1:IsPair k2 s.heap.objs.size u' v':=(eU.2 _ R0).trans RY
  have R3:∀ b o,b∉[z,TI,TO,i1,i2]->s.heap.get? b=some o->k2.get? b=some o:=fun b o hb q=>by
   simp only[Fo,Wd,Xr,q0G] at hb
   exact (eU.2 _ hb.1).trans (yz b o hb.1 hb.2.2.1 hb.2.2.2.1 hb.2.2.2.2 q)
  have hn:H s.heap.objs.size=none:=I.aN.fresh (wG _)
  refine⟨.ref s.heap.objs.size,upd H s.heap.objs.size (.tup [x,y]),I.f_ (ch:=[z,TI,TO,i1,i2]) (t':=tk) hf R3 (wG _) ?_,rfl,⟨_,x,y,rfl,hn,rfl,fun zs hy=>by rw[I.l3 hy sW];exact hx,fun zs sO=>by rw[I.l3 sO sX];exact hy⟩,⟨z2,?_,⟨u',v',(eU.2 _ D.a2).trans t1⟩,a1.1.at fun o q=>(eU.2 _ D.a3).trans q,a2.1.at fun o q=>(eU.2 _ D.a4).trans q⟩,fun b hb => ?_⟩
  ·exact⟨by show 2 <= sizeLine;decide,[u',v'],.cons ru (.cons RZ .nil),_,R1,rfl,_,rfl⟩
  ·exact (eU.2 _ D.a1).trans (yz TI _ D.a1 D.a5 D.a6 D.a7 kH)
  ·have:b < s.heap.objs.size:=by
    obtain⟨o1,q1,_⟩:=g1.obj
    obtain⟨o2,q2,_⟩:=g2.obj
    simp only[Fo,Wd,Xr] at hb
    rcases hb with rfl | rfl | rfl | rfl | rfl
    ·exact My hz
    ·exact My kH
    ·exact My l4
    ·exact My q1
    ·exact My q2
   rw[aO (Vx this)]
   exact (hf b hb).1
 done:=by
  intro X hP hw hK hc i pins s σ H E I hf st hg
  subst hP hw hK
  obtain⟨hz,kH,⟨a,b,l4⟩,g1,g2⟩:=id st
  obtain⟨xs,ys,sW,sX,hx⟩:=hg
  obtain⟨ag,rv,p⟩:=I.sq sW
  obtain⟨bc,v5,p2⟩:=I.sq sX
  have hh:X.A.in1.handled=none:=by rw[Ys];exact I.ok.hd hc
  have hl:=rv.length
  have so:=v5.length
  refine RT (yt hh t i1 l1 n1 ag.toArray) (yt hh u i2 l2 n2 bc.toArray) D hz kH l4 ⟨g1,p⟩ ⟨g2,p2⟩ ?_ fun k1 tk yz=>⟨rfl,I.jR (t':=tk) (ch:=[z,TI,TO,i1,i2]) hf fun b o hb q => ?_⟩
  ·rw[Ad,Ad];omega
  ·simp only[Fo,Wd,Xr,q0G] at hb
   exact yz b o hb.1 hb.2.2.1 hb.2.2.2.1 hb.2.2.2.2 q
 self:=fun A i s Q E st h=>wpAny_pyIter_zip st.hz h
theorem R4 (n l1 l2:Nat) (q1:l1 < n) (q2:l2 < n):ZG (n + 4) (n + 2) (n + 3) n (n + 1) [n,l1] [n + 1,l2]:=by
 constructor<;>first | (show @Ne Nat _ _;omega) | (intro h;simp only[Fo,Wd,Xr] at h;rcases h with h | h<;>(have h:(_:Nat)=_:=h;omega))
section
variable {X:Cx} {elts:List Expr} {x1:Nat} {tp:Pos}
noncomputable def R5 (K:PySem.W.Frag) (ta:TA):TI:=fun σ H R=>ta σ H fun vs H1=>∃ a b t u,vs=[.ref a,.ref b]/\(∃ xs,j6 K H1 t a xs)/\(∃ ys,j6 K H1 u b ys)/\R (vZ K t u a b) H1
theorem R6 {a b:Expr} {ta:TA} {p pos:Pos} (hg:Gl X "zip") (hm:X.mg "zip" = none) (ha:JA X [a,b] ta) (hs:starEach [a,b] X.env=[(false,eval a X.env),(false,eval b X.env)]:=by rfl) (eU:starEach [b] X.env=[(false,eval b X.env)]:=by rfl) :
  JI X (.Tuple elts x1 tp) (.Call (.Name "zip" p) [a,b] [] pos) (R5 X.K ta):=by
 refine⟨fun pins s σ H R I h => ?_⟩
 refine Call_ (mX I hg hm MZ (Xl (bq (ha.out pos pins s σ H _ I h) fun us s1 h0_ => el5 h0_ fun vs H1 I1 r1 q1 => ?_) (by rw[hs,eU]) (by rw[eU];rfl)))
 obtain⟨l1,l2,t,u,e,⟨xs,sW⟩,⟨ys,sX⟩,q⟩:=q1
 subst e
 cases r1 with
 | cons r rr =>
  cases rr with
  | cons r' R7 =>
   cases R7
   cases r
   cases r'
   obtain⟨ag,rv,p⟩:=I1.sq sW
   obtain⟨bc,v5,p2⟩:=I1.sq sX
   have b1:l1 < s1.heap.objs.size:=p.lt
   have b2:l2 < s1.heap.objs.size:=p2.lt
   refine RW p p2 fun h' hz kH l4 uz n5 hk => ?_
   have I2:Inv X pins σ H1 { s1 with heap:=h' }:=I1.kept (t':=s1.toks) hk
   have D:=R4 s1.heap.objs.size l1 l2 b1 b2
   refine wpAny_pyIter_zip hz ?_
   refine⟨_,_,_,_,H1,rfl,I2,RX D (Vx b1) (Vx (WC b2)),⟨hz,kH,⟨_,_,l4⟩,uz,n5⟩,fun b hb => ?_,q⟩
   have d6:s1.heap.objs.size <= b:=by
    simp only[Fo,Wd,Xr] at hb
    rcases hb with rfl | rfl | rfl | rfl | rfl
    ·exact XO _ _
    ·exact XO _ _
    ·exact XO _ _
    ·exact wG _
    ·exact XO _ _
   exact I1.g8 d6 (I1.aN.fresh d6)
end
section
variable [aI] {X:Cx} {a b:Expr} {fa:WA}
noncomputable def yA (fa:WA):WI:=fun δ K=>fa δ fun xs δ1=>match xs with
 | [x,y]=>jV x δ1 fun i=>jV y δ1 fun j=>K ⟨cQ i.items j.items,fun δ'=>i.bN δ'/\j.bN δ'⟩ δ1
 | _=>False
theorem IC {F H:Hp} {ad:List Addr} {δ : ay} {σ : St} {x:DV} {v:V} {K0:PySem.W.Frag} {K:pB->Prop} (S:SR F ad δ σ H) (hv:gF F ad x v) (h:jV x δ K):∃ a it t,v = .ref a/\K it/\(∃ xs,j6 K0 H t a xs) ∧
  ∀ (F':Hp) (aC:List Addr) (δ':ay) (σ':St) (H':Hp),az F F'->(∀ (k:Nat) (a:Addr),ad[k]? = some a->aC[k]? = some a)->SR F' aC δ' σ' H'->it.bN δ'->∃ ws,j6 K0 H' t a ws/\af F' it.items ws:=by
 obtain⟨a,it,e,hk,r⟩:=A8 S hv h
 rcases r with⟨⟨vs,e1⟩,r⟩ | ⟨⟨vs,e1⟩,r⟩
 ·exact⟨a,it,false,e,hk,⟨vs,bx.of e1⟩,fun F' aC δ' σ' H' s pre S' ck=>let ⟨ws,q1,q2⟩:=r F' aC δ' σ' H' s pre S' ck; ⟨ws,bx.of q1,q2⟩⟩
 ·exact⟨a,it,true,e,hk,⟨vs,bQ.of e1⟩,fun F' aC δ' σ' H' s pre S' ck=>let ⟨ws,q1,q2⟩:=r F' aC δ' σ' H' s pre S' ck; ⟨ws,bQ.of q1,q2⟩⟩
theorem R8 {elts:List Expr} {x1:Nat} {tp p pos:Pos} (hg:Gl X "zip") (hm:X.mg "zip" = none) (ha:JA X [a,b] (cC fa)) (hs:starEach [a,b] X.env=[(false,eval a X.env),(false,eval b X.env)]:=by rfl) (eU:starEach [b] X.env=[(false,eval b X.env)]:=by rfl) :
  JI X (.Tuple elts x1 tp) (.Call (.Name "zip" p) [a,b] [] pos) (lE (yA fa)):=(R6 hg hm ha hs eU).weak fun σ H R h0_ => el7 h0_ fun F ad δ K S q k =>⟨F,ad,δ,_,S,q,fun xs δ1 h1 vs F1 aR H1 E1 S1 V1=>by
 match xs,h1,V1 with
 | [x,y],g1,⟨v,r,e,W1,w,r2,e2,W2,W3⟩ =>
  subst e
  subst e2
  have W4:r2=[]:=W3
  subst W4
  obtain⟨a,it,t,rfl,xV,rX,r⟩:=IC (K0:=X.K) S1 W1 g1
  obtain⟨b,jt,u,rfl,hk,eU,r'⟩:=IC (K0:=X.K) S1 W2 xV
  refine⟨a,b,t,u,rfl,rX,eU,k _ _ hk _ _ _ _ E1 S1 fun F' aC δ' σ' H' s pre S' ck => ?_⟩
  obtain⟨ws,e1,e2⟩:=r F' aC δ' σ' H' s pre S' ck.1
  obtain⟨zs,e3,e4⟩:=r' F' aC δ' σ' H' s pre S' ck.2
  refine⟨⟨ws,zs,e1,e3,?_⟩,fun i d ed => ?_⟩
  ·rw[e2.length,e4.length,xv];omega
  ·obtain⟨d1,d2,R9,R_,rfl⟩:=GC ed
   obtain⟨w1,f1,g1⟩:=pE e2 R9
   obtain⟨w2,f2,g2⟩:=pE e4 R_
   refine⟨⟨ws,zs,w1,w2,e1,e3,f1,f2⟩,fun y km ⟨T,v1,v2,ey,hT,eh,Sa,Sb⟩ => ?_⟩
   subst eh ey
   have q1:=Sa ws e1
   have q2:=Sb zs e3
   rw[f1] at q1;cases q1
   rw[f2] at q2;cases q2
   exact⟨cj hT,A9 S'.sub hT g1 g2⟩
 | [],h1,_=>exact h1.elim
 | [_],h1,_=>exact h1.elim
 | _ :: _ :: _ :: _,h1,_=>exact h1.elim⟩
end
end L2
namespace LJT
open PySem L2 LJ
variable [aI]
mutual
noncomputable def jI:D->Bool
 | .lst ds=>decide (ds.length <= 1000) && gK ds
 | .tup ds=>decide (ds.length <= 1000) && gK ds
 | _=>true
noncomputable def gK:List D->Bool
 | []=>true
 | d :: r=>jI d && gK r
end
theorem ie:∀ {ds:List D},gK ds=true->∀ d∈ds,jI d=true
 | [],_,d,h=>nomatch h
 | a :: r,hn,d,h=>by
  simp only[gK,Wl] at hn
  rcases Fo.mp h with rfl | h
  ·exact hn.1
  ·exact ie hn.2 d h
noncomputable def aH (n:Nat):GD:=fun ys ovs K=>∃ d,dep d <= n/\n <= 50/\jI d=true/\ys=[.p d,.p d]/\ovs=[]/\K (.p (.bl true)) []
noncomputable def aB (yB:GD):WS:=(au (bP (dT (d2 (aa 1) (dC .non) lN)) (aX (d2 (aa 0) (dC .non) lN)) eW) (au (bP (ph (dT (d1 (aa 1) (cS "bool"))) (dT (d1 (aa 0) (cS "bool")))) (aX (kq (d1 (aa 1) (cS "bool")) (kq (d1 (aa 0) (cS "bool")) (d2 (aa 0) (aa 1) oEq)))) eW) (au (bP (dT (d1 (aa 1) (cS "int"))) (aX (kq (d1 (aa 0) (cS "int")) (d2 (aa 0) (aa 1) oEq))) eW) (au (bP (dT (d1 (aa 1) (cS "str"))) (aX (kq (d1 (aa 0) (cS "str")) (d2 (aa 0) (aa 1) oEq))) eW) (au (bP (ph (dT (d2 (d1 (aa 1) (cS "tuple")) (d1 (aa 0) (cS "tuple")) pG)) (dT (d2 (d1 (aa 1) (cS "list")) (d1 (aa 0) (cS "list")) pG))) (aX (dC (.bl false))) eW) (au (bP (dT (d2 (dN (ao (aa 0) ak) df) (dN (ao (aa 1) ak) df) pG)) (aX (dC (.bl false))) eW) (aX (d2 (dC (.bl false)) (fA (yA (ao (aa 0) (ao (aa 1) ak))) [none,none] (hX 2 (dG (bA 0) (dG (bA 1) gP))) cy (ax 2 yB (ao (aa 0) (ao (aa 1) ak)))) (xC true)))))))))
noncomputable def iJ (g:Nat->GD):Nat->GD
 | 0=>fun _ _ _=>False
 | n + 1=>g n
theorem Sd (g:GD) {K':RV->List OV->Prop} (k:K' (.p (.bl true)) []):aB g (dz 0 K') ⟨[some (.p .non),some (.p .non)],[]⟩:=by
 unfold aB
 refine aZ fun N hN => ?_
 simp? only [cA,oh,oj,om,oo,oq,aA]
 exact jZ k
theorem Se (g:GD) {K':RV->List OV->Prop} (b:Bool) (k:K' (.p (.bl true)) []):aB g (dz 0 K') ⟨[some (.p (.bl b)),some (.p (.bl b))],[]⟩:=by
 unfold aB
 refine aZ fun N hN => ?_
 simp? only [cA,mK,mL,mM,mN,mO,gH]
 subst hN
 refine aZ fun N hN => ?_
 simp? only [cA,mK,mL,mM,mN,mO,gH]
 exact jZ k
theorem same_int (g:GD) {K':RV->List OV->Prop} (b:Int) (k:K' (.p (.bl true)) []):aB g (dz 0 K') ⟨[some (.p (.int b)),some (.p (.int b))],[]⟩:=by
 unfold aB
 refine aZ fun N hN => ?_
 simp? only [cA,lT,lU,lV,lW,lX,gH]
 subst hN
 refine aZ fun N hN => ?_
 simp? only [cA,lT,lU,lV,lW,lX,gH]
 subst hN
 refine aZ fun N hN => ?_
 simp? only [cA,lT,lU,lV,lW,lX,gH]
 exact jZ k
theorem same_str (g:GD) {K':RV->List OV->Prop} (b:Str) (k:K' (.p (.bl true)) []):aB g (dz 0 K') ⟨[some (.p (.str b)),some (.p (.str b))],[]⟩:=by
 unfold aB
 refine aZ fun N hN => ?_
 simp? only [cA,kC,kD,kE,kF,kG,gH]
 subst hN
 refine aZ fun N hN => ?_
 simp? only [cA,kC,kD,kE,kF,kG,gH]
 subst hN
 refine aZ fun N hN => ?_
 simp? only [cA,kC,kD,kE,kF,kG,gH]
 subst hN
 refine aZ fun N hN => ?_
 simp? only [cA,kC,kD,kE,kF,kG,gH]
 exact jZ k
theorem Sf {n:Nat} {K':RV->List OV->Prop} {ds:List D} (hd:dep (.lst ds) <= n) (hn:n <= 50) (nd:jI (.lst ds)=true) (k:K' (.p (.bl true)) []):aB (iJ aH n) (dz 0 K') ⟨[some (.p (.lst ds)),some (.p (.lst ds))],[]⟩:=by
 unfold aB
 refine aZ fun N hN => ?_
 simp? only [cA,oh,oj,om,oo,oq,mK,mL,mM,mN,mO,lT,lU,lV,lW,lX,kC,kD,kE,kF,kG,ot,ou,oy,oz,oA,oB,oC,oD,oE,oF]
 subst hN
 refine aZ fun N hN => ?_
 simp? only [cA,oh,oj,om,oo,oq,mK,mL,mM,mN,mO,lT,lU,lV,lW,lX,kC,kD,kE,kF,kG,ot,ou,oy,oz,oA,oB,oC,oD,oE,oF]
 subst hN
 refine aZ fun N hN => ?_
 simp? only [cA,oh,oj,om,oo,oq,mK,mL,mM,mN,mO,lT,lU,lV,lW,lX,kC,kD,kE,kF,kG,ot,ou,oy,oz,oA,oB,oC,oD,oE,oF]
 subst hN
 refine aZ fun N hN => ?_
 simp? only [cA,oh,oj,om,oo,oq,mK,mL,mM,mN,mO,lT,lU,lV,lW,lX,kC,kD,kE,kF,kG,ot,ou,oy,oz,oA,oB,oC,oD,oE,oF]
 subst hN
 refine aZ fun N hN => ?_
 simp? only [cA,oB,oC,oD,oE,oF]
 subst hN
 simp only[gH,XR,V6,W9]
 refine aZ fun N hN => ?_
 simp? only [gH]
 subst hN
 obtain⟨m,rfl⟩:∃ m,n=m + 1:=⟨n - 1,by simp only[dep] at hd;omega⟩
 have CT:bH ds <= m:=by simp only[dep] at hd;omega
 have CU:gK ds=true:=by simp only[jI,Wl] at nd;exact nd.2
 have v7:ds.length <= 1000:=by simp only[jI,Wl,Xs] at nd;exact nd.1
 have zl:(cQ ds ds).length <= 1000:=by rw[xv];omega
 simp? only [yA]
 refine L2.jD (fun d => .bl true) zl trivial ?_ ?_
 ·intro d tM acc L ha h
  obtain⟨a,rfl,ma⟩:=B4 tM
  simp? only []
  refine⟨a,WY (B3 ma) CT,by omega,ie CU a ma,rfl,rfl,?_⟩
  simp? only []
  exact⟨ha,h⟩
 ·simp? only []
  have e1:((cQ ds ds).map fun _=>D.bl true).any (fun e=>aA e (.bl false))=false:=by
   rw[Yh]
   intro x hx
   obtain⟨_,_,rfl⟩:=Wg.mp hx
   simp[aA]
  have e2:bH ((cQ ds ds).map fun _=>D.bl true) <= 55:=B5 _
  exact⟨e2,by rw[e1];exact jZ k⟩
theorem l5 {n:Nat} {K':RV->List OV->Prop} {ds:List D} (hd:dep (.tup ds) <= n) (hn:n <= 50) (nd:jI (.tup ds)=true) (k:K' (.p (.bl true)) []):aB (iJ aH n) (dz 0 K') ⟨[some (.p (.tup ds)),some (.p (.tup ds))],[]⟩:=by
 unfold aB
 refine aZ fun N hN => ?_
 simp? only [cA,oh,oj,om,oo,oq,mK,mL,mM,mN,mO,lT,lU,lV,lW,lX,kC,kD,kE,kF,kG,ot,ou,oy,oz,oA,oB,oC,oD,oE,oF]
 subst hN
 refine aZ fun N hN => ?_
 simp? only [cA,oh,oj,om,oo,oq,mK,mL,mM,mN,mO,lT,lU,lV,lW,lX,kC,kD,kE,kF,kG,ot,ou,oy,oz,oA,oB,oC,oD,oE,oF]
 subst hN
 refine aZ fun N hN => ?_
 simp? only [cA,oh,oj,om,oo,oq,mK,mL,mM,mN,mO,lT,lU,lV,lW,lX,kC,kD,kE,kF,kG,ot,ou,oy,oz,oA,oB,oC,oD,oE,oF]
 subst hN
 refine aZ fun N hN => ?_
 simp? only [cA,oh,oj,om,oo,oq,mK,mL,mM,mN,mO,lT,lU,lV,lW,lX,kC,kD,kE,kF,kG,ot,ou,oy,oz,oA,oB,oC,oD,oE,oF]
 subst hN
 refine aZ fun N hN => ?_
 simp? only [cA,ot,ou,oy,oz,oA]
 subst hN
 simp only[gH,XR,V6,W9]
 refine aZ fun N hN => ?_
 simp? only [gH]
 subst hN
 obtain⟨m,rfl⟩:∃ m,n=m + 1:=⟨n - 1,by simp only[dep] at hd;omega⟩
 have CT:bH ds <= m:=by simp only[dep] at hd;omega
 have CU:gK ds=true:=by simp only[jI,Wl] at nd;exact nd.2
 have v7:ds.length <= 1000:=by simp only[jI,Wl,Xs] at nd;exact nd.1
 have zl:(cQ ds ds).length <= 1000:=by rw[xv];omega
 simp? only [yA]
 refine L2.jD (fun d => .bl true) zl trivial ?_ ?_
 ·intro d tM acc L ha h
  obtain⟨a,rfl,ma⟩:=B4 tM
  simp? only []
  refine⟨a,WY (B3 ma) CT,by omega,ie CU a ma,rfl,rfl,?_⟩
  simp? only []
  exact⟨ha,h⟩
 ·simp? only []
  have e1:((cQ ds ds).map fun _=>D.bl true).any (fun e=>aA e (.bl false))=false:=by
   rw[Yh]
   intro x hx
   obtain⟨_,_,rfl⟩:=Wg.mp hx
   simp[aA]
  have e2:bH ((cQ ds ds).map fun _=>D.bl true) <= 55:=B5 _
  exact⟨e2,by rw[e1];exact jZ k⟩
theorem gm (n:Nat):∀ ys ovs K',ys.length=2->aH n ys ovs K'->aB (iJ aH n) (dz ovs.length K') ⟨ys.map some ++ List.replicate 0 none,ovs.map some⟩:=by
 rintro ys ovs K' - ⟨d,hd,hn,nd,rfl,rfl,k⟩
 ·cases d with
  | tup ds=>exact l5 hd hn nd k
  | non=>exact Sd _ k
  | bl b=>exact Se _ b k
  | int b=>exact same_int _ b k
  | str b=>exact same_str _ b k
  | lst ds=>exact Sf hd hn nd k
end LJT
namespace L2
open PySem
variable [aI]
mutual
noncomputable def rK:D->Bool
 | .lst _=>false
 | .tup ds=>jn ds
 | _=>true
noncomputable def jn:List D->Bool
 | []=>true
 | d :: r=>rK d && jn r
end
noncomputable def ig (F:Hp):Hp:=fun a=>match F a with
 | some (.tup vs)=>some (.tup vs)
 | _=>none
theorem ID {F:Hp} {a:Addr} {o:HO} (h:ig F a=some o):F a=some o/\∃ vs,o = .tup vs:=by
 unfold ig at h
 cases q:F a with
 | none=>rw[q] at h;cases h
 | some u =>
  rw[q] at h
  cases u with
  | tup vs=>cases h;exact⟨rfl,vs,rfl⟩
  | _=>cases h
theorem Sg {F:Hp} {a:Addr} {vs:List V} (h:F a=some (.tup vs)):ig F a=some (.tup vs):=by
 unfold ig
 rw[h]
mutual
theorem l6 {F:Hp}:∀ {d:D} {v:V},rK d=true->Is F d v->Is (ig F) d v
 | .lst _,_,h,_=>by simp[rK] at h
 | .tup ds,v,h,i=>by
  simp only[rK] at h
  simp only[Is] at i ⊢
  obtain⟨a,vs,e,f,k⟩:=i
  exact⟨a,vs,e,Sg f,IE h k⟩
 | .non,_,_,i=>by simp only[Is] at i ⊢;exact i
 | .bl _,_,_,i=>by simp only[Is] at i ⊢;exact i
 | .int _,_,_,i=>by simp only[Is] at i ⊢;exact i
 | .str _,_,_,i=>by simp only[Is] at i ⊢;exact i
theorem IE {F:Hp}:∀ {ds:List D} {vs:List V},jn ds=true->af F ds vs->af (ig F) ds vs
 | [],_,_,i=>by simp only[af] at i ⊢;exact i
 | d :: r,vs,h,i=>by
  simp only[jn,Wl] at h
  simp only[af] at i ⊢
  obtain⟨v,t,e,h1,h2⟩:=i
  exact⟨v,t,e,l6 h.1 h1,IE h.2 h2⟩
end
section
variable {F F' H H':Hp} {ad aC:List Addr} {δ δ':ay} {σ σ':St}
end
section
variable {X:Cx} {ym iL g6 ka:Stmt} {i j:Nat} {G:GD} {t t2:WT} {B:TS} {E:XK}
end
section
variable {F F' H H':Hp} {ad aC:List Addr} {δ δ':ay} {σ σ':St}
theorem Sh {i:Nat} {v:V} {H6:Hp} {K:KS} {D:Ends} (S:SR F ad δ σ H) (hi:i < δ.sl.length) (C:Cn F ad δ.mu H K.nx D.nx) (kp:∀ x o,H x=some o->x∉aI.ad->H6 x=some o) (dm:∀ x o,H x=some o->∃ o',H6 x=some o') (tk:aI.ok H6) (hk:K.nx ⟨δ.sl.set i none,δ.mu⟩):D.nx (σ.set i (some v)) H6:=by
 refine C _ hk F ad _ _ ⟨fun _ _ e=>e,fun _ _ e => .inl e,fun x o e _ n=>kp x o e n,fun _ _ e=>e,fun _ e => .inl e,dm⟩ ⟨fun x o e=>kp x o (S.sub x o e) (fun z=>by rw[S.nt x z] at e;cases e),S.off,S.cP,S.inj,fun k ov e => ?_,fun j x e => ?_,?_,tk,S.nt⟩
 ·obtain⟨x,o,e1,e2,e3⟩:=S.mu k ov e
  refine⟨x,o,e1,kp x o e2 fun z => ?_,e3⟩
  obtain⟨ps,q⟩:=aI.tb S.tab z
  rw[e2] at q
  rcases e3.kind with⟨_,y⟩ | ⟨_,y⟩<;>rw[y] at q<;>cases q
 ·have e:(δ.sl.set i none)[j]? = some (some x):=e
  by_cases c:i=j
  ·subst c;rw[WJ hi] at e;cases e
  ·rw[W0 c] at e ⊢
   exact S.sl j x e
 ·show (σ.set i _).length=(δ.sl.set i none).length
  rw[Xo,Xo];exact S.len
noncomputable def jo (F:Hp) (l:Addr):Hp:=fun a=>if a=l then F a else ig F a
theorem v8 {F:Hp} {l a:Addr} {o:HO} (h:jo F l a=some o):F a=some o/\(a=l\/∃ vs,o = .tup vs):=by
 unfold jo at h
 by_cases c:a=l
 ·rw[MD c] at h;exact⟨h,.inl c⟩
 ·rw[MA c] at h
  obtain⟨h1,h2⟩:=ID h
  exact⟨h1,.inr h2⟩
theorem Si {F:Hp} {l:Addr} {us:List V} (hl:F l=some (.lst us)):az (ig F) (jo F l):=fun a o e=>by
 unfold jo
 by_cases c:a=l
 ·subst c
  obtain⟨h1,vs,h2⟩:=ID e
  rw[hl] at h1;cases h1;cases h2
 ·rw[MA c];exact e
noncomputable def yC (v:V) (H':Hp):Prop:=∃ p a b,v = .ref p/\H' p=some (.tup [.ref a,.ref b])/\a≠b
noncomputable def v9 (G:GD) (n:Nat):Sp:=fun vs H Q _=>vs.length=n/\∃ F ad ys ovs K,SR F ad ⟨ys.map some,ovs.map some⟩ (vs.map some) H/\G ys ovs K/\∀ r ows,K r ows->∀ v F' H',qK F ad H r ows v F' H'->yC v H'->Q v H'
noncomputable def yD (i j l:Nat) (G:GD) (t u:WT):WS:=fun K δ => i < δ.sl.length/\∃ (d:D) (es:List Int),δ.sl[j]? = some (some (.p d))/\rK d=true /\ δ.sl[l]? = some (some (.p (.lst (es.map D.int))))/\G [.p d,.p (.lst (es.map D.int))] [] fun res _=>∃ fs tk:List Int,res = .p (.tup [.lst (fs.map D.int),.lst (tk.map D.int)])/\fs.length <= 900/\tk.length <= 900/\es.length≠fs.length/\es.length≠tk.length ∧
 t ⟨δ.sl.set i (some (.p (.tup [.lst (fs.map D.int),.lst (tk.map D.int)]))),(j8 δ).mu⟩ fun b _=>b=false/\u ⟨δ.sl.set i (some (.p (.tup [.lst ((fs ++ [0]).map D.int),.lst (tk.map D.int)]))),(j8 δ).mu⟩ fun b2 _=>b2=false/\K.nx ⟨δ.sl.set i none,δ.mu⟩
noncomputable def IF (Kf:PySem.W.Frag) (i:Nat):TS:=wt (o8 Kf "list" zX (kW (ql Kf) (d7 i) (tC (.int 0))) (fS (tC (.int 0)) iS))
noncomputable def IG (Kf:PySem.W.Frag) (i:Nat):TS:=wt (qq Kf "list" Fg (kW (ql Kf) (d7 i) (tC (.int 1))))
theorem Sj {x y:V}:dF [x,y] 1=some y:=by
 unfold dF iU
 rw[MD (by decide),MD (by show (1:Int) < 2;decide)]
 rfl
theorem Sk {Kf:PySem.W.Frag} {i j l:Nat} {G:GD} {t u:WT} {B B':TS} {E:XK}:∀ DD σ H,dw (yD i j l G t u) DD σ H->d8 (gC (si (v9 G 2) [] E (fS (d7 j) (fS (d7 l) iS))) (m9 i)) (d8 (jL (de t) B r_) (d8 (IF Kf i) (d8 (jL (de u) B' r_) (IG Kf i)))) DD σ H:=fun DD σ H ⟨F,ad,δ,K,S,⟨hi,d,es,hj,nl,hl,g⟩,C⟩=>by
 obtain⟨v,ev,iv⟩:=S.sl j _ hj
 obtain⟨w,ew,iw⟩:=S.sl l _ hl
 have iv:Is F d v:=iv
 have iw:Is F (.lst (es.map D.int)) w:=iw
 simp only[Is] at iw
 obtain⟨ah,VT,rfl,fh,ih⟩:=iw
 have e0:=jB ih
 subst e0
 have hh:=S.sub _ _ fh
 refine⟨v,ev,_,ew,rfl,jo F ah,[],[.p d,.p (.lst (es.map D.int))],[],_,⟨fun a o e=>S.sub _ _ (v8 e).1,fun a ⟨k,ov,e,_⟩=>by simp at e,rfl,fun k l a ov ow e _ _ _=>by simp at e,fun k ov e=>by simp at e,fun k x e => ?_,rfl,S.tab,fun a ha => ?_⟩,g,fun r ows hk v2 F2 H2 P dst => ?_⟩
 ·match k,e with
  | 0,e=>cases (show some (some (DV.p d))=some (some x) from e);exact⟨v,rfl,Is.same (Si fh) (l6 nl iv)⟩
  | 1,e =>
   cases (show some (some (DV.p (.lst (es.map D.int))))=some (some x) from e)
   refine⟨_,rfl,?_⟩
   show Is _ (.lst (es.map D.int)) _
   simp only[Is]
   exact⟨ah,_,rfl,by unfold jo;rw[MD rfl];exact fh,lJ⟩
  | k + 2,e=>simp at e
 ·unfold jo ig
  rw[S.nt a ha]
  simp
 obtain⟨fs,tk,rfl,l1,l2,n1,n2,ht⟩:=hk
 have res:Is F2 (.tup [.lst (fs.map D.int),.lst (tk.map D.int)]) v2:=P.res
 obtain⟨p,a,b,rfl,IH,Sl⟩:=dst
 simp only[Is,af] at res
 obtain⟨p',ws,e1,fp,x1,r1,rfl,⟨a',ua,rfl,fa,ia⟩,x2,r2,rfl,⟨b',ub,rfl,fb,ib⟩,rfl⟩:=res
 cases e1
 rw[P.sub _ _ fp] at IH
 cases IH
 have ea:=jB ia
 have eb:=jB ib
 subst ea eb
 have kp:∀ x o,H x=some o->x∉aI.ad->H2 x=some o:=fun x o e t=>P.keep x o e (by simp) t
 have Sm:ah∉aI.ad:=fun z=>by rw[S.nt ah z] at fh;cases fh
 have fresh:∀ {x:Addr} {zs:List Int},F2 x=some (.lst (zs.map V.int))->es.length≠zs.length->H x=none:=fun {x zs} e n=>by
  rcases P.new x _ e with z | z
  ·obtain⟨_,rfl | ⟨vs,y⟩⟩:=v8 z
   ·have:=kp x _ hh Sm
    rw[P.sub _ _ e] at this
    have:=congrArg List.length (HO.lst.inj (Wf this))
    rw[qx,qx] at this
    exact absurd this.symm n
   ·cases y
  ·exact z
 have ha:=fresh fa n1
 have hb:=fresh fb n2
 have told:∀ {Hx:Hp} {rZ kK:List Int},(∀ x o,H x=some o->x∉aI.ad->Hx x=some o)->aI.ok Hx->Hx p=some (.tup [.ref a,.ref b])->Hx a=some (.lst (rZ.map V.int))->Hx b=some (.lst (kK.map V.int))->Is (Nw F H Hx) (.tup [.lst (rZ.map D.int),.lst (kK.map D.int)]) (.ref p):=fun {Hx rZ kK} kx VU xp xa xb=>by
  have np:Nw F H Hx p=some (.tup [.ref a,.ref b]):=by
   unfold Nw
   cases q:H p with
   | none=>exact xp
   | some o =>
    rcases P.new p _ fp with z | z
    ·exact (v8 z).1
    ·rw[q] at z;cases z
  have na:Nw F H Hx a=some (.lst (rZ.map V.int)):=by unfold Nw;rw[ha];exact xa
  have nb:Nw F H Hx b=some (.lst (kK.map V.int)):=by unfold Nw;rw[hb];exact xb
  simp only[Is,af]
  exact⟨p,_,rfl,np,_,_,rfl,⟨a,_,rfl,na,lJ⟩,_,_,rfl,⟨b,_,rfl,nb,lJ⟩,rfl⟩
 have gi:(σ.set i (some (V.ref p)))[i]? = some (some (.ref p)):=WJ (by rw[S.len];exact hi)
 have S2:=(S.hide.sS kp P.tab).set (i:=i) (x := .p (.tup [.lst (fs.map D.int),.lst (tk.map D.int)])) (v := .ref p) (told kp P.tab (P.sub _ _ fp) (P.sub _ _ fa) (P.sub _ _ fb))
 have E2:=Ext.sS S.hide kp P.tab
 have Sn:∀ x o,F2 x=some o->Nw F H H2 x=some o:=fun x o e=>by
  unfold Nw
  cases q:H x with
  | none=>exact P.sub x o e
  | some u =>
   rcases P.new x o e with z | z
   ·exact (v8 z).1
   ·rw[q] at z;cases z
 refine⟨Nw F H H2,ad,_,_,S2,ht,fun b1 δ3 ⟨CV,h3⟩ F3 qJ H3 E3 S3 => ?_⟩
 subst CV
 rw[MA (by decide)]
 have mR:∀ x o,F2 x=some o->H3 x=some o:=fun x o e=>S3.sub _ _ (E3.same _ _ (Sn x o e))
 have ET:=E2.trans E3
 have pa:p≠a:=fun z=>by have:=mR _ _ fp;rw[z,mR _ _ fa] at this;cases this
 have pb:p≠b:=fun z=>by have:=mR _ _ fp;rw[z,mR _ _ fb] at this;cases this
 refine⟨_,gi,p,_,0,V.ref a,rfl,rfl,bQ.of (mR _ _ fp),Rx,Or.inl ⟨rfl,_,bx.of (mR _ _ fa)⟩,a,_,_,rfl,rfl,mR _ _ fa,o_ (by rw[qx];omega),?_⟩
 have CW:=aI.put (o' := .lst (fs.map V.int ++ [V.int 0])) S3.tab (mR _ _ fa) (.inl ⟨_,rfl⟩)
 have a4:upd H3 a (.lst (fs.map V.int ++ [V.int 0])) a=some (.lst ((fs ++ [0]).map V.int)):=by rw[bW,WD];rfl
 have p4:upd H3 a (.lst (fs.map V.int ++ [V.int 0])) p=some (.tup [.ref a,.ref b]):=by rw[aO pa];exact mR _ _ fp
 have b4:upd H3 a (.lst (fs.map V.int ++ [V.int 0])) b=some (.lst (tk.map V.int)):=by rw[aO (XA Sl)];exact mR _ _ fb
 have yE:∀ x o,H x=some o->x∉aI.ad->upd H3 a (.lst (fs.map V.int ++ [V.int 0])) x=some o:=fun x o e n=>by rw[aO (di e ha)];exact ET.keep x o e CF n
 have II:∀ x o,H x=some o->∃ o',upd H3 a (.lst (fs.map V.int ++ [V.int 0])) x=some o':=fun x o e=>by rw[aO (di e ha)];exact ET.iO x o e
 generalize upd H3 a (.lst (fs.map V.int ++ [V.int 0]))=H4 at CW a4 p4 b4 yE II
 have t4:=told yE CW p4 a4 b4
 have S4:=SR.set (i:=i) (x:=DV.p (D.tup [D.lst ((fs ++ [(0:Int)]).map D.int),D.lst (tk.map D.int)])) (v := .ref p) (S.hide.sS yE CW) t4
 have np:Nw F H H4 p=some (.tup [.ref a,.ref b]):=by
  simp only[Is,af] at t4
  obtain⟨p',ws,e1,VV,_⟩:=t4
  unfold Nw
  cases q:H p with
  | none=>exact p4
  | some o =>
   rcases P.new p _ fp with z | z
   ·exact (v8 z).1
   ·rw[q] at z;cases z
 have nb:Nw F H H4 b=some (.lst (tk.map V.int)):=by unfold Nw;rw[hb];exact b4
 refine⟨Nw F H H4,ad,_,_,S4,h3,fun b2 δ5 ⟨So,hk⟩ F5 N8 H5 E5 S5 => ?_⟩
 subst So
 rw[MA (by decide)]
 have p5:H5 p=some (.tup [.ref a,.ref b]):=S5.sub _ _ (E5.same _ _ np)
 have b5:H5 b=some (.lst (tk.map V.int)):=S5.sub _ _ (E5.same _ _ nb)
 refine⟨_,gi,p,_,1,V.ref b,rfl,rfl,bQ.of p5,Sj,Or.inl ⟨rfl,_,bx.of b5⟩,b,_,rfl,rfl,b5,?_⟩
 refine Sh S hi C.nx (fun x o e n => ?_) (fun x o e => ?_) (aI.put S5.tab b5 (.inl ⟨_,rfl⟩)) hk
 ·rw[aO (di e hb)]
  exact E5.keep x o (yE x o e n) CF n
 ·rw[aO (di e hb)]
  obtain⟨o',e'⟩:=II x o e
  exact E5.iO x o' e'
end
section
variable {X:Cx} {ym iL g6 ka yr:Stmt} {i j l:Nat} {G:GD} {t u:WT} {B B':TS} {E:XK}
theorem Sq (h0:JS X ym (gC (si (v9 G 2) [] E (fS (d7 j) (fS (d7 l) iS))) (m9 i))) (h1:JS X iL (jL (de t) B r_)) (h2:JS X g6 (IF X.K i)) (h3:JS X ka (jL (de u) B' r_)) (h4:JS X yr (IG X.K i)):gn X [ym,iL,g6,ka,yr] (dw (yD i j l G t u)):=(kj h0 (kj h1 (kj h2 (kj h3 (uE h4))))).weak Sk
end
end L2
namespace LJ
open PySem L2
variable [aI]
theorem Sr {a b:List Int} (h:a.map V.int=b.map V.int):a=b:=List.map_inj_right (fun x y e=>V.int.inj e) |>.mp h
theorem Ss {F H F' H':Hp} {ad:List Addr} {ows:List OV} {v:V} {fs tk:List Int} (P:qK F ad H (.p (.tup [bE fs,bE tk])) ows v F' H') (ne:fs≠tk):yC v H':=by
 have res:Is F' (.tup [bE fs,bE tk]) v:=P.res
 unfold bE at res
 simp only[Is,af] at res
 obtain⟨p,ws,rfl,fp,x1,r1,rfl,⟨a,ua,rfl,fa,ia⟩,x2,r2,rfl,⟨b,ub,rfl,fb,ib⟩,rfl⟩:=res
 refine⟨p,a,b,rfl,P.sub _ _ fp,fun z => ?_⟩
 subst z
 rw[fa] at fb
 cases fb
 exact ne (Sr ((jB ia).symm.trans (jB ib)))
noncomputable def IJ:WS:=(au (mF (ax 2 rF (ao (aa 0) (ao (aa 1) ak)))) (au (aG 2 (vd (ao (d2 (aa 0) (dC (.int 0)) aP) ak))) (au (aG 3 (d2 (du (ao (dC (.int 0)) ak)) (d2 (aa 0) (dC (.int 0)) aP) eF)) (cx (eD (ao (aa 1) ak)) (hX 2 (dG (bA 4) (dG (bA 5) gP))) (au (aG 6 (d2 (d2 (aa 0) (dC (.int 1)) aP) (aa 5) aP)) (au (bP (dT (d2 (d2 (aa 2) (d2 (aa 6) (dC (.int 0)) aP) aP) (d2 (aa 2) (d2 (aa 6) (dC (.int 1)) aP) aP) oEq)) pA eW) (au (aG 7 (ax 3 rH (ao (aa 2) (ao (d2 (aa 6) (dC (.int 0)) aP) (ao (d2 (aa 6) (dC (.int 1)) aP) ak))))) (au (aG 3 (fA (eD (ao (aa 7) ak)) [none,none,some 3,some 2] (hX 2 (dG (bA 0) (dG (bA 1) gP))) cy (nL (dT (d2 (d2 (aa 3) (aa 0) aP) (aa 1) oEq)) (d2 (aa 2) (aa 0) aP) (d2 (d2 (aa 2) (aa 0) aP) (dC (.int 1)) dU)))) (aG 2 (aa 7))))))))))
theorem Su {H F0:Hp} {ad:List Addr} {vs:List V} {m:Int} {ws:List (Int × Int × Int)} {K':RV->List OV->Prop} {Q:VK} {Dd:Ends} (hl:vs.length=2) (W:gb m ws)
  (hK:K' (.p (.tup [bE (bO m.toNat),bE (List.replicate m.toNat 0)])) []) (S0:SR F0 ad ⟨[DV.p (bu m ws),DV.p (bE [])].map some,([]:List OV).map some⟩ (vs.map some) H) (kk:∀ r ows,K' r ows->∀ v F' H',qK F0 ad H r ows v F' H'->yC v H'->Q v H') (hD:∀ v H',Q v H'->Dd.rt v H') :
  d8 (dw IJ) (mZ (nk (fS (d7 2) (fS (d7 3) iS)))) Dd (start ["web", "ways", "marks", "taken", "place", "number", "way", "later"] vs) H:=by
 have m1:=W.m1
 have jy:=W.jy
 have ea:ad=[]:=by have:=S0.cP;simpa using this
 subst ea
 have S1:=S0.start (N:=["web", "ways", "marks", "taken", "place", "number", "way", "later"])
 rw[hl] at S1
 refine⟨F0,[],_,{ nx:=fun δ' => δ'=⟨[some (.p (.tup [.int m,.tup (ws.map cF)])),some (.p (.lst [])),some (.o 0),some (.p (.lst ((List.replicate m.toNat (0:Int)).map D.int))),none,none,none,none],[some (.lst ((bO m.toNat).map D.int))]⟩,rt:=fun _ _=>False },S1,?_,⟨?_,fun _ h=>h.elim,fun _ h=>h.elim,fun _ _ h=>h.elim⟩⟩
 ·unfold IJ
  refine aZ fun N hN => ?_
  simp? only []
  refine⟨m,ws,[],W,(fun n h=>nomatch h),Y6,WK _,rfl,rfl,?_⟩
  show N _
  subst hN
  refine aZ fun N hN => ?_
  simp? only [gU,bu]
  refine⟨⟨by omega,by omega⟩,?_⟩
  rw[nZ]
  subst hN
  refine aZ fun N hN => ?_
  simp? only [gU]
  refine⟨⟨by omega,by omega,by omega⟩,?_⟩
  rw[CL]
  subst hN
  rw[show bE [] = .lst [] from rfl]
  simp only[cx,eD,ao,aa,ak,Xz,W_,jV]
  exact kA (fun _ δ => δ = _) rfl (fun j d δ L hj=>by simp[i9] at hj) fun δ e=>⟨trivial,e⟩
 rintro δ' rfl F1 aR σ1 H1 E1 rL
 obtain⟨v2,e2,i2⟩:=rL.sl 2 _ rfl
 obtain⟨v3,e3,i3⟩:=rL.sl 3 _ rfl
 refine⟨v2,e2,v3,e3,(show 2 <= sizeLine by decide),fun p hp=>hD _ _ ?_⟩
 obtain⟨a,ea,rfl⟩:=i2
 obtain⟨a',o,q1,q2,VW,rfl,q4⟩:=rL.mu 0 _ rfl
 rw[ea] at q1
 cases q1
 have ev:=jB q4
 subst ev
 have fa:F1 a=none:=rL.off a ⟨0,_,ea,rfl⟩
 have i3:Is F1 (.lst ((List.replicate m.toNat (0:Int)).map D.int)) v3:=i3
 simp only[Is] at i3
 obtain⟨b,ub,rfl,fb,ib⟩:=i3
 have eb:=jB ib
 subst eb
 have ab:a≠b:=fun z=>by rw[z,fb] at fa;cases fa
 have S2:=rL.fixed (k:=0) rfl ea q2 q4
 have E2:=Ext.fix (o := .lst ((bO m.toNat).map V.int)) rL (k:=0) rfl ea
 have sm:az H1 (upd H1 p (.tup [.ref a,.ref b])):=cj hp
 have CV:=rL.sub _ _ fb
 have Sv:Nw (upd F1 a (.lst ((bO m.toNat).map V.int))) H1 (upd H1 p (.tup [.ref a,.ref b])) p=some (.tup [.ref a,.ref b]):=by unfold Nw;rw[hp];exact bW
 have Sw:Nw (upd F1 a (.lst ((bO m.toNat).map V.int))) H1 (upd H1 p (.tup [.ref a,.ref b])) a=some (.lst ((bO m.toNat).map V.int)):=by unfold Nw;rw[q2];exact bW
 have Sx:Nw (upd F1 a (.lst ((bO m.toNat).map V.int))) H1 (upd H1 p (.tup [.ref a,.ref b])) b=some (.lst ((List.replicate m.toNat (0:Int)).map V.int)):=by
  unfold Nw;rw[CV]
  show upd F1 a (.lst ((bO m.toNat).map V.int)) b=_
  rw[aO (XA ab)];exact fb
 refine qL (Q:=fun v H'=>yC v H'->Q v H') (ovs:=[]) (x := .p (.tup [bE (bO m.toNat),bE (List.replicate m.toNat 0)])) S0 ((E1.trans E2).trans (Ext.al S2 sm)) (S2.al sm) ?_ ⟨[],rfl,rfl,hK⟩ (fun r ows h v F' H' P d=>kk r ows h v F' H' P d) ⟨p,a,b,rfl,bW,ab⟩
 show Is _ (.tup [bE _,bE _]) _
 unfold bE
 simp only[Is,af]
 exact⟨p,_,rfl,Sv,_,_,rfl,⟨a,_,rfl,Sw,lJ⟩,_,_,rfl,⟨b,_,rfl,Sx,lJ⟩,rfl⟩
theorem CY {a b:WS} {T T':TS} (h:∀ D σ H,d8 (dw b) T D σ H->T' D σ H):∀ D σ H,d8 (dw (au a b)) T D σ H->d8 (dw a) T' D σ H:=fun D σ H ⟨F,ad,δ,K,S,q,C⟩ =>
 ⟨F,ad,δ,_,S,q,⟨fun δ' h' F' aC σ' H' E' S'=>h D σ' H' ⟨F',aC,δ',K,S',h',C.ext E'⟩,C.bk,C.ct,C.rt⟩⟩
theorem Sy {m:Int} {ws:List (Int × Int × Int)} (W:gb m ws) {ns:List Int} (hn:Nums ws ns) (c:ns≠[]):2 <= m:=by
 obtain⟨a,r,rfl⟩:=List.exists_cons_of_ne_nil c
 obtain⟨n0,n1⟩:=hn a Mz
 obtain⟨y,_,hy,_⟩:=vH W n0 n1
 have:=W.ends y hy
 omega
theorem Sz {ds:List D} {t:Nat} (h:t <= ds.length):cutD ds none (some (t:Int))=ds.take t:=by
 unfold cutD
 rw[HT.EO,HT.wB ds.length ds.length t,Nat.min_eq_left h,Y1,q0g]
theorem IK {ws:List Wy} {ns:List Int} (J:Joins ws ns):∀ k,k <= ns.length->Indep (jk ws (ns.take k))
 | 0,_=>fun a ⟨k,hk,_⟩=>by simp at hk
 | k + 1,h=>by
  have hk:k < ns.length:=by omega
  have en:ns[k]? = some (ns.getD k 0):=by rw[wF,qv hk];rfl
  refine (IK J k (by omega)).add (w:=aV ws (ns.getD k 0)) (fun v => ?_) (J k hk)
  rw[Xu,en]
  unfold jk
  constructor
  ·rintro ⟨x,hx,e⟩
   rcases W7.mp hx with z | z
   ·exact .inl ⟨x,z,e⟩
   ·have z:x=ns.getD k 0:=by simpa using z
    subst z;exact .inr e
  ·rintro (⟨x,hx,e⟩ | e)
   ·exact⟨x,WZ _ hx,e⟩
   ·exact⟨ns.getD k 0,V9 _ (by simp),e⟩
noncomputable def rM (n:Nat) (fs:List Int):Nat:=(List.range n).countP fun h:Nat=>decide (fs.getD h 0=(h:Int))
theorem SA {m:Int} {ws:List Wy} (W:gb m ws) {ns:List Int} (hn:Nums ws ns) (J:Joins ws ns):ns.length < m.toNat:=by
 have m1:=W.m1
 have go:∀ k,k <= ns.length->∃ fs tk,bz m ws ns k fs tk/\rM m.toNat fs + k <= m.toNat:=by
  intro k
  induction k with
  | zero =>
   intro _
   exact⟨_,_,yp W ns,by
    have:=List.countP_le_length (p:=fun h:Nat=>decide ((bO m.toNat).getD h 0=(h:Int))) (l:=List.range m.toNat)
    rw[Ws] at this
    exact this⟩
  | succ k ih =>
   intro h
   have hk:k < ns.length:=by omega
   obtain⟨fs,tk,M,le⟩:=ih (by omega)
   have fl:=M.mo.1
   have SD:ns.getD k 0∈ns:=by rw[wF,qv hk];exact XN hk
   obtain⟨n0,n1⟩:=hn _ SD
   obtain⟨i,j,_,e1,e2,b1,b2⟩:=CG W n0 n1
   obtain⟨ne,st⟩:=M.step W hn J hk e1 e2 b1 b2
   have fin:∀ p q,((p=fs.getD i 0/\q=fs.getD j 0)\/(p=fs.getD j 0/\q=fs.getD i 0))->a_ fs p <= a_ fs q->∃ fs tk,bz m ws ns (k + 1) fs tk/\rM m.toNat fs + (k + 1) <= m.toNat:=fun p q pq c=>by
    have pn:p≠q:=by rcases pq with⟨rfl,rfl⟩ | ⟨rfl,rfl⟩;exact ne;exact ne.symm
    have po:(0 <= p/\p < m)/\fs.getD p.toNat 0=p:=by rcases pq with⟨rfl,_⟩ | ⟨rfl,_⟩;exact M.own i b1;exact M.own j b2
    have qo:(0 <= q/\q < m)/\fs.getD q.toNat 0=q:=by rcases pq with⟨_,rfl⟩ | ⟨_,rfl⟩;exact M.own j b2;exact M.own i b1
    refine⟨_,_,st p q pq c,?_⟩
    have lt:rM m.toNat (cJ p q fs) < rM m.toNat fs:=by
     unfold rM
     refine Ik (x:=p.toNat) (fun h hh e => ?_) (Wh.mpr (by omega)) (V_ (by rw[po.2];omega)) (We ?_)
     ·have hh:=Wh.mp hh
      have e:=XT e
      rw[mQ (by omega)] at e
      by_cases c:fs.getD h 0=p
      ·rw[MD c] at e
       have:q.toNat=h:=by omega
       rw[<-this,qo.2] at c
       exact absurd c.symm pn
      ·rw[MA c] at e
       exact V_ e
     ·rw[mQ (by omega),MD po.2]
      omega
    omega
   by_cases c:a_ fs (fs.getD i 0) <= a_ fs (fs.getD j 0)
   ·exact fin _ _ (.inl ⟨rfl,rfl⟩) c
   ·exact fin _ _ (.inr ⟨rfl,rfl⟩) (by omega)
 obtain⟨fs,tk,M,le⟩:=go _ (wG _)
 have o:=M.own 0 (by omega)
 have:0 < rM m.toNat fs:=by
  unfold rM
  exact List.countP_pos_iff.mpr ⟨(fs.getD 0 0).toNat,Wh.mpr (by omega),V_ (by rw[o.2];omega)⟩
 omega
theorem CZ {m:Int} {ws:List Wy} {ns:List Int}:∀ k,(bw m ws ns k).1.length=m.toNat/\(0 < k->k <= ns.length->(bw m ws ns k).2.length=m.toNat)
 | 0=>⟨Il _,fun h=>absurd h (XB _)⟩
 | k + 1=>by
  obtain⟨h1,_⟩:=CZ (m:=m) (ws:=ws) (ns:=ns) k
  cases q:ns[k]? with
  | none =>
   have e:bw m ws ns (k + 1)=bw m ws ns k:=by
    unfold bw
    rw[Xu,q];simp
   rw[e]
   refine⟨h1,fun _ z => ?_⟩
   have:=List.getElem?_eq_none_iff.mp q
   omega
  | some n =>
   rw[CN q]
   unfold vW cJ gv
   dsimp only
   exact⟨by rw[qx];exact h1,fun _ _=>by rw[qx,Ws];exact h1⟩
theorem SE {m:Int} {ws:List Wy} {ns:List Int}:(bw m ws ns ns.length).2.length=m.toNat:=by
 cases q:ns.length with
 | zero=>show (List.replicate m.toNat (0:Int)).length=_;exact Yx
 | succ k=>exact (CZ (k + 1)).2 (by omega) (by omega)
noncomputable abbrev yB:=LJT.aH 3
noncomputable def C0:WS:=(au (cx (jW (ao (dC (.int 5)) ak)) (bA 2) (au (aG 3 (ax 3 vy (ao (ax 1 vw (ao (aa 1) ak)) (ao (d2 (du (ao (dC (.int 12)) (ao (dC (.int 12)) (ao (dC (.int 6)) (ao (dC (.int 8)) (ao (dC (.int 4)) ak)))))) (aa 2) aP) (ao (dC (.int 30)) ak))))) (au (aG 4 (ax 2 vY (ao (aa 1) (ao (aa 3) ak)))) (cx (cg (du (ao (aa 4) (ao (je (aa 4) ja (qS (ax 2 gu (ao (aa 1) (ao (d2 (dN (ao (aa 4) ak) df) (dC (.int 1)) dU) ak))))) (ao (d1 (aa 4) xY) ak))))) (bA 5) (au (aG 6 (dN (ao (aa 5) ak) xG)) (cx (jW (ao (dC (.int 2)) ak)) (bA 7) (yD 8 3 6 vX (ph (gh (dT (ax 2 yB (ao (aa 8) (ao (ax 2 sU (ao (aa 3) (ao (aa 5) ak))) ak))))) (dT (d2 (aa 6) (aa 5) pG))) (gh (dT (ax 2 yB (ao (d2 (aa 8) (dC (.int 1)) aP) (ao (d2 (ax 2 sU (ao (aa 3) (ao (aa 5) ak))) (dC (.int 1)) aP) ak)))))))))))) (aX (dC (.bl true))))
theorem SF (ws:List Wy):jn (ws.map cF)=true:=by
 induction ws with
 | nil=>rfl
 | cons y r ih=>rw[Wb];simp only[jn,ih,cF,rK,Zq]
theorem C1 (us:List Int) (hl:us.length <= 1000):LJT.jI (.lst (us.map D.int))=true:=by
 have:∀ us:List Int,LJT.gK (us.map D.int)=true:=fun us=>by
  induction us with
  | nil=>rfl
  | cons n r ih=>simp only[Wb,LJT.gK,LJT.jI,ih,Zq]
 simp only[LJT.jI,this,qx,V_ hl,Zq]
noncomputable abbrev KL:KS:=⟨fun _=>False,fun x _=>x = .p (.bl true),fun _=>False,fun _=>False⟩
theorem SG (ns:List Int) (hn:ns.length <= 63):C0 KL ⟨none :: some (.o 0) :: List.replicate 7 none,[some (jf ns 0 0)]⟩:=by
 unfold C0
 refine aZ fun N hN => ?_
 simp? only []
 refine⟨by decide,?_⟩
 refine kA (fun i δ => ∃ o,bg (1000 * i) o /\ δ = ⟨none :: some (.o 0) :: List.replicate 7 none,[some o]⟩) ⟨jf ns 0 0,⟨ns,0,0,rfl,hn,by omega,by omega⟩,rfl⟩ ?_ ?_
 ·rintro j d δ L hj ⟨o,P,rfl⟩ hL
  obtain⟨C2,rfl⟩:=mH hj
  have C2:j < 5:=C2
  refine⟨trivial,?_⟩
  simp only[bA,WV,List.replicate_zero,WM,WN]
  obtain⟨hs,ea,h1,HL⟩:∃ hs:Int,dF [D.int 12,D.int 12,D.int 6,D.int 8,D.int 4] (0 + (j:Int))=some (.int hs)/\1 <= hs/\hs <= 12:=by
   match j,C2 with
   | 0,_=>exact⟨12,rfl,by decide,by decide⟩
   | 1,_=>exact⟨12,rfl,by decide,by decide⟩
   | 2,_=>exact⟨6,rfl,by decide,by decide⟩
   | 3,_=>exact⟨8,rfl,by decide,by decide⟩
   | 4,_=>exact⟨4,rfl,by decide,by decide⟩
  generalize (0 + (j:Int))=jt at ea
  refine aZ fun N2 dW => ?_
  simp? only []
  refine⟨1000 * j,o,rfl,rfl,P,fun o1 P1 => ?_⟩
  simp? only [ea]
  refine⟨1000 * j,hs,30,o1,rfl,rfl,P1,by omega,by omega,by omega,by omega,by omega,fun m ws o2 W _ _ P2 => ?_⟩
  have HS:=W.mf
  have m1:=W.m1
  have jy:=W.jy
  simp? only []
  subst dW
  refine aZ fun N2 dW => ?_
  simp? only []
  refine⟨1000 * j + 300,m,ws,o2,W,rfl,rfl,P2,by omega,fun us o3 hu C3 VX uj P3 => ?_⟩
  simp? only []
  subst dW
  refine vt fun g' b' K2 hg d6 hK => ?_
  simp only[cg,du]
  refine sN fun K3 lQ => ?_
  simp? only []
  subst lQ
  refine sN fun K3 lQ => ?_
  simp? only []
  refine⟨1000 * j + 300 + 31,(us.length:Int) + 1,o3,rfl,rfl,P3,by omega,by omega,by omega,fun r o4 r0 r1 P4 => ?_⟩
  simp? only []
  subst lQ
  simp? only []
  subst hg d6 hK
  obtain⟨rn,rfl⟩:∃ rn:Nat,r=rn:=⟨r.toNat,by omega⟩
  rw[Sz (t:=rn) (by rw[qx];omega),<-List.map_take,<-List.map_reverse]
  have ind:=IK uj us.length (wG _)
  rw[Zm] at ind
  have all:∀ d∈[D.lst (us.map D.int),D.lst ((us.take rn).map D.int),D.lst (us.reverse.map D.int)],∃ xs:List Int,d = .lst (xs.map D.int)/\Nums ws xs/\xs.Nodup/\Joins ws xs:=by
   intro d hd
   simp only[Fo,Wd,Xr] at hd
   have ji:∀ xs:List Int,(∀ x∈xs,x∈us)->xs.Nodup->Nums ws xs/\xs.Nodup/\Joins ws xs:=fun xs sub nd=>⟨fun n h=>hu n (sub n h),nd,RJ W ind (fun n h=>hu n (sub n h)) nd fun n h=>⟨n,sub n h,rfl⟩⟩
   rcases hd with rfl | rfl | rfl
   ·exact⟨us,rfl,hu,C3,uj⟩
   ·exact⟨us.take rn,rfl,ji _ (fun x h=>Zt h) ((ZU rn us).nodup C3)⟩
   ·exact⟨us.reverse,rfl,ji _ (fun x h=>List.mem_reverse.mp h) ((List.reverse_perm _).nodup_iff.mpr C3)⟩
  generalize [D.lst (us.map D.int),D.lst ((us.take rn).map D.int),D.lst (us.reverse.map D.int)]=items at all
  generalize D.lst (us.map D.int)=ed
  refine kA (fun i δ => δ = ⟨[none,some (.o 0),some (.p (.int jt)),some (.p (bu m ws)),some (.p ed),none,none,none,none],[some o4]⟩) rfl ?_ ?_
  ·rintro i d δ L2 hi rfl pZ
   obtain⟨xs,rfl,hx,xd,xj⟩:=all d (Wk hi)
   have pZ:=pZ _ rfl
   have iK:=SA W hx xj
   refine⟨trivial,?_⟩
   simp only[bA,WM,WN]
   refine aZ fun N2 dW => ?_
   simp? only []
   subst dW
   simp only[cx,jW,ao,dC,ak,iX,fM]
   refine⟨by decide,?_⟩
   have f1:=(CZ (m:=m) (ws:=ws) (ns:=xs) xs.length).1
   have f2:=SE (m:=m) (ws:=ws) (ns:=xs)
   refine kA (fun i δ => δ = ⟨[none,some (.o 0),some (.p (.int jt)),some (.p (bu m ws)),some (.p ed),some (.p (.lst (xs.map D.int))),some (.p (.lst (xs.map D.int))),none,none],[some o4]⟩) rfl ?_ ?_
   ·rintro a d δ L3 ha rfl C4
    have C4:=C4 _ rfl
    refine⟨trivial,?_⟩
    simp only[bA,WM,WN]
    simp? only [yD,j8]
    refine⟨_,xs,rfl,by unfold bu;simp only[rK,jn,SF,Zq],rfl,m,ws,xs,W,hx,xd,by omega,xj,rfl,rfl,fun fs tk _ em _ => ?_⟩
    have e1:(bw m ws xs xs.length).1=fs:=by rw[<-em]
    have e2:(bw m ws xs xs.length).2=tk:=by rw[<-em]
    rw[e1] at f1
    rw[e2] at f2
    refine⟨fs,tk,rfl,by omega,by omega,by omega,by omega,?_⟩
    refine⟨m,ws,xs,W,hx,xd,by omega,xj,rfl,rfl,?_⟩
    rw[e1,e2]
    have d1:=vU fs
    have VY:=vU tk
    have d3:=vU xs
    simp? only []
    refine⟨.tup [bE fs,bE tk],?_,by decide,?_,rfl,rfl,?_⟩
    ·unfold bE
     simp only[dep,bH]
     omega
    ·unfold bE
     simp only[LJT.jI,LJT.gK,Bool.and_true]
     have q1:=C1 fs (by omega)
     have q2:=C1 tk (by omega)
     simp only[LJT.jI] at q1 q2
     rw[q1,q2];rfl
    simp? only []
    refine⟨by omega,?_⟩
    rw[gH]
    refine⟨rfl,?_⟩
    refine⟨m,ws,xs,W,hx,xd,by omega,xj,rfl,rfl,?_⟩
    rw[e1,e2]
    simp? only [jX,bE]
    refine⟨.lst (tk.map D.int),?_,by decide,C1 tk (by omega),rfl,rfl,?_⟩
    ·simp only[dep]
     omega
    simp? only []
    exact C4
   ·rintro δ rfl
    refine⟨trivial,?_⟩
    simp? only []
    exact pZ
  ·rintro δ rfl
   refine⟨trivial,?_⟩
   simp? only []
   exact hL _ ⟨o4,P4.mono (by omega),rfl⟩
 ·rintro δ ⟨o,P,rfl⟩
  refine⟨trivial,?_⟩
  subst hN
  simp? only []
end LJ
namespace LJ
open PySem L2
noncomputable def top (i:Nat):Stmt:=PySem.Challenge.pw_lotjoin_k40_marks_told.main.body.getD i (.Pass ⟨0,0,0,0⟩)
section
variable [aI] {P:Program} {w:World} {K:PySem.W.Frag} {mg:Str->Option Value} {base:Heap}
noncomputable abbrev C5:Stmt:=top 9
theorem fB:d5 ["thing"] ["thing"] (cb C5):=⟨rfl,rfl,rfl,by decide +kernel,rfl,by decide +kernel,by decide +kernel⟩
theorem SH {f:Addr} {fd:FuncData} (F:c_ K "is_whole" "is_whole" C5 f fd) (B:BT mg):ba P w K mg base cz 1 f fd ["thing"] (bf vz 1):=by
 refine F.gQ (k:=0) fB fun bD A outer s H E hr => ?_
 have nd:=fB.nd
 have hu:=hr.units
 exact⟨BS,(bL (cI (mE (iF Bm (by rfl) B.isinstance (by rfl) B.int wY (dv 0)) (nN (N6 (iF u9 (by rfl) B.isinstance (by rfl) B.bool uI (dv 0))))))),P_⟩
noncomputable abbrev C6:Stmt:=top 10
theorem eJ:d5 ["thing", "least", "most"] ["thing", "least", "most"] (cb C6):=⟨rfl,rfl,rfl,by decide +kernel,rfl,by decide +kernel,by decide +kernel⟩
theorem SI {f SJ:Addr} {fd SK:FuncData} (F:c_ K "is_within" "is_within" C6 f fd) (B:BT mg) (cV:Fn P w K mg base 1 "is_whole" ["thing"] (bf vz 1) SJ SK):ba P w K mg base cz 2 f fd ["thing", "least", "most"] (bf kB 3):=by
 refine F.gQ (k:=1) eJ fun bD A outer s H E hr => ?_
 have nd:=eJ.nd
 have hu:=hr.units
 exact⟨BU,(bL (cI (mE (cf cV.ok (hr.mono (by decide)) (by rfl) cV.bU cV.kp cV.bd (ar (dv 0) aD)) (nN (OE GN GN (dv 1) (dv 0) (dv 2)))))),Qa⟩
noncomputable abbrev C7:Stmt:=top 11
theorem dB:d5 ["thing", "size"] ["thing", "size"] (cb C7):=⟨rfl,rfl,rfl,by decide +kernel,rfl,by decide +kernel,by decide +kernel⟩
theorem SM {f:Addr} {fd:FuncData} (F:c_ K "is_tuple_of" "is_tuple_of" C7 f fd) (B:BT mg):ba P w K mg base cz 1 f fd ["thing", "size"] (bf rq 2):=by
 refine F.gQ (k:=0) dB fun bD A outer s H E hr => ?_
 have nd:=dB.nd
 have hu:=hr.units
 exact⟨BV,(bL (cI (mE (iF xI (by rfl) B.isinstance (by rfl) B.tuple uJ (dv 0)) (nN (mD (fV hu) (gO jc (by rfl) B.len WQ (ar (dv 0) aD)) (dv 1) (by rfl)))))),Qb⟩
noncomputable abbrev C8:Stmt:=top 12
theorem fD:d5 ["many", "one", "other"] ["many", "one", "other"] (cb C8):=⟨rfl,rfl,rfl,by decide +kernel,rfl,by decide +kernel,by decide +kernel⟩
theorem SN {f rN:Addr} {fd rO:FuncData} (F:c_ K "are_ends" "are_ends" C8 f fd) (B:BT mg) (aq:Fn P w K mg base 2 "is_within" ["thing", "least", "most"] (bf kB 3) rN rO):ba P w K mg base cz 3 f fd ["many", "one", "other"] (bf vC 3):=by
 refine F.gQ (k:=2) fD fun bD A outer s H E hr => ?_
 have nd:=fD.nd
 have hu:=hr.units
 exact⟨BW,(bL (cI (mE (cf aq.ok (hr.mono (by decide)) (by rfl) aq.bU aq.kp aq.bd (ar (dv 1) (aY av (gN (bI pF (dv 0) av) aD)))) (nN (cf aq.ok (hr.mono (by decide)) (by rfl) aq.bU aq.kp aq.bd (ar (dv 2) (gN (bI fg (dv 1) av) (gN (bI pF (dv 0) av) aD)))))))),Qc⟩
noncomputable abbrev C9:Stmt:=top 13
theorem gY:d5 ["many", "thing"] ["many", "thing"] (cb C9):=⟨rfl,rfl,rfl,by decide +kernel,rfl,by decide +kernel,by decide +kernel⟩
theorem SO {f C_ SQ rN:Addr} {fd Dc SS rO:FuncData} (F:c_ K "is_way" "is_way" C9 f fd) (B:BT mg) {IL:Value} (IM:RelV (.int 1000000000) IL/\mg "MOST_PRICE" = some IL) (aK:Fn P w K mg base 1 "is_tuple_of" ["thing", "size"] (bf rq 2) C_ Dc) (cW:Fn P w K mg base 3 "are_ends" ["many", "one", "other"] (bf vC 3) SQ SS) (aq:Fn P w K mg base 2 "is_within" ["thing", "least", "most"] (bf kB 3) rN rO):ba P w K mg base cz 4 f fd ["many", "thing"] (bf vD 2):=by
 refine F.gQ (k:=3) gY fun bD A outer s H E hr => ?_
 have nd:=gY.nd
 have hu:=hr.units
 exact⟨BX,(bp (fz (nM (jU (cf aK.ok (hr.mono (by decide)) (by rfl) aK.bU aK.kp aK.bd (ar (dv 1) (aY av aD))))) (bL (cI lq)) fN) (bL (cI (mE (cf cW.ok (hr.mono (by decide)) (by rfl) cW.bU cW.kp cW.bd (ar (dv 0) (bR (br bt (dv 1) av (fun _ _=>rfl)) (bR (br bt (dv 1) av (fun _ _=>rfl)) aD)))) (nN (cf aq.ok (hr.mono (by decide)) (by rfl) aq.bU aq.kp aq.bd (bR (br bt (dv 1) av (fun _ _=>rfl)) (aY av (ar (AO (i:=1000000000) (by rfl) IM.2 IM.1) aD))))))))),Qe⟩
noncomputable abbrev De:Stmt:=top 14
theorem fE:d5 ["many", "thing"] ["many", "thing"] (cb De):=⟨rfl,rfl,rfl,by decide +kernel,rfl,by decide +kernel,by decide +kernel⟩
theorem SU {f SV:Addr} {fd SW:FuncData} (F:c_ K "are_ways" "are_ways" De f fd) (B:BT mg) {IP:Value} (IQ:RelV (.int 30) IP/\mg "MOST_WAYS" = some IP) (eK:Fn P w K mg base 4 "is_way" ["many", "thing"] (bf vD 2) SV SW):ba P w K mg base cz 5 f fd ["many", "thing"] (bf vE 2):=by
 refine F.gQ (k:=4) fE fun bD A outer s H E hr => ?_
 have nd:=fE.nd
 have hu:=hr.units
 exact⟨B0,(bp (fz (JW.jt (uS (nM (jU (iF xI (by rfl) B.isinstance (by rfl) B.tuple uJ (dv 1)))) (uR (dQ xB (gO jc (by rfl) B.len WQ (ar (dv 1) aD)) (AO (i:=30) (by rfl) IQ.2 IQ.1) (by rfl))))) (bL (cI lq)) fN) (bp (fz (nM (jU (gO (OM rfl) (by rfl) B.all NV (gN (i7 [none,some 0] ["way", "many"] rfl (i_ (dv 1)) (fun d=>(b8 (i:=0) (show (["way", "many"]:List Str).Nodup by decide +kernel) rfl (by trivial))) (fun d=>i5) (fun d=>(cf eK.ok (hr.mono (by decide)) (by rfl) eK.bU eK.kp eK.bd (ar (dv 1) (ar (dv 0) aD))))) aD)))) (bL (cI lq)) fN) (bL (cI (mD (fV hu) (P9 rfl hu (by rfl) B.len WQ (by rfl) B.set F7 (gN (i7 [none] ["way"] rfl (i_ (dv 1)) (fun d=>(b8 (i:=0) (show (["way"]:List Str).Nodup by decide +kernel) rfl (by trivial))) (fun d=>i5) (fun d=>(xX (dv 0) xE (xF av)))) aD)) (gO jc (by rfl) B.len WQ (ar (dv 1) aD)) (by rfl)))))),Qf⟩
noncomputable abbrev Df:Stmt:=top 15
theorem gZ:d5 ["thing"] ["thing"] (cb Df):=⟨rfl,rfl,rfl,by decide +kernel,rfl,by decide +kernel,by decide +kernel⟩
theorem SX {f C_ rN SY:Addr} {fd Dc rO S7:FuncData} (F:c_ K "is_web" "is_web" Df f fd) (B:BT mg) {IS:Value} (IT:RelV (.int 12) IS/\mg "MOST_HOUSES" = some IS) (aK:Fn P w K mg base 1 "is_tuple_of" ["thing", "size"] (bf rq 2) C_ Dc) (aq:Fn P w K mg base 2 "is_within" ["thing", "least", "most"] (bf kB 3) rN rO) (cX:Fn P w K mg base 5 "are_ways" ["many", "thing"] (bf vE 2) SY S7):ba P w K mg base cz 6 f fd ["thing"] (bf vG 1):=by
 refine F.gQ (k:=5) gZ fun bD A outer s H E hr => ?_
 have nd:=gZ.nd
 have hu:=hr.units
 exact⟨B2,(bp (fz (nM (jU (cf aK.ok (hr.mono (by decide)) (by rfl) aK.bU aK.kp aK.bd (ar (dv 0) (aY av aD))))) (bL (cI lq)) fN) (bL (cI (mE (cf aq.ok (hr.mono (by decide)) (by rfl) aq.bU aq.kp aq.bd (bR (br bt (dv 0) av (fun _ _=>rfl)) (aY av (ar (AO (i:=12) (by rfl) IT.2 IT.1) aD)))) (nN (cf cX.ok (hr.mono (by decide)) (by rfl) cX.bU cX.kp cX.bd (bR (br bt (dv 0) av (fun _ _=>rfl)) (bR (br bt (dv 0) av (fun _ _=>rfl)) aD)))))))),Qh⟩
noncomputable abbrev Dg:Stmt:=top 16
theorem fF:d5 ["web"] ["web"] (cb Dg):=⟨rfl,rfl,rfl,by decide +kernel,rfl,by decide +kernel,by decide +kernel⟩
theorem S8 {f S9:Addr} {fd S_:FuncData} (F:c_ K "need_web" "need_web" Dg f fd) (B:BT mg) (eM:Fn P w K mg base 6 "is_web" ["thing"] (bf vG 1) S9 S_):ba P w K mg base cz 7 f fd ["web"] (bf vT 1):=by
 refine F.gQ (k:=6) fF fun bD A outer s H E hr => ?_
 have nd:=fF.nd
 have hu:=hr.units
 exact⟨CA,(bL (fz (nM (jU (cf eM.ok (hr.mono (by decide)) (by rfl) eM.bU eM.kp eM.bd (ar (dv 0) aD)))) (bL vf) fN)),Rl⟩
noncomputable abbrev Dh:Stmt:=top 18
theorem eN:d5 ["web", "ways", "last", "seen", "place", "number"] ["web", "ways"] (cb Dh):=⟨rfl,rfl,rfl,by decide +kernel,rfl,by decide +kernel,by decide +kernel⟩
theorem Ta {f Tb rN:Addr} {fd Tc rO:FuncData} (F:c_ K "need_ways" "need_ways" Dh f fd) (B:BT mg) (cY:Fn P w K mg base 7 "need_web" ["web"] (bf vT 1) Tb Tc) (aq:Fn P w K mg base 2 "is_within" ["thing", "least", "most"] (bf kB 3) rN rO):ba P w K mg base cz 8 f fd ["web", "ways"] (bf rF 2):=by
 refine F.gQ (k:=7) eN fun bD A outer s H E hr => ?_
 have nd:=eN.nd
 have hu:=hr.units
 exact⟨CD,(bp (qF (cf cY.ok (hr.mono (by decide)) (by rfl) cY.bU cY.kp cY.bd (ar (dv 0) aD))) (bp (fz (nM (jU (iF Bo (by rfl) B.isinstance (by rfl) B.list nJ (dv 1)))) (bL vf) fN) (bp (b_ (i:=2) nd rfl (by trivial) (bI pF (gO jc (by rfl) B.len WQ (bR (br bt (dv 0) av (fun _ _=>rfl)) aD)) av)) (bp (b_ (i:=3) nd rfl (by trivial) Ro) (bL (kr W8 rfl (sF (by rfl) B.enumerate (ar (dv 1) aD)) (lD rfl (gr (b8 (i:=4) nd rfl (by trivial)) (gr (b8 (i:=5) nd rfl (by trivial)) lC))) (bp (fz (JW.jt (uS (nM (jU (cf aq.ok (hr.mono (by decide)) (by rfl) aq.bU aq.kp aq.bd (ar (dv 5) (aY av (ar (dv 2) aD)))))) (uR (Rr hu (dv 5) (dv 3))))) (bL vf) fN) (bL (Rt hu (dv 3) (dv 5) lq))))))))),Rw⟩
noncomputable abbrev yF:Stmt:=top 20
theorem c9:d5 ["marks", "one", "other", "pair"] ["marks", "one", "other"] (cb yF):=⟨rfl,rfl,rfl,by decide +kernel,rfl,by decide +kernel,by decide +kernel⟩
theorem Td {f:Addr} {fd:FuncData} {T:Addr} (F:c_ K "joined_marks" "joined_marks" yF f fd) (B:BT mg) (LD:QY mg base fd T ⟨56,50,56,89⟩ ((("joined_marks" : Str) ++ ".<locals>.") ++ "<lambda>")):ba P w K mg base cz 4 f fd ["marks", "one", "other"] (bf rH 3):=by
 refine F.Cs (k:=3) c9 fun bD A outer s H E hc hr => ?_
 have nd:=c9.nd
 have hu:=hr.units
 exact⟨CI,(bp (b_ (i:=3) nd rfl (by trivial) (QZ (lY.mk (x := "mark") (Nb:=["marks"]) (cp:=[some 0]) (T:=T) ⟨(let ⟨cc,e1,e2⟩:=LD.code; ⟨cc,hc.symm.trans e1,e2⟩),LD.ng,LD.blt⟩ LD.tbl rfl rfl (by first | rfl | kernel_rfl) rfl rfl (fun _ _ _ _ _=>rfl) ⟨0,hr.mono (by decide),fun d hr=>(lz (cD ((mC Wu YY YZ Am (dv 1) (ar (dv 0) aD)).weak Br) (gN (OD (dv 0)) aD)))⟩) (by rfl) B.sorted xR (uO (kn (bR (br bt (dv 0) (dv 1) (fun _ _=>rfl)) (bR (br bt (dv 0) (dv 2) (fun _ _=>rfl)) aD))) aD))) (bL (cI (i7 [none,some 3] ["mark", "pair"] rfl (i_ (dv 0)) (fun d=>(b8 (i:=0) (show (["mark", "pair"]:List Str).Nodup by decide +kernel) rfl (by trivial))) (fun d=>i5) (fun d=>(uT (dQ (fV hu) (dv 0) (br bt (dv 1) av (fun _ _=>rfl)) (by rfl)) (br bt (dv 1) av (fun _ _=>rfl)) (dv 0))))))),RE⟩
noncomputable abbrev Di:Stmt:=top 23
theorem dD:d5 ["cell", "at", "primes", "one", "two", "three"] ["cell", "at"] (cb Di):=⟨rfl,rfl,rfl,by decide +kernel,rfl,by decide +kernel,by decide +kernel⟩
theorem Te {f:Addr} {fd:FuncData} (F:c_ K "_law_spread" "_law_spread" Di f fd) (B:BT mg):ba P w K mg base cz 1 f fd ["cell", "at"] (bf vv 2):=by
 refine F.gQ (k:=0) dD fun bD A outer s H E hr => ?_
 have nd:=dD.nd
 have hu:=hr.units
 exact⟨BJ,(bp (fz (dQ Oz (dv 0) (bI qR av av) (by rfl)) (bL (cI (dv 0))) fN) (bp (b_ (i:=2) nd rfl (by trivial) (kn (aY av (aY av (aY av (aY av (aY av (aY av (aY av (aY av aD)))))))))) (bp (b_ (i:=2) nd rfl (by trivial) (bI fg (dv 2) (kn (aY av (aY av (aY av (aY av (aY av aD)))))))) (bp (b_ (i:=3) nd rfl (by trivial) (bI kz (bI qR (bI fg (bI fg (bI mI (bI kz (dv 0) av) (bI fg (bI mI av (dv 1)) av)) (bI mI (dv 1) av)) av) av) (br bt (dv 2) (bI kz (dv 1) av) (fun _ _=>rfl)))) (bp (b_ (i:=4) nd rfl (by trivial) (bI kz (bI qR (bI fg (bI fg (bI mI (dv 3) (bI fg (dv 1) av)) (bI kz (dv 0) av)) av) av) (br bt (dv 2) (bI kz (bI fg (dv 1) av) av) (fun _ _=>rfl)))) (bp (b_ (i:=5) nd rfl (by trivial) (bI kz (bI qR (bI fg (bI fg (dv 4) (bI kz (dv 3) av)) (dv 1)) av) (br bt (dv 2) (bI kz (bI fg (dv 1) av) av) (fun _ _=>rfl)))) (bL (cI (bI fg (bI mI (bI fg (bI mI (dv 3) av) (dv 4)) av) (dv 5)))))))))),PQ⟩
noncomputable abbrev Dj:Stmt:=top 25
theorem eO:d5 ["pen"] ["pen"] (cb Dj):=⟨rfl,rfl,rfl,by decide +kernel,rfl,by decide +kernel,by decide +kernel⟩
theorem Tf {f:Addr} {fd:FuncData} (F:c_ K "_law_anew" "_law_anew" Dj f fd) (B:BT mg):ba P w K mg base cz 1 f fd ["pen"] (bf vw 1):=by
 refine F.gQ (k:=0) eO fun bD A outer s H E hr => ?_
 have nd:=eO.nd
 have hu:=hr.units
 exact⟨BK,(bp ((sy av (uF (dv 0) av set_list)).weak xK) (bL (cI (dv 0)))),PR⟩
noncomputable abbrev Dk:Stmt:=top 26
theorem eQ:d5 ["pen", "many", "at", "cell", "found"] ["pen", "many"] (cb Dk):=⟨rfl,rfl,rfl,by decide +kernel,rfl,by decide +kernel,by decide +kernel⟩
theorem Tg {f Th:Addr} {fd Ti:FuncData} (F:c_ K "_law_take" "_law_take" Dk f fd) (B:BT mg) (bT:Fn P w K mg base 1 "_law_spread" ["cell", "at"] (bf vv 2) Th Ti):ba P w K mg base cz 2 f fd ["pen", "many"] (bf gu 2):=by
 refine F.gQ (k:=1) eQ fun bD A outer s H E hr => ?_
 have nd:=eQ.nd
 have hu:=hr.units
 exact⟨BL,(bp (fz (dQ (xA hu) (br bt (dv 0) av (fun _ _=>rfl)) (dv 1) (by rfl)) (bp (b_ (i:=2) nd rfl (by trivial) (br bt (dv 0) av (fun _ _=>rfl))) (bp (b_ (i:=3) nd rfl (by trivial) av) (bp (fz (dQ (xA hu) (dv 2) (gO jc (by rfl) B.len WQ (bR (br bt (dv 0) av (fun _ _=>rfl)) aD)) (by rfl)) (bL (b_ (i:=3) nd rfl (by trivial) (br bt (br bt (dv 0) av (fun _ _=>rfl)) (dv 2) (fun _ _=>rfl)))) (bL (fz (dQ xB (gO jc (by rfl) B.len WQ (bR (br bt (dv 0) av (fun _ _=>rfl)) aD)) av (by rfl)) (bL (b_ (i:=3) nd rfl (by trivial) (bI kz (br bt (br bt (dv 0) av (fun _ _=>rfl)) (bI kz (bI fg (bI mI (dv 2) av) av) (gO jc (by rfl) B.len WQ (bR (br bt (dv 0) av (fun _ _=>rfl)) aD))) (fun _ _=>rfl)) (bI fg (bI qR av av) (dv 2))))) fN))) (bp ((sy (bI fg (dv 2) av) (uF (dv 0) av set_list)).weak xK) (bL ((sy (cf bT.ok (hr.mono (by decide)) (by rfl) bT.bU bT.kp bT.bd (ar (dv 3) (ar (dv 2) aD))) (uF (dv 0) av set_list)).weak xK)))))) fN) (bp (b_ (i:=4) nd rfl (by trivial) (bI kz (br bt (dv 0) av (fun _ _=>rfl)) (dv 1))) (bp ((sy (bI Oy (br bt (dv 0) av (fun _ _=>rfl)) (dv 1)) (uF (dv 0) av set_list)).weak xK) (bL (cI (dv 4)))))),PU⟩
noncomputable abbrev Dl:Stmt:=top 28
theorem cG:d5 ["pen", "kind", "many", "every", "other", "ring", "half"] ["pen", "kind", "many"] (cb Dl):=⟨rfl,rfl,rfl,by decide +kernel,rfl,by decide +kernel,by decide +kernel⟩
theorem Tj {f rP:Addr} {fd rQ:FuncData} (F:c_ K "_law_pairs_of" "_law_pairs_of" Dl f fd) (B:BT mg) (ae:Fn P w K mg base 2 "_law_take" ["pen", "many"] (bf gu 2) rP rQ):ba P w K mg base cz 3 f fd ["pen", "kind", "many"] (bf vx 3):=by
 refine F.gQ (k:=2) cG fun bD A outer s H E hr => ?_
 have nd:=cG.nd
 have hu:=hr.units
 exact⟨BM,(bp (b_ (i:=3) nd rfl (by trivial) (xc aD)) (bp (kr W8 rfl (nW (by rfl) B.range (ar (dv 2) aD)) (b8 (i:=4) nd rfl (by trivial)) (bL (qF ((mC Wu PySem.F.slot_list_extend PySem.F.type_list_extend Ms (dv 3) (gN (i7 [none,some 4] ["one", "other"] rfl (nW (by rfl) B.range (ar (dv 4) aD)) (fun d=>(b8 (i:=0) (show (["one", "other"]:List Str).Nodup by decide +kernel) rfl (by trivial))) (fun d=>i5) (fun d=>(lz (ar (dv 0) (ar (dv 1) aD))))) aD)).weak OR)))) (bp (fz (dQ (fV hu) (dv 1) av (by rfl)) (bL (cI (xo [none,some 0] ["other", "pen"] rfl (Ov (by rfl) B.range (aY av (ar (dv 2) aD))) (fun d=>(b8 (i:=0) (show (["other", "pen"]:List Str).Nodup by decide +kernel) rfl (by trivial))) (fun d=>i5) (fun d=>(lz (cD (cf ae.ok (hr.mono (by decide)) (by rfl) ae.bU ae.kp ae.bd (ar (dv 1) (ar (dv 0) aD))) (ar (dv 0) aD))))))) fN) (bp (fz (dQ (fV hu) (dv 1) av (by rfl)) (bp (N_ [none] ["k"] (i:=5) nd rfl (by trivial) rfl (nW (by rfl) B.range (gN (bI pF (dv 2) av) aD)) (fun d=>(b8 (i:=0) (show (["k"]:List Str).Nodup by decide +kernel) rfl (by trivial))) (fun d=>i5) (fun d=>(lz (ar (dv 0) (gN (bI fg (dv 0) av) aD))))) (bL (cI (OY (dv 5) (i7 [none,some 2] ["pair", "many"] rfl (i_ (dv 3)) (fun d=>(b8 (i:=0) (show (["pair", "many"]:List Str).Nodup by decide +kernel) rfl (by trivial))) (fun d=>(uV (JW.jt (Gn (dQ (fV hu) (dv 0) (lz (aY av (gN (bI pF (dv 1) av) aD))) (by rfl)) (Gm (dQ xB (dv 1) av (by rfl))))))) (fun d=>(dv 0))))))) fN) (bp (fz (dQ (fV hu) (dv 1) av (by rfl)) (bL (cI (dv 3))) fN) (bp (fz (dQ (fV hu) (dv 1) av (by rfl)) (bL (cI (xo [none,some 0] ["pair", "pen"] rfl (i_ (dv 3)) (fun d=>(b8 (i:=0) (show (["pair", "pen"]:List Str).Nodup by decide +kernel) rfl (by trivial))) (fun d=>(uV (dQ (fV hu) (cf ae.ok (hr.mono (by decide)) (by rfl) ae.bU ae.kp ae.bd (ar (dv 1) (aY av aD))) av (by rfl)))) (fun d=>(dv 0))))) fN) (bp (fz (dQ (fV hu) (dv 1) av (by rfl)) (bp (b_ (i:=6) nd rfl (by trivial) (cf ae.ok (hr.mono (by decide)) (by rfl) ae.bU ae.kp ae.bd (ar (dv 0) (gN (bI fg (dv 2) av) aD)))) (bL (cI (xo [none,some 6,some 0] ["pair", "half", "pen"] rfl (i_ (dv 3)) (fun d=>(b8 (i:=0) (show (["pair", "half", "pen"]:List Str).Nodup by decide +kernel) rfl (by trivial))) (fun d=>(uV (JW.jt (Gn (dQ (fV hu) (mD (xA hu) (br bt (dv 0) av (fun _ _=>rfl)) (dv 1) (by rfl)) (mD (xA hu) (br bt (dv 0) av (fun _ _=>rfl)) (dv 1) (by rfl)) (by rfl)) (Gm (dQ xB (cf ae.ok (hr.mono (by decide)) (by rfl) ae.bU ae.kp ae.bd (ar (dv 2) (aY av aD))) av (by rfl))))))) (fun d=>(dv 0)))))) fN) (bL (cI (xo [none,some 0] ["pair", "pen"] rfl (i_ (dv 3)) (fun d=>(b8 (i:=0) (show (["pair", "pen"]:List Str).Nodup by decide +kernel) rfl (by trivial))) (fun d=>(uV (dQ (fV hu) (cf ae.ok (hr.mono (by decide)) (by rfl) ae.bU ae.kp ae.bd (ar (dv 1) (aY av aD))) av (by rfl)))) (fun d=>(dv 0)))))))))))),PY⟩
noncomputable abbrev Dm:Stmt:=top 29
theorem fG:d5 ["pen", "houses", "most", "kind", "prices", "many", "pairs", "ways", "k", "one", "other", "price"] ["pen", "houses", "most"] (cb Dm):=⟨rfl,rfl,rfl,by decide +kernel,rfl,by decide +kernel,by decide +kernel⟩
theorem Tn {f rP To:Addr} {fd rQ Tp:FuncData} (F:c_ K "_law_web" "_law_web" Dm f fd) (B:BT mg) (ae:Fn P w K mg base 2 "_law_take" ["pen", "many"] (bf gu 2) rP rQ) (bJ:Fn P w K mg base 3 "_law_pairs_of" ["pen", "kind", "many"] (bf vx 3) To Tp):ba P w K mg base cz 4 f fd ["pen", "houses", "most"] (bf vy 3):=by
 refine F.gQ (k:=3) fG fun bD A outer s H E hr => ?_
 have nd:=fG.nd
 have hu:=hr.units
 exact⟨BR,(bp (b_ (i:=3) nd rfl (by trivial) (cf ae.ok (hr.mono (by decide)) (by rfl) ae.bU ae.kp ae.bd (ar (dv 0) (aY av aD)))) (bp (b_ (i:=4) nd rfl (by trivial) (cf ae.ok (hr.mono (by decide)) (by rfl) ae.bU ae.kp ae.bd (ar (dv 0) (aY av aD)))) (bp (b_ (i:=5) nd rfl (by trivial) (bI fg av (cf ae.ok (hr.mono (by decide)) (by rfl) ae.bU ae.kp ae.bd (ar (dv 0) (ar (dv 1) aD))))) (bp (b_ (i:=6) nd rfl (by trivial) (Og bJ.ok (hr.mono (by decide)) (by rfl) bJ.bU bJ.kp bJ.bd (ar (dv 0) (ar (dv 3) (ar (dv 5) aD))))) (bp (b_ (i:=7) nd rfl (by trivial) (xc aD)) (bp (kr W8 rfl (nW (by rfl) B.range (cD (gO (GX rfl) (by rfl) B.min Hb (ar (dv 2) (cD (gO jc (by rfl) B.len WQ (ar (dv 6) aD)) aD))) aD)) (b8 (i:=8) nd rfl (by trivial)) (bp (xh ((mC Wu PySem.F.slot_list_pop PySem.F.type_list_pop Ff (dv 6) (cD (cf ae.ok (hr.mono (by decide)) (by rfl) ae.bU ae.kp ae.bd (ar (dv 0) (cD (gO jc (by rfl) B.len WQ (ar (dv 6) aD)) aD))) aD)).weak G0) (lD rfl (gr (b8 (i:=9) nd rfl (by trivial)) (gr (b8 (i:=10) nd rfl (by trivial)) lC)))) (bp (b_ (i:=11) nd rfl (by trivial) (br bt (kn (aY av (cD (cf ae.ok (hr.mono (by decide)) (by rfl) ae.bU ae.kp ae.bd (ar (dv 0) (aY av aD))) (gN (bI pF (bI qR av av) (cf ae.ok (hr.mono (by decide)) (by rfl) ae.bU ae.kp ae.bd (ar (dv 0) (aY av aD)))) (cD (cf ae.ok (hr.mono (by decide)) (by rfl) ae.bU ae.kp ae.bd (ar (dv 0) (gN (bI fg (bI qR av av) av) aD))) aD))))) (dv 4) (fun _ _=>rfl))) (bL (qF ((mC Wu Yk Yl uo (dv 7) (qD (lz (ar (dv 9) (ar (dv 10) (ar (dv 11) aD)))) aD)).weak Bp)))))) (bL (cI (lz (ar (dv 5) (cD (AQ OK (by rfl) B.tuple uJ (ar (dv 7) aD)) aD))))))))))),PZ⟩
noncomputable abbrev Dp:Stmt:=top 30
theorem cH:d5 ["web", "ways", "found", "number", "one", "other"] ["web", "ways"] (cb Dp):=⟨rfl,rfl,rfl,by decide +kernel,rfl,by decide +kernel,by decide +kernel⟩
theorem Tq {f:Addr} {fd:FuncData} (F:c_ K "_law_marks_by" "_law_marks_by" Dp f fd) (B:BT mg):ba P w K mg base cz 1 f fd ["web", "ways"] (bf vI 2):=by
 refine F.gQ (k:=0) cH fun bD A outer s H E hr => ?_
 have nd:=cH.nd
 have hu:=hr.units
 exact⟨x_,(bp (b_ (i:=2) nd rfl (by trivial) (Bk rfl (by rfl) B.list nJ (by rfl) B.range vc (bR (br bt (dv 0) av (fun _ _=>rfl)) aD))) (bp (kr W8 rfl (i_ (dv 1)) (b8 (i:=3) nd rfl (by trivial)) (bp (xh (gO OL (by rfl) B.sorted xR (gN (i7 [none,some 2] ["house", "found"] rfl (i_ (xX (br bt (br bt (dv 0) av (fun _ _=>rfl)) (dv 3) (fun _ _=>rfl)) xE (xF av))) (fun d=>(b8 (i:=0) (show (["house", "found"]:List Str).Nodup by decide +kernel) rfl (by trivial))) (fun d=>i5) (fun d=>(br bt (dv 1) (dv 0) (fun _ _=>rfl)))) aD)) (lD rfl (gr (b8 (i:=4) nd rfl (by trivial)) (gr (b8 (i:=5) nd rfl (by trivial)) lC)))) (bL (b_ (i:=2) nd rfl (by trivial) (i7 [none,some 4,some 5] ["mark", "one", "other"] rfl (i_ (dv 2)) (fun d=>(b8 (i:=0) (show (["mark", "one", "other"]:List Str).Nodup by decide +kernel) rfl (by trivial))) (fun d=>i5) (fun d=>(uT (dQ (fV hu) (dv 0) (dv 2) (by rfl)) (dv 1) (dv 0)))))))) (bL (cI (dv 2))))),Ql⟩
noncomputable abbrev Dq:Stmt:=top 31
theorem eR:d5 ["web", "ways", "marks"] ["web", "ways"] (cb Dq):=⟨rfl,rfl,rfl,by decide +kernel,rfl,by decide +kernel,by decide +kernel⟩
theorem Tr {f Tt:Addr} {fd Tu:FuncData} (F:c_ K "_law_lots" "_law_lots" Dq f fd) (B:BT mg) (bK:Fn P w K mg base 1 "_law_marks_by" ["web", "ways"] (bf vI 2) Tt Tu):ba P w K mg base cz 2 f fd ["web", "ways"] (bf sQ 2):=by
 refine F.gQ (k:=1) eR fun bD A outer s H E hr => ?_
 have nd:=eR.nd
 have hu:=hr.units
 exact⟨ya,(bp (b_ (i:=2) nd rfl (by trivial) (cf bK.ok (hr.mono (by decide)) (by rfl) bK.bU bK.kp bK.bd (ar (dv 0) (ar (dv 1) aD)))) (bL (cI (i7 [none,some 0,some 2] ["first", "web", "marks"] rfl (i_ (Pq rfl (by rfl) B.sorted xR (by rfl) B.set F7 (ar (dv 2) aD))) (fun d=>(b8 (i:=0) (show (["first", "web", "marks"]:List Str).Nodup by decide +kernel) rfl (by trivial))) (fun d=>i5) (fun d=>(i7 [none,some 0,some 2] ["house", "first", "marks"] rfl (nW (by rfl) B.range (bR (br bt (dv 1) av (fun _ _=>rfl)) aD)) (fun d=>(b8 (i:=0) (show (["house", "first", "marks"]:List Str).Nodup by decide +kernel) rfl (by trivial))) (fun d=>(uV (dQ (fV hu) (br bt (dv 2) (dv 0) (fun _ _=>rfl)) (dv 1) (by rfl)))) (fun d=>(dv 0)))))))),Qn⟩
noncomputable abbrev Dr:Stmt:=top 32
theorem cn:d5 ["pen", "web", "most", "left", "found", "k"] ["pen", "web", "most"] (cb Dr):=⟨rfl,rfl,rfl,by decide +kernel,rfl,by decide +kernel,by decide +kernel⟩
theorem Tv {f rP:Addr} {fd rQ:FuncData} (F:c_ K "_law_some_ways" "_law_some_ways" Dr f fd) (B:BT mg) (ae:Fn P w K mg base 2 "_law_take" ["pen", "many"] (bf gu 2) rP rQ):ba P w K mg base cz 3 f fd ["pen", "web", "most"] (bf vK 3):=by
 refine F.gQ (k:=2) cn fun bD A outer s H E hr => ?_
 have nd:=cn.nd
 have hu:=hr.units
 exact⟨B7,(bp (b_ (i:=3) nd rfl (by trivial) (Hd rfl (by rfl) B.list nJ (by rfl) B.range vc (cD (gO jc (by rfl) B.len WQ (bR (br bt (dv 1) av (fun _ _=>rfl)) aD)) aD))) (bp (b_ (i:=4) nd rfl (by trivial) (xc aD)) (bp (kr W8 rfl (nW (by rfl) B.range (cD (gO (GX rfl) (by rfl) B.min Hb (cD (gO jc (by rfl) B.len WQ (ar (dv 3) aD)) (cD (cf ae.ok (hr.mono (by decide)) (by rfl) ae.bU ae.kp ae.bd (ar (dv 0) (gN (bI fg (dv 2) av) aD))) aD))) aD)) (b8 (i:=5) nd rfl (by trivial)) (bL (qF ((mC Wu Yk Yl uo (dv 4) (cD ((mC Wu PySem.F.slot_list_pop PySem.F.type_list_pop Ff (dv 3) (cD (cf ae.ok (hr.mono (by decide)) (by rfl) ae.bU ae.kp ae.bd (ar (dv 0) (cD (gO jc (by rfl) B.len WQ (ar (dv 3) aD)) aD))) aD)).weak G0) aD)).weak Bp)))) (bL (cI (dv 4)))))),Qr⟩
noncomputable abbrev Ds:Stmt:=top 33
theorem dM:d5 ["web", "ways", "marks", "often", "place", "number", "one", "other", "few", "many"] ["web", "ways"] (cb Ds):=⟨rfl,rfl,rfl,by decide +kernel,rfl,by decide +kernel,by decide +kernel⟩
theorem Tw {f:Addr} {fd:FuncData} (F:c_ K "_law_marks" "_law_marks" Ds f fd) (B:BT mg):ba P w K mg base cz 1 f fd ["web", "ways"] (bf sU 2):=by
 refine F.gQ (k:=0) dM fun bD A outer s H E hr => ?_
 have nd:=dM.nd
 have hu:=hr.units
 exact⟨CQ,(bp (b_ (i:=2) nd rfl (by trivial) (Bk rfl (by rfl) B.list nJ (by rfl) B.range vc (bR (br bt (dv 0) av (fun _ _=>rfl)) aD))) (bp (b_ (i:=3) nd rfl (by trivial) (bI mI (kn (aY av aD)) (br bt (dv 0) av (fun _ _=>rfl)))) (bp (kr W8 rfl (sF (by rfl) B.enumerate (ar (dv 1) aD)) (lD rfl (gr (b8 (i:=4) nd rfl (by trivial)) (gr (b8 (i:=5) nd rfl (by trivial)) lC))) (bp (xh (i7 [none,some 2] ["house", "marks"] rfl (i_ (xX (br bt (br bt (dv 0) av (fun _ _=>rfl)) (dv 5) (fun _ _=>rfl)) xE (xF av))) (fun d=>(b8 (i:=0) (show (["house", "marks"]:List Str).Nodup by decide +kernel) rfl (by trivial))) (fun d=>i5) (fun d=>(br bt (dv 1) (dv 0) (fun _ _=>rfl)))) (lD rfl (gr (b8 (i:=6) nd rfl (by trivial)) (gr (b8 (i:=7) nd rfl (by trivial)) lC)))) (bp (fz (dQ (fV hu) (dv 6) (dv 7) (by rfl)) (bL (cI (kn (aY N3 (ar (dv 4) aD))))) fN) (bp (xh (gO (Rf hu) (by rfl) B.sorted xR (uO (kn (qD (lz (cD ((mC Wu YY YZ Am (dv 2) (ar (dv 6) aD)).weak Br) (gN (bI pF av (dv 6)) (ar (dv 6) aD)))) (qD (lz (cD ((mC Wu YY YZ Am (dv 2) (ar (dv 7) aD)).weak Br) (gN (bI pF av (dv 7)) (ar (dv 7) aD)))) aD))) aD)) (lD rfl (gr (b8 (i:=8) nd rfl (by trivial)) (gr (b8 (i:=9) nd rfl (by trivial)) lC)))) (bp (b_ (i:=3) nd rfl (by trivial) (i7 [none,some 3,some 2,some 8] ["house", "often", "marks", "few"] rfl (nW (by rfl) B.range (bR (br bt (dv 0) av (fun _ _=>rfl)) aD)) (fun d=>(b8 (i:=0) (show (["house", "often", "marks", "few"]:List Str).Nodup by decide +kernel) rfl (by trivial))) (fun d=>i5) (fun d=>(bI fg (br bt (dv 1) (dv 0) (fun _ _=>rfl)) (AQ RN (by rfl) B.int wY (gN (mD (fV hu) (br bt (dv 2) (dv 0) (fun _ _=>rfl)) (br bt (dv 3) av (fun _ _=>rfl)) (by rfl)) aD)))))) (bL (b_ (i:=2) nd rfl (by trivial) (i7 [none,some 9,some 8] ["mark", "many", "few"] rfl (i_ (dv 2)) (fun d=>(b8 (i:=0) (show (["mark", "many", "few"]:List Str).Nodup by decide +kernel) rfl (by trivial))) (fun d=>i5) (fun d=>(uT (dQ (fV hu) (dv 0) (br bt (dv 2) av (fun _ _=>rfl)) (by rfl)) (br bt (dv 1) av (fun _ _=>rfl)) (dv 0))))))))))) (bL (cI (lz (ar (dv 2) (ar (dv 3) aD)))))))),RO⟩
noncomputable abbrev Dt:Stmt:=top 21
theorem fH:d5 ["web", "ways", "marks", "taken", "place", "number", "way", "later"] ["web", "ways"] (cb Dt):=⟨rfl,rfl,rfl,by decide +kernel,rfl,by decide +kernel,by decide +kernel⟩
theorem Tx {f Tz TB:Addr} {fd TC TF:FuncData} (F:c_ K "marks_of" "marks_of" Dt f fd) (B:BT mg) (bh:Fn P w K mg base 8 "need_ways" ["web", "ways"] (bf rF 2) Tz TC) (aL:Fn P w K mg base 4 "joined_marks" ["marks", "one", "other"] (bf rH 3) TB TF):ba P w K mg base cz 9 f fd ["web", "ways"] (v9 vX 2):=by
 refine F.wU fH (fun vs H Q E h=>h.1) (fun bD A outer s H vs Q E hr h => ?_)
 obtain⟨hl,F0,ad,ys,ovs,K',S0,⟨m,ws,ns,W,hn,hd,TH,J,rfl,rfl,hK⟩,kk⟩:=h
 have nd:=fH.nd
 have hu:=hr.units
 by_cases c:ns=[]
 ·subst c
  refine⟨d8 (dw (mF (ax 2 rF (ao (aa 0) (ao (aa 1) ak))))) (d8 (dw (aG 2 (vd (ao (d2 (aa 0) (dC (.int 0)) aP) ak)))) (d8 (dw (aG 3 (d2 (du (ao (dC (.int 0)) ak)) (d2 (aa 0) (dC (.int 0)) aP) eF))) (d8 (dw (cx (eD (ao (aa 1) ak)) (hX 2 (dG (bA 4) (dG (bA 5) gP))) (au (aG 6 (d2 (d2 (aa 0) (dC (.int 1)) aP) (aa 5) aP)) (au (bP (dT (d2 (d2 (aa 2) (d2 (aa 6) (dC (.int 0)) aP) aP) (d2 (aa 2) (d2 (aa 6) (dC (.int 1)) aP) aP) oEq)) pA eW) (au (aG 7 (ax 3 rH (ao (aa 2) (ao (d2 (aa 6) (dC (.int 0)) aP) (ao (d2 (aa 6) (dC (.int 1)) aP) ak))))) (au (aG 3 (fA (eD (ao (aa 7) ak)) [none,none,some 3,some 2] (hX 2 (dG (bA 0) (dG (bA 1) gP))) cy (nL (dT (d2 (d2 (aa 3) (aa 0) aP) (aa 1) oEq)) (d2 (aa 2) (aa 0) aP) (d2 (d2 (aa 2) (aa 0) aP) (dC (.int 1)) dU)))) (aG 2 (aa 7)))))))) (mZ (nk (fS (d7 2) (fS (d7 3) iS))))))),kj (qF (cf bh.ok (hr.mono (by decide)) (by rfl) bh.bU bh.kp bh.bd (ar (dv 0) (ar (dv 1) aD)))) (kj (b_ (i:=2) nd rfl (by trivial) (Hd rfl (by rfl) B.list nJ (by rfl) B.range vc (bR (br bt (dv 0) av (fun _ _=>rfl)) aD))) (kj (b_ (i:=3) nd rfl (by trivial) (bI mI (kn (aY av aD)) (br bt (dv 0) av (fun _ _=>rfl)))) (kj (kr W8 rfl (sF (by rfl) B.enumerate (ar (dv 1) aD)) (lD rfl (gr (b8 (i:=4) nd rfl (by trivial)) (gr (b8 (i:=5) nd rfl (by trivial)) lC))) (bp (b_ (i:=6) nd rfl (by trivial) (br bt (br bt (dv 0) av (fun _ _=>rfl)) (dv 5) (fun _ _=>rfl))) (bp (fz (dQ (fV hu) (br bt (dv 2) (br bt (dv 6) av (fun _ _=>rfl)) (fun _ _=>rfl)) (br bt (dv 2) (br bt (dv 6) av (fun _ _=>rfl)) (fun _ _=>rfl)) (by rfl)) (bL vf) fN) (bp (b_ (i:=7) nd rfl (by trivial) (cf aL.ok (hr.mono (by decide)) (by rfl) aL.bU aL.kp aL.bd (ar (dv 2) (bR (br bt (dv 6) av (fun _ _=>rfl)) (bR (br bt (dv 6) av (fun _ _=>rfl)) aD))))) (bp (b_ (i:=3) nd rfl (by trivial) (i7 [none,none,some 3,some 2] ["house", "mark", "taken", "marks"] rfl (sF (by rfl) B.enumerate (ar (dv 7) aD)) (fun d=>(lD rfl (gr (b8 (i:=0) (show (["house", "mark", "taken", "marks"]:List Str).Nodup by decide +kernel) rfl (by trivial)) (gr (b8 (i:=1) (show (["house", "mark", "taken", "marks"]:List Str).Nodup by decide +kernel) rfl (by trivial)) lC)))) (fun d=>i5) (fun d=>(uT (dQ (fV hu) (br bt (dv 3) (dv 0) (fun _ _=>rfl)) (dv 1) (by rfl)) (br bt (dv 2) (dv 0) (fun _ _=>rfl)) (bI fg (br bt (dv 2) (dv 0) (fun _ _=>rfl)) av))))) (bL (b_ (i:=2) nd rfl (by trivial) (dv 7)))))))) (uE (AA (FT (iW (jv 2) (iW (jv 3) bS)))))))),?_⟩
  exact CY (CY (CY fun _ _ _ h=>h)) _ _ _ (Su hl W (hK _ _ (yp W []) rfl (Iz _)) S0 kk fun _ _ h=>h)
 ·have m2:=Sy W hn c
  have IU:∀ r ows,(K' r ows/\∃ fs tk,r = .p (.tup [bE fs,bE tk])/\fs≠tk)->∀ v F' H',qK F0 ad H r ows v F' H'->Q v H':=fun r ows ⟨h1,fs,tk,e,ne⟩ v F' H' P=>kk r ows h1 v F' H' P (by subst e;exact Ss P ne)
  have S1:=S0.start (N:=["web", "ways", "marks", "taken", "place", "number", "way", "later"])
  rw[hl] at S1
  refine⟨dw CO,(bp (qF (cf bh.ok (hr.mono (by decide)) (by rfl) bh.bU bh.kp bh.bd (ar (dv 0) (ar (dv 1) aD)))) (bp (b_ (i:=2) nd rfl (by trivial) (Bk rfl (by rfl) B.list nJ (by rfl) B.range vc (bR (br bt (dv 0) av (fun _ _=>rfl)) aD))) (bp (b_ (i:=3) nd rfl (by trivial) (bI mI (kn (aY av aD)) (br bt (dv 0) av (fun _ _=>rfl)))) (bp (kr W8 rfl (sF (by rfl) B.enumerate (ar (dv 1) aD)) (lD rfl (gr (b8 (i:=4) nd rfl (by trivial)) (gr (b8 (i:=5) nd rfl (by trivial)) lC))) (bp (b_ (i:=6) nd rfl (by trivial) (br bt (br bt (dv 0) av (fun _ _=>rfl)) (dv 5) (fun _ _=>rfl))) (bp (fz (dQ (fV hu) (br bt (dv 2) (br bt (dv 6) av (fun _ _=>rfl)) (fun _ _=>rfl)) (br bt (dv 2) (br bt (dv 6) av (fun _ _=>rfl)) (fun _ _=>rfl)) (by rfl)) (bL vf) fN) (bp (b_ (i:=7) nd rfl (by trivial) (cf aL.ok (hr.mono (by decide)) (by rfl) aL.bU aL.kp aL.bd (ar (dv 2) (bR (br bt (dv 6) av (fun _ _=>rfl)) (bR (br bt (dv 6) av (fun _ _=>rfl)) aD))))) (bp (b_ (i:=3) nd rfl (by trivial) (i7 [none,none,some 3,some 2] ["house", "mark", "taken", "marks"] rfl (sF (by rfl) B.enumerate (ar (dv 7) aD)) (fun d=>(lD rfl (gr (b8 (i:=0) (show (["house", "mark", "taken", "marks"]:List Str).Nodup by decide +kernel) rfl (by trivial)) (gr (b8 (i:=1) (show (["house", "mark", "taken", "marks"]:List Str).Nodup by decide +kernel) rfl (by trivial)) lC)))) (fun d=>i5) (fun d=>(uT (dQ (fV hu) (br bt (dv 3) (dv 0) (fun _ _=>rfl)) (dv 1) (by rfl)) (br bt (dv 2) (dv 0) (fun _ _=>rfl)) (bI fg (br bt (dv 2) (dv 0) (fun _ _=>rfl)) av))))) (bL (b_ (i:=2) nd rfl (by trivial) (dv 7)))))))) (bL (cI (lz (ar (dv 2) (ar (dv 3) aD))))))))),F0,ad,_,dz 0 (fun r ows=>K' r ows/\∃ fs tk,r = .p (.tup [bE fs,bE tk])/\fs≠tk),S1,RH [.p (bu m ws),.p (bE ns)] [] _ rfl ⟨m,ws,ns,W,hn,hd,TH,J,rfl,rfl,fun fs tk M em Z=>⟨hK fs tk M em Z,fs,tk,rfl,RG M Z m2⟩⟩,⟨fun δ' h F' aC σ' H' E' S' => ?_,fun δ' h=>h.elim,fun δ' h=>h.elim,fun y δ' h v F' aC σ' H' E' S' V => ?_⟩⟩
  ·exact qL (ovs:=[]) (K:=fun r ows=>K' r ows/\∃ fs tk,r = .p (.tup [bE fs,bE tk])/\fs≠tk) (σ' := σ') S0 E' S' (x := .p .non) (v := .non) rfl h IU
  ·exact qL (ovs:=[]) (K:=fun r ows=>K' r ows/\∃ fs tk,r = .p (.tup [bE fs,bE tk])/\fs≠tk) (σ' := σ') S0 E' S' V h IU
noncomputable abbrev Du:Stmt:=top 34
theorem dO:d5 ["pen", "web", "found", "number"] ["pen", "web"] (cb Du):=⟨rfl,rfl,rfl,by decide +kernel,rfl,by decide +kernel,by decide +kernel⟩
theorem TJ {f TK TL:Addr} {fd TM TN:FuncData} (F:c_ K "_law_joins" "_law_joins" Du f fd) (B:BT mg) (bB:Fn P w K mg base 3 "_law_some_ways" ["pen", "web", "most"] (bf vK 3) TK TM) (bj:Fn P w K mg base 2 "_law_lots" ["web", "ways"] (bf sQ 2) TL TN):ba P w K mg base cz 4 f fd ["pen", "web"] (bf vY 2):=by
 refine F.gQ (k:=3) dO fun bD A outer s H E hr => ?_
 have nd:=dO.nd
 have hu:=hr.units
 exact⟨CP,(bp (b_ (i:=2) nd rfl (by trivial) (xc aD)) (bp (kr W8 rfl (i_ (cf bB.ok (hr.mono (by decide)) (by rfl) bB.bU bB.kp bB.bd (ar (dv 0) (ar (dv 1) (aY av aD))))) (b8 (i:=3) nd rfl (by trivial)) (bL (fz (dQ (u4 hu) (cf bj.ok (hr.mono (by decide)) (by rfl) bj.bU bj.kp bj.bd (ar (dv 1) (ar (dv 2) aD))) (cf bj.ok (hr.mono (by decide)) (by rfl) bj.bU bj.kp bj.bd (ar (dv 1) (gN (bI fg (dv 2) (kn (ar (dv 3) aD))) aD))) (by rfl)) (bL (qF ((mC Wu Yk Yl uo (dv 2) (ar (dv 3) aD)).weak Bp))) fN))) (bL (cI (dv 2))))),RL⟩
noncomputable abbrev Dv:Stmt:=top 24
theorem l7:d5 ["script", "cells", "k", "cell"] ["script"] (cb Dv):=⟨rfl,rfl,rfl,by decide +kernel,rfl,by decide +kernel,by decide +kernel⟩
theorem TQ {f:Addr} {fd:FuncData} (F:c_ K "_law_open" "_law_open" Dv f fd) (h1:mg "list" = none) (h2:mg "enumerate" = none):ba P w K mg base cz 1 f fd ["script"] (B8 K):=by
 refine F.wU l7 (fun vs H Q E h => ?_) (fun bD A outer s H vs Q E hr h => ?_)
 ·obtain⟨a,ns,rfl,_⟩:=h
  rfl
 ·obtain⟨a,ns,rfl,hS,hlen,fin⟩:=h
  have nd:=l7.nd
  refine⟨_,kj (wN (i:=1) nd rfl (Or.inl rfl) (pf zW (by rfl) h1 PyProof.Rows.boot_list (qA (AG hU (jv 0) EU (wC b7.out)) bS)))
   (kj (FR W8 rfl (NQ (by rfl) h2 (qA (AG hU (jv 0) (wC b7.out) (wC b7.out)) bS)) (FQ rfl (AE (AD (i:=2) nd rfl (Or.inl rfl)) (AE (AD (i:=3) nd rfl (Or.inl rfl)) jx)))
    (uE (sy (uG EB (wR EY (jv 1) (uG zG (jv 2) b7) (fun _ _=>rfl)) (jv 3)) (uF (jv 1) (uG zG (jv 2) b7) set_list))))
   (uE (AA (AF (qA (jv 1) (qA b7 (qA b7 bS))))))),?_⟩
  refine⟨_,rfl,_,rfl,a,_,rfl,hS,fun l1 n1=>⟨l1,_,rfl,.inl (bx.of bW),fun c nc => ?_⟩⟩
  have s1:az H (upd (upd H l1 (.lst (dr (ns.map V.int) none (some 12)))) c (.lst (dr (ns.map V.int) none (some 12)))):=(sR n1).trans (sR nc)
  refine⟨_,rfl,_,rfl,_,rfl,a,_,rfl,s1.seq hS,fun l2 n2=>⟨l2,rfl,⟨_,bx.of bW⟩,?_⟩⟩
  have TR:H c=none:=(sR n1).free nc
  have TU:=n2
  have hcc:∃ ms:List Int,ms.length=min 12 ns.length/\dr (ns.map V.int) none (some 12)=ms.map V.int:=by
   refine⟨_,?_,B9 ns none (some 12)⟩
   rw[Wn,XM]
   have e1:HT.bo ns.length 0 none=0:=HT.EO _ _
   have e2:HT.bo ns.length ns.length (some 12)=min 12 ns.length:=HT.wB ns.length ns.length 12
   rw[e1,e2];omega
  have pM:(dr (ns.map V.int) (some 12) (some 63)).length=ns.length - 12:=by
   rw[B9,qx,Wn,XM]
   have e1:HT.bo ns.length 0 (some 12)=min 12 ns.length:=HT.wB ns.length 0 12
   have e2:HT.bo ns.length ns.length (some 63)=min 63 ns.length:=HT.wB ns.length ns.length 63
   rw[e1,e2];omega
  have IV:∀ i x,(dr (ns.map V.int) (some 12) (some 63))[i]? = some x->∃ n:Int,x=V.int n:=fun i x e=>by
   rw[B9,Fl] at e
   cases q:((ns.drop (HT.bo ns.length 0 (some 12))).take (HT.bo ns.length ns.length (some 63) - HT.bo ns.length 0 (some 12)))[i]? with
   | none=>rw[q] at e;cases e
   | some n=>rw[q] at e;exact⟨n,(Wf e).symm⟩
  generalize dr (ns.map V.int) (some 12) (some 63)=rest at pM IV n2 ⊢
  obtain⟨ms,TV,TX⟩:=hcc
  refine M5 (K:=K) (a:=l2) (xs:=rest) (fun i σ H2=>∃ (ks:List Int) (v1 v2:Option V),σ = [some (.ref a),some (.ref c),v1,v2]/\H2 c=some (.lst (ks.map V.int))/\ks.length=min 12 ns.length/\H2 l2=some (.lst rest)/\az H H2)
   ⟨ms,none,none,rfl,?_,TV,bW,?_⟩ (fun i σ H2 _ ⟨_,_,_,_,_,_,q,_⟩=>bx.of q) ?_ ?_
  ·rw[aO (di bW n2),bW,TX]
  ·exact s1.trans (sR n2)
  ·rintro i x T σ H2 hi ⟨ks,v1,v2,rfl,hc,hk,so,sm⟩ hT
   obtain⟨n,rfl⟩:=IV i x hi
   have qN:i < rest.length:=(su.mp hi).1
   have TY:ks.length=12:=by omega
   have cT:c≠T:=di hc hT
   have j_:upd H2 T (.tup [.int i,.int n]) c=some (.lst (ks.map V.int)):=by rw[aO cT];exact hc
   have j0:0 <= ((i:Int)) % 12:=Xv _ (by decide)
   have j1:((i:Int)) % 12 < 12:=Xc _ (by decide)
   obtain⟨m,em⟩:=Qs (ns:=ks) j0 (by omega)
   have ix:iU (ks.map V.int).length ((i:Int) % 12)=some ((i:Int) % 12).toNat:=by
    unfold iU
    rw[MD j0,MD (by rw[qx];omega)]
   refine⟨T,_,rfl,bQ.of bW,rfl,_,_,rfl,_,_,rfl,rfl,?_⟩
   refine⟨_,rfl,_,rfl,_,_,rfl,rfl,(show (0:Int) < 12 by decide),_,_,_,_,rfl,rfl,bx.of j_,em,_,rfl,_,_,rfl,rfl,_,rfl,_,rfl,_,_,rfl,rfl,(show (0:Int) < 12 by decide),_,_,_,_,rfl,rfl,j_,ix,?_⟩
   refine⟨ks.set ((i:Int) % 12).toNat (m + n),_,_,rfl,?_,by rw[Xo];exact hk,?_,?_⟩
   ·rw[bW,List.map_set]
   ·have TZ:l2≠c:=by
     intro z
     subst z
     exact absurd TU (by rw[bW];intro y;cases y)
    rw[aO TZ,aO (di so hT)];exact so
   ·intro b o e
    rw[aO (di e TR)]
    exact sR hT b o (sm b o e)
  ·rintro σ H2 ⟨ks,v1,v2,rfl,hc,hk,so,sm⟩
   refine⟨_,rfl,(by show 3 <= sizeLine;decide),fun p np => ?_⟩
   have T1:H p=none:=sm.free np
   exact fin p c _ (sm.trans (sR np)) T1 ⟨bW,⟨ks,by rw[aO (di hc np)];exact hc,by omega⟩,Int.le_refl 0⟩
noncomputable abbrev yG:Stmt:=top 27
theorem eS:d5 ["found", "due"] ["found", "due"] (cb yG):=⟨rfl,rfl,rfl,by decide +kernel,rfl,by decide +kernel,by decide +kernel⟩
theorem Dw {k:Nat} {f:Addr} {fd:FuncData} {ps:List Str} {n:Nat}:ba P w K mg base cz k f fd ps (bf (fun _ _ _=>False) n) :=
 ⟨fun vs H Q E h=>by obtain⟨_,_,_,_,_,_,_,hF,_⟩:=h;exact hF.elim,fun A outer s H args us vs Q E _ _ _ _ h=>by obtain⟨_,_,_,_,_,_,_,hF,_⟩:=h;exact hF.elim⟩
theorem IW {f:Addr} {fd:FuncData} (F:c_ K "_law_same" "_law_same" yG f fd) (B:BT mg) (n:Nat) (aE:Fn P w K mg base n "_law_same" ["found", "due"] (bf (LJT.iJ LJT.aH n) 2) f fd):ba P w K mg base cz (n + 1) f fd ["found", "due"] (bf (LJT.aH n) 2):=by
 refine F.gQ (k:=n) eS fun bD A outer s H E hr => ?_
 have nd:=eS.nd
 have hu:=hr.units
 exact⟨LJT.aB (LJT.iJ LJT.aH n),(bp (fz (dQ HG (dv 1) Gi (by rfl)) (bL (cI (mD HG (dv 0) Gi (by rfl)))) fN) (bp (fz (JW.jt (uS (jU (iF u9 (by rfl) B.isinstance (by rfl) B.bool uI (dv 1))) (uR (jU (iF u9 (by rfl) B.isinstance (by rfl) B.bool uI (dv 0)))))) (bL (cI (mE (iF u9 (by rfl) B.isinstance (by rfl) B.bool uI (dv 1)) (mE (iF u9 (by rfl) B.isinstance (by rfl) B.bool uI (dv 0)) (nN (mD (fV hu) (dv 0) (dv 1) (by rfl))))))) fN) (bp (fz (jU (iF Bm (by rfl) B.isinstance (by rfl) B.int wY (dv 1))) (bL (cI (mE (iF Bm (by rfl) B.isinstance (by rfl) B.int wY (dv 0)) (nN (mD (fV hu) (dv 0) (dv 1) (by rfl)))))) fN) (bp (fz (jU (iF GY (by rfl) B.isinstance (by rfl) B.str FZ (dv 1))) (bL (cI (mE (iF GY (by rfl) B.isinstance (by rfl) B.str FZ (dv 0)) (nN (mD (fV hu) (dv 0) (dv 1) (by rfl)))))) fN) (bp (fz (JW.jt (uS (dQ (u4 hu) (iF xI (by rfl) B.isinstance (by rfl) B.tuple uJ (dv 1)) (iF xI (by rfl) B.isinstance (by rfl) B.tuple uJ (dv 0)) (by rfl)) (uR (dQ (u4 hu) (iF Bo (by rfl) B.isinstance (by rfl) B.list nJ (dv 1)) (iF Bo (by rfl) B.isinstance (by rfl) B.list nJ (dv 0)) (by rfl))))) (bL (cI lq)) fN) (bp (fz (dQ (u4 hu) (gO jc (by rfl) B.len WQ (ar (dv 0) aD)) (gO jc (by rfl) B.len WQ (ar (dv 1) aD)) (by rfl)) (bL (cI lq)) fN) (bL (cI (mD (OC hu) lq (i7 [none,none] ["one", "other"] rfl (R8 (by rfl) B.zip (ar (dv 0) (ar (dv 1) aD))) (fun d=>(lD rfl (gr (b8 (i:=0) (show (["one", "other"]:List Str).Nodup by decide +kernel) rfl (by trivial)) (gr (b8 (i:=1) (show (["one", "other"]:List Str).Nodup by decide +kernel) rfl (by trivial)) lC)))) (fun d=>i5) (fun d=>(cf aE.ok (hr.mono (by omega)) (by rfl) aE.bU aE.kp aE.bd (ar (dv 0) (ar (dv 1) aD))))) (by rfl)))))))))),LJT.gm n⟩
theorem T2 {f:Addr} {fd:FuncData} (F:c_ K "_law_same" "_law_same" yG f fd) (B:BT mg) (bU:mg "_law_same" = some (.ref f)) (kp:PySem.W.keepIn K (.ref f)=true) (bd:Binds K fd ["found", "due"] []) (n:Nat):ba P w K mg base cz (n + 1) f fd ["found", "due"] (bf (LJT.aH n) 2):=by
 induction n with
 | zero=>exact IW F B 0 ⟨Dw,bU,kp,bd⟩
 | succ m ih=>exact IW F B (m + 1) ⟨ih,bU,kp,bd⟩
noncomputable abbrev v_:Stmt:=top 35
theorem l8:d5 ["script", "pen", "turn", "web", "ways", "some", "handed", "again", "found"] ["script"] (cb v_):=⟨rfl,rfl,rfl,by decide +kernel,rfl,by decide +kernel,by decide +kernel⟩
theorem T3 {f rR T4 T5 T6 rP T7 T8 T9:Addr} {fd oN T_ Ua Ub rQ Uc Ud Ue:FuncData} (F:c_ K "law" "law" v_ f fd) (B:BT mg) (GO:Fn P w K mg base 1 "_law_open" ["script"] (B8 K) rR oN) (cZ:Fn P w K mg base 4 "_law_web" ["pen", "houses", "most"] (bf vy 3) T4 T_) (cq:Fn P w K mg base 1 "_law_anew" ["pen"] (bf vw 1) T5 Ua) (bX:Fn P w K mg base 4 "_law_joins" ["pen", "web"] (bf vY 2) T6 Ub) (ae:Fn P w K mg base 2 "_law_take" ["pen", "many"] (bf gu 2) rP rQ) (c5:Fn P w K mg base 9 "marks_of" ["web", "ways"] (v9 vX 2) T7 Uc) (aE:Fn P w K mg base 4 "_law_same" ["found", "due"] (bf (LJT.aH 3) 2) T8 Ud) (aW:Fn P w K mg base 1 "_law_marks" ["web", "ways"] (bf sU 2) T9 Ue):ba P w K mg base cz 16 f fd ["script"] (yc K):=by
 refine F.wU (k:=15) l8 (fun vs H Q E h => ?_) (fun bD A outer s H vs Q E hr h => ?_)
 ·obtain⟨a,ns,rfl,_⟩:=h
  rfl
 obtain⟨a,ns,rfl,hS,hlen,hT,fin⟩:=h
 have nd:=l8.nd
 have hu:=hr.units
 have rest:gn (gD cz P w K mg base ["script", "pen", "turn", "web", "ways", "some", "handed", "again", "found"] "law" (cb v_) f bD A outer s H E).mY ((jQ v_).drop 1) (dw C0):=(bp (kr W8 rfl (nW (by rfl) B.range (aY av aD)) (b8 (i:=2) nd rfl (by trivial)) (bp (b_ (i:=3) nd rfl (by trivial) (cf cZ.ok (hr.mono (by decide)) (by rfl) cZ.bU cZ.kp cZ.bd (cD (cf cq.ok (hr.mono (by decide)) (by rfl) cq.bU cq.kp cq.bd (ar (dv 1) aD)) (bR (br bt (kn (aY av (aY av (aY av (aY av (aY av aD)))))) (dv 2) (fun _ _=>rfl)) (aY av aD))))) (bp (b_ (i:=4) nd rfl (by trivial) (cf bX.ok (hr.mono (by decide)) (by rfl) bX.bU bX.kp bX.bd (ar (dv 1) (ar (dv 3) aD)))) (bL (kr W8 rfl (i_ (kn (ar (dv 4) (bR (xX (dv 4) xE (xF (cf ae.ok (hr.mono (by decide)) (by rfl) ae.bU ae.kp ae.bd (ar (dv 1) (gN (bI fg (gO jc (by rfl) B.len WQ (ar (dv 4) aD)) av) aD))))) (bR (PM (dv 4)) aD))))) (b8 (i:=5) nd rfl (by trivial)) (bp (b_ (i:=6) nd rfl (by trivial) (AQ OJ (by rfl) B.list nJ (ar (dv 5) aD))) (bL (kr W8 rfl (nW (by rfl) B.range (aY av aD)) (b8 (i:=7) nd rfl (by trivial)) (Sq (wN (i:=8) nd rfl (by trivial) (wO c5.ok (hr.mono (by decide)) (by rfl) c5.bU c5.kp c5.bd .nil wH (iW (jv 3) (iW (jv 6) bS)))) (AB (JW.jt (uS (nM (jU (cf aE.ok (hr.mono (by decide)) (by rfl) aE.bU aE.kp aE.bd (ar (dv 8) (cD (cf aW.ok (hr.mono (by decide)) (by rfl) aW.bU aW.kp aW.bd (ar (dv 3) (ar (dv 5) aD))) aD))))) (uR (dQ (u4 hu) (dv 6) (dv 5) (by rfl))))) (bL (cI lq)) hV) (Az (mC Wu Yk Yl uo (wR zU (jv 8) b7 (fun _ _=>rfl)) (uH b7 bS))) (AB (nM (jU (cf aE.ok (hr.mono (by decide)) (by rfl) aE.bU aE.kp aE.bd (bR (br bt (dv 8) av (fun _ _=>rfl)) (bR (br bt (cf aW.ok (hr.mono (by decide)) (by rfl) aW.bU aW.kp aW.bd (ar (dv 3) (ar (dv 5) aD))) av (fun _ _=>rfl)) aD))))) (bL (cI lq)) hV) (Az (NL Wu PySem.F.slot_list_clear PySem.F.type_list_clear Mt (wR zU (jv 8) b7 (fun _ _=>rfl))))))))))))) (bL (cI lq)))
 refine⟨_,kj (wN (i:=1) nd rfl (by trivial) (wO GO.ok (hr.mono (by decide)) (by rfl) GO.bU GO.kp GO.bd .nil wH (iW (jv 0) bS))) rest,?_⟩
 refine⟨_,rfl,a,ns,rfl,hS,hlen,fun p c H1 sm hp N1 => ?_⟩
 obtain⟨F',ms,hm,S⟩:=Qt (a:=a) (n:=7) (aI.same hT sm) N1
 exact Qu S (SG ms hm) fin
end
noncomputable def kI:List pR:=[⟨140,⟨56,50,56,89⟩,(("joined_marks" : Str) ++ ".<locals>.") ++ "<lambda>"⟩]
theorem Ug:∀ a∈kI,∀ b∈kI,a.T=b.T->a=b:=by
 unfold kI
 intro a ha b hb h
 simp only[Fo,Wd,Xr] at ha hb
 rcases ha with rfl<;>rcases hb with rfl<;>first | rfl | exact absurd h (by decide)
theorem sY {us:List Value} (h:us.length=1):∃ a,us=[a]:=List.length_eq_one_iff.mp h
theorem j7 {us:List Value} (h:us.length=2):∃ a b,us=[a,b]:=by
 cases us with
 | nil=>cases h
 | cons a r=>obtain⟨b,e⟩:=sY (Nat.succ.inj h);exact⟨a,b,by rw[e]⟩
theorem sZ {us:List Value} (h:us.length=3):∃ a b c,us=[a,b,c]:=by
 cases us with
 | nil=>cases h
 | cons a r=>obtain⟨b,c,e⟩:=j7 (Nat.succ.inj h);exact⟨a,b,c,by rw[e]⟩
structure fQ (K:PySem.W.Frag) (x:Str) (st:Stmt) (f:Addr) (fd:FuncData):Prop where
 a:PySem.W.nsIn K mainGlobals x=some (some (.ref f))
 F:c_ K x x st f fd
 k:PySem.W.keepIn K (.ref f)=true
theorem defAt {K:PySem.W.Frag} {x:Str} {st:Stmt} {f:Addr} {od an:Option Addr} {sl:Array (Option Value)} {oc kV dc pm cd ct:Value} (a:PySem.W.nsIn K mainGlobals x=some (some (.ref f))) (l:K.lookup f=some ⟨oc,od,.func (PySem.W.fnOf x x (o9 st) (jQ st) (cb st) .none kV dc pm an cd ct),sl⟩) (q:PySem.W.codeIn K cd x=true) (k:PySem.W.keepIn K (.ref f)=true) :
  fQ K x st f (PySem.W.fnOf x x (o9 st) (jQ st) (cb st) .none kV dc pm an cd ct):=⟨a,ME l q k,k⟩
structure Dx (K:PySem.W.Frag) (x:Str) (st:Stmt) (f:Addr) (fd:FuncData) (T:Addr):Prop extends fQ K x st f fd where
 cd:∃ cc,fd.code = .ref cc/\PySem.W.codeHdIn K cc T=true
theorem IX {K:PySem.W.Frag} {x:Str} {st:Stmt} {f T cc:Addr} {od an:Option Addr} {sl:Array (Option Value)} {oc kV dc pm ct:Value} (a:PySem.W.nsIn K mainGlobals x=some (some (.ref f))) (l:K.lookup f=some ⟨oc,od,.func (PySem.W.fnOf x x (o9 st) (jQ st) (cb st) .none kV dc pm an (.ref cc) ct),sl⟩) (q:PySem.W.codeIn K (.ref cc) x=true) (k:PySem.W.keepIn K (.ref f)=true) (h:PySem.W.codeHdIn K cc T=true) :
  Dx K x st f (PySem.W.fnOf x x (o9 st) (jQ st) (cb st) .none kV dc pm an (.ref cc) ct) T:=⟨defAt a l q k,cc,rfl,h⟩
theorem Uh {l:PySem.W.OpenLaw} {w:World} {K:PySem.W.Frag} {h:Heap} {mg:Str->Option Value} {fa IY IZ I0 I_ Ja Jb Jc Jd Je yH Jf Jg Jh Ji Jj Jk Jl Jm Jn Jo Jp Jq Jr Dy:Addr} (X:K.In h) (G:h.Ns mainGlobals mg) (Ui:mg "law" = some (.ref fa))
  {Uj Uk Ul Um Uo Uq Ur Us Ut Dz Uu Uv Uw Ux Uy Uz UA UB UC UD UE UG UH wa:FuncData}
  {Js:Value}
  {Jt:Value}
  {Ju:Value}
  (Dis_whole:fQ K "is_whole" C5 IY Uj)
  (Dis_within:fQ K "is_within" C6 IZ Uk)
  (Dis_tuple_of:fQ K "is_tuple_of" C7 I0 Ul)
  (Dare_ends:fQ K "are_ends" C8 I_ Um)
  (Dis_way:fQ K "is_way" C9 Ja Uo)
  (Dare_ways:fQ K "are_ways" De Jb Uq)
  (Dis_web:fQ K "is_web" Df Jc Ur)
  (Dneed_web:fQ K "need_web" Dg Jd Us)
  (Dneed_ways:fQ K "need_ways" Dh Je Ut)
  (Djoined_marks:Dx K "joined_marks" yF yH Dz 140)
  (Dmarks_of:fQ K "marks_of" Dt Jf Uu)
  (D_law_spread:fQ K "_law_spread" Di Jg Uv)
  (D_law_open:fQ K "_law_open" Dv Jh Uw)
  (D_law_anew:fQ K "_law_anew" Dj Ji Ux)
  (D_law_take:fQ K "_law_take" Dk Jj Uy)
  (D_law_same:fQ K "_law_same" yG Jk Uz)
  (D_law_pairs_of:fQ K "_law_pairs_of" Dl Jl UA)
  (D_law_web:fQ K "_law_web" Dm Jm UB)
  (D_law_marks_by:fQ K "_law_marks_by" Dp Jn UC)
  (D_law_lots:fQ K "_law_lots" Dq Jo UD)
  (D_law_some_ways:fQ K "_law_some_ways" Dr Jp UE)
  (D_law_marks:fQ K "_law_marks" Ds Jq UG)
  (D_law_joins:fQ K "_law_joins" Du Jr UH)
  (Dlaw:fQ K "law" v_ Dy wa)
  (q3d:PySem.W.nsIn K mainGlobals "MOST_HOUSES" = some (some Js)) (q22:RelV (.int 12) Js)
  (q4Q:PySem.W.nsIn K mainGlobals "MOST_WAYS" = some (some Jt)) (q4B:RelV (.int 30) Jt)
  (q3T:PySem.W.nsIn K mainGlobals "MOST_PRICE" = some (some Ju)) (q3H:RelV (.int 1000000000) Ju)
  (zlen:PySem.W.nsIn K mainGlobals "len" = some none)
  (zrange:PySem.W.nsIn K mainGlobals "range" = some none)
  (zlist:PySem.W.nsIn K mainGlobals "list" = some none)
  (ztuple:PySem.W.nsIn K mainGlobals "tuple" = some none)
  (zset:PySem.W.nsIn K mainGlobals "set" = some none)
  (zsorted:PySem.W.nsIn K mainGlobals "sorted" = some none)
  (zmin:PySem.W.nsIn K mainGlobals "min" = some none)
  (zmax:PySem.W.nsIn K mainGlobals "max" = some none)
  (zsum:PySem.W.nsIn K mainGlobals "sum" = some none)
  (zall:PySem.W.nsIn K mainGlobals "all" = some none)
  (zany:PySem.W.nsIn K mainGlobals "any" = some none)
  (zenumerate:PySem.W.nsIn K mainGlobals "enumerate" = some none)
  (zzip:PySem.W.nsIn K mainGlobals "zip" = some none)
  (zisinstance:PySem.W.nsIn K mainGlobals "isinstance" = some none)
  (zint:PySem.W.nsIn K mainGlobals "int" = some none)
  (zbool:PySem.W.nsIn K mainGlobals "bool" = some none)
  (zstr:PySem.W.nsIn K mainGlobals "str" = some none)
  : ∃ fd:FuncData,(∀ (s:Shared) (v:Value),BindsTo s fd ⟨[v],[]⟩ [("script",v)])/\∀ base:Heap,K.In base->base.Ns mainGlobals mg->(∀ t∈kI,base.BuiltinsAt mg t.T)->ba l.prog w K mg base cz 16 fa fd ["script"] (@yc (rE kI) K):=by
 have e:=Ui.symm.trans (Wi X G Dlaw.a)
 cases e
 letI:aI:=rE kI
 have B:BT mg:=⟨Wm X G zlen,Wm X G zrange,Wm X G zlist,Wm X G ztuple,Wm X G zset,Wm X G zsorted,Wm X G zmin,Wm X G zmax,Wm X G zsum,Wm X G zall,Wm X G zany,Wm X G zenumerate,Wm X G zzip,Wm X G zisinstance,Wm X G zint,Wm X G zbool,Wm X G zstr⟩
 have UI:=Dis_whole.F.binds (ps:=["thing"]) fun _ _ _ _ _ _ us hl=>by obtain⟨_,rfl⟩:=sY hl;rfl
 have UJ:=Dis_within.F.binds (ps:=["thing", "least", "most"]) fun _ _ _ _ _ _ us hl=>by obtain⟨_,_,_,rfl⟩:=sZ hl;rfl
 have UK:=Dis_tuple_of.F.binds (ps:=["thing", "size"]) fun _ _ _ _ _ _ us hl=>by obtain⟨_,_,rfl⟩:=j7 hl;rfl
 have UL:=Dare_ends.F.binds (ps:=["many", "one", "other"]) fun _ _ _ _ _ _ us hl=>by obtain⟨_,_,_,rfl⟩:=sZ hl;rfl
 have UM:=Dis_way.F.binds (ps:=["many", "thing"]) fun _ _ _ _ _ _ us hl=>by obtain⟨_,_,rfl⟩:=j7 hl;rfl
 have UN:=Dare_ways.F.binds (ps:=["many", "thing"]) fun _ _ _ _ _ _ us hl=>by obtain⟨_,_,rfl⟩:=j7 hl;rfl
 have UO:=Dis_web.F.binds (ps:=["thing"]) fun _ _ _ _ _ _ us hl=>by obtain⟨_,rfl⟩:=sY hl;rfl
 have UP:=Dneed_web.F.binds (ps:=["web"]) fun _ _ _ _ _ _ us hl=>by obtain⟨_,rfl⟩:=sY hl;rfl
 have UQ:=Dneed_ways.F.binds (ps:=["web", "ways"]) fun _ _ _ _ _ _ us hl=>by obtain⟨_,_,rfl⟩:=j7 hl;rfl
 have UR:=Djoined_marks.F.binds (ps:=["marks", "one", "other"]) fun _ _ _ _ _ _ us hl=>by obtain⟨_,_,_,rfl⟩:=sZ hl;rfl
 have US:=Dmarks_of.F.binds (ps:=["web", "ways"]) fun _ _ _ _ _ _ us hl=>by obtain⟨_,_,rfl⟩:=j7 hl;rfl
 have UT:=D_law_spread.F.binds (ps:=["cell", "at"]) fun _ _ _ _ _ _ us hl=>by obtain⟨_,_,rfl⟩:=j7 hl;rfl
 have UU:=D_law_open.F.binds (ps:=["script"]) fun _ _ _ _ _ _ us hl=>by obtain⟨_,rfl⟩:=sY hl;rfl
 have UW:=D_law_anew.F.binds (ps:=["pen"]) fun _ _ _ _ _ _ us hl=>by obtain⟨_,rfl⟩:=sY hl;rfl
 have UX:=D_law_take.F.binds (ps:=["pen", "many"]) fun _ _ _ _ _ _ us hl=>by obtain⟨_,_,rfl⟩:=j7 hl;rfl
 have Jv:=D_law_same.F.binds (ps:=["found", "due"]) fun _ _ _ _ _ _ us hl=>by obtain⟨_,_,rfl⟩:=j7 hl;rfl
 have UY:=D_law_pairs_of.F.binds (ps:=["pen", "kind", "many"]) fun _ _ _ _ _ _ us hl=>by obtain⟨_,_,_,rfl⟩:=sZ hl;rfl
 have UZ:=D_law_web.F.binds (ps:=["pen", "houses", "most"]) fun _ _ _ _ _ _ us hl=>by obtain⟨_,_,_,rfl⟩:=sZ hl;rfl
 have U0:=D_law_marks_by.F.binds (ps:=["web", "ways"]) fun _ _ _ _ _ _ us hl=>by obtain⟨_,_,rfl⟩:=j7 hl;rfl
 have U1:=D_law_lots.F.binds (ps:=["web", "ways"]) fun _ _ _ _ _ _ us hl=>by obtain⟨_,_,rfl⟩:=j7 hl;rfl
 have U2:=D_law_some_ways.F.binds (ps:=["pen", "web", "most"]) fun _ _ _ _ _ _ us hl=>by obtain⟨_,_,_,rfl⟩:=sZ hl;rfl
 have U3:=D_law_marks.F.binds (ps:=["web", "ways"]) fun _ _ _ _ _ _ us hl=>by obtain⟨_,_,rfl⟩:=j7 hl;rfl
 have U4:=D_law_joins.F.binds (ps:=["pen", "web"]) fun _ _ _ _ _ _ us hl=>by obtain⟨_,_,rfl⟩:=j7 hl;rfl
 refine⟨wa,fun s v=>by obtain⟨_,_,_,_,_,_,_,_,_,rfl,_⟩:=Dlaw.F.ex;exact .of_eq rfl,fun base KB _ hB => ?_⟩
 have U5:Fn l.prog w K mg base 1 "is_whole" ["thing"] (bf vz 1) IY _:=⟨SH Dis_whole.F B,Wi X G Dis_whole.a,Dis_whole.k,UI⟩
 have yI:Fn l.prog w K mg base 2 "is_within" ["thing", "least", "most"] (bf kB 3) IZ _:=⟨SI Dis_within.F B U5,Wi X G Dis_within.a,Dis_within.k,UJ⟩
 have Jw:Fn l.prog w K mg base 1 "is_tuple_of" ["thing", "size"] (bf rq 2) I0 _:=⟨SM Dis_tuple_of.F B,Wi X G Dis_tuple_of.a,Dis_tuple_of.k,UK⟩
 have U6:Fn l.prog w K mg base 3 "are_ends" ["many", "one", "other"] (bf vC 3) I_ _:=⟨SN Dare_ends.F B yI,Wi X G Dare_ends.a,Dare_ends.k,UL⟩
 have U7:Fn l.prog w K mg base 4 "is_way" ["many", "thing"] (bf vD 2) Ja _:=⟨SO Dis_way.F B ⟨q3H,Wi X G q3T⟩ Jw U6 yI,Wi X G Dis_way.a,Dis_way.k,UM⟩
 have U8:Fn l.prog w K mg base 5 "are_ways" ["many", "thing"] (bf vE 2) Jb _:=⟨SU Dare_ways.F B ⟨q4B,Wi X G q4Q⟩ U7,Wi X G Dare_ways.a,Dare_ways.k,UN⟩
 have U9:Fn l.prog w K mg base 6 "is_web" ["thing"] (bf vG 1) Jc _:=⟨SX Dis_web.F B ⟨q22,Wi X G q3d⟩ Jw yI U8,Wi X G Dis_web.a,Dis_web.k,UO⟩
 have U_:Fn l.prog w K mg base 7 "need_web" ["web"] (bf vT 1) Jd _:=⟨S8 Dneed_web.F B U9,Wi X G Dneed_web.a,Dneed_web.k,UP⟩
 have Va:Fn l.prog w K mg base 8 "need_ways" ["web", "ways"] (bf rF 2) Je _:=⟨Ta Dneed_ways.F B U_ yI,Wi X G Dneed_ways.a,Dneed_ways.k,UQ⟩
 have Vb:Fn l.prog w K mg base 4 "joined_marks" ["marks", "one", "other"] (bf rH 3) yH _:=⟨Td Djoined_marks.F B (⟨(let ⟨cc,e1,e2⟩:=Djoined_marks.cd; ⟨cc,e1,PySem.W.codeHd_of_K KB e2⟩),by decide,hB ⟨140,⟨56,50,56,89⟩,(("joined_marks" : Str) ++ ".<locals>.") ++ "<lambda>"⟩ (by unfold kI;simp),QR (ls:=kI) (l:=⟨140,⟨56,50,56,89⟩,(("joined_marks" : Str) ++ ".<locals>.") ++ "<lambda>"⟩) (by unfold kI;simp) Ug⟩),Wi X G Djoined_marks.a,Djoined_marks.k,UR⟩
 have Vc:Fn l.prog w K mg base 9 "marks_of" ["web", "ways"] (v9 vX 2) Jf _:=⟨Tx Dmarks_of.F B Va Vb,Wi X G Dmarks_of.a,Dmarks_of.k,US⟩
 have Vd:Fn l.prog w K mg base 1 "_law_spread" ["cell", "at"] (bf vv 2) Jg _:=⟨Te D_law_spread.F B,Wi X G D_law_spread.a,D_law_spread.k,UT⟩
 have Ve:Fn l.prog w K mg base 1 "_law_open" ["script"] (B8 K) Jh _:=⟨TQ D_law_open.F B.list B.enumerate,Wi X G D_law_open.a,D_law_open.k,UU⟩
 have Vf:Fn l.prog w K mg base 1 "_law_anew" ["pen"] (bf vw 1) Ji _:=⟨Tf D_law_anew.F B,Wi X G D_law_anew.a,D_law_anew.k,UW⟩
 have yJ:Fn l.prog w K mg base 2 "_law_take" ["pen", "many"] (bf gu 2) Jj _:=⟨Tg D_law_take.F B Vd,Wi X G D_law_take.a,D_law_take.k,UX⟩
 have Vg:Fn l.prog w K mg base 4 "_law_same" ["found", "due"] (bf (LJT.aH 3) 2) Jk _:=⟨T2 D_law_same.F B (Wi X G D_law_same.a) D_law_same.k Jv 3,Wi X G D_law_same.a,D_law_same.k,Jv⟩
 have Vh:Fn l.prog w K mg base 3 "_law_pairs_of" ["pen", "kind", "many"] (bf vx 3) Jl _:=⟨Tj D_law_pairs_of.F B yJ,Wi X G D_law_pairs_of.a,D_law_pairs_of.k,UY⟩
 have Vi:Fn l.prog w K mg base 4 "_law_web" ["pen", "houses", "most"] (bf vy 3) Jm _:=⟨Tn D_law_web.F B yJ Vh,Wi X G D_law_web.a,D_law_web.k,UZ⟩
 have Vj:Fn l.prog w K mg base 1 "_law_marks_by" ["web", "ways"] (bf vI 2) Jn _:=⟨Tq D_law_marks_by.F B,Wi X G D_law_marks_by.a,D_law_marks_by.k,U0⟩
 have Vk:Fn l.prog w K mg base 2 "_law_lots" ["web", "ways"] (bf sQ 2) Jo _:=⟨Tr D_law_lots.F B Vj,Wi X G D_law_lots.a,D_law_lots.k,U1⟩
 have Vl:Fn l.prog w K mg base 3 "_law_some_ways" ["pen", "web", "most"] (bf vK 3) Jp _:=⟨Tv D_law_some_ways.F B yJ,Wi X G D_law_some_ways.a,D_law_some_ways.k,U2⟩
 have Vm:Fn l.prog w K mg base 1 "_law_marks" ["web", "ways"] (bf sU 2) Jq _:=⟨Tw D_law_marks.F B,Wi X G D_law_marks.a,D_law_marks.k,U3⟩
 have Vn:Fn l.prog w K mg base 4 "_law_joins" ["pen", "web"] (bf vY 2) Jr _:=⟨TJ D_law_joins.F B Vl Vk,Wi X G D_law_joins.a,D_law_joins.k,U4⟩
 exact T3 Dlaw.F B Ve Vi Vf Vn yJ Vc Vg Vm
theorem Vo {K:PySem.W.Frag} {h:Heap} {yH:Addr} {Dz:FuncData} (X:K.In h) (Djoined_marks:Dx K "joined_marks" yF yH Dz 140):∀ t∈kI,∃ cc,PySem.W.CodeHd h cc t.T:=by
 unfold kI
 intro t ht
 simp only[Fo,Wd,Xr] at ht
 rcases ht with rfl
 ·exact let ⟨cc,_,e2⟩:=Djoined_marks.cd; ⟨cc,PySem.W.codeHd_of_K X e2⟩
end LJ
open PySem PySem.W PyProof.Rows
theorem PySem.W.Fast.tw12279214920517160195:True:=trivial
theorem PySem.W.Fast.tw13795275050635960302:True:=trivial
theorem PySem.W.Fast.tw9128952800698781310:True:=trivial
theorem PySem.W.Fast.tw14939783897089497955:True:=trivial
theorem PySem.W.Fast.tw2380250660914464014:True:=trivial
theorem PySem.W.Fast.tw2255492578654781217:True:=trivial
theorem PySem.W.Fast.tw11849563739909317122:True:=trivial
theorem PySem.W.Fast.tw13025900176720840917:True:=trivial
theorem PySem.W.Fast.tw1997664131172622989:True:=trivial
set_option maxRecDepth 100000 in
set_option maxHeartbeats 0 in
theorem PySem.Challenge.cw_lotjoin_k40_marks_told_holds : PySem.Challenge.rw_lotjoin_k40_marks_told.Holds := by
 w_on;o_law;k_head; (case hw=>w_witness2)
 k_fill
 refine LJ.Rh (l:=PySem.Challenge.rw_lotjoin_k40_marks_told) (kk:=16) LJ.kI rfl rfl rfl ⟨rfl,by decide,by decide⟩ ?C (fun P=>by kernel_rfl) ?F
 case C =>
  intro w h KX
  refine' LJ.Vo KX ?Djoined_marks
  (case Djoined_marks=>(refine' LJ.IX ?wc0 ?xc0 ?yc0 ?zc0 ?vc0; (case wc0=>k_is); (case xc0=>k_is); (case yc0=>k_is); (case zc0=>k_is); (case vc0=>kernel_rfl)))
 case F =>
  intro w mg fa h KX G nE
  refine' LJ.Uh KX G nE ?Dis_whole ?Dis_within ?Dis_tuple_of ?Dare_ends ?Dis_way ?Dare_ways ?Dis_web ?Dneed_web ?Dneed_ways ?Djoined_marks ?Dmarks_of ?D_law_spread ?D_law_open ?D_law_anew ?D_law_take ?D_law_same ?D_law_pairs_of ?D_law_web ?D_law_marks_by ?D_law_lots ?D_law_some_ways ?D_law_marks ?D_law_joins ?Dlaw ?q3d ?q22 ?q4Q ?q4B ?q3T ?q3H ?zlen ?zrange ?zlist ?ztuple ?zset ?zsorted ?zmin ?zmax ?zsum ?zall ?zany ?zenumerate ?zzip ?zisinstance ?zint ?zbool ?zstr
  (case Dis_whole=>(refine' LJ.defAt ?w0 ?x0 ?y0 ?z0; (case w0=>k_is); (case x0=>k_is); (case y0=>k_is); (case z0=>k_is)))
  (case Dis_within=>(refine' LJ.defAt ?w1 ?x1 ?y1 ?z1; (case w1=>k_is); (case x1=>k_is); (case y1=>k_is); (case z1=>k_is)))
  (case Dis_tuple_of=>(refine' LJ.defAt ?w2 ?x2 ?y2 ?z2; (case w2=>k_is); (case x2=>k_is); (case y2=>k_is); (case z2=>k_is)))
  (case Dare_ends=>(refine' LJ.defAt ?w3 ?x3 ?y3 ?z3; (case w3=>k_is); (case x3=>k_is); (case y3=>k_is); (case z3=>k_is)))
  (case Dis_way=>(refine' LJ.defAt ?w4 ?x4 ?y4 ?z4; (case w4=>k_is); (case x4=>k_is); (case y4=>k_is); (case z4=>k_is)))
  (case Dare_ways=>(refine' LJ.defAt ?w5 ?x5 ?y5 ?z5; (case w5=>k_is); (case x5=>k_is); (case y5=>k_is); (case z5=>k_is)))
  (case Dis_web=>(refine' LJ.defAt ?w6 ?x6 ?y6 ?z6; (case w6=>k_is); (case x6=>k_is); (case y6=>k_is); (case z6=>k_is)))
  (case Dneed_web=>(refine' LJ.defAt ?w7 ?x7 ?y7 ?z7; (case w7=>k_is); (case x7=>k_is); (case y7=>k_is); (case z7=>k_is)))
  (case Dneed_ways=>(refine' LJ.defAt ?w8 ?x8 ?y8 ?z8; (case w8=>k_is); (case x8=>k_is); (case y8=>k_is); (case z8=>k_is)))
  (case Dmarks_of=>(refine' LJ.defAt ?w9 ?x9 ?y9 ?z9; (case w9=>k_is); (case x9=>k_is); (case y9=>k_is); (case z9=>k_is)))
  (case D_law_spread=>(refine' LJ.defAt ?w10 ?x10 ?y10 ?z10; (case w10=>k_is); (case x10=>k_is); (case y10=>k_is); (case z10=>k_is)))
  (case D_law_open=>(refine' LJ.defAt ?w11 ?x11 ?y11 ?z11; (case w11=>k_is); (case x11=>k_is); (case y11=>k_is); (case z11=>k_is)))
  (case D_law_anew=>(refine' LJ.defAt ?w12 ?x12 ?y12 ?z12; (case w12=>k_is); (case x12=>k_is); (case y12=>k_is); (case z12=>k_is)))
  (case D_law_take=>(refine' LJ.defAt ?w13 ?x13 ?y13 ?z13; (case w13=>k_is); (case x13=>k_is); (case y13=>k_is); (case z13=>k_is)))
  (case D_law_same=>(refine' LJ.defAt ?w14 ?x14 ?y14 ?z14; (case w14=>k_is); (case x14=>k_is); (case y14=>k_is); (case z14=>k_is)))
  (case D_law_pairs_of=>(refine' LJ.defAt ?w15 ?x15 ?y15 ?z15; (case w15=>k_is); (case x15=>k_is); (case y15=>k_is); (case z15=>k_is)))
  (case D_law_web=>(refine' LJ.defAt ?w16 ?x16 ?y16 ?z16; (case w16=>k_is); (case x16=>k_is); (case y16=>k_is); (case z16=>k_is)))
  (case D_law_marks_by=>(refine' LJ.defAt ?w17 ?x17 ?y17 ?z17; (case w17=>k_is); (case x17=>k_is); (case y17=>k_is); (case z17=>k_is)))
  (case D_law_lots=>(refine' LJ.defAt ?w18 ?x18 ?y18 ?z18; (case w18=>k_is); (case x18=>k_is); (case y18=>k_is); (case z18=>k_is)))
  (case D_law_some_ways=>(refine' LJ.defAt ?w19 ?x19 ?y19 ?z19; (case w19=>k_is); (case x19=>k_is); (case y19=>k_is); (case z19=>k_is)))
  (case D_law_marks=>(refine' LJ.defAt ?w20 ?x20 ?y20 ?z20; (case w20=>k_is); (case x20=>k_is); (case y20=>k_is); (case z20=>k_is)))
  (case D_law_joins=>(refine' LJ.defAt ?w21 ?x21 ?y21 ?z21; (case w21=>k_is); (case x21=>k_is); (case y21=>k_is); (case z21=>k_is)))
  (case Dlaw=>(refine' LJ.defAt ?w22 ?x22 ?y22 ?z22; (case w22=>k_is); (case x22=>k_is); (case y22=>k_is); (case z22=>k_is)))
  (case Djoined_marks=>(refine' LJ.IX ?wm0 ?xm0 ?ym0 ?zm0 ?vm0; (case wm0=>k_is); (case xm0=>k_is); (case ym0=>k_is); (case zm0=>k_is); (case vm0=>kernel_rfl)))
  (case q3d | q4Q | q3T | zlen | zrange | zlist | ztuple | zset | zsorted | zmin | zmax | zsum | zall | zany | zenumerate | zzip | zisinstance | zint | zbool | zstr=>k_is)
  (case q22=>exact⟨_,rfl⟩)
  (case q4B=>exact⟨_,rfl⟩)
  (case q3H=>exact⟨_,rfl⟩)
