import PyProof.Rows.All
import Wide.All
import OpenK.AllK
import Wide.FinOn
import Lean
import PyProof.Rows.SetFrom
import PyProof.TupleKey
import PyProof.SetRoads
import PySem.SetOps
import PyProof.EqAt
import PyProof.EqKinds
import PyProof.TupleCall
import KE.KDictList
import KE.KDictLaws
import PyProof.NeKinds
import PyProof.Draws
import KE.KSortTup
import KE.KLam
import PyProof.ListRange
import PyProof.TupleOfSeq
import KE.KNestM
import PySem.Challenge.RW_lotjoin_k02_ways_in_order
set_option Elab.async false
set_option linter.all false
set_option maxRecDepth 100000
local macro_rules | `(tactic| trivial) => `(tactic| first | exact Or.inl rfl | exact Or.inr rfl)
abbrev nN:=@PySem.wpAny_bind
abbrev qI:=@List.getElem?_eq_getElem
abbrev qJ:=@PySem.Heap.get?_push_of_some
abbrev qK:=@List.getElem?_eq_some_iff
abbrev sE:=@List.length_map
abbrev uq:=@PySem.wpAny_pure
abbrev wU:=@List.size_toArray
abbrev wV:=@Nat.le_refl
abbrev Aa:=@Array.length_toList
abbrev EW:=@PySem.Heap.lt_size
abbrev EX:=@List.getD_eq_getElem?_getD
abbrev EY:=@Bool.false_ne_true
abbrev EZ:=@List.mem_cons
abbrev Mj:=@List.length_cons
abbrev Ml:=@Bool.false_eq_true
abbrev Mm:=@List.length_append
abbrev Mn:=@List.mem_cons_of_mem
abbrev Mo:=@PySem.W.mg_of
abbrev My:=@if_neg
abbrev VV:=@List.mem_cons_self
abbrev VW:=@PySem.Heap.get?_push_size
abbrev VX:=@List.getElem?_map
abbrev VY:=@Bool.and_eq_true
abbrev VZ:=@if_pos
abbrev V0:=@Array.getElem?_eq_getElem
abbrev WB:=@List.getElem?_append_left
abbrev WC:=@List.not_mem_nil
abbrev WD:=@Nat.lt_of_lt_of_le
abbrev WH:=@List.getElem?_append_right
abbrev WJ:=@Option.map_eq_some_iff
abbrev WK:=@List.mem_iff_getElem?
abbrev WL:=@Nat.ne_of_lt
abbrev WM:=@List.mem_append_right
abbrev WN:=@decide_eq_true
abbrev WQ:=@List.mem_map
abbrev WR:=@Option.some.inj
abbrev WU:=@Array.getElem?_toList
abbrev WV:=@LawfulBEq.eq_of_beq
abbrev WW:=@List.length_take
abbrev WX:=@List.lookup_cons
abbrev WY:=@PySem.W.mg_none_of
abbrev WZ:=@decide_eq_false
abbrev W0:=@PyProof.Rows.slot_tuple_getitem
abbrev W5:=@Nat.zero_le
abbrev W6:=@PySem.wpAny_holding
abbrev W7:=@Nat.le_trans
abbrev W8:=@List.map_cons
abbrev W9:=@List.mem_range
abbrev W_:=@List.length_singleton
abbrev Xa:=@PySem.boot_len
abbrev Xb:=@List.all_eq_true
abbrev Xc:=@if_false
abbrev Xd:=@Bool.not_true
abbrev Xe:=@List.getElem?_set_self
abbrev Xf:=@List.map_map
abbrev Xg:=@List.getElem?_set_ne
abbrev Xh:=@List.getElem?_take_of_lt
abbrev Xi:=@List.mem_of_getElem?
abbrev Xj:=@PySem.wpAny_newObj_type
abbrev Xk:=@List.map_append
abbrev Xl:=@Array.getElem?_eq_some_iff
abbrev Xm:=@List.getElem?_eq_none
abbrev Xn:=@PySem.Heap.SameBut.update
abbrev Xo:=@List.mem_append
abbrev Xp:=@PySem.wpAny_field
abbrev Xq:=@List.mem_singleton
abbrev Xr:=@Array.getD_eq_getD_getElem?
abbrev Xs:=@List.length_range
abbrev Xt:=@decide_eq_true_eq
abbrev Xu:=@List.drop_eq_getElem_cons
abbrev Xv:=@Int.emod_lt_of_pos
abbrev Xw:=@List.take_of_length_le
abbrev Xx:=@PySem.W.kia_one
abbrev Xy:=@or_false
abbrev Xz:=@List.length_drop
abbrev XA:=@List.getElem?_range
abbrev XB:=@PySem.sizeLine_eq
abbrev XC:=@PySem.mem_of_lookup
abbrev XD:=@List.replicate_succ
abbrev XE:=@List.map_congr_left
abbrev XF:=@PySem.wpAny_mono
abbrev XG:=@Nat.zero_add
abbrev XH:=@PyProof.Rows.callWith_type1
abbrev XI:=@Int.toNat_natCast
abbrev XJ:=@Nat.sub_self
abbrev XM:=@PySem.wpAny_callSpecial?_slot
abbrev XN:=@PySem.F.plainAttrs_list
abbrev XO:=@List.mem_append_left
abbrev XQ:=@Nat.le_add_right
abbrev XR:=@PySem.Heap.get?_update_self
abbrev XS:=@Int.emod_nonneg
abbrev XT:=@List.length_set
abbrev XU:=@List.set_cons_zero
abbrev XW:=@List.set_cons_succ
abbrev XX:=@List.mem_iff_getElem
abbrev XY:=@Array.toList_setIfInBounds
abbrev XZ:=@Nat.lt_succ_of_lt
abbrev X0:=@PySem.wpAny_seqItems
abbrev X1:=@PySem.Heap.get?_update_other
abbrev X7:=@List.filterMap_cons
abbrev X8:=@PySem.wpAny_call_entry
abbrev X9:=@Nat.le_of_lt
abbrev X_:=@Nat.lt_irrefl
abbrev Ya:=@Nat.ne_of_gt
abbrev Yb:=@Bool.not_false
abbrev Yc:=@PySem.wpAny_truthy_bool
abbrev Yd:=@List.any_eq_false
abbrev Ye:=@List.nodup_append
abbrev Yf:=@if_true
abbrev Yg:=@Ne.symm
abbrev Yh:=@List.getElem_mem
abbrev Yi:=@List.getElem_map
abbrev Yj:=@List.mem_filterMap
abbrev Yk:=@PySem.Heap.size_push
abbrev Yl:=@PySem.F.slot_tuple_iterator_next
abbrev Ym:=@PySem.wpAny_setField_rec
abbrev Yn:=@List.length_replicate
abbrev Yo:=@List.getElem?_toArray
abbrev Yp:=@List.pairwise_iff_getElem
abbrev Yq:=@PySem.PassesOwn.never
abbrev Yr:=@List.ext_getElem?
abbrev Ys:=@List.flatten_cons
abbrev Yt:=@PySem.wpAny_setState_of
abbrev Yu:=@Option.isSome_iff_exists
abbrev Yv:=@List.length_reverse
abbrev Yw:=@List.countP_cons
abbrev Yx:=@List.getElem?_replicate
abbrev Yy:=@Option.bind_some
abbrev Yz:=@Array.toList_filterMap
abbrev YA:=@PySem.wpAny_Call_Name_kw
abbrev YB:=@List.zip_cons_cons
abbrev YC:=@PySem.Obj.data_mapFields
abbrev YD:=@PySem.F.called_set
abbrev YE:=@Array.getElem?_setIfInBounds
abbrev YF:=@PySem.wpAny_standAt
abbrev YG:=@Nat.le_of_lt_succ
abbrev YH:=@List.append_assoc
abbrev YI:=@of_decide_eq_true
abbrev YJ:=@PySem.wpAny_pyIter_list
abbrev YK:=@PySem.Around.under_plainId
abbrev YL:=@Array.perm_iff_toList_perm
abbrev YM:=@List.map_nil
abbrev YN:=@Bool.not_eq_true
abbrev YO:=@Classical.byContradiction
abbrev YQ:=@List.mem_map_of_mem
abbrev YR:=@List.eq_of_mem_replicate
abbrev YS:=@PySem.F.args_tuple_add_2
abbrev YT:=@Bool.true_and
abbrev YU:=@PyProof.Rows.listUpdate_at
abbrev YV:=@PySem.F.slot_list_append
abbrev YW:=@PySem.F.type_list_append
abbrev YX:=@List.nodup_cons
abbrev YY:=@PySem.wpAny_passesOwn
abbrev YZ:=@Bool.eq_iff_iff
abbrev Y0:=@PySem.codeAny_builtin
abbrev Y1:=@PyProof.Rows.get?_update_seq
abbrev Y2:=@Nat.lt_of_le_of_lt
abbrev Y3:=@Array.forIn_toList
abbrev Y4:=@List.contains_cons
abbrev Y5:=@PySem.Around.in1_handled
abbrev Y6:=@PySem.F.entry_tuple_add
abbrev Y7:=@List.length_eq_zero_iff
abbrev Y8:=@List.getElem?_cons_succ
abbrev Y9:=@PyProof.Rows.F.plain_set_update_loop
abbrev Y_:=@Nat.succ_pos
abbrev Za:=@Array.toList_replicate
abbrev Zb:=@Array.toList_push
abbrev Zc:=@List.pairwise_map
abbrev Zd:=@PySem.W.cellsFrom_some
abbrev Ze:=@List.zip_nil_left
abbrev Zf:=@PySem.F.slot_tuple_add
abbrev Zg:=@Bool.and_false
abbrev Zh:=@List.drop_of_length_le
abbrev Zi:=@List.reverse_cons
abbrev Zj:=@List.take_succ
abbrev Zk:=@List.length_eq_one_iff
abbrev Zl:=@List.length_filterMap_eq_countP
abbrev Zm:=@PySem.Obj.isFreed_of_fields
abbrev Zn:=@Nat.lt_succ_self
abbrev Zo:=@PySem.wpAny_forIn_list
abbrev Zp:=@Option.getD_none
abbrev Zq:=@PySem.call_meets
abbrev Zr:=@PySem.wpAny_pyIter_zip
abbrev Zs:=@PySem.wpAny_attempt
abbrev Zt:=@PySem.wpAny_onRaise
abbrev Zu:=@Array.mem_toList_iff
abbrev Zv:=@List.map_id
abbrev Zw:=@PySem.wpAny_updateSeq_pair
abbrev Zx:=@Option.map_some
abbrev Zy:=@List.mem_filter
abbrev Zz:=@PySem.wpAny_execs_nil
abbrev ZA:=@List.append_nil
abbrev ZC:=@PySem.wpAny_loadPart'
abbrev ZD:=@List.length_nil
abbrev ZE:=@PySem.SeqAt.EqAt.same
abbrev ZF:=@PySem.F.args_tuple_iterator_next_1
abbrev ZH:=@PyProof.Rows.boot_isinstance
abbrev ZI:=@PySem.F.slot_zip_next
abbrev ZJ:=@PyProof.Rows.lt_int
abbrev ZK:=@PyProof.Rows.entry_tuple_getitem
abbrev ZL:=@PySem.codeAny_mono
abbrev ZM:=@PySem.wpAny_typeOf
abbrev ZO:=@List.drop_zero
abbrev ZP:=@List.pairwise_cons
abbrev ZQ:=@List.filterMap_map
abbrev ZR:=@PySem.SeqAt.EqAt.int_str
abbrev ZS:=@PySem.SeqAt.EqAt.str_int
abbrev ZU:=@PySem.SeqAt.EqAt.int_int
abbrev ZW:=@PySem.Heap.IsSliceOf.new
abbrev ZX:=@List.nodup_nil
abbrev ZY:=@List.take_zero
abbrev ZZ:=@PySem.wpAny_setField
abbrev Z0:=@List.mem_or_eq_of_mem_set
abbrev Z1:=@List.extract_eq_take_drop
abbrev Z3:=@PySem.wpAny_sequenceKey
abbrev Z4:=@PySem.slot_list_getitem
abbrev Z5:=@Bool.not_eq_true'
abbrev Z6:=@Array.getElem_mem_toList
abbrev Z7:=@Array.size_setIfInBounds
abbrev Z9:=@List.all_cons
abbrev Z_:=@List.any_cons
abbrev q0a:=@List.cons.inj
abbrev q0b:=@PySem.wpAny_newList
abbrev q0c:=@List.nodup_range
abbrev q0d:=@Nat.le_of_not_lt
abbrev q0f:=@List.getElem_inj
abbrev q0l:=@List.cons_append
abbrev q0n:=@PySem.wpAny_call
abbrev q0p:=@Bool.or_true
abbrev q0q:=@PySem.wpAny_rule
abbrev q0s:=@Nat.le_of_eq
abbrev q0t:=@List.find?_some
abbrev q0u:=@Array.size_push
abbrev q0v:=@List.foldl_cons
abbrev q0w:=@List.of_mem_zip
abbrev q0x:=@List.nil_append
abbrev q0y:=@List.forIn_cons
abbrev q0z:=@Array.Perm.refl
abbrev q0D:=@List.Perm.refl
abbrev q0E:=@Bool.false_and
abbrev q0F:=@List.forIn_nil
abbrev q0G:=@Array.size_map
theorem el7 {α β γ ε : Type} {A B C : α → β → γ → ε → Prop} {R : Prop} (h : ∃ F ad δ K, A F ad δ K ∧ B F ad δ K ∧ C F ad δ K) (k : ∀ F ad δ K, A F ad δ K → B F ad δ K → C F ad δ K → R) : R := h.elim fun F h => h.elim fun a h => h.elim fun d h => h.elim fun K h => k F a d K h.1 h.2.1 h.2.2
theorem el5 {α β : Type} {A B C : α → β → Prop} {R : Prop} (h : ∃ F ad, A F ad ∧ B F ad ∧ C F ad) (k : ∀ F ad, A F ad → B F ad → C F ad → R) : R := h.elim fun F h => h.elim fun a h => k F a h.1 h.2.1 h.2.2
theorem el3 {α : Type} {A B : α → Prop} {R : Prop} (h : ∃ F, A F ∧ B F) (k : ∀ F, A F → B F → R) : R := h.elim fun F h => k F h.1 h.2
set_option compiler.extract_closed false
local macro_rules | `(tactic| omega) => `(tactic| first | lia | omega (config := {}))
namespace LJS
open PySem PySem.SetTable
noncomputable def nx (m i:Nat):Nat:=(i * 5 + 1) % (m + 1)
noncomputable def mY (m:Nat):Nat->Nat->Nat
 | 0,i=>i
 | n + 1,i=>mY m n (nx m i)
theorem wy (m:Nat):∀ a b i,mY m (a + b) i=mY m b (mY m a i)
 | 0,b,i=>by rw[XG];rfl
 | a + 1,b,i=>by rw[Nat.succ_add];exact wy m a b (nx m i)
noncomputable def yN (m:Nat):Nat->Nat->List Nat
 | 0,_=>[]
 | n + 1,i=>i :: yN m n (nx m i)
theorem DN (m:Nat):∀ {n i e:Nat},e∈yN m n i->∃ k,k < n/\mY m k i=e
 | 0,_,_,h=>nomatch h
 | n + 1,i,e,h=>by
  rcases EZ.mp h with rfl | h
  ·exact⟨0,Y_ _,rfl⟩
  ·obtain⟨k,hk,e⟩:=DN m h
   exact⟨k + 1,Nat.succ_lt_succ hk,e⟩
noncomputable def Mk (m:Nat):Prop:=m=7\/m=31\/m=127
noncomputable def tN (m:Nat):Bool:=(List.range (m + 1)).all fun e=>(yN m (m + 1) 0).contains e
theorem DO {m:Nat} (h:Mk m):tN m=true/\mY m (m + 1) 0=0:=by
 rcases h with rfl | rfl | rfl<;>exact⟨by decide +kernel,by decide +kernel⟩
theorem oQ {m:Nat} (h:Mk m) {e:Nat} (he:e <= m):∃ k,k <= m/\mY m k 0=e:=by
 have:=Xb.mp (DO h).1 e (W9.mpr (Nat.lt_succ_of_le he))
 obtain⟨k,hk,q⟩:=DN m (List.contains_iff_mem.mp this)
 exact⟨k,YG hk,q⟩
theorem Jy {m:Nat} (h:Mk m) {i e:Nat} (hi:i <= m) (he:e <= m):∃ n,n <= m/\mY m n i=e:=by
 obtain⟨a,ha,rfl⟩:=oQ h hi
 obtain⟨b,hb,rfl⟩:=oQ h he
 by_cases VQ:a <= b
 ·refine⟨b - a,by omega,?_⟩
  rw[<-wy];congr 1;omega
 ·refine⟨m + 1 - a + b,by omega,?_⟩
  rw[<-wy,show a + (m + 1 - a + b)=(m + 1) + b by omega,wy,(DO h).2]
noncomputable def lp (m:Nat):Nat->Nat->Nat->Nat × Nat
 | 0,i,p=>(i,p)
 | n + 1,i,p=>lp m n (leap m i p).1 (leap m i p).2
theorem yO (m:Nat):∀ a b i p,lp m (a + b) i p=lp m b (lp m a i p).1 (lp m a i p).2
 | 0,b,i,p=>by rw[XG];rfl
 | a + 1,b,i,p=>by rw[Nat.succ_add];exact yO m a b _ _
theorem DP (m:Nat):∀ n i,lp m n i 0=(mY m n i,0)
 | 0,i=>rfl
 | n + 1,i=>by
  show lp m n (leap m i 0).1 (leap m i 0).2=_
  have e:leap m i 0=(nx m i,0):=by unfold leap nx;simp
  rw[e];exact DP m n _
theorem DQ (m i p:Nat):(leap m i p).1 <= m:=YG (Nat.mod_lt _ (Y_ _))
theorem DR (m:Nat):∀ n i p,(lp m n i p).2=p / 32 ^ n
 | 0,i,p=>by simp[lp]
 | n + 1,i,p=>by
  show (lp m n (leap m i p).1 (leap m i p).2).2=_
  rw[DR m n]
  show p / 32 / 32 ^ n=_
  rw[Nat.div_div_eq_div_mul,Nat.pow_succ,Nat.mul_comm]
theorem reach {m:Nat} (h:Mk m) {i p e:Nat} (hp:p < 2 ^ 64) (he:e <= m):∃ n,n <= 13 + m/\(lp m n i p).1=e:=by
 have z:(lp m 13 i p).2=0:=by
  rw[DR]
  exact Nat.div_eq_of_lt (Nat.lt_trans hp (by decide))
 have q:(lp m 13 i p).1 <= m:=by
  rw[yO m 12 1];exact DQ _ _ _
 obtain⟨n,hn,en⟩:=Jy h q he
 refine⟨13 + n,by omega,?_⟩
 rw[yO,z,DP];exact en
theorem DS (j:Nat):has #[] j=false:=by unfold has;simp
theorem tO {t:SetTable} (hd:t.dummies = #[]) (j:Nat):t.slot j = .empty\/∃ i,t.slot j = .live i/\i < t.place.size/\j∈t.place.toList:=by
 unfold slot
 rw[hd,DS]
 dsimp only
 by_cases c:(t.place[below t.place j]? == some j)=true
 ·right
  rw[VZ c]
  have e:=WV c
  obtain⟨hl,ev⟩:=Xl.mp e
  exact⟨_,rfl,hl,by rw[<-ev];exact Z6 hl⟩
 ·left
  rw[My c];rfl
theorem Jz {t:SetTable} (hd:t.dummies = #[]) {j:Nat} (hj:j∉t.place.toList):t.slot j = .empty:=by
 rcases tO hd j with h | ⟨_,_,_,h⟩
 ·exact h
 ·exact absurd h hj
theorem DT:∀ {l l':List Nat},l.Nodup->(∀ x∈l,x∈l')->l.length <= l'.length
 | [],_,_,_=>W5 _
 | a :: l,l',hn,hs=>by
  have ha:a∈l':=hs a (VV ..)
  have su:=YX.mp hn
  have ih:=DT (l:=l) (l':=l'.erase a) su.2 fun x hx=>(List.mem_erase_of_ne (fun z=>su.1 (by rw[<-z];exact hx))).mpr (hs x (Mn _ hx))
  rw[List.length_erase_of_mem ha] at ih
  have:=List.length_pos_of_mem ha
  rw[Mj];omega
theorem JB {l:List Nat} {m:Nat} (h:l.length <= m):∃ e,e <= m/\e∉l:=by
 refine YO fun no => ?_
 have all:∀ e,e∈List.range (m + 1)->e∈l:=fun e he=>YO fun z=>no ⟨e,YG (W9.mp he),z⟩
 have:(List.range (m + 1)).length <= l.length:=DT q0c all
 rw[Xs] at this
 omega
noncomputable def stateOf (t:SetTable) (i p:Nat):Probe:=⟨i,runEnd t.mask i - i,i,p,none⟩
theorem DU (m i:Nat):runEnd m i - i <= 9:=by unfold runEnd;split<;>omega
section
variable {t:SetTable} {f:Nat->Int} {h:Int}
theorem qh (F:Nat) (p:Probe):probe.go t f h (F + 1) p=(match t.slot p.j with
  | .empty=>some (.empty p.j p.dummy)
  | .dummy=>probe.go t f h F (t.advance { p with dummy:=some p.j })
  | .live i=>if f i == h then some (.candidate p.j i (t.advance p)) else probe.go t f h F (t.advance p)):=rfl
theorem DW (hd:t.dummies = #[]) (hf:∀ i,i < t.place.size->f i≠h):∀ (k F:Nat) (p:Probe),p.more=k->p.dummy=none →
  (∃ j,probe.go t f h (F + k + 1) p=some (.empty j none))\/probe.go t f h (F + k + 1) p=probe.go t f h F (stateOf t (leap t.mask p.i p.perturb).1 (leap t.mask p.i p.perturb).2)
 | 0,F,p,hm,tP=>by
  show (∃ j,probe.go t f h (F + 1) p=_)\/probe.go t f h (F + 1) p=_
  rw[qh]
  rcases tO hd p.j with e | ⟨i,e,hi,_⟩
  ·left;rw[e];exact⟨p.j,by rw[tP]⟩
  ·right
   rw[e]
   show (if (f i == h)=true then _ else _)=_
   rw[My (by intro z;exact hf i hi (WV z))]
   unfold advance
   rw[hm,My (by omega),tP]
   rfl
 | k + 1,F,p,hm,tP=>by
  have ih:=DW hd hf k F { p with j:=p.j + 1,more:=p.more - 1 } (by show p.more - 1=k;omega) tP
  rw[show F + (k + 1) + 1=(F + k + 1) + 1 by omega,qh]
  rcases tO hd p.j with e | ⟨i,e,hi,_⟩
  ·left;rw[e];exact⟨p.j,by rw[tP]⟩
  ·rw[e]
   show (∃ j,(if (f i == h)=true then _ else _)=_)\/(if (f i == h)=true then _ else _)=_
   rw[My (by intro z;exact hf i hi (WV z))]
   have ea:t.advance p={ p with j:=p.j + 1,more:=p.more - 1 }:=by unfold advance;rw[VZ (by omega)]
   rw[ea]
   exact ih
theorem DX (hd:t.dummies = #[]) (hf:∀ i,i < t.place.size->f i≠h):∀ (n F i p:Nat),10 * (n + 1) <= F->t.slot (lp t.mask n i p).1 = .empty->∃ j,probe.go t f h F (stateOf t i p)=some (.empty j none)
 | 0,F,i,p,hF,hs=>by
  obtain⟨G,rfl⟩:∃ G,F=G + 1:=⟨F - 1,by omega⟩
  rw[qh]
  have e:t.slot (stateOf t i p).j = .empty:=hs
  rw[e]
  exact⟨i,rfl⟩
 | n + 1,F,i,p,hF,hs=>by
  have hr:=DU t.mask i
  obtain⟨G,hG⟩:∃ G,F=G + (runEnd t.mask i - i) + 1:=⟨F - (runEnd t.mask i - i) - 1,by omega⟩
  have:=DW (f:=f) (h:=h) hd hf (runEnd t.mask i - i) G (stateOf t i p) rfl rfl
  rw[<-hG] at this
  rcases this with h1 | h1
  ·exact h1
  ·rw[h1]
   exact DX hd hf n G _ _ (by omega) hs
theorem yP (h:Int):bits h < 2 ^ 64:=by
 unfold bits
 have:=Xv h (show (0:Int) < 2 ^ 64 by decide)
 have:=XS h (show (2 ^ 64:Int)≠0 by decide)
 omega
theorem JD (hd:t.dummies = #[]) (hm:Mk t.mask) (hz:t.place.size <= t.mask) (hf:∀ i,i < t.place.size->f i≠h):∃ j,t.probe f h (t.probeStart h)=some (.empty j none):=by
 obtain⟨e,he,ne⟩:=JB (l:=t.place.toList) (m:=t.mask) (by rw[Aa];exact hz)
 obtain⟨n,hn,en⟩:=reach hm (i:=bits h % (t.mask + 1)) (yP h) he
 exact DX hd hf n _ _ _ (by unfold turns;omega) (by rw[en];exact Jz hd ne)
end
section
variable {m:Nat} {owner:Array (Option Nat)}
theorem yQ (F i p:Nat):layClean.free m owner (F + 1) i p=(match (List.range (runEnd m i + 1 - i)).find? fun k=>(owner.getD (i + k) (some 0)).isNone with
   | some k=>some (i + k)
   | none=>layClean.free m owner F (leap m i p).1 (leap m i p).2):=rfl
theorem yR:∀ (n F i p:Nat),n + 1 <= F->(owner.getD (lp m n i p).1 (some 0)).isNone=true->∃ j,layClean.free m owner F i p=some j/\(owner.getD j (some 0)).isNone=true
 | 0,F,i,p,hF,hs=>by
  obtain⟨G,rfl⟩:∃ G,F=G + 1:=⟨F - 1,by omega⟩
  rw[yQ]
  cases hc:(List.range (runEnd m i + 1 - i)).find? fun k=>(owner.getD (i + k) (some 0)).isNone with
  | some k =>
   have:=q0t hc
   exact⟨i + k,rfl,this⟩
  | none =>
   have:=List.find?_eq_none.mp hc 0 (W9.mpr (by unfold runEnd;split<;>omega))
   exact absurd hs this
 | n + 1,F,i,p,hF,hs=>by
  obtain⟨G,rfl⟩:∃ G,F=G + 1:=⟨F - 1,by omega⟩
  rw[yQ]
  cases hc:(List.range (runEnd m i + 1 - i)).find? fun k=>(owner.getD (i + k) (some 0)).isNone with
  | some k =>
   have:=q0t hc
   exact⟨i + k,rfl,this⟩
  | none=>exact yR n G _ _ (by omega) hs
end
structure Ow (m:Nat) (owner:Array (Option Nat)) (k:Nat):Prop where
 size:owner.size=m + 1
 cnt:owner.toList.countP Option.isSome=k
 lt:∀ x,some x∈owner.toList->x < k
theorem yS:∀ {l:List (Option Nat)} {j k:Nat},l[j]? = some none->(l.set j (some k)).countP Option.isSome=l.countP Option.isSome + 1
 | [],j,k,h=>by simp at h
 | x :: l,0,k,h=>by
  simp at h;subst h
  rw[XU,Yw,Yw];rfl
 | x :: l,j + 1,k,h=>by
  simp at h
  rw[XW,Yw,Yw,yS h];omega
theorem getD_none {owner:Array (Option Nat)} {j:Nat} (h:(owner.getD j (some 0)).isNone=true):owner.toList[j]? = some none:=by
 rw[Xr] at h
 rw[WU]
 cases e:owner[j]? with
 | none=>rw[e] at h;cases h
 | some x =>
  rw[e] at h
  cases x with
  | none=>rfl
  | some y=>cases h
theorem DY {m:Nat} {owner:Array (Option Nat)} {k:Nat} (O:Ow m owner k) (hk:k <= m):∃ e,e <= m/\(owner.getD e (some 0)).isNone=true:=by
 refine YO fun no => ?_
 have all:∀ x∈owner.toList,x.isSome=true:=by
  intro x hx
  obtain⟨e,he⟩:=WK.mp hx
  cases x with
  | some y=>rfl
  | none =>
   have hl:=(qK.mp he).1
   rw[Aa,O.size] at hl
   refine absurd ⟨e,YG hl,?_⟩ no
   rw[Xr,<-WU,he];rfl
 have:=List.countP_eq_length.mpr all
 rw[O.cnt,Aa,O.size] at this
 omega
theorem JH {m:Nat} {owner:Array (Option Nat)} {k:Nat} (hm:Mk m) (O:Ow m owner k) (hk:k <= m) (h:Int):∃ j,layClean.free m owner (turns m) (bits h % (m + 1)) (bits h)=some j/\Ow m (owner.setIfInBounds j (some k)) (k + 1):=by
 obtain⟨e,he,hn⟩:=DY O hk
 obtain⟨n,su,en⟩:=reach hm (i:=bits h % (m + 1)) (yP h) he
 obtain⟨j,ej,hj⟩:=yR (m:=m) (owner:=owner) n (turns m) (bits h % (m + 1)) (bits h) (by unfold turns;omega) (by rw[en];exact hn)
 refine⟨j,ej,by rw[Z7];exact O.size,?_,fun x hx => ?_⟩
 ·rw[XY,yS (getD_none hj),O.cnt]
 ·rw[XY] at hx
  rcases Z0 hx with h | h
  ·exact XZ (O.lt x h)
  ·cases h;exact Zn _
theorem DZ (m:Nat):Ow m (Array.replicate (m + 1) none) 0:=by
 refine⟨by simp,?_,fun x hx => ?_⟩
 ·rw[Za]
  exact List.countP_eq_zero.mpr fun x hx=>by rw[YR hx];decide
 ·rw[Za] at hx
  cases YR hx
noncomputable def jV (m:Nat) (owner:Array (Option Nat)):List (Nat × Nat):=(List.range (m + 1)).filterMap fun j=>(owner.getD j none).map (j,·)
theorem D0 {m:Nat} {owner:Array (Option Nat)} {k:Nat} (O:Ow m owner k):(jV m owner).length=k:=by
 unfold jV
 rw[Zl,<-O.cnt]
 have e:owner.toList=(List.range (m + 1)).map fun j=>owner.getD j none:=by
  refine Yr fun i => ?_
  rw[WU,VX]
  by_cases hi:i < m + 1
  ·rw[XA hi,Zx,V0 (by rw[O.size];exact hi),Xr,V0 (by rw[O.size];exact hi)];rfl
  ·rw[Array.getElem?_eq_none (by rw[O.size];omega),Xm (by rw[Xs];omega)];rfl
 rw[e,List.countP_map]
 refine List.countP_congr fun j _ => ?_
 simp
theorem JJ {α : Type} {es:Array α} {order:Array Nat} (h:∀ k∈order.toList,k < es.size):(order.filterMap (es[·]?)).size=order.size/\∀ e∈(order.filterMap (es[·]?)).toList,e∈es.toList:=by
 constructor
 ·rw[<-Aa,Yz,Zl,List.countP_eq_length.mpr fun k hk => ?_,Aa]
  rw[V0 (h k hk)];rfl
 ·intro e he
  rw[Yz] at he
  obtain⟨k,_,q⟩:=Yj.mp he
  exact WK.mpr ⟨k,by rw[WU];exact q⟩
theorem JK (t:SetTable) (hd:t.dummies = #[]) (j:Nat):(t.put j).1.dummies = #[]/\(t.put j).1.mask=t.mask/\(t.put j).1.place.size=t.place.size + 1/\(t.put j).1.led=t.led/\(t.put j).1.plain=t.plain/\(t.put j).1.moves=t.moves/\(t.put j).1.finger=t.finger:=by
 unfold put
 dsimp only
 rw[hd,DS]
 refine⟨rfl,rfl,?_,rfl,rfl,rfl,rfl⟩
 unfold insertAt
 simp only[Array.size_append,q0u,Array.size_extract]
 omega
theorem JL {α : Type} (xs:Array α) (p:Nat) (x : α):(insertAt xs p x).size=xs.size + 1:=by
 unfold insertAt
 simp only[Array.size_append,q0u,Array.size_extract]
 omega
end LJS
namespace LJS
open PySem PySem.SetTable PyProof.Rows
structure gJ (t:SetTable) (es:Array (Int × Value)) (hs:List Int):Prop where
 tQ:t.dummies = #[]
 tR:Mk t.mask
 oR:t.place.size=es.size
 num:es.size=hs.length
 jA:t.tooFull=false
 ins:∀ e∈es.toList,e.1∈hs
noncomputable def lb (h:Heap) (S:Addr) (hs:List Int):Prop:=∃ o es ep t,h.get? S=some o/\o.ExactSet/\o.data = .set es ep t/\gJ t es hs
section
variable {t:SetTable} {es:Array (Int × Value)} {hs:List Int}
theorem gJ.fill (T:gJ t es hs):t.fill=es.size:=by
 unfold SetTable.fill
 rw[T.oR,T.tQ];rfl
theorem gJ.lt (T:gJ t es hs):es.size * 5 < t.mask * 3:=by
 have:=T.jA
 unfold tooFull at this
 rw[T.fill] at this
 have:=of_decide_eq_false this
 omega
theorem gJ.fits (T:gJ t es hs):t.fits es.size=true:=by
 have:=T.lt
 unfold SetTable.fits
 rw[T.fill,T.oR]
 simp
 omega
theorem gJ.tT (T:gJ t es hs):t.gaveWay=false:=by
 unfold SetTable.gaveWay
 rcases T.tR with h | h | h<;>rw[h]<;>rfl
end
theorem JM:sizeAbove (grown 5) - 1=31:=by decide +kernel
theorem JN:sizeAbove (grown 19) - 1=127:=by decide +kernel
section
variable {prog:Program} {w:World} {A:Around} {E:Value->Shared->Prop} {s:Shared}
end
end LJS
namespace LJS
open PySem PySem.SetTable
noncomputable def Up (xs:Array Nat):Prop:=xs.toList.Pairwise (· < ·)
theorem Up.lt {xs:Array Nat} (u:Up xs) {i k:Nat} (JO:i < k) (hk:k < xs.size):xs[i]'(by omega) < xs[k]:=by
 have:=Yp.mp u i k (by rw[Aa];omega) (by rw[Aa];exact hk) JO
 simpa using this
theorem yT {xs:Array Nat} (u:Up xs) (j:Nat):∀ (fuel lo hi:Nat),hi <= xs.size->lo <= hi->hi - lo <= fuel->(∀ i,(h:i < xs.size)->i < lo->xs[i] < j)->(∀ i,(h:i < xs.size)->hi <= i->j <= xs[i]) →
  below.go xs j fuel lo hi <= xs.size/\(∀ i,(h:i < xs.size)->i < below.go xs j fuel lo hi->xs[i] < j)/\(∀ i,(h:i < xs.size)->below.go xs j fuel lo hi <= i->j <= xs[i])
 | 0,lo,hi,h1,h2,h3,a,b=>by
  have:lo=hi:=by omega
  subst this
  exact⟨h1,a,b⟩
 | fuel + 1,lo,hi,h1,h2,h3,a,b=>by
  unfold below.go
  by_cases c:lo < hi
  ·rw[VZ c]
   have hm:(lo + hi) / 2 < xs.size:=by omega
   have em:xs.getD ((lo + hi) / 2) j=xs[(lo + hi) / 2]:=by rw[Xr,V0 hm];rfl
   simp only[em]
   by_cases d:xs[(lo + hi) / 2] < j
   ·rw[VZ d]
    refine yT u j fuel _ hi h1 (by omega) (by omega) (fun i bZ hl => ?_) b
    by_cases e:i < (lo + hi) / 2
    ·exact Nat.lt_trans (u.lt e hm) d
    ·have:i=(lo + hi) / 2:=by omega
     subst this;exact d
   ·rw[My d]
    refine yT u j fuel lo _ (by omega) (by omega) (by omega) a fun i bZ hl => ?_
    by_cases e:(lo + hi) / 2 < i
    ·exact X9 (Y2 (q0d d) (u.lt e bZ))
    ·have:i=(lo + hi) / 2:=by omega
     subst this;exact q0d d
  ·rw[My c]
   have:lo=hi:=by omega
   subst this
   exact⟨h1,a,b⟩
theorem wz {xs:Array Nat} (u:Up xs) (j:Nat):below xs j <= xs.size/\(∀ i,(h:i < xs.size)->i < below xs j->xs[i] < j)/\(∀ i,(h:i < xs.size)->below xs j <= i->j <= xs[i]) :=
 yT u j xs.size 0 xs.size (wV _) (W5 _) (by omega) (fun i _ h=>by omega) (fun i h h'=>by omega)
theorem JP {t:SetTable} (u:Up t.place) {j:Nat} (hj:j∉t.place.toList):Up (t.put j).1.place:=by
 obtain⟨h0,h1,h2⟩:=wz u j
 show Up (insertAt t.place (below t.place j) j)
 unfold Up insertAt
 generalize below t.place j=p at h0 h1 h2
 have eL:(((t.place.extract 0 p).push j) ++ t.place.extract p t.place.size).toList=t.place.toList.take p ++ ([j] ++ t.place.toList.drop p):=by
  simp only[Array.toList_append,Zb,Array.toList_extract,Z1,ZO,Nat.sub_zero,YH]
  have e2:List.take (t.place.size - p) (List.drop p t.place.toList)=List.drop p t.place.toList:=Xw (by rw[Xz,Aa];exact wV _)
  rw[e2]
 rw[eL]
 have lo:∀ x∈t.place.toList.take p,x < j:=by
  intro x hx
  obtain⟨i,hi,e⟩:=XX.mp hx
  rw[WW,Aa] at hi
  rw[List.getElem_take] at e
  have:=h1 i (by omega) (by omega)
  rw[<-e];simpa using this
 have bZ:∀ x∈t.place.toList.drop p,j < x:=by
  intro x hx
  obtain⟨i,hi,e⟩:=XX.mp hx
  rw[Xz,Aa] at hi
  rw[List.getElem_drop] at e
  have:=h2 (p + i) (by omega) (by omega)
  have yU:j <= x:=by rw[<-e];simpa using this
  refine Nat.lt_of_le_of_ne yU fun z=>hj ?_
  rw[z];exact List.mem_of_mem_drop hx
 refine List.pairwise_append.mpr ⟨u.sublist (List.take_sublist _ _),?_,fun a ha b hb => ?_⟩
 ·exact ZP.mpr ⟨bZ,u.sublist (List.drop_sublist _ _)⟩
 ·rcases EZ.mp hb with rfl | hb
  ·exact lo a ha
  ·exact Nat.lt_trans (lo a ha) (bZ b hb)
theorem JQ (n:Nat) (f:Nat->Option Nat):(((List.range n).filterMap fun j=>(f j).map fun x=>(j,x)).map (·.1)).Pairwise (· < ·):=by
 rw[Zc]
 refine List.Pairwise.filterMap _ (fun a a' dY b hb b' iJ => ?_) (List.pairwise_lt_range (n:=n))
 obtain⟨x,_,rfl⟩:=WJ.mp hb
 obtain⟨y,_,rfl⟩:=WJ.mp iJ
 exact dY
theorem JR (m:Nat) (owner:Array (Option Nat)):((jV m owner).map (·.1)).Pairwise (· < ·):=JQ (m + 1) fun j=>owner.getD j none
theorem yV {t:SetTable} {f:Nat->Int} {h:Int}:∀ {fuel:Nat} {p:Probe} {j:Nat} {d:Option Nat},probe.go t f h fuel p=some (.empty j d)->t.slot j = .empty
 | 0,_,_,_,e=>nomatch e
 | fuel + 1,p,j,d,e=>by
  rw[qh] at e
  cases q:t.slot p.j with
  | empty =>
   rw[q] at e
   cases e
   exact q
  | dummy =>
   rw[q] at e
   exact yV e
  | live i =>
   rw[q] at e
   by_cases c:(f i == h)=true
   ·simp only[c,Yf] at e;cases e
   ·simp only[c,Xc] at e;exact yV e
theorem JU {t:SetTable} (u:Up t.place) {j:Nat} (e:t.slot j = .empty):j∉t.place.toList:=by
 intro hm
 obtain⟨i,hi,ei⟩:=XX.mp hm
 have bZ:i < t.place.size:=by rw[<-Aa];exact hi
 have yW:t.place[i]=j:=by simpa using ei
 obtain⟨h0,h1,h2⟩:=wz u j
 have a:¬ i < below t.place j:=fun z=>by have:=h1 i bZ z;omega
 have b:¬ below t.place j < i:=fun z=>by
  have:=h2 (below t.place j) (by omega) (wV _)
  have:=u.lt z bZ
  omega
 have eb:below t.place j=i:=by omega
 unfold slot at e
 rw[eb] at e
 have:(t.place[i]? == some j)=true:=by rw[V0 bZ,yW];simp
 simp only[this,Yf] at e
 cases e
noncomputable def mx (owner:Array (Option Nat)) (k:Nat):Prop:=(owner.toList.filterMap id).Perm (List.range k)
theorem yX:∀ {l:List (Option Nat)} {j k:Nat},l[j]? = some none->((l.set j (some k)).filterMap id).Perm (k :: l.filterMap id)
 | [],j,k,h=>by simp at h
 | x :: l,0,k,h=>by
  simp at h;subst h
  rw[XU]
  show (k :: l.filterMap id).Perm (k :: l.filterMap id)
  exact q0D _
 | x :: l,j + 1,k,h=>by
  simp at h
  rw[XW]
  cases x with
  | none =>
   show ((l.set j (some k)).filterMap id).Perm (k :: l.filterMap id)
   exact yX h
  | some y =>
   show (y :: (l.set j (some k)).filterMap id).Perm (k :: y :: l.filterMap id)
   exact (List.Perm.cons y (yX h)).trans (List.Perm.swap _ _ _)
theorem JV {owner:Array (Option Nat)} {j k:Nat} (P:mx owner k) (h:owner.toList[j]? = some none):mx (owner.setIfInBounds j (some k)) (k + 1):=by
 unfold mx at P ⊢
 rw[XY,List.range_succ]
 exact (yX h).trans ((List.Perm.cons k P).trans (List.perm_append_singleton k _).symm)
theorem JX {m:Nat} {owner:Array (Option Nat)} {k:Nat} (hm:Mk m) (O:Ow m owner k) (Pm:mx owner k) (hk:k <= m) (h:Int):∃ j,layClean.free m owner (turns m) (bits h % (m + 1)) (bits h)=some j/\Ow m (owner.setIfInBounds j (some k)) (k + 1)/\mx (owner.setIfInBounds j (some k)) (k + 1):=by
 obtain⟨e,he,hn⟩:=DY O hk
 obtain⟨n,su,en⟩:=reach hm (i:=bits h % (m + 1)) (yP h) he
 obtain⟨j,ej,hj⟩:=yR (m:=m) (owner:=owner) n (turns m) (bits h % (m + 1)) (bits h) (by unfold turns;omega) (by rw[en];exact hn)
 refine⟨j,ej,⟨by rw[Z7];exact O.size,?_,fun x hx => ?_⟩,JV Pm (getD_none hj)⟩
 ·rw[XY,yS (getD_none hj),O.cnt]
 ·rw[XY] at hx
  rcases Z0 hx with h | h
  ·exact XZ (O.lt x h)
  ·cases h;exact Zn _
theorem D1 {m:Nat} (hm:Mk m):∀ (hs:List Int) (owner:Array (Option Nat)) (k:Nat),Ow m owner k->mx owner k->k + hs.length <= m + 1 →
  ∃ aY,(hs.foldl (init:=some (owner,k)) fun acc h=>do
   let (owner,k) <- acc
   let j <- layClean.free m owner (turns m) (bits h % (m + 1)) (bits h)
   pure (owner.setIfInBounds j (some k),k + 1))=some (aY,k + hs.length)/\Ow m aY (k + hs.length)/\mx aY (k + hs.length)
 | [],owner,k,O,Pm,_=>⟨owner,rfl,O,Pm⟩
 | h :: hs,owner,k,O,Pm,hl=>by
  rw[Mj] at hl ⊢
  obtain⟨j,ej,O',P'⟩:=JX hm O Pm (by omega) h
  obtain⟨o2,e2,O2,P2⟩:=D1 hm hs _ (k + 1) O' P' (by omega)
  refine⟨o2,?_,by rw[show k + (hs.length + 1)=k + 1 + hs.length by omega];exact⟨O2,P2⟩⟩
  rw[q0v,show k + (hs.length + 1)=k + 1 + hs.length by omega,<-e2]
  congr 1
  show (do let j <- layClean.free m owner (turns m) (bits h % (m + 1)) (bits h);pure (owner.setIfInBounds j (some k),k + 1))=_
  rw[ej];rfl
theorem JY (m:Nat):mx (Array.replicate (m + 1) none) 0:=by
 unfold mx
 rw[Za,List.filterMap_eq_nil_iff.mpr fun x hx=>by rw[YR hx];rfl]
 exact q0D _
theorem JZ {m:Nat} (hm:Mk m) (hs:Array Int) (hz:hs.size <= m + 1):∃ owner,layClean m hs=some owner/\Ow m owner hs.size/\mx owner hs.size:=by
 obtain⟨o,e,O,Pm⟩:=D1 hm hs.toList _ 0 (DZ m) (JY m) (by rw[Aa];omega)
 rw[XG,Aa] at O Pm
 refine⟨o,?_,O,Pm⟩
 unfold layClean
 rw[<-Array.foldl_toList,e];rfl
theorem J0 {m:Nat} {owner:Array (Option Nat)} (hs:owner.size=m + 1):(jV m owner).map (·.2)=owner.toList.filterMap id:=by
 unfold jV
 rw[List.map_filterMap]
 have e:owner.toList=(List.range (m + 1)).map fun j=>owner.getD j none:=by
  refine Yr fun i => ?_
  rw[WU,VX]
  by_cases hi:i < m + 1
  ·rw[XA hi,Zx,V0 (by rw[hs];exact hi),Xr,V0 (by rw[hs];exact hi)];rfl
  ·rw[Array.getElem?_eq_none (by rw[hs];omega),Xm (by rw[Xs];omega)];rfl
 rw[e,ZQ]
 congr 1
 funext j
 show Option.map (fun x:Nat × Nat=>x.2) (Option.map (fun x=>(j,x)) (owner.getD j none))=owner.getD j none
 cases owner.getD j none<;>rfl
end LJS
namespace LJS
open PySem PySem.SetTable PyProof.Rows
section
variable {t:SetTable} {es:Array (Int × Value)} {led:Bool} {ks:List Int}
end
section
variable {prog:Program} {w:World} {A:Around} {E:Value->Shared->Prop} {s:Shared}
theorem D2 {ks:List Int}:∀ {vs:List Value},ItemsAre (intKind prog w) ks vs->∀ v∈vs,∃ i t,v = .int i t:=by
 induction ks with
 | nil=>intro vs h v hv;cases h;cases hv
 | cons k ks ih =>
  intro vs h v hv
  cases h with
  | cons h1 h2 =>
   rcases EZ.mp hv with rfl | hv
   ·obtain⟨t,e⟩:=Value.isInt_shape (k:=k) (v:=v) (by first | exact h1 | simpa [intKind] using h1)
    exact⟨_,_,e⟩
   ·exact ih h2 v hv
theorem J7 {ks:List Int} {a:Addr} {Q:Bool->Shared->Prop} (hk:IsTupleKey (intKind prog w) s.heap ks a) (h:∀ b,Q b s):wpAny (model prog w) A (hashByValue 8 (.ref a)) Q E s:=by
 have hT:=hk.typeIs
 obtain⟨o,ag,n,ho,_,hd,hi⟩:=hk
 show wpAny _ _ (hashByValue (7 + 1) (.ref a)) _ _ _
 unfold hashByValue
 refine nN (wpAny_specialOf hT F.slot_tuple_hash.lookup ?_)
 show wpAny _ _ (seqItems? (.ref a) >>= _) _ _ s
 refine nN (X0 ho hd ?_)
 refine nN ?_
 show wpAny _ _ (forIn ag _ _) _ _ s
 rw[<-Y3]
 refine Zo _ (fun rest _ s'=>s'=s/\∀ v∈rest,∃ i t,v=Value.int i t) _ ?_ ?_ _ _ ⟨rfl,D2 hi⟩
 ·rintro v rest r s' ⟨rfl,gK⟩
  obtain⟨i,t,rfl⟩:=gK v VV
  have e:hashByValue 7 (.int i t)=pure true:=by unfold hashByValue;rfl
  rw[e]
  refine nN (uq ?_)
  simp only[Xd,Ml,Xc]
  exact uq ⟨rfl,fun u hu=>gK u (Mn _ hu)⟩
 ·rintro ⟨r1,r2⟩ s' ⟨rfl,_⟩
  cases r1 with
  | none=>exact uq (h _)
  | some b=>exact uq (h _)
theorem yY {h h':Heap} {ks:List Int} {a:Addr} (x:IsTupleKey (intKind prog w) h ks a) (k:∀ o,h.get? a=some o->h'.get? a=some o):IsTupleKey (intKind prog w) h' ks a:=by
 obtain⟨o,ag,n,ho,r⟩:=x
 exact⟨o,ag,n,k o ho,r⟩
noncomputable abbrev hT (prog:Program) (w:World) (ks:List Int):Int:=tupleKeyHash (intKind prog w) ks
theorem J8 {h h':Heap} {S:Addr} {hs:List Int} (x:lb h S hs) (k:∀ o,h.get? S=some o->h'.get? S=some o):lb h' S hs:=by
 obtain⟨o,es,ep,t,ho,r⟩:=x
 exact⟨o,es,ep,t,k o ho,r⟩
end
section
variable {prog:Program} {w:World} {A:Around} {R:Result->Shared->Prop} {I S:Addr} {fp wr:List Addr} {G:Array GenState->Array GenState->Prop} {n:Nat} {P:Nat->Value->Prop} {St:Nat->Shared->Prop}
end
noncomputable abbrev ip (led:Bool):Obj:={ cls := .type "set",dict:=none,data := .set #[] 0 (.fresh 0 0 led) }
section
variable {prog:Program} {w:World} {A:Around} {E:Value->Shared->Prop} {s:Shared}
end
section
variable {prog:Program} {w:World} {A:Around} {I S:Addr} {o:Obj} {es:Array (Int × Value)} {ep:Nat} {t:SetTable} {ks:List Int}
end
section
variable {prog:Program} {w:World} {A:Around} {S:Addr} {o:Obj} {es:Array (Int × Value)} {ep:Nat} {t:SetTable} {ks:List Int}
end
end LJS
namespace L2
open PySem PySem.Spec PyProof.Rows
noncomputable abbrev Key:=Sum Int Str
noncomputable def D3:Key->Value->Bool
 | .inl k,v=>Value.isInt k v
 | .inr x,v=>Value.isStrOf x v
noncomputable def yZ (w:World):Key->Int
 | .inl k=>hashInt k
 | .inr x=>hashStr w x
theorem mZ:∀ {k:Key} {v:Value},D3 k v=true->(∃ i t,k=Sum.inl i/\v=Value.int i t)\/(∃ x t,k=Sum.inr x/\v=Value.str x t)
 | .inl i,v,h=>by
  obtain⟨t,e⟩:=Value.isInt_shape (k:=i) (v:=v) h
  exact .inl ⟨i,t,rfl,e⟩
 | .inr x,v,h=>by
  obtain⟨t,e⟩:=Value.isStrOf_shape (x:=x) (v:=v) h
  exact .inr ⟨x,t,rfl,e⟩
theorem J_ (a b:Int):decide ((Sum.inl a:Key)=Sum.inl b)=(a == b):=by
 by_cases e:a=b
 ·subst e;simp
 ·have h:¬ (Sum.inl a:Key)=Sum.inl b:=fun q=>e (Sum.inl.inj q)
  rw[WZ h]
  exact (beq_eq_false_iff_ne.mpr e).symm
theorem Ka (a b:Str):decide ((Sum.inr a:Key)=Sum.inr b)=decide (a=b):=by
 by_cases e:a=b
 ·subst e;simp
 ·have h:¬ (Sum.inr a:Key)=Sum.inr b:=fun q=>e (Sum.inr.inj q)
  rw[WZ h,WZ e]
theorem Kb (a:Int) (b:Str):decide ((Sum.inl a:Key)=Sum.inr b)=false:=WZ (fun q=>nomatch q)
theorem Kc (a:Str) (b:Int):decide ((Sum.inr a:Key)=Sum.inl b)=false:=WZ (fun q=>nomatch q)
noncomputable def D4 (prog:Program) (w:World):PySem.KeyKind prog w Key where
 is:=D3
 hash:=yZ w
 inj:=fun v a b ha hb=>by
  rcases mZ ha with⟨i,t,rfl,rfl⟩ | ⟨x,t,rfl,rfl⟩
  ·rcases mZ hb with⟨j,u,rfl,e⟩ | ⟨y,u,rfl,e⟩
   ·injection e with e1 _;rw[e1]
   ·exact nomatch e
  ·rcases mZ hb with⟨j,u,rfl,e⟩ | ⟨y,u,rfl,e⟩
   ·exact nomatch e
   ·injection e with e1 _;rw[e1]
 byValue:=fun k v h=>by
  rcases mZ h with⟨i,t,rfl,rfl⟩ | ⟨x,t,rfl,rfl⟩<;>rfl
 pyHash:=fun hv h=>by
  rcases mZ hv with⟨i,t,rfl,rfl⟩ | ⟨x,t,rfl,rfl⟩
  ·exact wpAny_pyHash_int h
  ·exact wpAny_pyHash_str h
 eqBool:=fun hu hv h=>by
  rcases mZ hu with⟨i,t,rfl,rfl⟩ | ⟨x,t,rfl,rfl⟩
  ·rcases mZ hv with⟨j,u,rfl,rfl⟩ | ⟨y,u,rfl,rfl⟩
   ·rw[J_] at h;exact wpAny_eqBool_int h
   ·rw[Kb] at h;exact ZR i t y u _ _ _ _ h
  ·rcases mZ hv with⟨j,u,rfl,rfl⟩ | ⟨y,u,rfl,rfl⟩
   ·rw[Kc] at h;exact ZS x t j u _ _ _ _ h
   ·rw[Ka] at h;exact wpAny_eqBool_str h
 «strs» := fun k x t v h=>by
  rcases mZ h with⟨i,u,rfl,e⟩ | ⟨y,u,rfl,e⟩
  ·exact nomatch e
  ·injection e with e1 _
   subst e1
   cases v<;>rfl
inductive V where
 | non | bl (b:Bool) | int (i:Int) | str (x:Str) | byt (b:Array UInt8) | flt (b:UInt64) | ref (a:Addr) | ty (n:String)
 deriving DecidableEq
noncomputable def RelV:V->Value->Prop
 | .non,u=>u=Value.none
 | .bl b,u=>u=Value.bool b
 | .int i,u=>∃ t,u=Value.int i t
 | .str x,u=>∃ t,u=Value.str x t
 | .byt b,u=>∃ t,u=Value.bytes b t
 | .flt b,u=>∃ t,u=Value.float b t
 | .ref a,u=>u=Value.ref a
 | .ty n,u=>u=Value.type n
noncomputable abbrev Vals:List V->List Value->Prop:=Paired RelV
theorem Vals.length {xs:List V} {us:List Value} (r:Vals xs us):xs.length=us.length:=Paired.length r
theorem Vals.get:∀ {xs:List V} {us:List Value} {i:Nat} {x:V},Vals xs us->xs[i]? = some x->∃ u,us[i]? = some u/\RelV x u
 | _,_,_,_,.nil,e=>by simp at e
 | _,_,0,_,.cons r _,e=>by simp at e;subst e;exact⟨_,rfl,r⟩
 | _,_,i + 1,x,.cons _ t,e=>by
  obtain⟨u,h1,h2⟩:=Vals.get (i:=i) (x:=x) t (by simpa using e)
  exact⟨u,by simpa using h1,h2⟩
theorem Vals.set {x:V} {u:Value} (r:RelV x u):∀ {xs:List V} {us:List Value} (i:Nat),Vals xs us->Vals (xs.set i x) (us.set i u)
 | _,_,_,.nil => .nil
 | _,_,0,.cons _ t => .cons r t
 | _,_,i + 1,.cons q t => .cons q (Vals.set r i t)
theorem Vals.append:∀ {xs ys:List V} {us ws:List Value},Vals xs us->Vals ys ws->Vals (xs ++ ys) (us ++ ws)
 | _,_,_,_,.nil,s=>s
 | _,_,_,_,.cons r t,s => .cons r (Vals.append t s)
theorem Vals.take:∀ {xs:List V} {us:List Value} (n:Nat),Vals xs us->Vals (xs.take n) (us.take n)
 | _,_,0,_ => .nil
 | _,_,_ + 1,.nil => .nil
 | _,_,n + 1,.cons r t => .cons r (Vals.take n t)
theorem Vals.drop:∀ {xs:List V} {us:List Value} (n:Nat),Vals xs us->Vals (xs.drop n) (us.drop n)
 | _,_,0,r=>r
 | _,_,_ + 1,.nil => .nil
 | _,_,n + 1,.cons _ t=>Vals.drop n t
noncomputable def jB:Option V->Option Value->Prop
 | some v,some u=>RelV v u
 | none,none=>True
 | _,_=>False
noncomputable def KV {κ : Type}:List (κ × V)->List (κ × Value)->Prop:=Paired fun (p : κ × V) (q : κ × Value)=>p.1=q.1/\RelV p.2 q.2
noncomputable def kV:Key->V
 | .inl i => .int i
 | .inr x => .str x
inductive HO where
 | lst (xs:List V)
 | tup (xs:List V)
 | dK (bx:List (Key × V)) | dT (bx:List (List Key × V))
 | set (S:Int->Bool) (n:Nat)
 | ins (C dx:Addr) (fs:List (Str × V))
 | own (x:Addr)
 | xd (fs:List (Str × V))
 | met (f x:Addr)
 | rng (lo hi:Int)
 | frz (o:Obj) (u:HO)
 | tbl (ps:Array Value)
 | ext (φ : Heap->Prop)
noncomputable abbrev Hp:=Addr->Option HO
noncomputable def upd (H:Hp) (a:Addr) (o:HO):Hp:=fun b=>if b=a then some o else H b
theorem bH {H:Hp} {a:Addr} {o:HO}:upd H a o a=some o:=by unfold upd;rw[VZ rfl]
theorem aH {H:Hp} {a b:Addr} {o:HO} (h:b≠a):upd H a o b=H b:=by unfold upd;rw[My h]
theorem y_ {H:Hp} {a b:Addr} {o u:HO} (h:H a=some o) (h':H b=some u) (d:o≠u):a≠b:=by
 intro e;subst e;rw[h] at h';exact d (WR h')
theorem cz {H:Hp} {a b:Addr} {o:HO} (h:H a=some o) (h':H b=none):a≠b:=by
 intro e;subst e;rw[h] at h';cases h'
section
variable (P:Program) (w:World)
noncomputable def aN (H:Hp) (h:Heap) (a:Addr):HO->Prop
 | .lst xs=>xs.length <= sizeLine/\∃ (ag:List Value) (n:Nat),Vals xs ag/\h.get? a=some { cls := .type "list",data := .seq ag.toArray n }
 | .tup xs=>xs.length <= sizeLine/\∃ ag:List Value,Vals xs ag/\IsTup h a ag.toArray
 | .dK bx=>bx.length <= sizeLine/\(a == sysModules)=false/\∃ vs,KV bx vs/\h.DictOf (D4 P w) a vs
 | .dT bx=>bx.length <= sizeLine/\(a == sysModules)=false/\∃ xs:List (List Key × Addr × Value),
   Paired (fun (p:List Key × V) (q:List Key × Addr × Value)=>p.1=q.1/\H q.2.1=some (.tup (p.1.map kV))/\RelV p.2 q.2.2) bx xs ∧
   ∃ o es ep,h.get? a=some o/\o.ExactDict/\o.data = .dict es ep/\es.toList=xs.map (entryOfKey (tupleKind (D4 P w)))/\(xs.map (·.1)).Nodup
 | .set S n=>h.SetOf (intKind P w) a S n
 | .ins C dx fs=>H dx=some (.own a)/\fs.length <= 1000/\dx≠a/\h.get? a=some (PySem.W.instObj C dx) ∧
   ∃ mA,h.Ns1 dx mA/\(∀ f,jB (fs.lookup f) (mA f))/\PySem.Within mA (fs.map (·.1))
 | .own _=>∃ o,h.get? a=some o
 | .xd fs=>∃ mA,h.Ns1 a mA/\∀ f,jB (fs.lookup f) (mA f)
 | .rng lo hi=>∃ t u v,h.get? a=some { cls := .type "range",data := .fields #[.int lo t,.int hi u,.int 1 v] }
 | .frz o u=>h.get? a=some o/\aN H h a u
 | .tbl ps=>h.get? a=some { cls := .none,data := .fields ps }
 | .met f x=>h.get? a=some (PySem.W.methodObj (.ref f) (.ref x))
 | .ext φ => φ h/\(∃ o,h.get? a=some o)/\∀ h1 h2:Heap,φ h1->(∀ o,h1.get? a=some o->h2.get? a=some o) -> φ h2
noncomputable def dQ (H:Hp) (h:Heap):Prop:=∀ a o,H a=some o->aN P w H h a o
end
section
variable {P:Program} {w:World} {H H':Hp} {h h':Heap} {a:Addr} {o:HO}
theorem aN.lt (x:aN P w H h a o):a < h.objs.size:=by
 cases o with
 | lst xs=>obtain⟨_,_,_,_,e⟩:=x;exact EW e
 | tup xs=>obtain⟨_,_,_,p⟩:=x;exact p.lt
 | dK bx=>obtain⟨_,_,_,_,o,_,_,e,_⟩:=x;exact EW e
 | dT bx=>obtain⟨_,_,_,_,o,_,_,e,_⟩:=x;exact EW e
 | set S n=>obtain⟨o,_,_,_,e,_⟩:=x;exact EW e
 | ins C dx fs=>obtain⟨_,_,_,e,_⟩:=x;exact EW e
 | own y=>obtain⟨_,e⟩:=x;exact EW e
 | xd fs=>obtain⟨_,⟨_,_,_,e,_⟩,_⟩:=x;exact EW e
 | rng lo hi=>obtain⟨_,_,_,e⟩:=x;exact EW e
 | frz ob u=>obtain⟨e,_⟩:=x;exact EW e
 | tbl ps=>exact EW (show h.get? a=some _ from x)
 | met f y=>exact EW (show h.get? a=some _ from x)
 | ext φ => obtain⟨_,⟨_,e⟩,_⟩:=x;exact EW e
theorem Paired.tU {α β : Type} {F G : α -> β -> Prop}:∀ {l₁ : List α} {l₂ : List β},Paired F l₁ l₂ -> (∀ a b,F a b->G a b)->Paired G l₁ l₂
 | _,_,.nil,_ => .nil
 | _,_,.cons r t,f => .cons (f _ _ r) (Paired.tU t f)
theorem aN.eA (x:aN P w H h a o) (k:∀ b u,(b=a\/H b=some (.own a))->h.get? b=some u->h'.get? b=some u)
  (ho:∀ b,H b=some (.own a)->H' b=some (.own a)) (ht:∀ b xs,H b=some (.tup xs)->H' b=some (.tup xs)):aN P w H' h' a o:=by
 induction o with
 | lst xs=>obtain⟨z,ag,n,r,e⟩:=x;exact⟨z,ag,n,r,k _ _ (.inl rfl) e⟩
 | tup xs=>obtain⟨z,ag,r,ob,e,c⟩:=x;exact⟨z,ag,r,ob,k _ _ (.inl rfl) e,c⟩
 | dK bx=>obtain⟨z,y,vs,r,ob,es,ep,e,c⟩:=x;exact⟨z,y,vs,r,ob,es,ep,k _ _ (.inl rfl) e,c⟩
 | dT bx =>
  obtain⟨z,y,xs,r,ob,es,ep,e,c⟩:=x
  exact⟨z,y,xs,Paired.tU r fun p q z=>⟨z.1,ht _ _ z.2.1,z.2.2⟩,ob,es,ep,k _ _ (.inl rfl) e,c⟩
 | set S n=>obtain⟨ob,es,ep,t,e,c⟩:=x;exact⟨ob,es,ep,t,k _ _ (.inl rfl) e,c⟩
 | ins C dx fs =>
  obtain⟨d,z,ne,e,mA,⟨od,es,ep,e2,c⟩,r⟩:=x
  exact⟨ho _ d,z,ne,k _ _ (.inl rfl) e,mA,⟨od,es,ep,k _ _ (.inr d) e2,c⟩,r⟩
 | own y=>obtain⟨ob,e⟩:=x;exact⟨ob,k _ _ (.inl rfl) e⟩
 | xd fs=>obtain⟨mA,⟨od,es,ep,e,c⟩,r⟩:=x;exact⟨mA,⟨od,es,ep,k _ _ (.inl rfl) e,c⟩,r⟩
 | rng lo hi=>obtain⟨t,u,v,e⟩:=x;exact⟨t,u,v,k _ _ (.inl rfl) e⟩
 | frz ob u ih=>obtain⟨e,q⟩:=x;exact⟨k _ _ (.inl rfl) e,ih q⟩
 | tbl ps =>
  have e:h.get? a=some { cls := .none,data := .fields ps }:=x
  show h'.get? a=some { cls := .none,data := .fields ps }
  exact k a _ (.inl rfl) e
 | met f y =>
  have e:h.get? a=some (PySem.W.methodObj (.ref f) (.ref y)):=x
  show h'.get? a=some (PySem.W.methodObj (.ref f) (.ref y))
  exact k a _ (.inl rfl) e
 | ext φ => obtain⟨p,⟨o,e⟩,st⟩:=x;exact⟨st _ _ p fun o q=>k _ _ (.inl rfl) q,⟨o,k _ _ (.inl rfl) e⟩,st⟩
theorem dQ.lt (x:dQ P w H h) (e:H a=some o):a < h.objs.size:=(x a o e).lt
theorem dQ.fresh (x:dQ P w H h) (e:h.objs.size <= a):H a=none:=by
 cases q:H a with
 | none=>rfl
 | some u=>exact absurd (WD (x.lt q) e) (X_ _)
theorem dQ.kept (x:dQ P w H h) (k:∀ b u,h.get? b=some u->h'.get? b=some u):dQ P w H h':=fun a o e =>
 (x a o e).eA (fun b u _ q=>k b u q) (fun _ q=>q) fun _ _ q=>q
theorem dQ.laid (x:dQ P w H h) (k:∀ b u,h.get? b=some u->h'.get? b=some u) (hp:h.objs.size <= a) (new:aN P w (upd H a o) h' a o):dQ P w (upd H a o) h':=fun b u e=>by
 have hn:=x.fresh hp
 by_cases hb:b=a
 ·subst hb;rw[bH] at e;cases e;exact new
 ·rw[aH hb] at e
  exact (x b u e).eA (fun c v _ q=>k c v q) (fun c q=>by rw[aH (cz q hn)];exact q) fun c xs q=>by rw[aH (cz q hn)];exact q
end
noncomputable def Rd (H:Hp) (a:Addr) (u:HO):Prop:=H a=some u\/∃ o,H a=some (.frz o u)
theorem Rd.ok {P:Program} {w:World} {H:Hp} {h:Heap} {a:Addr} {u:HO} (r:Rd H a u) (x:dQ P w H h):aN P w H h a u:=by
 rcases r with r | ⟨o,r⟩
 ·exact x a u r
 ·obtain⟨_,q⟩:=x a _ r
  exact q
noncomputable def wA:Option HO->Prop
 | some (.lst _)=>True
 | some (.dK _)=>True
 | some (.dT _)=>True
 | some (.set _ _)=>True
 | some (.ins _ _ _)=>True
 | some (.ext _)=>True
 | _=>False
section
variable {P:Program} {w:World} {H:Hp} {h h':Heap} {x e:Addr} {o':HO}
theorem dQ.write (ok:dQ P w H h) (mu:wA (H x)) (he:e=x\/H e=some (.own x)) (k:∀ b u,b≠e->h.get? b=some u->h'.get? b=some u) (oS:∃ u,h'.get? e=some u)
  (new:aN P w (upd H x o') h' x o'):dQ P w (upd H x o') h':=fun b u q=>by
 have tV:∀ c y,H c=some (.own y)->c≠x:=fun c y r z=>by subst z;rw[r] at mu;exact mu
 have za:∀ c xs,H c=some (.tup xs)->c≠x:=fun c xs r z=>by subst z;rw[r] at mu;exact mu
 by_cases hb:b=x
 ·subst hb;rw[bH] at q;cases q;exact new
 ·rw[aH hb] at q
  by_cases qi:b=e
  ·have q':H b=some (.own x):=by
    rcases he with z | z
    ·exact absurd (qi.trans z) hb
    ·rw[qi];exact z
   rw[q] at q';cases q'
   obtain⟨v,hv⟩:=oS
   exact⟨v,by rw[qi];exact hv⟩
  ·refine (ok b u q).eA (fun c v hc r=>k c v ?_ r) (fun c r=>by rw[aH (tV c b r)];exact r) fun c xs r=>by rw[aH (za c xs r)];exact r
   rcases hc with rfl | hc
   ·exact qi
   ·rintro rfl
    rcases he with z | z
    ·exact tV c b hc z
    ·rw[hc] at z;cases z;exact hb rfl
end
structure Un (fs ex:List Addr) (H H':Hp) (h h':Heap):Prop where
 keep:∀ b o,h.get? b=some o->H b=none->b∉fs->b∉ex->h'.get? b=some o
 slot:∀ b o,h.get? b=some o->H b=none->b∈fs->b∉ex->∃ sl,h'.get? b=some { o with slots:=sl }
 free:∀ b o,h.get? b=some o->H b=none->b∉ex->H' b=none
 there:∀ b o,h.get? b=some o->b∉ex->∃ o',h'.get? b=some o'
 cX:∀ b xs,H b=some (.tup xs)->H' b=some (.tup xs)
 dE:∀ b o u,H b=some (.frz o u)->H' b=some (.frz o u)
 dZ:∀ b ps,H b=some (.tbl ps)->∃ more,H' b=some (.tbl (ps ++ more))
section
variable {fs Kd ex VR:List Addr} {H H1 H2:Hp} {h h1 h2 h':Heap} {a x e:Addr} {o:HO}
theorem Un.any (u:Un fs ex H H1 h h1) {b:Addr} {ob:Obj} (q:h.get? b=some ob) (n:H b=none) (hx:b∉ex):∃ sl,h1.get? b=some { ob with slots:=sl }:=by
 by_cases hb:b∈fs
 ·exact u.slot b ob q n hb hx
 ·exact⟨ob.slots,u.keep b ob q n hb hx⟩
theorem Un.kept (k:∀ b u,h.get? b=some u->h'.get? b=some u):Un fs ex H H h h' :=
 ⟨fun b ob q _ _ _=>k b ob q,fun b ob q _ _ _=>⟨ob.slots,k b ob q⟩,fun _ _ _ n _=>n,fun b ob q _=>⟨ob,k b ob q⟩,fun _ _ q=>q,fun _ _ _ q=>q,fun _ ps q=>⟨#[],by rw[q];simp⟩⟩
theorem Un.refl:Un fs ex H H h h:=Un.kept fun _ _ q=>q
theorem Un.laid (k:∀ b u,h.get? b=some u->h'.get? b=some u) (hp:h.objs.size <= a) (hn:H a=none):Un fs ex H (upd H a o) h h' where
 keep:=fun b u q _ _ _=>k b u q
 slot:=fun b u q _ _ _=>⟨u.slots,k b u q⟩
 free:=fun b u q n _=>by rw[aH (WL (WD (EW q) hp))];exact n
 there:=fun b u q _=>⟨u,k b u q⟩
 cX:=fun b xs q=>by rw[aH (cz q hn)];exact q
 dE:=fun b u xs q=>by rw[aH (cz q hn)];exact q
 dZ:=fun b ps q=>⟨#[],by rw[aH (cz q hn),q];simp⟩
theorem Un.write (mu:wA (H x)) (he:e=x\/H e=some (.own x)) (k:∀ b u,b≠e->h.get? b=some u->h'.get? b=some u) (oS:∃ u,h'.get? e=some u):Un fs ex H (upd H x o) h h':=by
 have hx:∀ b,H b=none->b≠x:=fun b n z=>by subst z;rw[n] at mu;exact mu
 have hb:∀ b,H b=none->b≠e:=fun b n z=>by
  subst z
  rcases he with r | r
  ·exact hx b n r
  ·rw[n] at r;cases r
 have hm:∀ b u,H b=some u->¬ wA (some u)->b≠x:=fun b u q nm z=>by subst z;rw[q] at mu;exact nm mu
 refine⟨fun b u q n _ _=>k b u (hb b n) q,fun b u q n _ _=>⟨u.slots,k b u (hb b n) q⟩,fun b u q n _=>by rw[aH (hx b n)];exact n,fun b u q _ => ?_,
  fun b xs q=>by rw[aH (hm b _ q fun z=>z)];exact q,fun b u xs q=>by rw[aH (hm b _ q fun z=>z)];exact q,fun b ps q=>⟨#[],by rw[aH (hm b _ q fun z=>z),q];simp⟩⟩
 by_cases qi:b=e
 ·subst qi;exact oS
 ·exact⟨u,k b u qi q⟩
end
noncomputable def wB (h:Heap) (H:Hp):List Addr:=(List.range h.objs.size).filter fun a=>(H a).isSome
noncomputable def gL (h:Heap) (H:Hp):Heap:=PySem.W.hideAll h (wB h H)
theorem Ke (h:Heap) (H:Hp):(gL h H).objs.size=h.objs.size:=PySem.W.hideAll_size _ _
theorem Kg {h:Heap} {H:Hp} {b:Addr} {o:Obj} (e:h.get? b=some o) (n:H b=none):(gL h H).get? b=some o :=
 PySem.W.hideAll_get _ e fun hm=>by
  have q:(H b).isSome=true:=(Zy.mp hm).2
  rw[n] at q;simp at q
theorem Kh {h:Heap} {H:Hp} {b:Addr} {o:Obj} (e:(gL h H).get? b=some o):h.get? b=some o/\H b=none:=by
 have e':h.get? b=some o:=PySem.W.of_hideAll (wB h H) e
 refine⟨e',?_⟩
 cases q:H b with
 | none=>rfl
 | some x =>
  have hm:b∈wB h H:=Zy.mpr ⟨W9.mpr (EW e'),by simp[q]⟩
  have z:(gL h H).get? b=none:=PySem.W.hideAll_none (wB h H) hm
  rw[z] at e;cases e
structure Mod (K:PySem.W.Frag) (mg:Str->Option Value) (base:Heap):Prop where
 m_:K.In base
 glob:base.Ns mainGlobals mg
 blt:∃ mb,base.Ns builtinsNs mb/\∀ x:Str,x ≠ "__name__" -> mb x=bootBuiltins x
 nolimit:base.NoLimit
structure Cx where
 prog:Program
 w:World
 K:PySem.W.Frag
 mg:Str->Option Value
 base:Heap
 A:Around
 N:List Str
 s₀ : Shared
 H₀ : Hp
 env:Env
 outer:List Env
 stack:List Env
 ex:List Addr
 fn:Str->Bool
 calm:Bool
 pn:List (Addr × Obj)
 xe:Value->Shared->Prop
noncomputable def fg (l:List Env):List Addr:=l.filterMap (·.frame)
noncomputable abbrev Cx.fs (X:Cx):List Addr:=fg X.outer
noncomputable def oU (sc:Scope) (x:Str):Prop:=sc.names.lookup x=some .local\/sc.names.lookup x=some .cell\/sc.names.lookup x=some .free
noncomputable def Loc (sc:Scope) (x:Str):Prop:=sc.names.lookup x=some .local\/sc.names.lookup x=some .cell
noncomputable def Look (env:Env) (h:Heap) (m:Str->Option Value) (x:Str) (u:Value):Prop :=
 (env.kindOf x=some .local/\m x=some u)\/((env.kindOf x=some .cell\/env.kindOf x=some .free)/\∃ c,env.cells.lookup x=some c/\h.IsCell c (some u))
structure Cx.Ok (X:Cx):Prop where
 mod:Mod X.K X.mg X.base
 kind:X.env.scope.kind = .function
 glob:X.env.globals=mainGlobals
 blt:X.env.builtins=builtinsNs
 above:X.s₀.heap.objs.size <= X.env.locals
 inj:∀ x y c,X.env.cells.lookup x=some c->X.env.cells.lookup y=some c->x=y
 has:∀ x,(X.env.kindOf x=some .cell\/X.env.kindOf x=some .free)->∃ c,X.env.cells.lookup x=some c
 oV:∀ x c,X.fn x=true->X.env.cells.lookup x=some c->X.s₀.heap.objs.size <= c
 hd:X.calm=true->X.A.handled=none
 frames:X.A.frames=some X.stack
 qj:X.stack=X.outer\/(X.stack=X.env :: X.outer/\X.env.frame=some X.env.locals)
 tW:∀ b∈X.ex,b≠X.env.locals/\∀ x c,X.env.cells.lookup x=some c->c≠b
 bs:∀ b o,X.base.get? b=some o->X.s₀.heap.get? b=some o/\X.H₀ b=none
 lg:X.base.objs.size <= X.s₀.heap.objs.size
 iW:∀ b o,X.base.get? b=some o->b∉X.ex
 jC:∀ b∈X.ex,b∉X.fs
 d3:X.s₀.heap.FunFrames X.base X.outer
 my:∀ b∈X.fs,X.H₀ b=none
structure Inv (X:Cx) (pins:List (Addr × Obj)) (σ : List (Option V)) (H:Hp) (s:Shared):Prop where
 ok:X.Ok
 os:s.os=X.s₀.os
 bare:AllBare s.gens
 base:Un X.fs X.ex X.H₀ H X.s₀.heap s.heap
 loc:∃ m,s.heap.Ns X.env.locals m/\∀ (i:Nat) (x:Str) (v:V),X.N[i]? = some x -> σ[i]? = some (some v)->oU X.env.scope x->∃ u,RelV v u/\Look X.env s.heap m x u
 cell:∀ x c,X.env.cells.lookup x=some c->∃ v,s.heap.IsCell c v
 free:H X.env.locals=none
 bK:∀ x c,X.env.cells.lookup x=some c->H c=none
 pin:∀ p∈X.pn ++ pins,s.heap.get? p.1=some p.2/\H p.1=none/\p.1≠X.env.locals/\p.1∉X.fs/\∀ v,p.2.data ≠ .cell v
 aO:dQ X.prog X.w H s.heap
 len : σ.length=X.N.length
section
variable {X:Cx} {pins:List (Addr × Obj)} {σ : List (Option V)} {H H':Hp} {s:Shared} {h':Heap}
theorem Cx.Ok.zb (ok:X.Ok) {b:Addr} {o:Obj} (e:X.base.get? b=some o):b∉X.fs:=fun hb=>by
 have:=(ok.d3.mem hb).1
 rw[e] at this;cases this
theorem Inv.bs (I:Inv X pins σ H s):∀ b o,X.base.get? b=some o->s.heap.get? b=some o/\H b=none:=fun b o e =>
 ⟨I.base.keep b o (I.ok.bs b o e).1 (I.ok.bs b o e).2 (I.ok.zb e) (I.ok.iW b o e),I.base.free b o (I.ok.bs b o e).1 (I.ok.bs b o e).2 (I.ok.iW b o e)⟩
theorem Inv.bk (I:Inv X pins σ H s):∀ b o,X.base.get? b=some o->s.heap.get? b=some o:=fun b o e=>(I.bs b o e).1
theorem Inv.mod (I:Inv X pins σ H s):Mod X.K X.mg X.base:=I.ok.mod
theorem Inv.fJ (I:Inv X pins σ H s):X.K.In s.heap:=I.ok.mod.m_.keeps I.bk
theorem Inv.nolimit (I:Inv X pins σ H s):s.heap.NoLimit:=I.ok.mod.nolimit.keeps I.bk
theorem Inv.lt (I:Inv X pins σ H s):X.env.locals < s.heap.objs.size:=let ⟨_,hn,_⟩:=I.loc;hn.lt
theorem Inv.sz (I:Inv X pins σ H s):X.s₀.heap.objs.size <= s.heap.objs.size:=W7 I.ok.above (X9 I.lt)
theorem Inv.zc (I:Inv X pins σ H s) {a:Addr} (h:s.heap.objs.size <= a):a∉X.fs:=fun hb=>by
 obtain⟨_,o,ho,_⟩:=I.ok.d3.mem hb
 exact absurd (WD (EW ho) (W7 I.sz h)) (X_ _)
theorem Inv.nh (I:Inv X pins σ H s):∀ x c,X.env.cells.lookup x=some c->c≠X.env.locals:=fun x c e z=>by
 obtain⟨v,o,ho,hd⟩:=I.cell x c e
 obtain⟨m,⟨o',es,ep,jl,ni,_⟩,_⟩:=I.loc
 rw[z,jl] at ho;cases ho;rw[ni] at hd;cases hd
theorem Inv.d3 (I:Inv X pins σ H s):s.heap.FunFrames X.base X.outer:=by
 have all:∀ (l:List Env),(∀ b∈fg l,b∈X.fs)->X.s₀.heap.FunFrames X.base l->s.heap.FunFrames X.base l:=by
  intro l
  induction l with
  | nil=>intro _ _;trivial
  | cons env r ih =>
   intro hs hl
   obtain⟨hk,⟨L,o,hf,hn,ho,hd⟩,hr⟩:=hl
   have hL:L∈X.fs:=hs L (by unfold fg;rw[X7,hf];exact VV)
   obtain⟨sl,e⟩:=I.base.slot L o ho (I.ok.my L hL) hL fun z=>I.ok.jC L z hL
   exact⟨hk,⟨L,_,hf,hn,e,hd⟩,ih (fun b hb=>hs b (by unfold fg;rw[X7,hf];exact Mn _ hb)) hr⟩
 exact all X.outer (fun _ hb=>hb) I.ok.d3
theorem Inv.stack (I:Inv X pins σ H s):s.heap.FunFrames X.base X.stack:=by
 rcases I.ok.qj with e | ⟨e,hf⟩
 ·rw[e];exact I.d3
 ·rw[e]
  obtain⟨m,hn,_⟩:=I.loc
  refine .cons (by rw[I.ok.kind];decide) hf hn ?_ I.d3
  exact Heap.get?_none_of_le (W7 I.ok.lg I.ok.above)
theorem Inv.iq (I:Inv X pins σ H s):∀ b∈fg X.stack,b∈X.env.locals :: X.fs:=fun b hb=>by
 rcases I.ok.qj with e | ⟨e,hf⟩
 ·rw[e] at hb;exact Mn _ hb
 ·rw[e] at hb
  unfold fg at hb
  rw[X7,hf] at hb
  exact hb
theorem Inv.eB (I:Inv X pins σ H s):∀ b∈fg X.stack,H b=none:=fun b hb=>by
 rcases EZ.mp (I.iq b hb) with e | hb
 ·rw[e];exact I.free
 ·obtain⟨_,o,ho,_⟩:=I.ok.d3.mem hb
  exact I.base.free b o ho (I.ok.my b hb) fun z=>I.ok.jC b z hb
theorem Inv.step {g':Array GenState} {t':Nat} {d':Drawn} {ch:List Addr} (I:Inv X pins σ H s)
  (mz:∀ b∈ch,(b∈X.ex\/X.s₀.heap.objs.size <= b)/\b≠X.env.locals/\(∀ x c,X.env.cells.lookup x=some c->c≠b)/\∀ p∈X.pn ++ pins,p.1≠b)
  (keep:∀ b o,b≠X.env.locals->b∉X.fs->b∉ch->s.heap.get? b=some o->H b=none->h'.get? b=some o)
  (slot:∀ b o,b≠X.env.locals->b∈X.fs->b∉ch->s.heap.get? b=some o->H b=none->∃ sl,h'.get? b=some { o with slots:=sl }) (free:∀ b o,b∉ch->s.heap.get? b=some o->H b=none->H' b=none)
  (there:∀ b o,b∉ch->s.heap.get? b=some o->∃ o',h'.get? b=some o')
  (cX:∀ b xs,H b=some (.tup xs)->H' b=some (.tup xs)) (dE:∀ b o u,H b=some (.frz o u)->H' b=some (.frz o u)) (dZ:∀ b ps,H b=some (.tbl ps)->∃ more,H' b=some (.tbl (ps ++ more)))
  (ns:∀ m,s.heap.Ns X.env.locals m->h'.Ns X.env.locals m) (aO:dQ X.prog X.w H' h') (hg:AllBare g') :
  Inv X pins σ H' { s with heap:=h',gens:=g',drawn:=d',toks:=t' }:=by
 have D5:∀ b o,X.s₀.heap.get? b=some o->b≠X.env.locals:=fun b o e=>WL (WD (EW e) I.ok.above)
 have wC:∀ b o,X.s₀.heap.get? b=some o->b∉X.ex->b∉ch:=fun b o e hx hb=>by
  rcases (mz b hb).1 with z | z
  ·exact hx z
  ·exact absurd (WD (EW e) z) (X_ _)
 have cellK:∀ x c,X.env.cells.lookup x=some c->∀ v,s.heap.IsCell c v->h'.IsCell c v:=fun x c e v ⟨o,ho,hd⟩=>by
  have lh:c∉ch:=fun z=>(mz c z).2.2.1 x c e rfl
  by_cases hc:c∈X.fs
  ·obtain⟨sl,q⟩:=slot c o (I.nh x c e) hc lh ho (I.bK x c e)
   exact⟨_,q,hd⟩
  ·exact⟨o,keep c o (I.nh x c e) hc lh ho (I.bK x c e),hd⟩
 refine⟨I.ok,I.os,hg,⟨fun b o e n hb hx => ?_,fun b o e n hb hx => ?_,fun b o e n hx => ?_,fun b o e hx => ?_,fun b xs e=>cX b xs (I.base.cX b xs e),fun b o xs e=>dE b o xs (I.base.dE b o xs e),fun b ps e => ?_⟩,?_,fun x c e => ?_,?_,fun x c e => ?_,fun p hp => ?_,aO,I.len⟩
 ·exact keep b o (D5 b o e) hb (wC b o e hx) (I.base.keep b o e n hb hx) (I.base.free b o e n hx)
 ·obtain⟨sl,e1⟩:=I.base.slot b o e n hb hx
  obtain⟨mB,e2⟩:=slot b _ (D5 b o e) hb (wC b o e hx) e1 (I.base.free b o e n hx)
  exact⟨mB,e2⟩
 ·obtain⟨o',e1⟩:=I.base.there b o e hx
  exact free b o' (wC b o e hx) e1 (I.base.free b o e n hx)
 ·obtain⟨o',e1⟩:=I.base.there b o e hx
  exact there b o' (wC b o e hx) e1
 ·obtain⟨m1,e1⟩:=I.base.dZ b ps e
  obtain⟨m2,e2⟩:=dZ b _ e1
  exact⟨m1 ++ m2,by rw[e2,Array.append_assoc]⟩
 ·obtain⟨m,hn,hl⟩:=I.loc
  refine⟨m,ns m hn,fun i x v e1 e2 e3 => ?_⟩
  obtain⟨u,r,l⟩:=hl i x v e1 e2 e3
  refine⟨u,r,?_⟩
  rcases l with l | ⟨k,c,e,z⟩
  ·exact .inl l
  ·exact .inr ⟨k,c,e,cellK x c e _ z⟩
 ·obtain⟨v,z⟩:=I.cell x c e
  exact⟨v,cellK x c e v z⟩
 ·obtain⟨m,⟨o,_,_,ho,_⟩,_⟩:=I.loc
  exact free _ o (fun z=>(mz _ z).2.1 rfl) ho I.free
 ·obtain⟨v,o,ho,hd⟩:=I.cell x c e
  exact free c o (fun z=>(mz c z).2.2.1 x c e rfl) ho (I.bK x c e)
 ·obtain⟨e,n,ne,nf,d⟩:=I.pin p hp
  have lh:p.1∉ch:=fun z=>(mz p.1 z).2.2.2 p hp rfl
  exact⟨keep p.1 p.2 ne nf lh e n,free p.1 p.2 lh e n,ne,nf,d⟩
theorem Inv.un {t':Nat} (I:Inv X pins σ H s) (u:Un X.fs [] H H' s.heap h') (aO:dQ X.prog X.w H' h'):Inv X pins σ H' { s with heap:=h',toks:=t' }:=by
 obtain⟨m,⟨o,es,ep,ho,r⟩,_⟩:=id I.loc
 obtain⟨sl,hL⟩:=u.any ho I.free (by simp)
 exact I.step (g':=s.gens) (d':=s.drawn) (ch:=[]) (fun _ z=>nomatch z) (fun b o _ hb _ e n=>u.keep b o e n hb (by simp)) (fun b o _ hb _ e n=>u.slot b o e n hb (by simp)) (fun b o _ e n=>u.free b o e n (by simp)) (fun b o _ e=>u.there b o e (by simp)) u.cX u.dE u.dZ (fun m' hm=>by
  obtain⟨o',tX,zd,jl,r'⟩:=hm
  rw[ho] at jl;cases jl
  exact⟨_,tX,zd,hL,r'⟩) aO I.bare
theorem Inv.call {g':Array GenState} {t':Nat} {d':Drawn} {ch:List Addr} (I:Inv X pins σ H s) (u:Un (fg X.stack) ch H H' s.heap h') (aO:dQ X.prog X.w H' h') (hg:AllBare g')
  (mz:∀ b∈ch,(b∈X.ex\/X.s₀.heap.objs.size <= b)/\b≠X.env.locals/\(∀ x c,X.env.cells.lookup x=some c->c≠b)/\∀ p∈X.pn ++ pins,p.1≠b) :
  Inv X pins σ H' { s with heap:=h',gens:=g',drawn:=d',toks:=t' }:=by
 obtain⟨m,⟨o,es,ep,ho,r⟩,_⟩:=id I.loc
 obtain⟨sl,hL⟩:=u.any ho I.free fun z=>(mz _ z).2.1 rfl
 exact I.step (ch:=ch) mz (fun b o hL hb hc e n=>u.keep b o e n (fun z=>(EZ.mp (I.iq b z)).elim hL hb) hc) (fun b o _ _ hc e n=>u.any e n hc) (fun b o hc e n=>u.free b o e n hc) (fun b o hc e=>u.there b o e hc) u.cX u.dE u.dZ (fun m' hm=>by
  obtain⟨o',tX,zd,jl,r'⟩:=hm
  rw[ho] at jl;cases jl
  exact⟨_,tX,zd,hL,r'⟩) aO hg
theorem Inv.turned {t':Nat} {it:Addr} (I:Inv X pins σ H s) (k:∀ b o,b≠it->s.heap.get? b=some o->h'.get? b=some o) (hn:H it=none) (hL:it≠X.env.locals)
  (h1:it∈X.ex\/X.s₀.heap.objs.size <= it) (h2:∀ x c,X.env.cells.lookup x=some c->c≠it) (h3:∀ p∈X.pn ++ pins,p.1≠it):Inv X pins σ H { s with heap:=h',toks:=t' }:=by
 have D6:∀ b u,H b=some u->b≠it:=fun b u e z=>by rw[z,hn] at e;cases e
 refine I.step (g':=s.gens) (d':=s.drawn) (ch:=[it]) (fun b hb => ?_) (fun b o _ _ hc e _=>k b o (fun z=>hc (by simp[z])) e) (fun b o _ _ hc e _=>⟨o.slots,k b o (fun z=>hc (by simp[z])) e⟩) (fun _ _ _ _ n=>n)
  (fun b o hc e=>⟨o,k b o (fun z=>hc (by simp[z])) e⟩) (fun _ _ e=>e) (fun _ _ _ e=>e) (fun b ps e=>⟨#[],by rw[e];simp⟩) (fun m hm => ?_) (fun b u e => ?_) I.bare
 ·have e:b=it:=by simpa using hb
  subst e
  exact⟨h1,hL,h2,h3⟩
 ·obtain⟨o,es,ep,ho,r⟩:=hm
  exact⟨o,es,ep,k _ o (Yg hL) ho,r⟩
 ·refine (I.aO b u e).eA (fun c v hc q=>k c v ?_ q) (fun _ q=>q) fun _ _ q=>q
  rcases hc with z | z
  ·rw[z];exact D6 b u e
  ·exact D6 c _ z
theorem Inv.tok (I:Inv X pins σ H s) (t:Nat):Inv X pins σ H { s with toks:=t }:=I.un (h':=s.heap) (t':=t) Un.refl I.aO
theorem Inv.kept {t':Nat} (I:Inv X pins σ H s) (k:∀ b u,s.heap.get? b=some u->h'.get? b=some u):Inv X pins σ H { s with heap:=h',toks:=t' }:=I.un (Un.kept k) (I.aO.kept k)
theorem Inv.laid {a:Addr} {o:HO} {t':Nat} (I:Inv X pins σ H s) (k:∀ b u,s.heap.get? b=some u->h'.get? b=some u) (hp:s.heap.objs.size <= a) (new:aN X.prog X.w (upd H a o) h' a o) :
  Inv X pins σ (upd H a o) { s with heap:=h',toks:=t' }:=I.un (Un.laid k hp (I.aO.fresh hp)) (I.aO.laid k hp new)
theorem Inv.write {x e:Addr} {o:HO} {t':Nat} (I:Inv X pins σ H s) (mu:wA (H x)) (he:e=x\/H e=some (.own x)) (k:∀ b u,b≠e->s.heap.get? b=some u->h'.get? b=some u) (oS:∃ u,h'.get? e=some u)
  (new:aN X.prog X.w (upd H x o) h' x o):Inv X pins σ (upd H x o) { s with heap:=h',toks:=t' }:=I.un (Un.write mu he k oS) (I.aO.write mu he k oS new)
theorem Inv.fU {cj:List (Addr × Obj)} (I:Inv X pins σ H s) (h:∀ p∈cj,s.heap.get? p.1=some p.2/\H p.1=none/\p.1≠X.env.locals/\p.1∉X.fs/\∀ v,p.2.data ≠ .cell v):Inv X cj σ H s :=
 ⟨I.ok,I.os,I.bare,I.base,I.loc,I.cell,I.free,I.bK,fun p hp=>(Xo.mp hp).elim (fun z=>I.pin p (XO _ z)) (h p),I.aO,I.len⟩
theorem ze {N:List Str} (hN:N.Nodup) {i j:Nat} {x:Str} (a:N[i]? = some x) (b:N[j]? = some x):i=j:=by
 obtain⟨h1,e1⟩:=qK.mp a
 obtain⟨h2,e2⟩:=qK.mp b
 exact (q0f hN).mp (e1.trans e2.symm)
theorem D7 {M:Model} {A:Around} {E:Value->Shared->Prop} {i:Nat} {x:Str} {v:V} {u:Value} {Q:Unit->Shared->Prop} (I:Inv X pins σ H s) (hN:X.N.Nodup) (hi:X.N[i]? = some x) (hx:Loc X.env.scope x) (r:RelV v u)
  (h:∀ s',Inv X pins (σ.set i (some v)) H s'->(∃ a,Heap.SameBut a s.heap s'.heap/\(a=X.env.locals\/X.env.cells.lookup x=some a))->Q () s') (hf:X.fn x=true\/X.env.scope.names.lookup x=some .local:=by first | exact .inl rfl | exact .inr rfl | assumption):wpAny M A (storeName X.env x u) Q E s:=by
 obtain⟨m,hn,hl⟩:=id I.loc
 have zf:(X.env.scope.kind == .class || (X.env.scope.kind == .module && X.env.locals != X.env.globals))=false:=by rw[I.ok.kind];rfl
 have D8:i < σ.length:=by rw[I.len];exact (qK.mp hi).1
 have nh:=I.nh
 have tracked:∀ {a:Addr} {h':Heap},(∃ o,s.heap.get? a=some o/\H a=none)->Heap.SameBut a s.heap h'->dQ X.prog X.w H h':=fun {a h'} ha hs b ob e=>by
  obtain⟨_,_,oW⟩:=ha
  refine (I.aO b ob e).eA (fun c w' hc q=>(hs.2 c ?_).trans q) (fun _ q=>q) fun _ _ q=>q
  rintro rfl
  rcases hc with rfl | hc
  ·rw[oW] at e;cases e
  ·rw[oW] at hc;cases hc
 rcases hx with hk | hk
 ·refine wpAny_storeName_local hk hn (fun h' su hs => ?_) zf
  obtain⟨oL,_,_,oX,_⟩:=id hn
  refine h _ ⟨I.ok,I.os,I.bare,⟨fun b o e n hb hx => ?_,fun b o e n hb hx => ?_,I.base.free,fun b o e hx => ?_,I.base.cX,I.base.dE,I.base.dZ⟩,⟨_,su,fun j y v' e1 e2 e3 => ?_⟩,fun y c e => ?_,I.free,I.bK,fun p hp => ?_,tracked ⟨oL,oX,I.free⟩ hs,by simpa using I.len⟩ ⟨_,hs,.inl rfl⟩
  ·exact (hs.2 b (WL (WD (EW e) I.ok.above))).trans (I.base.keep b o e n hb hx)
  ·obtain⟨sl,e1⟩:=I.base.slot b o e n hb hx
   exact⟨sl,(hs.2 b (WL (WD (EW e) I.ok.above))).trans e1⟩
  ·obtain⟨o',e1⟩:=I.base.there b o e hx
   exact⟨o',(hs.2 b (WL (WD (EW e) I.ok.above))).trans e1⟩
  ·by_cases hj:j=i
   ·subst hj
    rw[hi] at e1;cases e1
    rw[Xe D8] at e2
    cases e2
    exact⟨u,r,.inl ⟨hk,by simp⟩⟩
   ·rw[Xg (Yg hj)] at e2
    obtain⟨u',r',q⟩:=hl j y v' e1 e2 e3
    refine⟨u',r',?_⟩
    rcases q with⟨k,e⟩ | ⟨k,c,e,z⟩
    ·refine .inl ⟨k,?_⟩
     have:y≠x:=fun e=>hj (ze hN e1 (e ▸ hi))
     simp[this,e]
    ·exact .inr ⟨k,c,e,z.sameBut hs (nh y c e)⟩
  ·obtain⟨w',z⟩:=I.cell y c e
   exact⟨w',z.sameBut hs (nh y c e)⟩
  ·obtain⟨e,n,ne,nf,d⟩:=I.pin p hp
   exact⟨(hs.2 p.1 ne).trans e,n,ne,nf,d⟩
 ·have nk:X.fn x=true:=by
   rcases hf with z | z
   ·exact z
   ·rw[z] at hk;cases hk
  obtain⟨c,hc⟩:=I.ok.has x (.inl hk)
  obtain⟨w',z⟩:=I.cell x c hc
  refine wpAny_storeName_cell I.ok.kind hk hc z (fun h' kO hs => ?_)
  obtain⟨oc,D9,zg⟩:=id z
  refine h { s with heap:=h' } ⟨I.ok,I.os,I.bare,⟨fun b o e n hb hx => ?_,fun b o e n hb hx => ?_,I.base.free,fun b o e hx => ?_,I.base.cX,I.base.dE,I.base.dZ⟩,⟨m,hn.sameBut hs (Yg (nh x c hc)),fun j y v' e1 e2 e3 => ?_⟩,fun y c' e => ?_,I.free,I.bK,fun p hp => ?_,tracked ⟨oc,D9,I.bK x c hc⟩ hs,by simpa using I.len⟩ ⟨c,hs,.inr hc⟩
  ·exact (hs.2 b (WL (WD (EW e) (I.ok.oV x c nk hc)))).trans (I.base.keep b o e n hb hx)
  ·obtain⟨sl,e1⟩:=I.base.slot b o e n hb hx
   exact⟨sl,(hs.2 b (WL (WD (EW e) (I.ok.oV x c nk hc)))).trans e1⟩
  ·obtain⟨o',e1⟩:=I.base.there b o e hx
   exact⟨o',(hs.2 b (WL (WD (EW e) (I.ok.oV x c nk hc)))).trans e1⟩
  ·by_cases hj:j=i
   ·subst hj
    rw[hi] at e1;cases e1
    rw[Xe D8] at e2
    cases e2
    exact⟨u,r,.inr ⟨.inl hk,c,hc,kO⟩⟩
   ·rw[Xg (Yg hj)] at e2
    obtain⟨u',r',q⟩:=hl j y v' e1 e2 e3
    refine⟨u',r',?_⟩
    rcases q with q | ⟨k,c',e,z'⟩
    ·exact .inl q
    ·refine .inr ⟨k,c',e,z'.sameBut hs ?_⟩
     rintro rfl
     exact hj (ze hN e1 (I.ok.inj _ _ _ e hc ▸ hi))
  ·by_cases hcc:c'=c
   ·subst hcc;exact⟨_,kO⟩
   ·obtain⟨w2,z2⟩:=I.cell y c' e
    exact⟨w2,z2.sameBut hs hcc⟩
  ·obtain⟨e,n,ne,nf,d⟩:=I.pin p hp
   refine⟨(hs.2 p.1 ?_).trans e,n,ne,nf,d⟩
   intro q
   rw[q,D9] at e
   have q':oc=p.2:=WR e
   exact d w' (by rw[<-q'];exact zg)
theorem wD {M:Model} {A:Around} {E:Value->Shared->Prop} {i:Nat} {x:Str} {v:V} {u:Value} {Q:Unit->Shared->Prop} (I:Inv X pins σ H s) (hN:X.N.Nodup) (hi:X.N[i]? = some x) (hx:Loc X.env.scope x) (r:RelV v u)
  (h:∀ s',Inv X pins (σ.set i (some v)) H s'->Q () s') (hf:X.fn x=true\/X.env.scope.names.lookup x=some .local:=by first | exact .inl rfl | exact .inr rfl | assumption):wpAny M A (storeName X.env x u) Q E s :=
 D7 I hN hi hx r (fun s' I' _=>h s' I') hf
theorem Inv.jW {s':Shared} {ch:List Addr} (I:Inv X pins σ H s) (ho:s'.os=s.os) (u:Un (fg X.stack) ch H H' s.heap s'.heap) (aO:dQ X.prog X.w H' s'.heap) (hg:AllBare s'.gens)
  (mz:∀ b∈ch,(b∈X.ex\/X.s₀.heap.objs.size <= b)/\b≠X.env.locals/\(∀ x c,X.env.cells.lookup x=some c->c≠b)/\∀ p∈X.pn ++ pins,p.1≠b):Inv X pins σ H' s':=by
 obtain⟨h',g',d',t',o'⟩:=s'
 have e:o'=s.os:=ho
 subst e
 exact I.call (g':=g') (t':=t') (d':=d') u aO hg mz
end
noncomputable abbrev XK:=Value->Option Addr->Hp->Prop
noncomputable abbrev St:=List (Option V)
noncomputable abbrev VK:=V->Hp->Prop
noncomputable abbrev TE:=St->Hp->VK->Prop
noncomputable abbrev TT:=St->Hp->(Bool->Hp->Prop)->Prop
noncomputable abbrev TA:=St->Hp->(List V->Hp->Prop)->Prop
structure Ends where
 nx:St->Hp->Prop
 rt:VK
 bk:St->Hp->Prop:=fun _ _=>False
 ct:St->Hp->Prop:=fun _ _=>False
noncomputable abbrev TS:=Ends->St->Hp->Prop
noncomputable def EP (X:Cx) (pins:List (Addr × Obj)) (σ : St) (Q:VK) (u:Value) (s':Shared):Prop:=∃ v H',Inv X pins σ H' s'/\RelV v u/\Q v H'
noncomputable def TP (X:Cx) (pins:List (Addr × Obj)) (σ : St) (Q:Bool->Hp->Prop) (b:Bool) (s':Shared):Prop:=∃ H',Inv X pins σ H' s'/\Q b H'
noncomputable def AP (X:Cx) (pins:List (Addr × Obj)) (σ : St) (Q:List V->Hp->Prop) (us:List Value) (s':Shared):Prop:=∃ vs H',Inv X pins σ H' s'/\Vals vs us/\Q vs H'
noncomputable def SP (X:Cx) (pins:List (Addr × Obj)) (D:Ends) (f:Flow) (s':Shared):Prop :=
 match f with
 | .next=>∃ σ' H',Inv X pins σ' H' s'/\D.nx σ' H'
 | .brk=>∃ σ' H',Inv X pins σ' H' s'/\D.bk σ' H'
 | .cont=>∃ σ' H',Inv X pins σ' H' s'/\D.ct σ' H'
 | .ret u=>∃ v σ' H',Inv X pins σ' H' s'/\RelV v u/\D.rt v H'
noncomputable def PE (X:Cx) (e:Expr) (t:TE):Prop :=
 ∀ (pins:List (Addr × Obj)) (s:Shared) (σ : St) (H:Hp) (Q:VK),Inv X pins σ H s->t σ H Q->wpAny (model X.prog X.w) X.A (eval e X.env) (EP X pins σ Q) X.xe s
noncomputable def PT (X:Cx) (e:Expr) (t:TT):Prop :=
 ∀ (pins:List (Addr × Obj)) (s:Shared) (σ : St) (H:Hp) (Q:Bool->Hp->Prop),Inv X pins σ H s->t σ H Q->wpAny (model X.prog X.w) X.A (isTrue e X.env (eval e X.env)) (TP X pins σ Q) X.xe s
noncomputable def PW (X:Cx) (e:Expr) (t:TT):Prop :=
 ∀ (whole:Sem Value) (pins:List (Addr × Obj)) (s:Shared) (σ : St) (H:Hp) (Q:Bool->Hp->Prop),Inv X pins σ H s->t σ H Q->wpAny (model X.prog X.w) X.A (isTrue e X.env whole) (TP X pins σ Q) X.xe s
theorem PW.pt {X:Cx} {e:Expr} {t:TT} (h:PW X e t):PT X e t:=h _
noncomputable def PA (X:Cx) (es:List Expr) (t:TA):Prop :=
 ∀ (pos:Pos) (pins:List (Addr × Obj)) (s:Shared) (σ : St) (H:Hp) (Q:List V->Hp->Prop),Inv X pins σ H s->t σ H Q->wpAny (model X.prog X.w) X.A (spliced (backTo pos (starEach es X.env))) (AP X pins σ Q) X.xe s
noncomputable def PS (X:Cx) (st:Stmt) (t:TS):Prop :=
 ∀ (pins:List (Addr × Obj)) (s:Shared) (σ : St) (H:Hp) (D:Ends),Inv X pins σ H s->t D σ H->wpAny (model X.prog X.w) X.A (exec st X.env) (SP X pins D) X.xe s
noncomputable def fK (X:Cx) (st:List Stmt) (t:TS):Prop :=
 ∀ (pins:List (Addr × Obj)) (s:Shared) (σ : St) (H:Hp) (D:Ends),Inv X pins σ H s->t D σ H->wpAny (model X.prog X.w) X.A (execs st X.env) (SP X pins D) X.xe s
theorem bt {α : Type} {t:Sem α} {Q Q' : α -> Shared->Prop} {M:Model} {A:Around} {E:Value->Shared->Prop} {s:Shared} (h:wpAny M A t Q E s) (hQ:∀ a s,Q a s->Q' a s):wpAny M A t Q' E s:=XF h hQ fun _ _ x=>x
section
variable {X:Cx}
noncomputable def d4 (i:Nat):TE:=fun σ H Q=>∃ v,σ[i]? = some (some v)/\Q v H
noncomputable def tC (v:V):TE:=fun _ H Q=>Q v H
theorem D_ {i:Nat} {x:Str} {pos:Pos} (hN:X.N[i]? = some x) (hv:oU X.env.scope x) (hd:(x == ("__debug__" : Str))=false:=by decide) (fq:(x == ("__classdict__" : Str))=false:=by decide):PE X (.Name x pos) (d4 i):=by
 intro pins s σ H Q I h
 obtain⟨v,e,h⟩:=h
 obtain⟨m,hn,hl⟩:=I.loc
 obtain⟨u,r,l⟩:=hl i x v hN e hv
 have fin:EP X pins σ Q u s:=⟨v,H,I,r,h⟩
 rcases l with⟨hk,hm⟩ | ⟨hk,c,hc,oY⟩
 ·exact wpAny_Name (wpAny_loadName_local I.ok.kind hk hn hm fin) hd
 ·rcases hk with hk | hk
  ·exact wpAny_Name (wpAny_loadName_cell I.ok.kind hk hc oY fin) hd
  ·exact wpAny_Name (wpAny_loadName_free I.ok.kind hk hc oY fin fq) hd
theorem Ea {i j pos}:PE X (.Constant (.int i) j pos) (tC (.int i)):=fun _ _ _ H _ I h=>wpAny_Constant_int ⟨.int i,H,I.tok _,⟨_,rfl⟩,h⟩
theorem Ki {b j pos}:PE X (.Constant (.bool b) j pos) (tC (.bl b)):=fun _ _ _ H _ I h=>Constant_bool ⟨.bl b,H,I,rfl,h⟩
theorem Kj {j pos}:PE X (.Constant .none j pos) (tC .non):=fun _ _ _ H _ I h=>Constant_none ⟨.non,H,I,rfl,h⟩
theorem zh {x j pos}:PE X (.Constant (.str x) j pos) (tC (.str x)):=fun _ _ _ H _ I h=>Calls.Constant_str ⟨.str x,H,I.tok _,⟨_,rfl⟩,h⟩
noncomputable def Gl (X:Cx) (x:Str):Prop:=X.env.kindOf x=some .globalImplicit
theorem wF {E:Value->Shared->Prop} {pins:List (Addr × Obj)} {s:Shared} {σ : St} {H:Hp} {x:Str} {u:Value} {pos:Pos} {Q:Value->Shared->Prop} (I:Inv X pins σ H s) (hg:Gl X x) (hm:X.mg x=some u) (h:Q u s)
  (hd:(x == ("__debug__" : Str))=false:=by decide):wpAny (model X.prog X.w) X.A (eval (.Name x pos) X.env) Q E s :=
 Calls.Name_function_global I.ok.kind hg (Calls.loadGlobal_global (by rw[I.ok.glob];exact I.mod.glob.keeps I.bk) hm h) hd
theorem nq {E:Value->Shared->Prop} {pins:List (Addr × Obj)} {s:Shared} {σ : St} {H:Hp} {x:Str} {u:Value} {pos:Pos} {Q:Value->Shared->Prop} (I:Inv X pins σ H s) (hg:Gl X x) (hm:X.mg x=none) (hv:bootBuiltins x=some u) (h:Q u s)
  (hn:x ≠ "__name__" := by decide) (hd:(x == ("__debug__" : Str))=false:=by decide):wpAny (model X.prog X.w) X.A (eval (.Name x pos) X.env) Q E s:=by
 obtain⟨mb,h1,h2⟩:=I.mod.blt
 exact Calls.Name_function_global I.ok.kind hg (Calls.loadGlobal_builtin (by rw[I.ok.glob];exact I.mod.glob.keeps I.bk) hm (by rw[I.ok.blt];exact h1.keeps I.bk) ((h2 x hn).trans hv) h) hd
theorem Kk {x:Str} {v:V} {u:Value} {pos:Pos} (hg:Gl X x) (hm:X.mg x=some u) (r:RelV v u) (hd:(x == ("__debug__" : Str))=false:=by decide):PE X (.Name x pos) (tC v) :=
 fun _ _ _ H _ I h=>wF I hg hm ⟨v,H,I,r,h⟩ hd
theorem Kl {x:Str} {v:V} {u:Value} {pos:Pos} (hg:Gl X x) (hm:X.mg x=none) (hv:bootBuiltins x=some u) (r:RelV v u) (hn:x ≠ "__name__" := by decide) (hd:(x == ("__debug__" : Str))=false:=by decide):PE X (.Name x pos) (tC v) :=
 fun _ _ _ H _ I h=>nq I hg hm hv ⟨v,H,I,r,h⟩ hn hd
variable {a b:Expr} {ta tb:TE} {pos:Pos}
noncomputable def PC (X:Cx) (op:CmpOp) (a b:Expr) (t:TE):Prop :=
 ∀ (pins:List (Addr × Obj)) (s:Shared) (σ : St) (H:Hp) (Q:VK),Inv X pins σ H s->t σ H Q →
  wpAny (model X.prog X.w) X.A (eval a X.env) (fun v s₁ => wpAny (model X.prog X.w) X.A (eval b X.env) (fun u s₂ => wpAny (model X.prog X.w) X.A (compareOp op v u) (EP X pins σ Q) X.xe s₂) X.xe s₁) X.xe s
theorem Eb (b:Expr) {op:CmpOp} (h:op ≠ .In) (h2:op ≠ .NotIn):behindInMarks op b=false:=by
 have e1:(op == CmpOp.In)=false:=by cases op<;>first | rfl | exact absurd rfl h
 have e2:(op == CmpOp.NotIn)=false:=by cases op<;>first | rfl | exact absurd rfl h2
 cases b<;>simp[behindInMarks,e1,e2]
noncomputable def qk (ta:TE):TE:=fun σ H Q=>ta σ H fun x H1=>Q (.bl (decide (x = .non))) H1
theorem RelV.lj {x:V} {v:Value} (r:RelV x v):(v == Value.none)=decide (x = .non):=by
 cases x with
 | non=>cases r;rfl
 | bl _=>cases r;rfl
 | int _=>obtain⟨t,rfl⟩:=r;rfl
 | str _=>obtain⟨t,rfl⟩:=r;rfl
 | byt _=>obtain⟨t,rfl⟩:=r;rfl
 | flt _=>obtain⟨t,rfl⟩:=r;rfl
 | ref _=>cases r;rfl
 | ty _=>cases r;rfl
theorem Km {j pos'} (ha:PE X a ta):PC X .Is a (.Constant .none j pos') (qk ta):=by
 intro pins s σ H Q I h
 refine bt (ha pins s σ H _ I h) fun v s1 h0_ => el5 h0_ fun x H1 I1 r1 q1 => ?_
 exact Constant_none (is_none_gen ⟨.bl _,H1,I1,by rw[r1.lj];rfl,q1⟩)
noncomputable def tB (t:TE):TT:=fun σ H Q=>t σ H fun x H1=>∃ c,x = .bl c/\Q c H1
theorem Kn {op:CmpOp} {t:TE} (h:PC X op a b t) (h1:behindInMarks op b=false:=by first | exact Eb _ (by decide) (by decide) | rfl):PT X (.Compare a [op] [b] pos) (tB t):=by
 intro pins s σ H Q I hw
 refine wpAny_isTrue_Compare1 (bt (h pins s σ H _ I hw) fun v s1 h1=>bt h1 fun u s2 h2=>bt h2 fun c s3 h0_ => el5 h0_ fun x H1 I1 r1 q1 => ?_) h1
 obtain⟨d,rfl,q⟩:=q1
 cases r1
 exact Yc ⟨H1,I1,q⟩
theorem Ko {e:Expr} {t:TE} (h:PE X e t) (he:∀ whole,isTrue e X.env whole=(do let v <- whole;standAt e.pos;holding [v] (truthy v)):=by intro _;rfl):PT X e (tB t):=by
 intro pins s σ H Q I hw
 refine isTrue_plain (bt (h pins s σ H _ I hw) fun v s1 h0_ => el5 h0_ fun x H1 I1 r1 q1 => ?_) (he _)
 obtain⟨d,rfl,q⟩:=q1
 cases r1
 exact Yc ⟨H1,I1,q⟩
variable {tA mC:TT} {rest:List Expr}
noncomputable def ql (t u:TT):TT:=fun σ H Q=>t σ H fun c H1=>if c=true then u σ H1 Q else Q false H1
noncomputable def zi (t u:TT):TT:=fun σ H Q=>t σ H fun c H1=>if c=true then Q true H1 else u σ H1 Q
noncomputable def qm (t:TT):TT:=fun σ H Q=>t σ H fun c H1=>Q (!c) H1
theorem Kq (ha:PT X a tA):PW X (.BoolOp .And [a] pos) tA:=by
 intro wh pins s σ H Q I h
 refine isTrue_and (bt (ha pins s σ H Q I h) fun c s1 e => ?_)
 cases c with
 | true=>exact isTrue_and_nil e
 | false=>exact e
theorem Kr (ha:PT X a tA):PW X (.BoolOp .Or [a] pos) tA:=by
 intro wh pins s σ H Q I h
 refine isTrue_or (bt (ha pins s σ H Q I h) fun c s1 e => ?_)
 cases c with
 | false=>exact isTrue_or_nil e
 | true=>exact e
theorem Ks (ha:PT X a tA) (hb:PW X (.BoolOp .And (b :: rest) pos) mC):PW X (.BoolOp .And (a :: b :: rest) pos) (ql tA mC):=by
 intro wh pins s σ H Q I h
 refine isTrue_and (bt (ha pins s σ H _ I h) fun c s1 h0_ => el3 h0_ fun H1 I1 q1 => ?_)
 cases c with
 | true=>exact hb wh pins s1 σ H1 Q I1 q1
 | false=>exact⟨H1,I1,q1⟩
theorem Kt (ha:PT X a tA) (hb:PW X (.BoolOp .Or (b :: rest) pos) mC):PW X (.BoolOp .Or (a :: b :: rest) pos) (zi tA mC):=by
 intro wh pins s σ H Q I h
 refine isTrue_or (bt (ha pins s σ H _ I h) fun c s1 h0_ => el3 h0_ fun H1 I1 q1 => ?_)
 cases c with
 | true=>exact⟨H1,I1,q1⟩
 | false=>exact hb wh pins s1 σ H1 Q I1 q1
theorem Ku (ha:PT X a tA):PT X (.UnaryOp .Not a pos) (qm tA):=by
 intro pins s σ H Q I h
 exact isTrue_not (ha pins s σ H (fun c H1=>Q (!c) H1) I h)
noncomputable def Ec (ta tb:TE):TE:=fun σ H Q=>ta σ H fun x H1=>∃ c,x = .bl c/\if c=true then tb σ H1 Q else Q (.bl false) H1
noncomputable def Ed (ta:TE):TE:=fun σ H Q=>ta σ H fun x H1=>∃ c,x = .bl c/\Q (.bl (!c)) H1
theorem Kv {op} {t:TE} (h:PE X a t):PE X (.BoolOp op [a] pos) t:=fun pins s σ H Q I hw=>BoolOp_one (h pins s σ H Q I hw)
theorem Kw (ha:PE X a ta) (hb:PE X (.BoolOp .And (b :: rest) pos) tb):PE X (.BoolOp .And (a :: b :: rest) pos) (Ec ta tb):=by
 intro pins s σ H Q I h
 refine BoolOp_and (bt (ha pins s σ H _ I h) fun v s1 h0_ => el5 h0_ fun x H1 I1 r1 q1 => ?_)
 obtain⟨c,rfl,q1⟩:=q1
 cases r1
 refine Yc ?_
 cases c with
 | true=>exact hb pins s1 σ H1 Q I1 q1
 | false=>exact⟨.bl false,H1,I1,rfl,q1⟩
theorem Kx (ha:PE X a ta):PE X (.UnaryOp .Not a pos) (Ed ta):=by
 intro pins s σ H Q I h
 refine UnaryOp_ (bt (ha pins s σ H _ I h) fun v s1 h0_ => el5 h0_ fun x H1 I1 r1 q1 => ?_)
 obtain⟨c,rfl,q1⟩:=q1
 cases r1
 exact not_of (Yc ⟨.bl (!c),H1,I1,rfl,q1⟩)
noncomputable def zj (t:TT) (ta tb:TE):TE:=fun σ H Q=>t σ H fun c H1=>if c=true then ta σ H1 Q else tb σ H1 Q
theorem Ky {c:Expr} (hc:PT X c tA) (ha:PE X a ta) (hb:PE X b tb):PE X (.IfExp c a b pos) (zj tA ta tb):=by
 intro pins s σ H Q I h
 refine wpAny_IfExp (bt (hc pins s σ H _ I h) fun d s1 h0_ => el3 h0_ fun H1 I1 q1 => ?_)
 cases d with
 | true=>exact ha pins s1 σ H1 Q I1 q1
 | false=>exact hb pins s1 σ H1 Q I1 q1
end
noncomputable def bo (K:PySem.W.Frag) (H:Hp) (a:Addr) (xs:List V):Prop :=
 Rd H a (.lst xs) ∨
  ∃ (o:Obj) (ag:Array Value) (n:Nat),K.lookup a=some o/\o.cls = .type "list" /\ o.dict=none/\o.data = .seq ag n/\ag.size <= sizeLine/\Vals xs ag.toList
noncomputable def bT (K:PySem.W.Frag) (H:Hp) (a:Addr) (xs:List V):Prop :=
 Rd H a (.tup xs) ∨
  ∃ (o:Obj) (ag:Array Value) (n:Nat),K.lookup a=some o/\o.cls = .type "tuple" /\ o.data = .seq ag n/\ag.size <= sizeLine/\Vals xs ag.toList
noncomputable def zk:Value->Option V
 | .none=>some .non
 | .bool b=>some (.bl b)
 | .int i _=>some (.int i)
 | .str x _=>some (.str x)
 | .bytes b _=>some (.byt b)
 | .float b _=>some (.flt b)
 | .ref a=>some (.ref a)
 | .type n=>some (.ty n)
 | _=>none
theorem RelV.abs {x:V} {u:Value} (r:RelV x u):zk u=some x:=by
 cases x with
 | non=>cases r;rfl
 | bl _=>cases r;rfl
 | int _=>obtain⟨t,rfl⟩:=r;rfl
 | str _=>obtain⟨t,rfl⟩:=r;rfl
 | byt _=>obtain⟨t,rfl⟩:=r;rfl
 | flt _=>obtain⟨t,rfl⟩:=r;rfl
 | ref _=>cases r;rfl
 | ty _=>cases r;rfl
theorem RelV.inj {x y:V} {u:Value} (r:RelV x u) (q:RelV y u):x=y:=WR (r.abs.symm.trans q.abs)
theorem Vals.inj:∀ {xs ys:List V} {us:List Value},Vals xs us->Vals ys us->xs=ys
 | _,_,_,.nil,.nil=>rfl
 | _,_,_,.cons r t,.cons r' t'=>by rw[r.inj r',Vals.inj t t']
section
variable {X:Cx} {pins:List (Addr × Obj)} {σ : St} {H:Hp} {s:Shared} {a:Addr} {xs ys:List V}
theorem bo.of {K:PySem.W.Frag} (h:H a=some (.lst xs)):bo K H a xs := .inl (.inl h)
theorem bT.of {K:PySem.W.Frag} (h:H a=some (.tup xs)):bT K H a xs := .inl (.inl h)
theorem Inv.list (I:Inv X pins σ H s) (h:bo X.K H a xs):∃ ag:List Value,Vals xs ag/\PlainL s.heap a ag.toArray/\xs.length <= sizeLine:=by
 rcases h with h | ⟨o,ag,n,hk,hc,hd,hs,hz,r⟩
 ·obtain⟨z,ag,n,r,e⟩:=h.ok I.aO
  exact⟨ag,r,⟨_,n,e,rfl,rfl,rfl⟩,z⟩
 ·refine⟨ag.toList,r,⟨o,n,I.fJ a o hk,hc,hd,by simpa using hs⟩,?_⟩
  have e:=r.length
  simp only[Aa] at e
  omega
theorem Inv.tuple (I:Inv X pins σ H s) (h:bT X.K H a xs):∃ ag:List Value,Vals xs ag/\IsTup s.heap a ag.toArray/\xs.length <= sizeLine:=by
 rcases h with h | ⟨o,ag,n,hk,hc,hs,hz,r⟩
 ·obtain⟨z,ag,r,p⟩:=h.ok I.aO
  exact⟨ag,r,p,z⟩
 ·refine⟨ag.toList,r,⟨o,I.fJ a o hk,hc,n,by simpa using hs⟩,?_⟩
  have e:=r.length
  simp only[Aa] at e
  omega
theorem Inv.cY (I:Inv X pins σ H s) (h:bo X.K H a xs) (h':bo X.K H a ys):xs=ys:=by
 obtain⟨ag,r,⟨o,n,e,_,_,d⟩,_⟩:=I.list h
 obtain⟨its',r',⟨o',n',e',_,_,d'⟩,_⟩:=I.list h'
 rw[e] at e';cases e'
 rw[d] at d'
 injection d' with d1 _
 have:ag=its':=by simpa using congrArg Array.toList d1
 subst this
 exact r.inj r'
theorem Inv.gZ (I:Inv X pins σ H s) (h:bT X.K H a xs) (h':bT X.K H a ys):xs=ys:=by
 obtain⟨ag,r,⟨o,e,_,n,d⟩,_⟩:=I.tuple h
 obtain⟨its',r',⟨o',e',_,n',d'⟩,_⟩:=I.tuple h'
 rw[e] at e';cases e'
 rw[d] at d'
 injection d' with d1 _
 have:ag=its':=by simpa using congrArg Array.toList d1
 subst this
 exact r.inj r'
end
noncomputable abbrev Cx.gM (X:Cx) (E:Value->Shared->Prop):Cx:={ X with xe:=E }
noncomputable abbrev Cx.cg (X:Cx):Cx:=X.gM fun _ _=>False
theorem Cx.Ok.gM {X:Cx} (ok:X.Ok) (E:Value->Shared->Prop):(X.gM E).Ok :=
 ⟨ok.mod,ok.kind,ok.glob,ok.blt,ok.above,ok.inj,ok.has,ok.oV,ok.hd,ok.frames,ok.qj,ok.tW,ok.bs,ok.lg,ok.iW,ok.jC,ok.d3,ok.my⟩
theorem Cx.Ok.cZ {X:Cx} {E:Value->Shared->Prop} (ok:(X.gM E).Ok):X.Ok :=
 ⟨ok.mod,ok.kind,ok.glob,ok.blt,ok.above,ok.inj,ok.has,ok.oV,ok.hd,ok.frames,ok.qj,ok.tW,ok.bs,ok.lg,ok.iW,ok.jC,ok.d3,ok.my⟩
section
variable {X:Cx} {pins:List (Addr × Obj)} {σ : St} {H:Hp} {s:Shared} {E:Value->Shared->Prop}
theorem Inv.gM (I:Inv X pins σ H s) (E:Value->Shared->Prop):Inv (X.gM E) pins σ H s:=⟨I.ok.gM E,I.os,I.bare,I.base,I.loc,I.cell,I.free,I.bK,I.pin,I.aO,I.len⟩
theorem Inv.cZ (I:Inv (X.gM E) pins σ H s):Inv X pins σ H s:=⟨I.ok.cZ,I.os,I.bare,I.base,I.loc,I.cell,I.free,I.bK,I.pin,I.aO,I.len⟩
theorem SP.cZ {D:Ends} {f:Flow} {s':Shared} (h:SP (X.gM E) pins D f s'):SP X pins D f s':=by
 cases f with
 | next=>obtain⟨σ',H',I,q⟩:=h;exact⟨σ',H',I.cZ,q⟩
 | brk=>obtain⟨σ',H',I,q⟩:=h;exact⟨σ',H',I.cZ,q⟩
 | cont=>obtain⟨σ',H',I,q⟩:=h;exact⟨σ',H',I.cZ,q⟩
 | ret u=>obtain⟨v,σ',H',I,r,q⟩:=h;exact⟨v,σ',H',I.cZ,r,q⟩
theorem fK.cg {st:List Stmt} {t:TS} (h:fK X.cg st t):fK X st t:=fun pins s σ H D I hw =>
 XF (h pins s σ H D (I.gM _) hw) (fun _ _ q=>q.cZ) fun _ _ z=>False.elim z
end
section
variable {X:Cx} {st:Stmt} {rest:List Stmt} {t u:TS} {e:Expr} {te:TE} {pos:Pos}
noncomputable def zo:TS:=fun D σ H=>D.nx σ H
noncomputable def jD (t u:TS):TS:=fun D σ H=>t { D with nx:=u D } σ H
theorem Kz:fK X [] zo:=fun _ _ σ H _ I h=>Zz ⟨σ,H,I,h⟩
theorem Ee (h1:PS X st t) (h2:fK X rest u):fK X (st :: rest) (jD t u):=by
 intro pins s σ H D I h
 refine wpAny_execs_cons (bt (h1 pins s σ H { D with nx:=u D } I h) fun f s1 q => ?_)
 cases f with
 | next =>
  obtain⟨σ',H',I',q⟩:=q
  exact h2 pins s1 σ' H' D I' q
 | ret v=>exact q
 | brk=>exact q
 | cont=>exact q
theorem Ef (h1:PS X st t):fK X [st] t:=by
 intro pins s σ H D I h
 refine wpAny_execs_cons (bt (h1 pins s σ H D I h) fun f s1 q => ?_)
 cases f with
 | next=>exact Zz q
 | ret v=>exact q
 | brk=>exact q
 | cont=>exact q
theorem Inv.quiet {pins:List (Addr × Obj)} {σ : St} {H:Hp} {s:Shared} (I:Inv X pins σ H s):interactive X.env=false:=by simp[interactive,I.ok.kind]
noncomputable def zp (te:TE):TS:=fun D σ H=>te σ H fun _ H1=>D.nx σ H1
theorem KC (he:PE X e te) (hs:swapsWith e none pos.line X.env=pure false:=by rfl):PS X (.Expr e pos) (zp te):=by
 intro pins s σ H D I h
 exact wpAny_Expr_any (bt (he pins s σ H _ I h) fun v s1 h0_ => el5 h0_ fun x H1 I1 r1 q1 =>⟨σ,H1,I1,q1⟩) I.quiet hs
noncomputable def qo (te:TE):TS:=fun D σ H=>te σ H D.rt
theorem KD (he:PE X e te):PS X (.Return (some e) pos) (qo te):=by
 intro pins s σ H D I h
 exact wpAny_Return_some (bt (he pins s σ H _ I h) fun v s1 h0_ => el5 h0_ fun x H1 I1 r1 q1 =>⟨x,σ,H1,I1,r1,q1⟩)
noncomputable def qp (c:TT) (t u:TS):TS:=fun D σ H=>c σ H fun b H1=>if b=true then t D σ H1 else u D σ H1
theorem KG {c:Expr} {a b:List Stmt} {tc:TT} (hc:PT X c tc) (ha:fK X a t) (hb:fK X b u):PS X (.If c a b pos) (qp tc t u):=by
 intro pins s σ H D I h
 refine wpAny_If (bt (hc pins s σ H _ I h) fun d s1 h0_ => el3 h0_ fun H1 I1 q1 => ?_)
 cases d with
 | true=>exact ha pins s1 σ H1 D I1 q1
 | false=>exact hb pins s1 σ H1 D I1 q1
end
noncomputable abbrev TG:=V->St->Hp->(St->Hp->Prop)->Prop
noncomputable abbrev jX:=List V->St->Hp->(St->Hp->Prop)->Prop
noncomputable def PG (X:Cx) (target:Expr) (t:TG):Prop :=
 ∀ (pins:List (Addr × Obj)) (s:Shared) (σ : St) (H:Hp) (v:V) (u:Value) (Q:St->Hp->Prop),Inv X pins σ H s->RelV v u->t v σ H Q →
  wpAny (model X.prog X.w) X.A (assign target X.env u) (fun _ s'=>∃ σ' H',Inv X pins σ' H' s'/\Q σ' H') X.xe s
noncomputable def tY (X:Cx) (ts:List Expr) (t:jX):Prop :=
 ∀ (pins:List (Addr × Obj)) (s:Shared) (σ : St) (H:Hp) (vs:List V) (us:List Value) (Q:St->Hp->Prop),Inv X pins σ H s->Vals vs us->t vs σ H Q →
  wpAny (model X.prog X.w) X.A (assignInOrder ((assignEach ts X.env).map (·.2)) us) (fun _ s'=>∃ σ' H',Inv X pins σ' H' s'/\Q σ' H') X.xe s
noncomputable abbrev nu:=V->V->V->Hp->(Hp->Prop)->Prop
noncomputable def qq (X:Cx) (t:nu):Prop :=
 ∀ (pins:List (Addr × Obj)) (s:Shared) (σ : St) (H:Hp) (o i v:V) (ov iv u:Value) (Q:Hp->Prop),Inv X pins σ H s->RelV o ov->RelV i iv->RelV v u->t o i v H Q →
  wpAny (model X.prog X.w) X.A (setItem ov iv u) (fun _ s'=>∃ H',Inv X pins σ H' s'/\Q H') X.xe s
section
variable {X:Cx} {pos:Pos}
noncomputable def gg (i:Nat):TG:=fun v σ H Q=>Q (σ.set i (some v)) H
theorem KH {i:Nat} {x:Str} (hN:X.N.Nodup) (hi:X.N[i]? = some x) (hx:Loc X.env.scope x) (hf:X.fn x=true\/X.env.scope.names.lookup x=some .local:=by first | exact .inl rfl | exact .inr rfl | assumption):PG X (.Name x pos) (gg i):=by
 intro pins s σ H v u Q I r h
 exact wpAny_assign_Name (wD I hN hi hx r (fun s' I'=>⟨_,H,I',h⟩) hf)
noncomputable def tZ:jX:=fun vs σ H Q=>vs=[]/\Q σ H
noncomputable def Eg (t:TG) (u:jX):jX:=fun vs σ H Q=>∃ v r,vs=v :: r/\t v σ H fun σ' H'=>u r σ' H' Q
theorem KI:tY X [] tZ:=by
 intro pins s σ H vs us Q I r h
 obtain⟨e,h⟩:=h
 subst e
 cases r
 exact assignInOrder_nil ⟨σ,H,I,h⟩
theorem KJ {e:Expr} {es:List Expr} {t:TG} {u:jX} (h1:PG X e t) (h2:tY X es u)
  (hs:(assignEach (e :: es) X.env).map (·.2)=assign e X.env :: (assignEach es X.env).map (·.2):=by rfl):tY X (e :: es) (Eg t u):=by
 intro pins s σ H vs us Q I r h
 obtain⟨v,vr,e1,h⟩:=h
 subst e1
 cases r with
 | cons r rr =>
  rw[hs]
  refine assignInOrder_cons (bt (h1 pins s σ H _ _ _ I r h) fun _ s1 ⟨σ1,H1,I1,q1⟩ => ?_)
  exact h2 pins s1 σ1 H1 _ _ Q I1 rr q1
noncomputable def t6 (K:PySem.W.Frag) (n:Nat) (t:jX):TG:=fun v σ H Q=>∃ a xs,v = .ref a/\bT K H a xs/\xs.length=n/\t xs σ H Q
theorem KN {es:List Expr} {k:Nat} {t:jX} {n:Nat} (hc:X.calm=true) (h:tY X es t)
  (hn:(assignEach es X.env).length=n:=by rfl) (iK:(assignEach es X.env).findIdx? (·.1)=none:=by rfl):PG X (.Tuple es k pos) (t6 X.K n t):=by
 intro pins s σ H v u Q I r hw
 obtain⟨a,xs,e1,hq,hl,hw⟩:=hw
 subst e1
 cases r
 obtain⟨ag,rv,ht,hz⟩:=I.tuple hq
 refine assign_Tuple_tuple (I.ok.hd hc) ht (by simp[hn,<-hl,rv.length]) iK fun h' hx => ?_
 have I1:Inv X pins σ H { s with heap:=h' }:=I.kept (t':=s.toks) fun b o e=>hx b o (WL (EW e)) e
 exact h pins _ σ H xs _ Q I1 (by simpa using rv) hw
noncomputable def qr (to ti:TE) (t:nu):TG:=fun v σ H Q=>to σ H fun o H1=>ti σ H1 fun i H2=>t o i v H2 fun H3=>Q σ H3
theorem KO {o i:Expr} {to ti:TE} {t:nu} (ho:PE X o to) (hi:PE X i ti) (hs:qq X t)
  (ha:∀ v,assign (.Subscript o i pos) X.env v=(do
   let ov <- holding [v] (eval o X.env)
   let iv <- holding [v,ov] (eval i X.env)
   standAt pos
   holding [v,ov,iv] (setItem ov iv v)
   release [v,ov,iv] []):=by intro _;rfl):PG X (.Subscript o i pos) (qr to ti t):=by
 intro pins s σ H v u Q I r h
 rw[ha]
 refine nN (W6 (bt (ho pins s σ H _ I h) fun ov s1 h0_ => el5 h0_ fun x H1 I1 r1 q1 => ?_))
 refine nN (W6 (bt (hi pins s1 σ H1 _ I1 q1) fun iv s2 h0_ => el5 h0_ fun y H2 I2 r2 q2 => ?_))
 refine nN (YF (nN (W6 (bt (hs pins s2 σ H2 x y v ov iv u _ I2 r1 r2 r q2) fun _ s3 h0_ => el3 h0_ fun H3 I3 q3 => ?_))))
 exact wpAny_release ⟨σ,H3,I3,q3⟩
noncomputable def bU (te:TE) (g:TG):TS:=fun D σ H=>te σ H fun x H1=>g x σ H1 D.nx
theorem KP {tg e:Expr} {te:TE} {g:TG} (he:PE X e te) (hg:PG X tg g) (hs:swapsWithSole [tg] e pos.line X.env=pure false:=by rfl) (hw:swappedStores [tg] e X.env=pure none:=by rfl)
  (h1:(assignEach [tg] X.env).map (·.2)=[assign tg X.env]:=by rfl):PS X (.Assign [tg] e pos) (bU te g):=by
 intro pins s σ H D I h
 refine wpAny_Assign_stores (bt (he pins s σ H _ I h) fun v s1 h0_ => el5 h0_ fun x H1 I1 r1 q1 => ?_) hs hw
 rw[h1]
 exact bt (hg pins s1 σ H1 x v _ I1 r1 q1) fun _ s2 q=>q
theorem wG {i:Nat} {x:Str} {e:Expr} {te:TE} {pos':Pos} (hN:X.N.Nodup) (hi:X.N[i]? = some x) (hx:Loc X.env.scope x) (he:PE X e te) (hs:swapsWith e (some (.Name x pos')) pos.line X.env=pure false:=by rfl) (hf:X.fn x=true\/X.env.scope.names.lookup x=some .local:=by first | exact .inl rfl | exact .inr rfl | assumption) :
  PS X (.Assign [.Name x pos'] e pos) (bU te (gg i)):=by
 intro pins s σ H D I h
 refine wpAny_Assign_Name (bt (he pins s σ H _ I h) fun v s1 h0_ => el5 h0_ fun y H1 I1 r1 q1 => ?_) hs
 exact wD I1 hN hi hx r1 (fun s2 I2=>⟨_,H1,I2,q1⟩) hf
end
structure It where
 go:Nat->Hp->Prop
 sv:Nat->Hp->V->Hp->Prop
 stop:Nat->Hp->Prop
noncomputable def bF (X:Cx) (pins:List (Addr × Obj)) (H:Hp) (b:Addr):Prop :=
 H b=none/\b≠X.env.locals/\b∉X.fs/\(b∈X.ex\/X.s₀.heap.objs.size <= b)/\(∀ x c,X.env.cells.lookup x=some c->c≠b)/\∀ p∈X.pn ++ pins,p.1≠b
theorem Inv.ir {X:Cx} {pins:List (Addr × Obj)} {σ : St} {H H':Hp} {s:Shared} {b:Addr} (I:Inv X pins σ H s) (hb:s.heap.objs.size <= b) (hn:H' b=none):bF X pins H' b:=by
 refine⟨hn,Ya (WD I.lt hb),I.zc hb,.inr (W7 I.sz hb),fun x c e z => ?_,fun p hp z => ?_⟩
 ·obtain⟨v,q⟩:=I.cell x c e
  exact absurd (WD q.lt (by rw[z];exact hb)) (X_ _)
 ·exact absurd (WD (EW (I.pin p hp).1) (by rw[z];exact hb)) (X_ _)
structure Turn (P:Program) (w:World) (K:PySem.W.Frag) (tg:Expr) (J:It) (fp:List Addr) (it:Addr) (tn:Nat->Heap->Prop):Prop where
 mem:it∈fp
 obj:∀ i h,tn i h->∀ b∈fp,∃ o,h.get? b=some o/\∀ v,o.data ≠ .cell v
 keep:∀ i h h',tn i h->(∀ b∈fp,∀ o,h.get? b=some o->h'.get? b=some o)->tn i h'
 item:∀ (X:Cx),X.prog=P->X.w=w->X.K=K->X.calm=true->∀ (i:Nat) (pins:List (Addr × Obj)) (s:Shared) (σ : St) (H:Hp) (E:Value->Shared->Prop),Inv X pins σ H s->(∀ b∈fp,bF X pins H b)->tn i s.heap->J.go i H →
  wpAny (model P w) X.A (pyNext (.ref it)) (fun r s1=>∃ u,r=some u ∧
   wpAny (model P w) X.A (letOwnedTupleGo tg (.ref it) u) (fun _ s2=>∃ x H',Inv X pins σ H' s2/\RelV x u/\J.sv i H x H'/\tn (i + 1) s2.heap/\∀ b∈fp,H' b=none) E s1) E s
 done:∀ (X:Cx),X.prog=P->X.w=w->X.K=K->X.calm=true->∀ (i:Nat) (pins:List (Addr × Obj)) (s:Shared) (σ : St) (H:Hp) (E:Value->Shared->Prop),Inv X pins σ H s->(∀ b∈fp,bF X pins H b)->tn i s.heap->J.stop i H →
  wpAny (model P w) X.A (pyNext (.ref it)) (fun r s1=>r=none/\Inv X pins σ H s1) E s
 self:∀ (A:Around) (i:Nat) (s:Shared) (Q:Value->Shared->Prop) (E:Value->Shared->Prop),tn i s.heap->Q (.ref it) s->wpAny (model P w) A (pyIter (.ref it)) Q E s
noncomputable abbrev TI:=St->Hp->(It->Hp->Prop)->Prop
noncomputable def Eh (X:Cx) (pins:List (Addr × Obj)) (σ : St) (tg:Expr) (R:It->Hp->Prop) (zq:Value) (s2:Shared):Prop :=
 ∃ (it:Addr) (fp:List Addr) (tn:Nat->Heap->Prop) (J:It) (H':Hp),zq = .ref it/\Inv X pins σ H' s2/\Turn X.prog X.w X.K tg J fp it tn/\tn 0 s2.heap/\(∀ b∈fp,bF X pins H' b)/\R J H'
noncomputable def PI (X:Cx) (tg iter:Expr) (wi:TI):Prop :=
 ∀ (pins:List (Addr × Obj)) (s:Shared) (σ : St) (H:Hp) (R:It->Hp->Prop),Inv X pins σ H s->wi σ H R →
  wpAny (model X.prog X.w) X.A (eval iter X.env) (fun v s1=>wpAny (model X.prog X.w) X.A (pyIter v) (Eh X pins σ tg R) X.xe s1) X.xe s
theorem zr {M:Model} {A:Around} {E:Value->Shared->Prop} {s:Shared} {tg:Expr} {it:Addr} {u:Value} {o:Obj} {n:String} {vs:Array Value} {Q:Unit->Shared->Prop} (ho:s.heap.get? it=some o) (hc:o.cls = .type n) (hd:o.data = .fields vs)
  (hn:["enumerate", "zip", "dict_itemiterator", "dict_reverseitemiterator", "odict_iterator", "itertools.zip_longest", "itertools.pairwise"].contains n=false) (hQ:Q () s):wpAny M A (letOwnedTupleGo tg (.ref it) u) Q E s:=by
 unfold letOwnedTupleGo
 cases tg<;>first
  | exact uq hQ
  | (cases u<;>first
    | exact uq hQ
    | (refine nN (wpAny_load ho ?_)
       rw[hc,hd]
       show wpAny M A (if (["enumerate", "zip", "dict_itemiterator", "dict_reverseitemiterator", "odict_iterator", "itertools.zip_longest", "itertools.pairwise"].contains n && vs[0]? == some (rawInt _))=true then _ else _) Q E s
       rw[My (by intro h;rw[hn,q0E] at h;cases h)]
       exact uq hQ))
noncomputable def Ei (K:PySem.W.Frag) (a:Addr):It :=
 ⟨fun i H=>∃ xs x,bo K H a xs/\xs[i]? = some x,fun i H x H'=>H'=H/\∀ xs,bo K H a xs->xs[i]? = some x,fun i H=>∃ xs,bo K H a xs/\xs.length <= i⟩
noncomputable def Ej (K:PySem.W.Frag) (a:Addr):It :=
 ⟨fun i H=>∃ xs x,bT K H a xs/\xs[i]? = some x,fun i H x H'=>H'=H/\∀ xs,bT K H a xs->xs[i]? = some x,fun i H=>∃ xs,bT K H a xs/\xs.length <= i⟩
noncomputable def t7 (lo:Int) (n:Nat):It:=⟨fun i _=>i < n,fun i H x H'=>H'=H/\x = .int (lo + i),fun i _=>n <= i⟩
theorem KQ {P:Program} {w:World} {K:PySem.W.Frag} {tg:Expr} (a it:Addr):Turn P w K tg (Ei K a) [it] it (fun i h=>h.IsListIter it a i) where
 mem:=by simp
 obj:=fun i h st b hb=>by
  have e:b=it:=by simpa using hb
  subst e
  obtain⟨o,e,c,d⟩:=st
  exact⟨o,e,fun v z=>by rw[d] at z;cases z⟩
 keep:=fun i h h' st k=>st.at fun o e=>k it (by simp) o e
 item:=by
  intro X hP hw hK hc i pins s σ H E I hf st hg
  subst hP hw hK
  obtain⟨xs,x,hq,hx⟩:=hg
  obtain⟨ag,rv,p,hz⟩:=I.list hq
  obtain⟨u,hu,ru⟩:=rv.get hx
  obtain⟨f0,f1,f2,f3,f4,f5⟩:=hf it (by simp)
  refine wpAny_pyNext_list_item st p.isList (x:=u) (by simpa using hu) fun h' fh sb => ?_
  have I1:Inv X pins σ H { s with heap:=h' }:=I.turned (t':=s.toks) (fun b o hb e=>(sb.2 b hb).trans e) f0 f1 f3 f4 f5
  obtain⟨o,e,c,d⟩:=id fh
  exact⟨u,rfl,zr (s:={ s with heap:=h' }) e c d (by decide) ⟨x,H,I1,ru,⟨rfl,fun ys hy=>by rw[I.cY hy hq];exact hx⟩,fh,fun b hb=>(hf b hb).1⟩⟩
 done:=by
  intro X hP hw hK hc i pins s σ H E I hf st hg
  subst hP hw hK
  obtain⟨xs,hq,hx⟩:=hg
  obtain⟨ag,rv,p,hz⟩:=I.list hq
  obtain⟨f0,f1,f2,f3,f4,f5⟩:=hf it (by simp)
  have hl:=rv.length
  exact wpAny_pyNext_list_end (I.ok.hd hc) st p.isList (by simp;omega) fun h' eb=>⟨rfl,I.turned (t':=s.toks) (fun b o hb e=>eb b o hb e) f0 f1 f3 f4 f5⟩
 self:=fun _ _ _ _ _ st h=>wpAny_pyIter_listiter st h
theorem KR {P:Program} {w:World} {K:PySem.W.Frag} {tg:Expr} (a it:Addr):Turn P w K tg (Ej K a) [it] it (fun i h=>h.IsTupleIter it a i) where
 mem:=by simp
 obj:=fun i h st b hb=>by
  have e:b=it:=by simpa using hb
  subst e
  obtain⟨o,e,c,d⟩:=st
  exact⟨o,e,fun v z=>by rw[d] at z;cases z⟩
 keep:=fun i h h' st k=>st.at fun o e=>k it (by simp) o e
 item:=by
  intro X hP hw hK hc i pins s σ H E I hf st hg
  subst hP hw hK
  obtain⟨xs,x,hq,hx⟩:=hg
  obtain⟨ag,rv,p,hz⟩:=I.tuple hq
  obtain⟨u,hu,ru⟩:=rv.get hx
  obtain⟨f0,f1,f2,f3,f4,f5⟩:=hf it (by simp)
  refine wpAny_pyNext_tuple_item st (show s.heap.IsTuple a ag.toArray from p) (x:=u) (by simpa using hu) fun h' fh sb => ?_
  have I1:Inv X pins σ H { s with heap:=h' }:=I.turned (t':=s.toks) (fun b o hb e=>(sb.2 b hb).trans e) f0 f1 f3 f4 f5
  obtain⟨o,e,c,d⟩:=id fh
  exact⟨u,rfl,zr (s:={ s with heap:=h' }) e c d (by decide) ⟨x,H,I1,ru,⟨rfl,fun ys hy=>by rw[I.gZ hy hq];exact hx⟩,fh,fun b hb=>(hf b hb).1⟩⟩
 done:=by
  intro X hP hw hK hc i pins s σ H E I hf st hg
  subst hP hw hK
  obtain⟨xs,hq,hx⟩:=hg
  obtain⟨ag,rv,p,hz⟩:=I.tuple hq
  obtain⟨f0,f1,f2,f3,f4,f5⟩:=hf it (by simp)
  have hl:=rv.length
  exact wpAny_pyNext_tuple_end (I.ok.hd hc) st (show s.heap.IsTuple a ag.toArray from p) (by simp;omega) fun h' eb=>⟨rfl,I.turned (t':=s.toks) (fun b o hb e=>eb b o hb e) f0 f1 f3 f4 f5⟩
 self:=fun _ _ _ _ _ st h=>wpAny_pyIter_tupleiter st h
theorem KU {P:Program} {w:World} {K:PySem.W.Frag} {tg:Expr} (it:Addr) (lo:Int) (n:Nat):Turn P w K tg (t7 lo n) [it] it (fun i h=>IsRangeIter h it (lo + (i:Nat) * 1) ((n:Int) - (i:Nat)) 1) where
 mem:=by simp
 obj:=fun i h st b hb=>by
  have e:b=it:=by simpa using hb
  subst e
  exact⟨_,st,fun v z=>by
   have z':Data.fields _=Data.cell v:=z
   cases z'⟩
 keep:=fun i h h' st k=>k it (by simp) _ st
 item:=by
  intro X hP hw hK hc i pins s σ H E I hf st hg
  subst hP hw hK
  obtain⟨f0,f1,f2,f3,f4,f5⟩:=hf it (by simp)
  have W:=Walks.range (prog:=X.prog) (w:=X.w) (I.ok.hd hc) it lo 1 n
  refine W.item i s _ _ hg st fun v h' tk hv fh kk => ?_
  obtain⟨t,rfl⟩:=hv
  have I1:Inv X pins σ H { s with heap:=h',toks:=tk }:=I.turned (fun b o hb e=>kk b o (by simpa using hb) e) f0 f1 f3 f4 f5
  refine⟨_,rfl,zr (s:={ s with heap:=h',toks:=tk }) (n := "range_iterator") fh rfl rfl (by decide) ⟨.int (lo + i),H,I1,⟨t,?_⟩,⟨rfl,rfl⟩,fh,fun b hb=>(hf b hb).1⟩⟩
  rw[Int.mul_one]
 done:=by
  intro X hP hw hK hc i pins s σ H E I hf st hg
  subst hP hw hK
  obtain⟨f0,f1,f2,f3,f4,f5⟩:=hf it (by simp)
  exact wpAny_pyNext_range_end (I.ok.hd hc) st (by have:n <= i:=hg;omega) fun h' eb=>⟨rfl,I.turned (t':=s.toks) (fun b o hb e=>eb b o hb e) f0 f1 f3 f4 f5⟩
 self:=fun _ _ _ _ _ st h=>wpAny_pyIter_rangeiter st h
section
variable {X:Cx} {tg:Expr}
theorem Ek {pins:List (Addr × Obj)} {σ : St} {H:Hp} {s:Shared} {R:It->Hp->Prop} {E:Value->Shared->Prop} {lo hi:Int} {t u v:Tok} {tk:Nat} (I:Inv X pins σ H s) (h1 : -(2 ^ 62) <= lo) (h2:lo < 2 ^ 62) (h3 : -(2 ^ 62) <= hi) (h4:hi < 2 ^ 62)
  (q:R (t7 lo (hi - lo).toNat) H):wpAny (model X.prog X.w) X.A (pyIter (.ref s.heap.objs.size)) (Eh X pins σ tg R) E { s with heap:=s.heap.push { cls := .type "range",data := .fields #[.int lo t,.int hi u,.int 1 v] },toks:=tk }:=by
 refine wpAny_pyIter_range (IsRange.new ..) (small_one h1 h2 h3 h4) ?_
 have I1:Inv X pins σ H { s with heap:=s.heap.push { cls := .type "range",data := .fields #[.int lo t,.int hi u,.int 1 v] },toks:=tk }:=I.kept fun b o e=>qJ _ e
 refine⟨(s.heap.push { cls := .type "range",data := .fields #[.int lo t,.int hi u,.int 1 v] }).objs.size,[(s.heap.push { cls := .type "range",data := .fields #[.int lo t,.int hi u,.int 1 v] }).objs.size],_,_,H,rfl,
  I1.kept (t':=tk) fun b o e=>qJ _ e,KU _ lo (hi - lo).toNat,?_,fun b hb => ?_,q⟩
 ·have e1:lo + ((0:Nat):Int) * 1=lo:=by simp
  have e2:(((hi - lo).toNat:Nat):Int) - ((0:Nat):Int)=Builtin.Range.rangeSize lo hi 1:=by rw[rangeSize_one];split<;>omega
  show IsRangeIter _ _ (lo + ((0:Nat):Int) * 1) ((((hi - lo).toNat:Nat):Int) - ((0:Nat):Int)) 1
  rw[e1,e2]
  exact VW _ rfl
 ·have e:b=(s.heap.push { cls := .type "range",data := .fields #[.int lo t,.int hi u,.int 1 v] }).objs.size:=by simpa using hb
  subst e
  exact I1.ir (wV _) (I1.aO.fresh (wV _))
noncomputable def El (ta:TA):TI:=fun σ H R=>ta σ H fun vs H1=>∃ j:Int,vs=[.int j] /\ -(2 ^ 62) <= j/\j < 2 ^ 62/\R (t7 0 j.toNat) H1
noncomputable def Em (ta:TA):TI:=fun σ H R=>ta σ H fun vs H1=>∃ i j:Int,vs=[.int i,.int j]/\(-(2 ^ 62) <= i/\i < 2 ^ 62 /\ -(2 ^ 62) <= j/\j < 2 ^ 62)/\R (t7 i (j - i).toNat) H1
theorem KW {a:Expr} {ta:TA} {p pos:Pos} (hg:Gl X "range") (hm:X.mg "range" = none) (ha:PA X [a] ta) (hs:starEach [a] X.env=[(false,eval a X.env)]:=by rfl):PI X tg (.Call (.Name "range" p) [a] [] pos) (El ta):=by
 intro pins s σ H R I h
 refine Call_ (nq I hg hm boot_range (XH (bt (ha pos pins s σ H _ I h) fun us s1 h0_ => el5 h0_ fun vs H1 I1 r1 q1 => ?_) hs rfl))
 obtain⟨j,e,q1,q2,q⟩:=q1
 subst e
 cases r1 with
 | cons r rr =>
  cases rr
  obtain⟨t,rfl⟩:=r
  exact call_range_1 (Ek I1 (by omega) (by omega) q1 q2 (by simpa using q))
theorem KY {a b:Expr} {ta:TA} {p pos:Pos} (hg:Gl X "range") (hm:X.mg "range" = none) (ha:PA X [a,b] ta) (hs:starEach [a,b] X.env=[(false,eval a X.env),(false,eval b X.env)]:=by rfl) (cA:starEach [b] X.env=[(false,eval b X.env)]:=by rfl) :
  PI X tg (.Call (.Name "range" p) [a,b] [] pos) (Em ta):=by
 intro pins s σ H R I h
 refine Call_ (nq I hg hm boot_range (XH (bt (ha pos pins s σ H _ I h) fun us s1 h0_ => el5 h0_ fun vs H1 I1 r1 q1 => ?_) (by rw[hs,cA]) (by rw[cA];rfl)))
 obtain⟨i,j,e,⟨q1,q2,q3,q4⟩,q⟩:=q1
 subst e
 cases r1 with
 | cons r rr =>
  cases rr with
  | cons r' rr =>
   cases rr
   obtain⟨t,rfl⟩:=r
   obtain⟨t',rfl⟩:=r'
   exact call_range_2 (Ek I1 q1 q2 q3 q4 q)
noncomputable def t8 (wi:TI) (g:TG) (tb:TS):TS:=fun D σ H=>wi σ H fun J H1=>∃ W:Nat->Nat->St->Hp->Prop,(∃ m,W 0 m σ H1)/\∀ i m σ H,W i m σ H →
 (J.stop i H/\D.nx σ H)\/(J.go i H/\∃ N:St->Hp->Prop,(∀ σ' H',N σ' H'->∃ m',m' < m/\W (i + 1) m' σ' H')/\∀ x H',J.sv i H x H'->g x σ H' fun σ2 H2=>tb { D with nx:=N,ct:=N,bk:=D.nx } σ2 H2)
noncomputable def t9 (fp:List Addr) (h:Heap):List (Addr × Obj):=fp.filterMap fun b=>(h.get? b).map fun o=>(b,o)
theorem wH {fp:List Addr} {h:Heap} {b:Addr} {o:Obj} (hb:b∈fp) (e:h.get? b=some o):(b,o)∈t9 fp h:=Yj.mpr ⟨b,hb,by rw[e];rfl⟩
theorem KZ {fp:List Addr} {h:Heap} {p:Addr × Obj} (hp:p∈t9 fp h):p.1∈fp/\h.get? p.1=some p.2:=by
 obtain⟨b,hb,e⟩:=Yj.mp hp
 cases q:h.get? b with
 | none=>rw[q] at e;cases e
 | some o =>
  rw[q] at e
  have e':(b,o)=p:=WR e
  subst e'
  exact⟨hb,q⟩
theorem Inv.pinned {pins:List (Addr × Obj)} {σ : St} {H:Hp} {s:Shared} {fp:List Addr} (I:Inv X pins σ H s) (hf:∀ b∈fp,bF X pins H b) (ho:∀ b∈fp,∃ o,s.heap.get? b=some o/\∀ v,o.data ≠ .cell v):Inv X (pins ++ t9 fp s.heap) σ H s :=
 I.fU fun p hp=>(Xo.mp hp).elim (fun z=>I.pin p (WM _ z)) fun z=>by
  obtain⟨hb,e⟩:=KZ z
  obtain⟨f0,f1,f2,_⟩:=hf p.1 hb
  obtain⟨o,e',d⟩:=ho p.1 hb
  rw[e] at e';cases e'
  exact⟨e,f0,f1,f2,d⟩
theorem Inv.eC {pins pl:List (Addr × Obj)} {σ : St} {H:Hp} {s:Shared} (I:Inv X (pins ++ pl) σ H s):Inv X pins σ H s:=I.fU fun p hp=>I.pin p (WM _ (XO _ hp))
theorem K1 {iter:Expr} {body:List Stmt} {wi:TI} {g:TG} {tb:TS} {pos:Pos} (hp:PassesOwn (model X.prog X.w) X.A X.env X.xe) (hc:X.calm=true) (hi:PI X tg iter wi) (hg:PG X tg g) (hb:fK X body tb)
  (hs:∀ x,foldedSetIterable iter X.env x=pure x:=by intro _;rfl):PS X (.For tg iter body [] pos) (t8 wi g tb):=by
 intro pins s σ H D I h
 refine wpAny_For (bt (hi pins s σ H _ I h) fun v s1 h1=>bt h1 fun zq s2 h2 => ?_) hs
 obtain⟨it,fp,tn,J,H2,e,I2,T,mD,f2,W,⟨m0,w0⟩,turn⟩:=h2
 subst e
 have jE:∀ {H':Hp},(∀ b∈fp,H' b=none)->∀ b∈fp,bF X pins H' b:=fun hn b hb=>⟨hn b hb,(f2 b hb).2⟩
 refine codeAny_forLoop_any (fun n s'=>∃ i σ' H',Inv X pins σ' H' s'/\tn i s'.heap/\(∀ b∈fp,H' b=none)/\W i n σ' H') ?_ m0 ⟨0,σ,H2,I2,mD,fun b hb=>(f2 b hb).1,w0⟩
 rintro n s3 ⟨i,σ3,H3,I3,qt,t_,w3⟩
 rcases turn i n σ3 H3 w3 with⟨stop,qn⟩ | ⟨go,N,hN,step⟩
 ·refine YY hp (bt (T.done X rfl rfl rfl hc i pins s3 σ3 H3 X.xe I3 (jE t_) qt stop) fun r s4 ⟨hr,I4⟩ => ?_)
  subst hr
  exact Zz ⟨σ3,H3,I4,qn⟩
 ·refine YY hp (bt (T.item X rfl rfl rfl hc i pins s3 σ3 H3 X.xe I3 (jE t_) qt go) fun r s4 ⟨u,hr,h4⟩ => ?_)
  subst hr
  refine YY hp (bt h4 fun _ s5 ⟨x,H5,I5,r5,y5,qu,zt⟩ => ?_)
  have zu:=I5.pinned (jE zt) (T.obj _ _ qu)
  refine YY hp (bt (hg _ s5 σ3 H5 x u _ zu r5 (step x H5 y5)) fun _ s6 ⟨σ6,H6,I6,q6⟩ => ?_)
  refine YY hp (bt (hb _ s6 σ6 H6 _ I6 q6) fun f s7 q7 => ?_)
  have again:∀ {σ7:St} {H7:Hp},Inv X (pins ++ t9 fp s5.heap) σ7 H7 s7->N σ7 H7->∃ m,m < n/\∃ i σ' H',Inv X pins σ' H' s7/\tn i s7.heap/\(∀ b∈fp,H' b=none)/\W i m σ' H':=fun {σ7 H7} I7 n7=>by
   obtain⟨m',hm,w7⟩:=hN σ7 H7 n7
   refine⟨m',hm,i + 1,σ7,H7,I7.eC,T.keep _ _ _ qu fun b hb o e=>(I7.pin (b,o) (WM _ (WM _ (wH hb e)))).1,fun b hb => ?_,w7⟩
   obtain⟨o,e,d⟩:=T.obj _ _ qu b hb
   exact (I7.pin (b,o) (WM _ (WM _ (wH hb e)))).2.1
  cases f with
  | next=>obtain⟨σ7,H7,I7,n7⟩:=q7;exact again I7 n7
  | cont=>obtain⟨σ7,H7,I7,n7⟩:=q7;exact again I7 n7
  | brk=>obtain⟨σ7,H7,I7,q7⟩:=q7;exact⟨σ7,H7,I7.eC,q7⟩
  | ret v=>obtain⟨x7,σ7,H7,I7,r7,q7⟩:=q7;exact⟨x7,σ7,H7,I7.eC,r7,q7⟩
end
noncomputable abbrev R2:=V->V->Hp->VK->Prop
noncomputable def c_ (X:Cx) (f:Value->Value->Sem Value) (r:R2):Prop :=
 ∀ (pins:List (Addr × Obj)) (s:Shared) (σ : St) (H:Hp) (x y:V) (v u:Value) (Q:VK),Inv X pins σ H s->RelV x v->RelV y u->r x y H Q →
  wpAny (model X.prog X.w) X.A (f v u) (EP X pins σ Q) X.xe s
noncomputable def wI (X:Cx) (f:Value->Sem Value) (r:V->Hp->VK->Prop):Prop :=
 ∀ (pins:List (Addr × Obj)) (s:Shared) (σ : St) (H:Hp) (x:V) (v:Value) (Q:VK),Inv X pins σ H s->RelV x v->r x H Q →
  wpAny (model X.prog X.w) X.A (f v) (EP X pins σ Q) X.xe s
noncomputable def jm (X:Cx) (f:Value) (r:List V->Hp->VK->Prop):Prop :=
 ∀ (pins:List (Addr × Obj)) (s:Shared) (σ : St) (H:Hp) (xs:List V) (us:List Value) (Q:VK),Inv X pins σ H s->Vals xs us->r xs H Q →
  wpAny (model X.prog X.w) X.A (call f us) (EP X pins σ Q) X.xe s
noncomputable def nv (r:R2) (ta tb:TE):TE:=fun σ H Q=>ta σ H fun x H1=>tb σ H1 fun y H2=>r x y H2 Q
noncomputable def En (r:V->Hp->VK->Prop) (ta:TE):TE:=fun σ H Q=>ta σ H fun x H1=>r x H1 Q
noncomputable def rI (C:Int->Int->Prop) (g:Int->Int->V):R2:=fun x y H Q=>∃ i j,x = .int i/\y = .int j/\C i j/\Q (g i j) H
noncomputable def ny (g:Int->Int->V):R2:=fun x y H Q=>∃ i j,x = .int i/\y = .int j/\Q (g i j) H
noncomputable def rU (g:Int->V):V->Hp->VK->Prop:=fun x H Q=>∃ i,x = .int i/\Q (g i) H
section
variable {X:Cx} {a b c:Expr} {ta tb tc:TE} {pos:Pos}
theorem qv (ha:PE X a ta) (hb:PE X b tb) {pins:List (Addr × Obj)} {s:Shared} {σ : St} {H:Hp} {R:V->V->Hp->Prop} (I:Inv X pins σ H s)
  (h:ta σ H fun x H1=>tb σ H1 fun y H2=>R x y H2) {Q:Value->Shared->Prop} {f:Value->Value->Sem Value}
  (hf:∀ v u s2 x y H2,Inv X pins σ H2 s2->RelV x v->RelV y u->R x y H2->wpAny (model X.prog X.w) X.A (f v u) Q X.xe s2) :
  wpAny (model X.prog X.w) X.A (eval a X.env) (fun v s₁ => wpAny (model X.prog X.w) X.A (eval b X.env) (fun u s₂ => wpAny (model X.prog X.w) X.A (f v u) Q X.xe s₂) X.xe s₁) X.xe s:=by
 refine bt (ha pins s σ H _ I h) fun v s1 h0_ => el5 h0_ fun x H1 I1 r1 q1 => ?_
 refine bt (hb pins s1 σ H1 _ I1 q1) fun u s2 h0_ => el5 h0_ fun y H2 I2 r2 q2 => ?_
 exact hf v u s2 x y H2 I2 r1 r2 q2
theorem K4 {op:Operator} {r:R2} (ho:c_ X (binaryOp op) r) (ha:PE X a ta) (hb:PE X b tb):PE X (.BinOp a op b pos) (nv r ta tb):=by
 intro pins s σ H Q I h
 exact wpAny_BinOp (qv ha hb I h fun v u s2 x y H2 I2 rx ry q=>ho pins s2 σ H2 x y v u Q I2 rx ry q)
theorem Eo {op:UnaryOp} {r:V->Hp->VK->Prop} (ho:wI X (unaryOp op) r) (ha:PE X a ta):PE X (.UnaryOp op a pos) (En r ta):=by
 intro pins s σ H Q I h
 exact UnaryOp_ (bt (ha pins s σ H _ I h) fun v s1 h0_ => el5 h0_ fun x H1 I1 r1 q1 =>ho pins s1 σ H1 x v Q I1 r1 q1)
theorem wJ {f:Value->Value->Sem Value} {C:Int->Int->Prop} {g:Int->Int->Int}
  (rule:∀ (i j:Int) (t u:Tok) (s:Shared) (Q:Value->Shared->Prop) (E:Value->Shared->Prop),C i j->Q (.int (g i j) s.toks) { s with toks:=s.toks + 1 }->wpAny (model X.prog X.w) X.A (f (.int i t) (.int j u)) Q E s) :
  c_ X f (rI C fun i j => .int (g i j)):=by
 intro pins s σ H x y v u Q I rx ry h
 obtain⟨i,j,rfl,rfl,hc,q⟩:=h
 obtain⟨t,rfl⟩:=rx
 obtain⟨t',rfl⟩:=ry
 exact rule i j t t' s _ _ hc ⟨.int (g i j),H,I.tok _,⟨_,rfl⟩,q⟩
theorem ua {f:Value->Value->Sem Value} {g:Int->Int->Int}
  (rule:∀ (i j:Int) (t u:Tok) (s:Shared) (Q:Value->Shared->Prop) (E:Value->Shared->Prop),Q (.int (g i j) s.toks) { s with toks:=s.toks + 1 }->wpAny (model X.prog X.w) X.A (f (.int i t) (.int j u)) Q E s) :
  c_ X f (ny fun i j => .int (g i j)):=by
 intro pins s σ H x y v u Q I rx ry h
 obtain⟨i,j,rfl,rfl,q⟩:=h
 obtain⟨t,rfl⟩:=rx
 obtain⟨t',rfl⟩:=ry
 exact rule i j t t' s _ _ ⟨.int (g i j),H,I.tok _,⟨_,rfl⟩,q⟩
theorem nA {f:Value->Value->Sem Value} {g:Int->Int->Bool}
  (rule:∀ (i j:Int) (t u:Tok) (s:Shared) (Q:Value->Shared->Prop) (E:Value->Shared->Prop),Q (.bool (g i j)) s->wpAny (model X.prog X.w) X.A (f (.int i t) (.int j u)) Q E s) :
  c_ X f (ny fun i j => .bl (g i j)):=by
 intro pins s σ H x y v u Q I rx ry h
 obtain⟨i,j,rfl,rfl,q⟩:=h
 obtain⟨t,rfl⟩:=rx
 obtain⟨t',rfl⟩:=ry
 exact rule i j t t' s _ _ ⟨.bl (g i j),H,I,rfl,q⟩
noncomputable def ub (i j:Int):Prop:=j≠0/\j.natAbs < 1073741824
noncomputable def ft (i j:Int):Prop:=0 <= j/\j <= 1000000/\i.natAbs < 2 ^ 64
noncomputable def nB (i j:Int):Prop:=(-(2 ^ 64) < i/\i < 2 ^ 64)\/(-(2 ^ 64) < j/\j < 2 ^ 64)
theorem nB.ok {i j:Int} (h:nB i j):IntMulOk i j:=by
 rcases h with⟨h1,h2⟩ | ⟨h1,h2⟩
 ·exact .of_left (intBits_le_64 h1 h2)
 ·exact .of_right (intBits_le_64 h1 h2)
theorem Ep:c_ X (binaryOp .Add) (ny fun i j => .int (i + j)):=ua fun _ _ _ _ _ _ _ q=>add_int q
theorem K5:c_ X (binaryOp .Sub) (ny fun i j => .int (i - j)):=ua fun _ _ _ _ _ _ _ q=>sub_int q
theorem K6:c_ X (binaryOp .Mult) (rI nB fun i j => .int (i * j)):=wJ fun _ _ _ _ _ _ _ hc q=>mul_int q hc.ok
theorem K7:c_ X (binaryOp .FloorDiv) (rI ub fun i j => .int (i.fdiv j)):=wJ fun _ _ _ _ _ _ _ hc q=>floordiv_int hc.1 q (.inl (PyProof.noPylong_small hc.2))
theorem zv:c_ X (binaryOp .Mod) (rI (fun _ j=>0 < j) fun i j => .int (i % j)):=wJ fun i j _ _ _ _ _ hc q=>by
 have h1:(0:Int) < j:=hc
 exact mod_int' (by omega) (by rw[Int.fmod_eq_emod_of_nonneg i (by omega)];exact q)
theorem K8:c_ X (binaryOp .Pow) (rI ft fun i j => .int (i ^ j.toNat)):=wJ fun _ _ _ _ _ _ _ hc q=>pow_int_small hc.1 hc.2.1 hc.2.2 q
theorem K9 {f:Value->Sem Value} {g:Int->Int}
  (rule:∀ (i:Int) (t:Tok) (s:Shared) (Q:Value->Shared->Prop) (E:Value->Shared->Prop),Q (.int (g i) s.toks) { s with toks:=s.toks + 1 }->wpAny (model X.prog X.w) X.A (f (.int i t)) Q E s) :
  wI X f (rU fun i => .int (g i)):=by
 intro pins s σ H x v Q I rx h
 obtain⟨i,rfl,q⟩:=h
 obtain⟨t,rfl⟩:=rx
 exact rule i t s _ _ ⟨.int (g i),H,I.tok _,⟨_,rfl⟩,q⟩
theorem Er:wI X (unaryOp .USub) (rU fun i => .int (-i)):=K9 fun _ _ _ _ _ q=>neg_int q
end
noncomputable def zw:V->V->Bool
 | .non,.non=>true | .non,.int _=>true | .int _,.non=>true | .non,.bl _=>true | .bl _,.non=>true | .non,.str _=>true | .str _,.non=>true
 | .int _,.int _=>true | .bl _,.bl _=>true | .str _,.str _=>true | .byt _,.byt _=>true
 | .int _,.str _=>true | .str _,.int _=>true | .bl _,.str _=>true | .str _,.bl _=>true
 | _,_=>false
noncomputable def K_:R2:=fun x y H Q=>zw x y=true/\Q (.bl (!decide (x=y))) H
theorem La {i j:Int}:decide (V.int i=V.int j)=(i == j):=by
 rw[YZ]
 simp
theorem Lb {i j:Bool}:decide (V.bl i=V.bl j)=(i == j):=by
 rw[YZ]
 simp
theorem Lc {i j:Str}:decide (V.str i=V.str j)=(i == j):=by
 rw[YZ]
 simp
theorem Ld {i j:Array UInt8}:decide (V.byt i=V.byt j)=(i.toList == j.toList):=by
 rw[YZ]
 cases i
 cases j
 simp
section
variable {X:Cx} {a b c:Expr} {ta tb tc:TE} {pos:Pos}
theorem jn {pins:List (Addr × Obj)} {σ : St} {H:Hp} {s:Shared} {Q:VK} {k k':Bool} (I:Inv X pins σ H s) (q:Q (.bl k) H) (e:k=k'):EP X pins σ Q (.bool k') s:=by
 subst e
 exact⟨.bl k,H,I,rfl,q⟩
theorem Le:c_ X (compareOp .NotEq) K_:=by
 intro pins s σ H x y v u Q I rx ry h
 obtain⟨hs,q⟩:=h
 cases x with
 | non =>
  cases rx
  cases y with
  | non=>cases ry;exact PySem.EqNone.ne_none_none (jn I q (by simp))
  | bl j=>cases ry;exact PySem.EqNone.ne_none_bool (jn I q (by simp))
  | int j=>obtain⟨t',rfl⟩:=ry;exact PySem.EqNone.ne_none_int (jn I q (by simp))
  | str j=>obtain⟨t',rfl⟩:=ry;exact PySem.EqNone.ne_none_str (jn I q (by simp))
  | _=>exact absurd (show false=true from hs) EY
 | bl i =>
  cases rx
  cases y with
  | non=>cases ry;exact PySem.EqNone.ne_bool_none (jn I q (by simp))
  | bl j=>cases ry;exact ne_bool (jn I q (congrArg not Lb))
  | str j=>obtain⟨t',rfl⟩:=ry;exact PySem.EqMixed.ne_bool_str (jn I q (by simp))
  | _=>exact absurd (show false=true from hs) EY
 | int i =>
  obtain⟨t,rfl⟩:=rx
  cases y with
  | non=>cases ry;exact PySem.EqNone.ne_int_none (jn I q (by simp))
  | int j=>obtain⟨t',rfl⟩:=ry;exact ne_int (jn I q (congrArg not La))
  | str j=>obtain⟨t',rfl⟩:=ry;exact PySem.EqMixed.ne_int_str (jn I q (by simp))
  | _=>exact absurd (show false=true from hs) EY
 | str i =>
  obtain⟨t,rfl⟩:=rx
  cases y with
  | non=>cases ry;exact PySem.EqNone.ne_str_none (jn I q (by simp))
  | bl j=>cases ry;exact PySem.EqMixed.ne_str_bool (jn I q (by simp))
  | int j=>obtain⟨t',rfl⟩:=ry;exact PySem.EqMixed.ne_str_int (jn I q (by simp))
  | str j=>obtain⟨t',rfl⟩:=ry;exact ne_str (jn I q (congrArg not Lc))
  | _=>exact absurd (show false=true from hs) EY
 | byt i =>
  obtain⟨t,rfl⟩:=rx
  cases y with
  | byt j=>obtain⟨t',rfl⟩:=ry;exact PySem.W.ne_bytes (jn I q (congrArg not Ld))
  | _=>exact absurd (show false=true from hs) EY
 | _=>cases y<;>exact absurd (show false=true from hs) EY
theorem Es:c_ X (compareOp .Lt) (ny fun i j => .bl (decide (i < j))):=nA fun _ _ _ _ _ _ _ q=>lt_int q
theorem Lf:c_ X (compareOp .LtE) (ny fun i j => .bl (decide (i <= j))):=nA fun _ _ _ _ _ _ _ q=>le_int q
theorem Lg:c_ X (compareOp .Gt) (ny fun i j => .bl (decide (j < i))):=nA fun _ _ _ _ _ _ _ q=>gt_int q
theorem Lh:c_ X (compareOp .GtE) (ny fun i j => .bl (decide (j <= i))):=nA fun _ _ _ _ _ _ _ q=>ge_int q
theorem Li:c_ X (compareOp .Is) (fun x y H Q=>y = .non/\Q (.bl (decide (x = .non))) H):=by
 intro pins s σ H x y v u Q I rx ry h
 obtain⟨rfl,q⟩:=h
 cases ry
 refine is_none_gen (jn I q ?_)
 cases x<;>first
  | (cases rx;rfl)
  | (obtain⟨t,rfl⟩:=rx;rfl)
theorem Et (b:Expr) {op:CmpOp} (h:op ≠ .In:=by decide) (h2:op ≠ .NotIn:=by decide):behindInMarks op b=false:=by
 have e1:(op == CmpOp.In)=false:=by cases op<;>first | rfl | exact absurd rfl h
 have e2:(op == CmpOp.NotIn)=false:=by cases op<;>first | rfl | exact absurd rfl h2
 cases b<;>simp[behindInMarks,e1,e2]
theorem Lj {op:CmpOp} {r:R2} (ho:c_ X (compareOp op) r) (ha:PE X a ta) (hb:PE X b tb) (hm:behindInMarks op b=false):PE X (.Compare a [op] [b] pos) (nv r ta tb):=by
 intro pins s σ H Q I h
 exact wpAny_Compare1 (qv ha hb I h fun v u s2 x y H2 I2 rx ry q=>ho pins s2 σ H2 x y v u Q I2 rx ry q) hm
noncomputable def Eu (t:TE):TT:=fun σ H Q=>t σ H fun x H'=>∃ k,x = .bl k/\Q k H'
theorem Lk {op:CmpOp} {r:R2} (ho:c_ X (compareOp op) r) (ha:PE X a ta) (hb:PE X b tb) (hm:behindInMarks op b=false):PT X (.Compare a [op] [b] pos) (Eu (nv r ta tb)):=by
 intro pins s σ H Q I h
 refine wpAny_isTrue_Compare1 (bt (ha pins s σ H _ I h) fun v s1 h0_ => el5 h0_ fun x H1 I1 r1 q1 =>bt (hb pins s1 σ H1 _ I1 q1) fun u s2 h0_ => el5 h0_ fun y H2 I2 r2 q2 =>
  bt (ho pins s2 σ H2 x y v u _ I2 r1 r2 q2) fun c s3 ⟨z,H3,I3,r3,k,e,q3⟩ => ?_) hm
 subst e
 cases r3
 exact Yc ⟨H3,I3,q3⟩
noncomputable def Ew (r r':R2) (ta tb tc:TE):TE:=fun σ H Q=>ta σ H fun x H1=>tb σ H1 fun y H2=>r x y H2 fun z H3=>∃ k,z = .bl k ∧
 (if k=true then tc σ H3 fun w' H4=>r' y w' H4 Q else Q (.bl false) H3)
theorem Ll {op lq:CmpOp} {r r':R2} (ho:c_ X (compareOp op) r) (jl:c_ X (compareOp lq) r') (ha:PE X a ta) (hb:PE X b tb) (hc:PE X c tc)
  (hm:lastMarks [op,lq] [b,c]=false:=by with_unfolding_all rfl):PE X (.Compare a [op,lq] [b,c] pos) (Ew r r' ta tb tc):=by
 intro pins s σ H Q I h
 refine Compare_chain (bt (ha pins s σ H _ I h) fun v s1 h0_ => el5 h0_ fun x H1 I1 r1 q1 =>chain_link (bt (hb pins s1 σ H1 _ I1 q1) fun u s2 h0_ => el5 h0_ fun y H2 I2 r2 q2 =>
  bt (ho pins s2 σ H2 x y v u _ I2 r1 r2 q2) fun d s3 ⟨z,H3,I3,r3,k,e,q3⟩ => ?_)) hm
 subst e
 cases r3
 refine Yc ?_
 cases k with
 | false=>exact ite_ff ⟨.bl false,H3,I3,rfl,q3⟩
 | true=>exact ite_tt (chain_last (bt (hc pins s3 σ H3 _ I3 q3) fun w' s4 ⟨z',H4,I4,r4,q4⟩=>jl pins s4 σ H4 y z' u w' Q I4 r2 r4 q4))
theorem qw:(sizeLine:Nat) < 2 ^ 63:=by rw[XB];decide
theorem Lm:c_ X (binaryOp .Add) (fun x y H Q=>∃ i j,x = .str i/\y = .str j/\i.length + j.length <= sizeLine/\Q (.str (i ++ j)) H):=by
 intro pins s σ H x y v u Q I rx ry h
 obtain⟨i,j,rfl,rfl,hz,q⟩:=h
 obtain⟨t,rfl⟩:=rx
 obtain⟨t',rfl⟩:=ry
 exact add_str (fun t' tk=>⟨.str (i ++ j),H,I.tok _,⟨_,rfl⟩,q⟩) hz
theorem vals1 {x:V} {us:List Value} (r:Vals [x] us):∃ u,us=[u]/\RelV x u:=by
 cases r with
 | cons r1 r2=>cases r2;exact⟨_,rfl,r1⟩
theorem vals2 {x y:V} {us:List Value} (r:Vals [x,y] us):∃ u w',us=[u,w']/\RelV x u/\RelV y w':=by
 cases r with
 | cons r1 r2 =>
  cases r2 with
  | cons r3 r4=>cases r4;exact⟨_,_,rfl,r1,r3⟩
theorem Ln (hc:X.calm=true):jm X (.builtin "min") (fun xs H Q=>∃ i j,xs=[.int i,.int j]/\Q (.int (if j < i then j else i)) H):=by
 intro pins s σ H xs us Q I r h
 obtain⟨i,j,rfl,q⟩:=h
 obtain⟨u,w',rfl,⟨t,rfl⟩,⟨t',rfl⟩⟩:=vals2 r
 refine min_two_ints (I.ok.hd hc) fun h' tk k=>⟨_,H,I.kept k,?_,q⟩
 by_cases hj:j < i
 ·rw[VZ hj,VZ hj];exact⟨_,rfl⟩
 ·rw[My hj,My hj];exact⟨_,rfl⟩
end
structure qA (h:Heap) (x dx C:Addr) (mA:Str->Option Value):Prop where
 obj:h.get? x=some (PySem.W.instObj C dx)
 ns:h.Ns1 dx mA
 ne:dx≠x
theorem zx {h:Heap} {dx:Addr} {mA:Str->Option Value} (n:h.Ns1 dx mA):∃ od,h.get? dx=some od/\∀ name,PySem.W.lookIn name od=some (mA name):=by
 obtain⟨o,es,ep,ho,hd,hk,_,hm⟩:=n
 refine⟨o,ho,fun name => ?_⟩
 have e:=hm name
 unfold nsFind findBy at e
 rw[<-Array.find?_toList] at e
 unfold PySem.W.lookIn
 rw[hd]
 dsimp only
 split
 ·rename_i y q
  rw[q] at e
  exact congrArg some e
 ·rename_i q
  rw[q] at e
  have a:es.toList.any (·.refKey)=false:=by
   rw[Yd]
   intro y hy
   obtain⟨z,t,zy⟩:=hk y (Zu.mp hy)
   simp[DictEntry.refKey,zy]
  have a':¬ es.toList.any (·.refKey)=true:=by rw[a];exact EY
  rw[My a']
  exact congrArg some e
theorem qA.look {h:Heap} {x dx C:Addr} {mA:Str->Option Value} (I:qA h x dx C mA):∃ od,PySem.W.InstAt h x (PySem.W.instObj C dx) C (some od)/\∀ name,PySem.W.lookIn name od=some (mA name) :=
 let ⟨od,ho,hl⟩:=zx I.ns
 ⟨od,⟨I.obj,rfl,rfl,ho⟩,hl⟩
section
variable {prog:Program} {w:World} {A:Around} {E:Value->Shared->Prop} {s:Shared} {K:PySem.W.Frag} {x dx C f:Addr} {mA:Str->Option Value} {name:Str} {v:Value}
end
theorem jB.some_of {v:V} {o:Option Value} (r:jB (some v) o):∃ u,o=some u/\RelV v u:=by
 cases o with
 | none=>exact (show False from r).elim
 | some u=>exact⟨u,rfl,r⟩
theorem Lo {v:V} {u:Value} (r:RelV v u):PySem.W.handedIn u=true:=by
 cases v with
 | non=>cases (show u=Value.none from r);rfl
 | bl b=>cases (show u=Value.bool b from r);rfl
 | int i=>obtain⟨t,e⟩:=(show ∃ t,u=Value.int i t from r);cases e;rfl
 | str x=>obtain⟨t,e⟩:=(show ∃ t,u=Value.str x t from r);cases e;rfl
 | byt b=>obtain⟨t,e⟩:=(show ∃ t,u=Value.bytes b t from r);cases e;rfl
 | flt b=>obtain⟨t,e⟩:=(show ∃ t,u=Value.float b t from r);cases e;rfl
 | ref a=>cases (show u=Value.ref a from r);rfl
 | ty n=>cases (show u=Value.type n from r);rfl
section
variable {P:Program} {w:World} {H H':Hp} {h h':Heap} {a C dx:Addr} {fs Kd:List (Str × V)}
theorem Lp (aO:dQ P w H h) (e:H a=some (.ins C dx fs)):∃ mA,qA h a dx C mA/\(∀ f,jB (fs.lookup f) (mA f))/\PySem.Within mA (fs.map (·.1))/\fs.length <= 1000/\H dx=some (.own a):=by
 obtain⟨d,z,ne,ob,mA,n,r,q⟩:=(show aN P w H h a (.ins C dx fs) from aO a _ e)
 exact⟨mA,⟨ob,n,ne⟩,r,q,z,d⟩
end
structure zz (K:PySem.W.Frag) (C:Addr):Prop where
 pg:PySem.W.plainGet K C Str.empty=true
 hd:PySem.W.hasDictIn K C=true
 po:PySem.W.plainOver K C=true
 sa:PySem.W.findIn K (.ref C) "__setattr__" = some (some (.builtin "object.__setattr__"))
theorem zz.get {K:PySem.W.Frag} {C:Addr} (c:zz K C) (f:Str):PySem.W.plainGet K C f=true:=c.pg
noncomputable def zA (K:PySem.W.Frag) (C:Addr) (f:Str):Prop:=PySem.W.findIn K (.ref C) f=some none
section
variable {X:Cx} {pins:List (Addr × Obj)} {σ : St} {H:Hp} {s:Shared} {a C dx:Addr} {fs:List (Str × V)} {f:Str} {v:V} {A:Around} {E:Value->Shared->Prop}
theorem Lq {prog:Program} {w:World} {env:Env} {e:Expr} {f:Str} {pos:Pos} {s:Shared} {Q:Value->Shared->Prop} (hb:attributeBase e f env (eval e env)=eval e env)
  (h:wpAny (model prog w) A (eval e env) (fun o s₁ => wpAny (model prog w) A (getAttr o f true) Q E s₁) E s):wpAny (model prog w) A (eval (.Attribute e f pos) env) Q E s :=
 Attribute_any_ h (by rw[arm_eval_Attribute,hb])
end
section
variable {X:Cx} {o e value:Expr} {f:Str} {pos pos' zB:Pos} {ta tv:TE}
end
section
variable {X:Cx} {pins:List (Addr × Obj)} {σ : St} {H:Hp} {s:Shared} {A:Around} {E:Value->Shared->Prop} {Q:Value->Shared->Prop} {c:Value} {b:Bool}
inductive eD (K:PySem.W.Frag) (H:Hp):V->Value->Prop where
 | non:eD K H .non (.type "NoneType")
 | bl (x:Bool):eD K H (.bl x) (.type "bool")
 | int (i:Int):eD K H (.int i) (.type "int")
 | str (x:Str):eD K H (.str x) (.type "str")
 | flt (x:UInt64):eD K H (.flt x) (.type "float")
 | lst {a:Addr} {xs:List V} (e:H a=some (.lst xs)):eD K H (.ref a) (.type "list")
 | frz {a:Addr} {o:Obj} {xs:List V} (e:H a=some (.frz o (.lst xs))):eD K H (.ref a) (.type "list")
 | tup {a:Addr} {xs:List V} (e:H a=some (.tup xs)):eD K H (.ref a) (.type "tuple")
 | dK {a:Addr} {bx:List (Key × V)} (e:H a=some (.dK bx)):eD K H (.ref a) (.type "dict")
 | dT {a:Addr} {bx:List (List Key × V)} (e:H a=some (.dT bx)):eD K H (.ref a) (.type "dict")
 | ins {a C dx:Addr} {fs:List (Str × V)} (e:H a=some (.ins C dx fs)) (cl:zz K C) (ha:PySem.W.findIn K (.ref C) "__class__" = some (some (.builtin "object.__class__")))
   (hn:PySem.W.specialIn K (.builtin "object.__class__") "__get__" = some (some (.builtin "getset_descriptor.__get__"))) (wK:PySem.W.takesIn K (.builtin "object.__class__")=some true)
   (hm:PySem.W.mroIn K C (.type "object")=some true):eD K H (.ref a) (.ref C)
theorem Lr {x:V} {u t:Value} (I:Inv X pins σ H s) (rx:RelV x u) (ty:eD X.K H x t) (e:PySem.W.kitOne X.K t c=some b) (h:∀ tk,Q (.bool b) { s with toks:=tk }) :
  wpAny (model X.prog X.w) A (call (.builtin "isinstance") [u,c]) Q E s:=by
 cases ty with
 | non=>cases (show u=Value.none from rx);exact Xx PySem.W.kitx_none I.fJ True.intro e (fun z=>nomatch z) h
 | bl y=>cases (show u=Value.bool y from rx);exact Xx PySem.W.kitx_bool I.fJ True.intro e (fun z=>nomatch z) h
 | int i=>obtain⟨t,q⟩:=(show ∃ t,u=Value.int i t from rx);cases q;exact Xx PySem.W.kitx_int I.fJ True.intro e (fun z=>nomatch z) h
 | str y=>obtain⟨t,q⟩:=(show ∃ t,u=Value.str y t from rx);cases q;exact Xx PySem.W.kitx_str I.fJ True.intro e (fun z=>nomatch z) h
 | flt y=>obtain⟨t,q⟩:=(show ∃ t,u=Value.float y t from rx);cases q;exact Xx PySem.W.kitx_float I.fJ True.intro e (fun z=>nomatch z) h
 | @lst a xs ea =>
  cases (show u=Value.ref a from rx)
  obtain⟨_,_,n,_,h1⟩:=(show aN X.prog X.w H s.heap a (.lst xs) from I.aO a _ ea)
  exact Xx PySem.W.kitx_list I.fJ ⟨_,h1,rfl⟩ e (fun z=>nomatch z) h
 | @frz a ob xs ea =>
  cases (show u=Value.ref a from rx)
  obtain⟨_,_,_,n,_,h1⟩:=(show aN X.prog X.w H s.heap a (.frz ob (.lst xs)) from I.aO a _ ea)
  exact Xx PySem.W.kitx_list I.fJ ⟨_,h1,rfl⟩ e (fun z=>nomatch z) h
 | @tup a xs ea =>
  cases (show u=Value.ref a from rx)
  obtain⟨_,_,_,p⟩:=(show aN X.prog X.w H s.heap a (.tup xs) from I.aO a _ ea)
  obtain⟨o,h1,h2,_⟩:=p
  exact Xx PySem.W.kitx_tuple I.fJ ⟨o,h1,h2⟩ e (fun z=>nomatch z) h
 | @dK a bx ea =>
  cases (show u=Value.ref a from rx)
  obtain⟨_,_,vs,_,p⟩:=(show aN X.prog X.w H s.heap a (.dK bx) from I.aO a _ ea)
  obtain⟨o,es,ep,h1,h2,_⟩:=p
  exact Xx PySem.W.kitx_dict I.fJ ⟨o,h1,h2.1⟩ e (fun z=>nomatch z) h
 | @dT a bx ea =>
  cases (show u=Value.ref a from rx)
  obtain⟨_,_,xs,_,o,es,ep,h1,h2,_⟩:=(show aN X.prog X.w H s.heap a (.dT bx) from I.aO a _ ea)
  exact Xx PySem.W.kitx_dict I.fJ ⟨o,h1,h2.1⟩ e (fun z=>nomatch z) h
 | @ins a C dx fs ea cl ha hn wK hm =>
  cases (show u=Value.ref a from rx)
  obtain⟨mA,O,_⟩:=Lp I.aO ea
  obtain⟨od,J,_⟩:=O.look
  exact Xx (PySem.W.kitx_own (cl.get _) cl.hd ha hn wK hm) I.fJ J e (fun z=>nomatch z) h
end
structure bC (k:Nat) (A:Around):Prop where
 hd:A.handled=none
 dp:A.depth + 3 * k + 5 < recursionLimit
 un:A.units + 16 * k + 200 < cLine
theorem bC.mono {j k:Nat} {A:Around} (r:bC k A) (h:j <= k):bC j A:=⟨r.hd,by have:=r.dp;omega,by have:=r.un;omega⟩
theorem bC.deeper {k:Nat} {A:Around} (r:bC (k + 1) A) (env:Env):bC k (A.deeper env) :=
 ⟨r.hd,by have:=r.dp;show A.depth + 1 + 3 * k + 5 < _;omega,by have:=r.un;show A.units + 3 + 16 * k + 200 < _;omega⟩
theorem bC.in1 {k:Nat} {A:Around} (r:bC (k + 1) A):bC k A.in1 :=
 ⟨r.hd,by have:=r.dp;show A.depth + 3 * k + 5 < _;omega,by have:=r.un;show A.units + 1 + 16 * k + 200 < _;omega⟩
theorem bC.depth {k:Nat} {A:Around} (r:bC k A):A.depth < recursionLimit:=by have:=r.dp;omega
theorem bC.units {k:Nat} {A:Around} (r:bC k A):A.units + 64 < cLine:=by have:=r.un;omega
noncomputable def iX:TA:=fun _ H Q=>Q [] H
noncomputable def gi (ta:TE) (tr:TA):TA:=fun σ H Q=>ta σ H fun x H1=>tr σ H1 fun xs H2=>Q (x :: xs) H2
section
variable {X:Cx} {e:Expr} {es:List Expr} {te:TE} {t:TA} {pos:Pos}
theorem zC:PA X [] iX:=fun _ _ _ _ H Q I h=>Calls.spliced_nil ⟨[],H,I,.nil,h⟩
theorem nD (ha:PE X e te) (hr:PA X es t) (hs:starEach (e :: es) X.env=(false,eval e X.env) :: starEach es X.env:=by rfl):PA X (e :: es) (gi te t):=by
 intro pos pins s σ H Q I h
 rw[hs]
 show wpAny _ _ (spliced ((false,eval e X.env) :: backTo pos (starEach es X.env))) _ _ s
 refine Calls.spliced_cons (bt (ha pins s σ H _ I h) fun u s1 h0_ => el5 h0_ fun x H1 I1 r1 q1 => ?_)
 exact bt (hr pos pins s1 σ H1 _ I1 q1) fun us s2 h0_ => el5 h0_ fun xs H2 I2 r2 q2 =>⟨x :: xs,H2,I2,.cons r1 r2,q2⟩
noncomputable def uc (t:TA):TE:=fun σ H Q=>t σ H fun xs H1=>xs.length <= sizeLine/\∀ p,H1 p=none->Q (.ref p) (upd H1 p (.tup xs))
noncomputable def ud (t:TA):TE:=fun σ H Q=>t σ H fun xs H1=>xs.length <= sizeLine/\∀ p,H1 p=none->Q (.ref p) (upd H1 p (.lst xs))
theorem Ls {x1} (h:PA X es t):PE X (.Tuple es x1 pos) (uc t):=by
 intro pins s σ H Q I hq
 refine wpAny_Tuple_spliced (bt (h pos pins s σ H _ I hq) fun us s1 ⟨xs,H1,I1,r,z,q⟩=>⟨by rw[<-r.length];exact z,?_⟩)
 have hf:H1 s1.heap.objs.size=none:=I1.aO.fresh (wV _)
 refine⟨.ref s1.heap.objs.size,upd H1 s1.heap.objs.size (.tup xs),I1.laid (t':=s1.toks) (fun b u e=>qJ _ e) (wV _) ?_,rfl,q _ hf⟩
 exact⟨z,us,r,⟨_,VW _ rfl,rfl,_,rfl⟩⟩
theorem Ex (h:PA X es t):PE X (.List es pos) (ud t):=by
 intro pins s σ H Q I hq
 refine wpAny_List_spliced (bt (h pos pins s σ H _ I hq) fun us s1 ⟨xs,H1,I1,r,z,q⟩=>⟨by rw[<-r.length];exact z,?_⟩)
 have hf:H1 s1.heap.objs.size=none:=I1.aO.fresh (wV _)
 refine⟨.ref s1.heap.objs.size,upd H1 s1.heap.objs.size (.lst xs),I1.laid (t':=s1.toks) (fun b u e=>qJ _ e) (wV _) ?_,rfl,q _ hf⟩
 exact⟨z,us,0,r,VW _ rfl⟩
end
noncomputable abbrev Sp:=List V->Hp->VK->XK->Prop
noncomputable abbrev jY:=List Env->Hp->Shared->XK->Value->Shared->Prop
structure nE (P:Program) (w:World) (K:PySem.W.Frag) (mg:Str->Option Value) (base:Heap) (A:Around) (outer:List Env) (s:Shared) (H:Hp):Prop where
 frames:A.frames=some outer
 mod:Mod K mg base
 bs:∀ b o,base.get? b=some o->s.heap.get? b=some o/\H b=none
 lg:base.objs.size <= s.heap.objs.size
 d3:s.heap.FunFrames base outer
 my:∀ b∈fg outer,H b=none
 aO:dQ P w H s.heap
 bare:AllBare s.gens
noncomputable def CE (outer:List Env) (P:Program) (w:World) (H:Hp) (s:Shared) (Q:VK) (u:Value) (s':Shared):Prop :=
 ∃ v H',s'.os=s.os/\AllBare s'.gens/\Un (fg outer) [] H H' s.heap s'.heap/\dQ P w H' s'.heap/\RelV v u/\Q v H'
noncomputable def CR (CX:jY) (outer:List Env) (P:Program) (w:World) (H:Hp) (s:Shared) (Q:VK) (E:XK) (r:Result) (s':Shared):Prop :=
 match r with
 | .ok (.ret u)=>CE outer P w H s Q u s'
 | .ok _=>False
 | .error e=>CX outer H s E e s'
structure aF (P:Program) (w:World) (K:PySem.W.Frag) (mg:Str->Option Value) (base:Heap) (CX:jY) (k:Nat) (f:Addr) (fd:FuncData) (ps:List Str) (sp:Sp):Prop where
 len:∀ vs H Q E,sp vs H Q E->vs.length=ps.length
 run:∀ (A:Around) (outer:List Env) (s:Shared) (H:Hp) (args:Args) (us:List Value) (vs:List V) (Q:VK) (E:XK),bC k A->nE P w K mg base A outer s H->BindsTo s fd args (ps.zip us)->Vals vs us->sp vs H Q E →
  codeAny (model P w) A (.call (.ref f) args) (CR CX outer P w H s Q E) s
section
variable {X:Cx} {pins:List (Addr × Obj)} {σ : St} {H:Hp} {s s':Shared}
theorem Inv.ue (I:Inv X pins σ H s):nE X.prog X.w X.K X.mg X.base X.A X.stack s H :=
 ⟨I.ok.frames,I.ok.mod,I.bs,W7 I.ok.lg I.sz,I.stack,I.eB,I.aO,I.bare⟩
theorem Inv.after {Q:VK} {u:Value} (I:Inv X pins σ H s) (h:CE X.stack X.prog X.w H s Q u s'):EP X pins σ Q u s':=by
 obtain⟨v,H',os,bare,un,aO,r,q⟩:=h
 obtain⟨hh,g,d,t,zD⟩:=s'
 obtain rfl:zD=s.os:=os
 exact⟨v,H',I.call (h':=hh) (g':=g) (d':=d) (t':=t) (ch:=[]) un aO bare (fun b z=>absurd z (by simp)),r,q⟩
end
noncomputable def oZ (sp:Sp) (lr:List V) (E:XK) (t:TA):TE:=fun σ H Q=>t σ H fun vs H1=>sp (vs ++ lr) H1 Q E
noncomputable def Binds (K:PySem.W.Frag) (fd:FuncData) (ps:List Str) (ds:List Value):Prop :=
 ∀ (s:Shared) (us:List Value),K.In s.heap->(us ++ ds).length=ps.length->BindsTo s fd ⟨us,[]⟩ (ps.zip (us ++ ds))
theorem Binds.all {K:PySem.W.Frag} {fd:FuncData} {ps:List Str} (h:∀ us:List Value,us.length=ps.length->bindArgs fd ⟨us,[]⟩=pure (ps.zip us)):Binds K fd ps []:=fun s us _ hl=>by
 rw[ZA] at hl ⊢
 exact .of_eq (h us hl)
noncomputable def sx (CX:jY) (X:Cx) (E:XK):Prop:=∀ (pins:List (Addr × Obj)) (σ : St) (H:Hp) (s:Shared) (e:Value) (s':Shared),Inv X pins σ H s->CX X.stack H s E e s'->X.xe e s'
section
variable {X:Cx} {CX:jY} {k:Nat} {f C:Addr} {fd:FuncData} {ps:List Str} {sp:Sp} {lr:List V} {ds:List Value} {E:XK} {x m:Str} {p pos apos:Pos} {e o:Expr} {es:List Expr} {ta:TE} {t:TA}
theorem Lu {pins:List (Addr × Obj)} {σ : St} {H:Hp} {s:Shared} {Q:VK} {us:List Value} {vs:List V} (F:aF X.prog X.w X.K X.mg X.base CX k f fd ps sp) (hr:bC k X.A) (hb:Binds X.K fd ps ds) (hd:Vals lr ds) (hx:sx CX X E)
  (I:Inv X pins σ H s) (r:Vals vs us) (h:sp (vs ++ lr) H Q E):wpAny (model X.prog X.w) X.A (call (.ref f) us) (EP X pins σ Q) X.xe s:=by
 have r2:Vals (vs ++ lr) (us ++ ds):=r.append hd
 have hl:(us ++ ds).length=ps.length:=by rw[<-r2.length];exact F.len _ _ _ _ h
 refine q0n (ZL (F.run X.A X.stack s H ⟨us,[]⟩ (us ++ ds) (vs ++ lr) Q E hr I.ue (hb s us I.fJ hl) r2 h) fun r s' hq => ?_)
 cases r with
 | error e=>exact hx pins σ H s e s' I hq
 | ok fl =>
  cases fl with
  | ret u=>exact I.after hq
  | next=>exact False.elim hq
  | brk=>exact False.elim hq
  | cont=>exact False.elim hq
theorem Lw (F:aF X.prog X.w X.K X.mg X.base CX k f fd ps sp) (hr:bC k X.A) (hg:Gl X x) (hm:X.mg x=some (.ref f)) (hk:PySem.W.keepIn X.K (.ref f)=true) (hb:Binds X.K fd ps ds) (hd:Vals lr ds) (hx:sx CX X E)
  (ha:PA X (e :: es) t) (gj:(x == ("__debug__" : Str))=false:=by decide) (he:starEach (e :: es) X.env=(false,eval e X.env) :: starEach es X.env:=by rfl) (fL:(backTo pos (starEach es X.env)).any (·.1)=false:=by rfl) :
  PE X (.Call (.Name x p) (e :: es) [] pos) (oZ sp lr E t):=by
 intro pins s σ H Q I h
 refine YA (wF I hg hm ?_ gj)
 refine PySem.W.callWith_K (h₀ := X.base) I.ok.mod.m_ hk (bt (ha pos pins s σ H _ I h) fun us s1 h0_ => el5 h0_ fun vs H1 I1 r q =>⟨I1.fJ,?_⟩) he fL
 exact Lu F hr hb hd hx I1 r q
end
section
variable {X:Cx} {CX:jY} {k:Nat} {f C:Addr} {fd:FuncData} {ps ks:List Str} {sp:Sp} {E:XK} {x m:Str} {p pos apos kj:Pos} {e o:Expr} {es:List Expr} {VS:List Keyword} {te ta:TE} {t tk:TA} {nm:Option Str}
variable {g:List Value->List Value->List Value} {gV:List V->List V->List V}
end
structure dF (N P:List Str) (sc:Scope):Prop where
 kind:sc.kind = .function
 co:sc.isCoroutine=false
 gen:sc.isGenerator=false
 nd:N.Nodup
 pre:N.take P.length=P
 par:∀ x∈P,sc.names.lookup x=some .local\/sc.names.lookup x=some .cell
 qB:∀ y∈sc.names,y.2 ≠ .free
theorem Ey {kindOf:Str->Option NameKind} {x:Str}:∀ {binds:List (Str × Value)} {m:Str->Option Value},(∀ v,(x,v)∉binds)->bindL kindOf binds m x=m x
 | [],_,_=>rfl
 | (n,v) :: r,m,h=>by
  unfold bindL
  rw[Ey fun w hw=>h w (Mn _ hw)]
  split
  ·have:x≠n:=by rintro rfl;exact h v VV
   simp[this]
  ·rfl
theorem Ez {kindOf:Str->Option NameKind} {x:Str}:∀ {binds:List (Str × Value)} {m:Str->Option Value},(∀ v,(x,v)∉binds)->bindC kindOf binds m x=m x
 | [],_,_=>rfl
 | (n,v) :: r,m,h=>by
  unfold bindC
  rw[Ez fun w hw=>h w (Mn _ hw)]
  split
  ·rfl
  ·have:x≠n:=by rintro rfl;exact h v VV
   simp[this]
theorem EA {kindOf:Str->Option NameKind} {x:Str} {v:Value}:∀ {P:List Str} {vs:List Value} {i:Nat} {m:Str->Option Value},P.Nodup->P[i]? = some x->vs[i]? = some v->kindOf x=some .local →
  bindL kindOf (P.zip vs) m x=some v
 | [],_,_,_,_,h,_,_=>by simp at h
 | _ :: _,[],_,_,_,_,h,_=>by simp at h
 | p :: P,w :: vs,0,m,nd,h1,h2,hk=>by
  simp at h1 h2;subst h1;subst h2
  show bindL kindOf ((p,w) :: P.zip vs) m p=_
  unfold bindL
  rw[Ey fun v hv=>(YX.mp nd).1 (q0w hv).1,VZ hk]
  simp
 | p :: P,w :: vs,i + 1,m,nd,h1,h2,hk=>by
  show bindL kindOf ((p,w) :: P.zip vs) m x=_
  unfold bindL
  exact EA (i:=i) (YX.mp nd).2 (by simpa using h1) (by simpa using h2) hk
theorem EB {kindOf:Str->Option NameKind} {x:Str} {v:Value}:∀ {P:List Str} {vs:List Value} {i:Nat} {m:Str->Option Value},P.Nodup->P[i]? = some x->vs[i]? = some v->kindOf x≠some .local →
  bindC kindOf (P.zip vs) m x=some v
 | [],_,_,_,_,h,_,_=>by simp at h
 | _ :: _,[],_,_,_,_,h,_=>by simp at h
 | p :: P,w :: vs,0,m,nd,h1,h2,hk=>by
  simp at h1 h2;subst h1;subst h2
  show bindC kindOf ((p,w) :: P.zip vs) m p=_
  unfold bindC
  rw[Ez fun v hv=>(YX.mp nd).1 (q0w hv).1,My hk]
  simp
 | p :: P,w :: vs,i + 1,m,nd,h1,h2,hk=>by
  show bindC kindOf ((p,w) :: P.zip vs) m x=_
  unfold bindC
  exact EB (i:=i) (YX.mp nd).2 (by simpa using h1) (by simpa using h2) hk
noncomputable def start (N:List Str) (vs:List V):St:=vs.map some ++ List.replicate (N.length - vs.length) none
noncomputable def aS (CX:jY) (P:Program) (w:World) (K:PySem.W.Frag) (mg:Str->Option Value) (base:Heap) (N:List Str) (qual:Str) (scope:Scope) (f:Addr) (cd:Value) (A:Around) (outer:List Env) (s:Shared) (H:Hp) (E:XK):Cx where
 prog:=P
 w:=w
 K:=K
 mg:=mg
 base:=base
 A:=A.deeper (envOfC qual scope s.heap.objs.size f cd)
 N:=N
 s₀ := s
 H₀ := H
 env:=envOfC qual scope s.heap.objs.size f cd
 outer:=outer
 stack:=envOfC qual scope s.heap.objs.size f cd :: outer
 ex:=[]
 calm:=true
 fn:=fun _=>true
 pn:=[]
 xe:=fun e s'=>wpAny (model P w) (A.deeper (envOfC qual scope s.heap.objs.size f cd)) (leaving (envOfC qual scope s.heap.objs.size f cd) e) (fun _ jF=>CX outer H s E e jF) (fun e' jF=>CX outer H s E e' jF) s'
theorem EC {sc:Scope} {n:Nat} {x:Str} (h:sc.names.lookup x=some .cell):∃ c,(cellsFrom n sc.names []).lookup x=some c:=by
 have q:=Zd sc.names n [] (.inl h)
 exact Yu.mp q
theorem Lx {CX:jY} {P:Program} {w:World} {K:PySem.W.Frag} {mg:Str->Option Value} {base:Heap} {N ps:List Str} {qual:Str} {scope:Scope} {f:Addr} {cd:Value} {A:Around} {outer:List Env} {s s1:Shared} {H:Hp} {E:XK} {us:List Value} {vs:List V}
  (S:dF N ps scope) (hd:A.handled=none) (e0:nE P w K mg base A outer s H) (hl:vs.length=ps.length) (r:Vals vs us)
  (x:InCallC s s.heap.objs.size (bindL (envOfC qual scope s.heap.objs.size f cd).kindOf (ps.zip us) fun _=>none) (cellsFrom (s.heap.objs.size + 1) scope.names []) (bindC (envOfC qual scope s.heap.objs.size f cd).kindOf (ps.zip us) fun _=>none) s1) :
  Inv (aS CX P w K mg base N qual scope f cd A outer s H E) [] (start N vs) H s1:=by
 have fL:ps.length <= N.length:=by have:=congrArg List.length S.pre;rw[WW] at this;omega
 obtain⟨h1,tk,rfl,hk⟩:=x.done
 have nG:∀ b:Addr,b∉(aS CX P w K mg base N qual scope f cd A outer s H E).ex:=fun b z=>absurd (show b∈([]:List Addr) from z) (by simp)
 refine⟨⟨e0.mod,S.kind,rfl,rfl,wV _,fun y z c h1 h2 => ?_,fun y hy => ?_,fun y c _ h => ?_,fun _=>hd,Around.frames_deeper e0.frames,.inr ⟨rfl,rfl⟩,fun b z=>absurd z (nG b),e0.bs,e0.lg,fun b _ _=>nG b,fun b z=>absurd z (nG b),e0.d3,e0.my⟩,
  rfl,e0.bare,Un.kept hk,⟨_,x.toInCall.ns,fun i y v h1 h2 h3 => ?_⟩,fun y c h=>⟨_,x.cell y c h⟩,e0.aO.fresh (wV _),fun y c h => ?_,fun p hp=>absurd (show p∈([]:List (Addr × Obj)) from hp) (by simp),e0.aO.kept hk,?_⟩
 ·exact name_of_addr x.apart (XC h1) (XC h2)
 ·have hy:scope.names.lookup y=some .cell\/scope.names.lookup y=some .free:=hy
  rcases hy with hy | hy
  ·exact EC hy
  ·exact absurd rfl (S.qB _ (XC hy))
 ·exact X9 (x.above y c (XC h))
 ·have hi:i < vs.length:=by
   unfold start at h2
   by_cases hi:i < vs.length
   ·exact hi
   ·rw[WH (by simpa using hi)] at h2
    rw[Yx] at h2
    split at h2<;>cases h2
  have ha:vs[i]? = some v:=by
   unfold start at h2
   rw[WB (by simpa using hi),VX] at h2
   cases e:vs[i]? with
   | none=>rw[e] at h2;cases h2
   | some a=>rw[e] at h2;cases h2;rfl
  obtain⟨u,hu,rv⟩:=r.get ha
  have hp:ps[i]? = some y:=by
   rw[<-S.pre,Xh (by omega)];exact h1
  have ED:ps.Nodup:=by rw[<-S.pre];exact S.nd.sublist (List.take_sublist _ _)
  refine⟨u,rv,?_⟩
  rcases S.par y (Xi hp) with k | k
  ·exact .inl ⟨k,EA ED hp hu k⟩
  ·obtain⟨c,e⟩:=EC (n:=s.heap.objs.size + 1) k
   refine .inr ⟨.inl k,c,e,?_⟩
   have q:=x.cell y c e
   rw[EB ED hp hu (by show scope.names.lookup y≠_;rw[k];decide)] at q
   exact q
 ·exact e0.aO.fresh (X9 (x.above y c (XC h)))
 ·unfold start
  show _=N.length
  rw[Mm,sE,Yn]
  omega
theorem zE {CX:jY} {P:Program} {w:World} {K:PySem.W.Frag} {mg:Str->Option Value} {base:Heap} {k:Nat} {f:Addr} {name qual:Str} {params:Arguments} {body:List Stmt} {scope:Scope} {dV kV doc pm aK ct oc:Value} {an od:Option Addr}
  {mE:Array (Option Value)} {N ps:List Str} {sp:Sp} (lk:K.lookup f=some ⟨oc,od,.func (PySem.W.fnOf name qual params body scope dV kV doc pm an aK ct),mE⟩) (fq:PySem.W.codeIn K aK qual=true) (S:dF N ps scope)
  (len:∀ vs H Q E,sp vs H Q E->vs.length=ps.length)
  (de:∀ (A:Around) (outer:List Env) (s:Shared) (H:Hp) (vs:List V) (Q:VK) (E:XK),bC k (A.deeper (envOfC qual scope s.heap.objs.size f aK))->sp vs H Q E →
   ∃ t,fK (aS CX P w K mg base N qual scope f aK A outer s H E) body t/\t { nx:=fun _ H'=>Q .non H',rt:=Q } (start N vs) H) :
  aF P w K mg base CX (k + 1) f (PySem.W.fnOf name qual params body scope dV kV doc pm an aK ct) ps sp:=by
 refine⟨len,fun A outer s H args us vs Q E hr e0 hb r mF => ?_⟩
 have hl:=len _ _ _ _ mF
 have KX:K.In s.heap:=e0.mod.m_.keeps fun b o e=>(e0.bs b o e).1
 have lim:s.heap.NoLimit:=e0.mod.nolimit.keeps fun b o e=>(e0.bs b o e).1
 have uf:∀ y∈ps.zip us,scope.names.lookup y.1=some .local\/(scope.names.lookup y.1=some .cell/\((cellsFrom (s.heap.objs.size + 1) scope.names []).lookup y.1).isSome=true):=fun ⟨n,v⟩ hy=>by
  rcases S.par n (q0w hy).1 with q | q
  ·exact .inl q
  ·exact .inr ⟨q,Zd _ _ _ (.inl q)⟩
 refine codeAny_call_function hr.depth (KX _ _ lk) rfl S.co S.gen rfl (PySem.W.codeRec_of KX fq) (hb _ _ _ _ ?_)
 refine wpAny_newFunctionEnv_cells S.kind uf fun env he s1 x => ?_
 subst he
 refine⟨lim.keeps x.toInCall.keep,codeAny_func ?_⟩
 obtain⟨t,ht,hq⟩:=de A outer s H vs Q E (hr.deeper _) mF
 have I:Inv (aS CX P w K mg base N qual scope f aK A outer s H E) [] (start N vs) H s1:=Lx S hr.hd e0 hl r x
 refine XF (ht [] s1 (start N vs) H _ I hq) (fun fl s' hs => ?_) fun e s' hs=>hs
 have fin:∀ {σ':St} {H':Hp} {v:V} {u:Value},Inv (aS CX P w K mg base N qual scope f aK A outer s H E) [] σ' H' s'->RelV v u->Q v H'->CE outer P w H s Q u s' :=
  fun {σ' H' v u} J rv q=>⟨v,H',J.os,J.bare,J.base,J.aO,rv,q⟩
 cases fl with
 | ret u =>
  obtain⟨v,σ',H',J,rv,q⟩:=hs
  exact fin J rv q
 | next =>
  obtain⟨σ',H',J,q⟩:=hs
  exact fin (v:=V.non) (u:=Value.none) J rfl q
 | brk =>
  obtain⟨_,_,_,q⟩:=hs
  exact False.elim q
 | cont =>
  obtain⟨_,_,_,q⟩:=hs
  exact False.elim q
section
variable {X:Cx} {x:Str} {p pos:Pos} {e:Expr} {es:List Expr} {t:TA} {id T:String} {r:List V->Hp->VK->Prop}
noncomputable def sy (r:List V->Hp->VK->Prop) (t:TA):TE:=fun σ H Q=>t σ H fun vs H1=>r vs H1 Q
theorem Ly (hc:jm X (.builtin id) r) (hg:Gl X x) (hm:X.mg x=none) (hv:bootBuiltins x=some (.builtin id)) (ha:PA X (e :: es) t) (hn:x ≠ "__name__" := by decide) (gj:(x == ("__debug__" : Str))=false:=by decide)
  (he:starEach (e :: es) X.env=(false,eval e X.env) :: starEach es X.env:=by rfl) (fL:(backTo pos (starEach es X.env)).any (·.1)=false:=by rfl):PE X (.Call (.Name x p) (e :: es) [] pos) (sy r t):=by
 intro pins s σ H Q I h
 refine YA (nq I hg hm hv ?_ hn gj)
 exact PyProof.Rows.callWith_builtin1 (bt (ha pos pins s σ H _ I h) fun us s1 h0_ => el5 h0_ fun vs H1 I1 r1 q1 =>hc pins s1 σ H1 vs us Q I1 r1 q1) he fL
theorem Lz (hc:jm X (.type T) r) (hg:Gl X x) (hm:X.mg x=none) (hv:bootBuiltins x=some (.type T)) (ha:PA X (e :: es) t) (hn:x ≠ "__name__" := by decide) (gj:(x == ("__debug__" : Str))=false:=by decide)
  (he:starEach (e :: es) X.env=(false,eval e X.env) :: starEach es X.env:=by rfl) (fL:(backTo pos (starEach es X.env)).any (·.1)=false:=by rfl):PE X (.Call (.Name x p) (e :: es) [] pos) (sy r t):=by
 intro pins s σ H Q I h
 refine YA (nq I hg hm hv ?_ hn gj)
 exact XH (bt (ha pos pins s σ H _ I h) fun us s1 h0_ => el5 h0_ fun vs H1 I1 r1 q1 =>hc pins s1 σ H1 vs us Q I1 r1 q1) he fL
end
end L2
namespace HT
open PySem PyProof.Rows
noncomputable def lexLt:List Int->List Int->Bool
 | [],[]=>false
 | [],_ :: _=>true
 | _ :: _,[]=>false
 | x :: xs,y :: ys=>if x=y then lexLt xs ys else decide (x < y)
theorem o6 (x y:Int) (xs ys:List Int):lexLt (x :: xs) (y :: ys)=if x=y then lexLt xs ys else decide (x < y):=rfl
theorem LA:lexLt [] []=false:=rfl
theorem LB (y:Int) (ys:List Int):lexLt [] (y :: ys)=true:=rfl
theorem LC (x:Int) (xs:List Int):lexLt (x :: xs) []=false:=rfl
theorem LF (A:Around) (s:Shared) (a:Int) (t:Tok) (c:Int) (u:Tok):∃ e,SeqAt.EqAt A s (.int a t) (.int c u) e/\(e=true↔a=c) :=
 ⟨(a == c),ZU a t c u,by simp⟩
theorem LG (A:Around) (s:Shared) (a:Int) (t:Tok) (c:Int) (u:Tok) (prog:Program) (w:World) (E:Value->Shared->Prop) (Q:Value->Shared->Prop) (h:Q (.bool (decide (a < c))) s) :
  wpAny (model prog w) A (richCompare .Lt (.int a t) (.int c u)) Q E s :=
 (ZJ h:wpAny (model prog w) A (compareOp .Lt (.int a t) (.int c u)) Q E s)
section
open PySem.SeqAt
open PySem.AutoSeq1 (wpAny_loadPart')
open PySem.MeetsSeq PySem.MeetsSeq2 PySem.MeetsSeq3
theorem LH (l b:Addr) (items cq:Array Value) (n n2:Nat) (dd o7:Option Addr) (sl o8:Array (Option Value)) (ns ms:List Int) (hi:IntsAre items.toList ns) (hj:IntsAre cq.toList ms) :
  Meets (Builtin.«tuple.__lt__» ⟨[.ref l,.ref b],[]⟩)
   (fun _ R s=>s.heap.get? l=some { cls := .type "tuple",dict:=dd,data := .seq items n,slots:=sl }/\s.heap.get? b=some { cls := .type "tuple",dict:=o7,data := .seq cq n2,slots:=o8 } ∧
    R (.ok (.ret (.bool (lexLt ns ms)))) s) :=
 .of_wp fun prog w A R s h=>by
  obtain⟨hp,g,d,tk,os⟩:=s;obtain⟨hl,hb,h⟩:=h
  have f2:=AutoSeq1.sub_tuple_tuple
  have z1:items.size=ns.length:=by rw[<-hi.length];simp
  have z2:cq.size=ms.length:=by rw[<-hj.length];simp
  wp_walk using ZC hl,ZC hb,Zo _ (fun rest b s'=>b.1=none/\s'=⟨hp,g,d,tk,os⟩/\∃ (vs ws:List Value) (qC sA:List Int),rest=vs.zip ws ∧
   IntsAre vs qC/\IntsAre ws sA/\qC.length + cq.size=sA.length + items.size/\R (.ok (.ret (.bool (lexLt qC sA)))) ⟨hp,g,d,tk,os⟩) _
  case turn =>
   rintro ⟨y,x⟩ rest b s' ⟨iJ,rfl,vs,ws,qC,sA,hz,zF,wL,hlen,hR⟩
   cases zF with
   | nil=>rw[Ze] at hz;cases hz
   | cons a t zG =>
    cases wL with
    | nil=>rw[List.zip_nil_right] at hz;cases hz
    | cons c u zH =>
     rw[YB] at hz
     injection hz with LI ug
     injection LI with hy hx
     subst hy hx
     rw[o6] at hR
     simp only[Mj] at hlen
     obtain⟨e,he,uh⟩:=LF A.in1 ⟨hp,g,d,tk,os⟩ a t c u
     refine nN (he prog w _ _ ?_)
     cases e with
     | true =>
      rw[VZ (uh.mp rfl)] at hR
      wp_walk
      exact⟨rfl,rfl,_,_,_,_,ug,zG,zH,by omega,hR⟩
     | false =>
      rw[My (fun q=>absurd (uh.mpr q) EY)] at hR
      have LL:=LG A.in1 ⟨hp,g,d,tk,os⟩ a t c u prog w
      wp_walk using LL
      exact⟨_,rfl,by simpa using hR⟩
  case fin =>
   rintro ⟨b1,b2⟩ s' ⟨iJ,rfl,vs,ws,qC,sA,hz,zF,wL,hlen,hR⟩
   simp only at iJ
   subst iJ
   have hv:lexLt qC sA=decide (items.size < cq.size):=by
    cases zF with
    | nil =>
     cases wL with
     | nil =>
      simp only[ZD] at hlen
      rw[LA]
      exact (WZ (by omega)).symm
     | cons c u hw =>
      simp only[ZD,Mj] at hlen
      rw[LB]
      exact (WN (by omega)).symm
    | cons a t hv =>
     cases wL with
     | nil =>
      simp only[ZD,Mj] at hlen
      rw[LC]
      exact (WZ (by omega)).symm
     | cons c u hw =>
      rw[YB] at hz
      cases hz
   rw[hv] at hR
   wp_walk
   exact⟨_,rfl,by simpa [Builtin.Tuple.tupleCompareSizes] using hR⟩
  case h =>
   exact⟨rfl,rfl,items.toList,cq.toList,ns,ms,rfl,hi,hj,by omega,h⟩
end
section
variable {prog:Program} {w:World} {A:Around} {E:Value->Shared->Prop} {s:Shared}
theorem EE {l b:Addr} {items cq:Array Value} {ns ms:List Int} {Q:Value->Shared->Prop} (hl:IsTup s.heap l items) (hb:IsTup s.heap b cq) (hi:IntsAre items.toList ns) (hj:IntsAre cq.toList ms)
  (hu:A.units < cLine) (h:Q (.bool (lexLt ns ms)) s):wpAny (model prog w) A (compareOp .Lt (.ref l) (.ref b)) Q E s:=by
 obtain⟨⟨cls,dd,data,sl⟩,ho,hc,n,hd⟩:=id hl
 obtain⟨⟨ui,o7,data2,o8⟩,fV,jZ,n2,hd2⟩:=id hb
 simp only at hc hd jZ hd2
 subst hc hd jZ hd2
 exact richCompare_meets_room (op := .Lt) ⟨_,ho,rfl⟩ ⟨_,fV,rfl⟩ PySem.F.slot_tuple_lt PySem.F.entry_tuple_lt (PySem.F.args_tuple_lt_2 _ _) (LH l b items cq n n2 dd o7 sl o8 ns ms hi hj)
  ⟨ho,fV,show Value.bool (lexLt ns ms)≠Value.notImplemented/\Q (.bool (lexLt ns ms)) s from ⟨(fun x=>nomatch x),h⟩⟩ hu
theorem LM {t b:Addr} {vs ws:List Value} {Q:Value->Shared->Prop} (ht:IsTup s.heap t vs.toArray) (hb:IsTup s.heap b ws.toArray) (hv:vs≠[])
  (h1:ws=[]->Q (.ref t) s) (h2:ws≠[]->Q (.ref s.heap.objs.size) { s with heap:=s.heap.push { cls := .type "tuple",data := .seq (vs ++ ws).toArray } })
  (gm:vs.length + ws.length <= sizeLine):wpAny (model prog w) A (binaryOp .Add (.ref t) (.ref b)) Q E s:=by
 obtain⟨⟨cls,dd,data,sl⟩,ho,hc,n,hd⟩:=id ht
 obtain⟨⟨ui,o7,data2,o8⟩,fV,jZ,n2,hd2⟩:=id hb
 simp only at hc hd jZ hd2
 subst hc hd jZ hd2
 have e:vs.toArray ++ ws.toArray=(vs ++ ws).toArray:=by simp
 by_cases hw:ws=[]
 ·exact concat_meets ⟨_,ho,rfl⟩ ⟨_,fV,rfl⟩ noFill_tuple_add seq_tuple_add Zf Y6 (YS _ _)
   (tuple_addW1 t b vs.toArray ws.toArray n n2 dd o7 sl o8 (by simpa using hv) (by simp[hw])) ⟨ho,fV,h1 hw⟩
 ·refine concat_meets ⟨_,ho,rfl⟩ ⟨_,fV,rfl⟩ noFill_tuple_add seq_tuple_add Zf Y6 (YS _ _)
   (tuple_addW2 t b vs.toArray ws.toArray n n2 dd o7 sl o8 (by simpa using hv) (by simpa using hw) (by rw[wU,wU];exact gm)) ⟨ho,fV,?_⟩
  rw[e]
  exact h2 hw
noncomputable def bj (n d:Nat):Option Int->Nat
 | none=>d
 | some v=>if v < 0 then (v + (n:Int)).toNat else min v.toNat n
theorem LN (n d:Nat):bj n d none=d:=rfl
theorem sC (n d k:Nat):bj n d (some (k:Int))=min k n:=by
 show (if (k:Int) < 0 then ((k:Int) + (n:Int)).toNat else min (k:Int).toNat n)=min k n
 rw[My (by omega),XI]
theorem LO (n d:Nat) (hd:d <= n) (o:Option Int):bj n d o <= n:=by
 cases o with
 | none=>exact hd
 | some v =>
  show (if v < 0 then (v + (n:Int)).toNat else min v.toNat n) <= n
  by_cases hv:v < 0
  ·rw[VZ hv];omega
  ·rw[My hv];exact Nat.min_le_right _ _
theorem EF (v:Int) (n d:Nat):(if v < 0 then max (v + (n:Int)) 0 else min v (n:Int))=((bj n d (some v):Nat):Int):=by
 show (if v < 0 then max (v + (n:Int)) 0 else min v (n:Int))=(((if v < 0 then (v + (n:Int)).toNat else min v.toNat n):Nat):Int)
 by_cases hv:v < 0
 ·simp only[VZ hv];omega
 ·simp only[My hv];omega
theorem LP (lo hi:Option Int) (n:Nat):Builtin.Slice.sliceAdjust lo hi 1 (n:Int)=(((bj n 0 lo:Nat):Int),((bj n n hi:Nat):Int)):=by
 have h1:¬ ((1:Int) < 0):=by omega
 unfold Builtin.Slice.sliceAdjust
 simp only[h1,Xc]
 refine Prod.ext ?_ ?_
 ·cases lo with
  | none=>rfl
  | some v=>exact EF v n 0
 ·cases hi with
  | none=>rfl
  | some v=>exact EF v n n
theorem LQ (i j:Nat):Builtin.Slice.slicePlaces (i:Int) (j:Int) 1=j - i:=by
 unfold Builtin.Slice.slicePlaces
 have h1:(1:Int) > 0:=by omega
 simp only[h1,Yf,Int.ediv_one]
 split<;>omega
theorem uj {v:Value} {o:Option Int} {Q:Option Int->Shared->Prop} (p:IsPart v o) (h:Q o s):wpAny (model prog w) A (Builtin.Slice.slicePartIndex v) Q E s:=by
 cases p with
 | none=>exact slicePart_none h
 | int i t=>exact slicePart_int h
theorem EG {sl:Addr} {vl vu:Value} {lo hi:Option Int} {n:Nat} {Q:Int × Int × Nat->Shared->Prop} (hs:s.heap.IsSliceOf sl vl vu .none) (pl:IsPart vl lo) (pu:IsPart vu hi)
  (h:Q (((bj n 0 lo:Nat):Int),1,bj n n hi - bj n 0 lo) s):wpAny (model prog w) A (Builtin.Slice.sliceApplied (.ref sl) (pure (n:Int))) Q E s:=by
 obtain⟨os,km,nH,mG⟩:=id hs
 unfold Builtin.Slice.sliceApplied Builtin.Slice.sliceFields
 refine nN (nN (Xp km mG (x:=vl) rfl (nN (Xp km mG (x:=vu) rfl (nN (Xp km mG (x := .none) rfl (uq ?_)))))))
 refine nN (slicePart_none ?_)
 show wpAny _ _ (if ((1:Int) == 0)=true then _ else _) _ _ s
 rw[My (by decide)]
 refine nN (uj pl (nN (uj pu (nN (uq ?_)))))
 show wpAny _ _ (match Builtin.Slice.sliceAdjust lo hi 1 (n:Int) with | (lo,hi)=>pure (lo,(1:Int),Builtin.Slice.slicePlaces lo hi 1)) _ _ s
 rw[LP lo hi n]
 show wpAny _ _ (pure (((bj n 0 lo:Nat):Int),(1:Int),Builtin.Slice.slicePlaces ((bj n 0 lo:Nat):Int) ((bj n n hi:Nat):Int) 1)) _ _ s
 rw[LQ]
 exact uq h
theorem LR (xs:Array Value) (i k:Nat):((List.range k).filterMap fun (m:Nat)=>xs[((i:Int) + (m:Int) * 1).toNat]?).toArray=((xs.toList.drop i).take k).toArray:=by
 have e:(fun (m:Nat)=>xs[((i:Int) + (m:Int) * 1).toNat]?)=fun m=>xs[i + m]? := by
  funext m
  have:((i:Int) + (m:Int) * 1).toNat=i + m:=by omega
  rw[this]
 rw[e]
 have:=pick_run xs i k
 rw[ZQ] at this
 have e2:((fun x=>xs[x]?) ∘ fun x=>i + x)=fun m=>xs[i + m]? := rfl
 rw[e2] at this
 rw[this]
theorem LS {t sl:Addr} {items:Array Value} {vl vu:Value} {lo hi:Option Int} {Q:Value->Shared->Prop} (ht:IsTup s.heap t items) (hs:s.heap.IsSliceOf sl vl vu .none) (pl:IsPart vl lo) (pu:IsPart vu hi)
  (hw:¬ (bj items.size 0 lo=0/\bj items.size items.size hi=items.size))
  (h:Q (.ref s.heap.objs.size) { s with heap:=s.heap.push { cls := .type "tuple",data := .seq ((items.toList.drop (bj items.size 0 lo)).take (bj items.size items.size hi - bj items.size 0 lo)).toArray } })
  (gm:items.size <= sizeLine):wpAny (model prog w) A (getItem (.ref t) (.ref sl)) Q E s:=by
 have eE:sizeOk (.seq ((items.toList.drop (bj items.size 0 lo)).take (bj items.size items.size hi - bj items.size 0 lo)).toArray):=by
  show ((items.toList.drop (bj items.size 0 lo)).take (bj items.size items.size hi - bj items.size 0 lo)).toArray.size <= sizeLine
  rw[wU,WW,Xz,Aa]
  omega
 have hj:bj items.size items.size hi <= items.size:=LO _ _ (wV _) hi
 obtain⟨os,km,nH,mG⟩:=id hs
 have uk:s.TypeIs (.ref sl) "slice" := ⟨os,km,nH⟩
 unfold getItem
 try with_reducible refine W6 ?_
 first | refine nN (uq ?_) | skip
 refine nN (Z3 ht.typeIs (by decide) ?_)
 refine nN (XM (name:=Str.ofString "__getitem__") ht.typeIs W0
  (X8 W0 ht.typeIs ZK ?_ (args_tuple_getitem _ _)))
 show wpAny _ _ (Builtin.Tuple.tupleItemsOf (.ref t) >>= _) _ _ s
 refine nN (tupleItemsOf_ ht ?_)
 refine nN (ZM uk ?_)
 rw[VZ (by decide)]
 refine nN (EG hs pl pu ?_)
 have LU:¬ ((((bj items.size 0 lo:Nat):Int) == 0 && (1:Int) == 1 && (bj items.size items.size hi - bj items.size 0 lo) == items.size)=true):=by
  intro q
  rw[VY,VY] at q
  have q1:((bj items.size 0 lo:Nat):Int)=0:=WV q.1.1
  have q2:bj items.size items.size hi - bj items.size 0 lo=items.size:=WV q.2
  exact hw ⟨by omega,by omega⟩
 show wpAny _ _ (if (((bj items.size 0 lo:Nat):Int) == 0 && (1:Int) == 1 && (bj items.size items.size hi - bj items.size 0 lo) == items.size)=true then _ else _) _ _ s
 rw[My LU,LR]
 first
  | exact nN (m:=Builtin.Tuple.tupleExact _) (Xj (uq ⟨_,rfl,uq h⟩) eE)
  | exact nN (m:=Builtin.Tuple.tupleExact _) (Xj (nN (uq (uq ⟨_,rfl,uq h⟩))) eE)
  | exact nN (nN (m:=Builtin.Tuple.tupleExact _) (Xj (uq (uq ⟨_,rfl,uq h⟩)) eE))
  | exact nN (nN (m:=Builtin.Tuple.tupleExact _) (Xj (uq ⟨_,rfl,uq h⟩) eE))
end
end HT
namespace L2
open PySem PySem.Spec PyProof.Rows
noncomputable abbrev TO:=St->Hp->(Option Int->Hp->Prop)->Prop
noncomputable def PO (X:Cx) (e:Option Expr) (t:TO):Prop :=
 ∀ (pins:List (Addr × Obj)) (s:Shared) (σ : St) (H:Hp) (Q:Option Int->Hp->Prop),Inv X pins σ H s->t σ H Q →
  wpAny (model X.prog X.w) X.A (evalPart e X.env) (fun u s'=>∃ o H',Inv X pins σ H' s'/\IsPart u o/\Q o H') X.xe s
noncomputable def LV:TO:=fun _ H Q=>Q none H
noncomputable def LW (t:TE):TO:=fun σ H Q=>t σ H fun x H1=>∃ i,x = .int i/\Q (some i) H1
theorem intsAre_of {ns:List Int}:∀ {us:List Value},Vals (ns.map V.int) us->IntsAre us ns:=by
 induction ns with
 | nil=>intro us r;rw[YM] at r;cases r;exact .nil
 | cons n ns ih =>
  intro us r
  rw[W8] at r
  cases r with
  | cons r1 r2 =>
   obtain⟨t,e⟩:=r1
   subst e
   exact .cons n t (ih r2)
section
variable {X:Cx} {e:Expr} {te:TE} {lo hi:Option Expr} {tl th:TO} {pos p2:Pos}
theorem EH:PO X none LV:=by
 intro pins s σ H Q I h
 rw[evalPart_none]
 exact uq ⟨none,H,I,.none,h⟩
theorem wM (h:PE X e te):PO X (some e) (LW te):=by
 intro pins s σ H Q I hw
 rw[evalPart_some]
 refine bt (h pins s σ H _ I hw) fun u s1 h0_ => el5 h0_ fun x H1 I1 r1 q1 => ?_
 obtain⟨i,rfl,q⟩:=q1
 obtain⟨t,rfl⟩:=r1
 exact⟨some i,H1,I1,.int i t,q⟩
noncomputable def nJ (X:Cx) (r:V->Option Int->Option Int->Hp->VK->Prop):Prop :=
 ∀ (pins:List (Addr × Obj)) (s:Shared) (σ : St) (H:Hp) (x:V) (v vl vu:Value) (lo hi:Option Int) (sl:Addr) (Q:VK),Inv X pins σ H s->RelV x v->s.heap.IsSliceOf sl vl vu .none->IsPart vl lo->IsPart vu hi->r x lo hi H Q →
  ∃ T id,typeLookup (.type T) "__getitem__" = pure (some (.builtin id))/\s.TypeIs v T/\wpAny (model X.prog X.w) X.A (getItem v (.ref sl)) (EP X pins σ Q) X.xe s
theorem nJ.or {r r':V->Option Int->Option Int->Hp->VK->Prop} (h:nJ X r) (h':nJ X r'):nJ X (fun x lo hi H Q=>r x lo hi H Q\/r' x lo hi H Q):=by
 intro pins s σ H x v vl vu lo hi sl Q I rx hs pl pu q
 rcases q with q | q
 ·exact h pins s σ H x v vl vu lo hi sl Q I rx hs pl pu q
 ·exact h' pins s σ H x v vl vu lo hi sl Q I rx hs pl pu q
noncomputable def EI (r:V->Option Int->Option Int->Hp->VK->Prop) (te:TE) (tl th:TO):TE:=fun σ H Q=>te σ H fun x H1=>tl σ H1 fun l H2=>th σ H2 fun u H3=>r x l u H3 Q
theorem LX {r:V->Option Int->Option Int->Hp->VK->Prop} (hr:nJ X r) (he:PE X e te) (hl:PO X lo tl) (hu:PO X hi th):PE X (.Subscript e (.Slice lo hi none p2) pos) (EI r te tl th):=by
 intro pins s σ H Q I h
 refine Subscript_ (bt (he pins s σ H _ I h) fun v s1 h0_ => el5 h0_ fun x H1 I1 r1 q1 => ?_)
 refine wpAny_Slice (bt (hl pins s1 σ H1 _ I1 q1) fun vl s2 h0_ => el5 h0_ fun l H2 I2 pl q2 =>bt (hu pins s2 σ H2 _ I2 q2) fun vu s3 h0_ => el5 h0_ fun u H3 I3 pu q3 => ?_)
 rw[evalPart_none]
 refine uq ?_
 have I4:Inv X pins σ H3 { s3 with heap:=s3.heap.push { cls := .type "slice",data := .fields #[vl,vu,.none] } }:=I3.kept (t':=s3.toks) fun b ob q=>qJ _ q
 obtain⟨T,id,hT,ht,hg⟩:=hr pins { s3 with heap:=s3.heap.push { cls := .type "slice",data := .fields #[vl,vu,.none] } } σ H3 x v vl vu l u s3.heap.objs.size Q I4 r1 (ZW ..) pl pu q3
 show wpAny (model X.prog X.w) X.A (subscriptTail e (.Slice lo hi none p2) v (.ref s3.heap.objs.size)) (EP X pins σ Q) X.xe { s3 with heap:=s3.heap.push { cls := .type "slice",data := .fields #[vl,vu,.none] } }
 exact tail_any (ops:=[.ref s3.heap.objs.size,v]) ht hT hg (by with_unfolding_all rfl)
noncomputable def df (xs:List V) (lo hi:Option Int):List V:=(xs.drop (HT.bj xs.length 0 lo)).take (HT.bj xs.length xs.length hi - HT.bj xs.length 0 lo)
theorem EJ (xs:List V) (lo hi:Option Int):(df xs lo hi).length <= xs.length:=by
 unfold df
 rw[WW,Xz]
 omega
noncomputable def zI (K:PySem.W.Frag):V->Option Int->Option Int->Hp->VK->Prop:=fun x lo hi H Q=>∃ a xs,x = .ref a/\bT K H a xs ∧
 ¬ (HT.bj xs.length 0 lo=0/\HT.bj xs.length xs.length hi=xs.length)/\∀ p,H p=none->Q (.ref p) (upd H p (.tup (df xs lo hi)))
theorem LY:nJ X (zI X.K):=by
 intro pins s σ H x v vl vu lo hi sl Q I rx hs pl pu h
 obtain⟨a,xs,rfl,hx,hw,q⟩:=h
 cases rx
 obtain⟨ag,r,ht,hz⟩:=I.tuple hx
 have hlen:ag.toArray.size=xs.length:=by rw[wU];exact r.length.symm
 refine⟨"tuple",_,W0.lookup,ht.typeIs,?_⟩
 refine HT.LS ht hs pl pu (by rw[hlen];exact hw) ?_ (by rw[hlen];exact hz)
 rw[hlen]
 refine⟨.ref s.heap.objs.size,_,I.laid (t':=s.toks) (o := .tup (df xs lo hi)) (fun b ob q=>qJ _ q) (wV _) ?_,rfl,q _ (I.aO.fresh (wV _))⟩
 exact⟨W7 (EJ xs lo hi) hz,_,(r.drop (HT.bj xs.length 0 lo)).take (HT.bj xs.length xs.length hi - HT.bj xs.length 0 lo),IsTup.new _ _⟩
noncomputable def zJ (K:PySem.W.Frag):R2:=fun x y H Q=>∃ a b ns ms,x = .ref a/\y = .ref b/\bT K H a (ns.map V.int)/\bT K H b (ms.map V.int)/\Q (.bl (HT.lexLt ns ms)) H
theorem LZ (hu:X.A.units < cLine):c_ X (compareOp .Lt) (zJ X.K):=by
 intro pins s σ H x y v u Q I rx ry h
 obtain⟨a,b,ns,ms,rfl,rfl,ha,hb,q⟩:=h
 cases rx
 cases ry
 obtain⟨ag,r1,p1,_⟩:=I.tuple ha
 obtain⟨bc,r2,p2,_⟩:=I.tuple hb
 have i1:IntsAre ag.toArray.toList ns:=intsAre_of r1
 have i2:IntsAre bc.toArray.toList ms:=intsAre_of r2
 exact HT.EE p1 p2 i1 i2 hu ⟨.bl (HT.lexLt ns ms),H,I,rfl,q⟩
noncomputable def L3 (K:PySem.W.Frag):R2:=fun x y H Q=>∃ a b xs ys,x = .ref a/\y = .ref b/\bT K H a xs/\bT K H b ys/\xs≠[]/\xs.length + ys.length <= sizeLine ∧
 (ys=[]->Q (.ref a) H)/\(ys≠[]->∀ p,H p=none->Q (.ref p) (upd H p (.tup (xs ++ ys))))
theorem Vals.fX {xs:List V} {us:List Value} (r:Vals xs us):us=[]↔xs=[]:=by
 cases r with
 | nil=>simp
 | cons _ _=>simp
theorem L4:c_ X (binaryOp .Add) (L3 X.K):=by
 intro pins s σ H x y v u Q I rx ry h
 obtain⟨a,b,xs,ys,rfl,rfl,ha,hb,hx,hz,q1,q2⟩:=h
 cases rx
 cases ry
 obtain⟨ag,r1,p1,_⟩:=I.tuple ha
 obtain⟨bc,r2,p2,_⟩:=I.tuple hb
 refine HT.LM p1 p2 (fun z=>hx (r1.fX.mp z)) (fun z=>⟨.ref a,H,I,rfl,q1 (r2.fX.mp z)⟩) (fun z => ?_) (by rw[<-r1.length,<-r2.length];exact hz)
 refine⟨.ref s.heap.objs.size,_,I.laid (t':=s.toks) (o := .tup (xs ++ ys)) (fun b ob q=>qJ _ q) (wV _) ?_,rfl,q2 (fun w=>z (r2.fX.mpr w)) _ (I.aO.fresh (wV _))⟩
 exact⟨by rw[Mm];exact hz,_,r1.append r2,IsTup.new _ _⟩
end
noncomputable def kn (n:Nat) (i:Int):Option Nat:=if 0 <= i then (if i < n then some i.toNat else none) else if -(n:Int) <= i then some (i + n).toNat else none
noncomputable def fY {α : Type} (xs:List α) (i:Int):Option α := (kn xs.length i).bind fun j=>xs[j]?
theorem EK {n:Nat} {i:Int} {j:Nat} (h:kn n i=some j):seqIndex? i n=some j/\j < n /\ -(n:Int) <= i/\i < n:=by
 unfold kn at h
 by_cases h0:0 <= i
 ·rw[VZ h0] at h
  by_cases h1:i < n
  ·rw[VZ h1] at h
   have e:i.toNat=j:=WR h
   exact⟨by rw[seqIndex_of h0 h1,e],by omega,by omega,h1⟩
  ·rw[My h1] at h;cases h
 ·rw[My h0] at h
  by_cases h1 : -(n:Int) <= i
  ·rw[VZ h1] at h
   have e:(i + n).toNat=j:=WR h
   exact⟨by rw[seqIndex_neg (by omega) h1,e],by omega,h1,by omega⟩
  ·rw[My h1] at h;cases h
theorem zK {α : Type} {xs:List α} {i:Int} {v : α} (h:fY xs i=some v):∃ j,seqIndex? i xs.length=some j/\xs[j]? = some v/\j < xs.length /\ -(xs.length:Int) <= i/\i < xs.length:=by
 unfold fY at h
 cases e:kn xs.length i with
 | none=>rw[e] at h;cases h
 | some j =>
  rw[e] at h
  obtain⟨h1,h2,h3,h4⟩:=EK e
  exact⟨j,h1,h,h2,h3,h4⟩
theorem mH {α : Type} {xs:List α} {j:Nat} {v : α} (h:xs[j]? = some v):fY xs (j:Int)=some v:=by
 have hj:j < xs.length:=(qK.mp h).1
 have e:kn xs.length (j:Int)=some j:=by
  unfold kn
  rw[VZ (by omega),VZ (by omega)];simp
 unfold fY;rw[e];exact h
noncomputable def zL (b:Expr):Prop:=∀ o i,subscripted b false o i=operate [o,i] (getItem o i)
noncomputable def sD (X:Cx) (r:R2):Prop :=
 ∀ (value slice:Expr) (pins:List (Addr × Obj)) (s:Shared) (σ : St) (H:Hp) (x y:V) (v u:Value) (Q:VK),Inv X pins σ H s->RelV x v->RelV y u->r x y H Q →
  subscripted slice false v u=operate [v,u] (getItem v u)->wpAny (model X.prog X.w) X.A (subscriptTail value slice v u) (EP X pins σ Q) X.xe s
noncomputable def zM (X:Cx) (id:String) (r:V->List V->Hp->VK->Prop):Prop :=
 ∀ (pins:List (Addr × Obj)) (s:Shared) (σ : St) (H:Hp) (x:V) (xs:List V) (v:Value) (us:List Value) (Q:VK),Inv X pins σ H s->RelV x v->Vals xs us->r x xs H Q →
  wpAny (model X.prog X.w) X.A (call (.builtin id) (v :: us)) (EP X pins σ Q) X.xe s
section
variable {X:Cx} {a b:Expr} {ta tb:TE} {pos:Pos}
theorem L5 {r:R2} (hr:sD X r) (ha:PE X a ta) (hb:PE X b tb) (hs:zL b):PE X (.Subscript a b pos) (nv r ta tb):=by
 intro pins s σ H Q I h
 exact Subscript_ (qv ha hb I h fun v u s2 x y H2 I2 rx ry q=>hr a b pins s2 σ H2 x y v u Q I2 rx ry q (hs _ _))
noncomputable def zN (K:PySem.W.Frag):R2:=fun x y H Q=>∃ p xs i v,x = .ref p/\y = .int i/\bo K H p xs/\fY xs i=some v/\Q v H
noncomputable def zO (K:PySem.W.Frag):R2:=fun x y H Q=>∃ p xs i v,x = .ref p/\y = .int i/\bT K H p xs/\fY xs i=some v/\Q v H
noncomputable def zP:R2:=fun x y H Q=>∃ z i c,x = .str z/\y = .int i/\z.length <= sizeLine/\fY z.cps.toList i=some c/\Q (.str ⟨#[c]⟩) H
theorem wN:sD X (zN X.K):=by
 intro value slice pins s σ H x y v u Q I rx ry h hs
 obtain⟨p,xs,i,z,rfl,rfl,hq,he,q⟩:=h
 cases rx
 obtain⟨t,rfl⟩:=ry
 obtain⟨ag,r,pl,hz⟩:=I.list hq
 obtain⟨j,h1,h2,h3,h4,h5⟩:=zK he
 obtain⟨w,ew,um⟩:=r.get h2
 have hl:=r.length
 have hn:=qw
 have fin:EP X pins σ Q w s:=⟨z,H,I,um,q⟩
 by_cases h0:0 <= i
 ·have hj:i.toNat=j:=by
   rw[seqIndex_of h0 h5] at h1
   exact WR h1
  exact item_listR pl.isList h0 (by omega) (by rw[hj];simpa using ew) fin hs
 ·have hj:(i + (ag.toArray.size:Int)).toNat=j:=by
   rw[seqIndex_neg (by omega) h4] at h1
   rw[wU,<-hl]
   exact WR h1
  exact subscriptTail_builtinR (x:=w) pl.isList.typeIs Z4.lookup
   (wpAny_getItem_list_neg (Q:=fun r s'=>r=w/\EP X pins σ Q r s') pl.isList (by omega) (by rw[wU]<;>omega) (by omega) (by rw[hj];simpa using ew) ⟨rfl,fin⟩) hs
theorem L6:sD X (zO X.K):=by
 intro value slice pins s σ H x y v u Q I rx ry h hs
 obtain⟨p,xs,i,z,rfl,rfl,hq,he,q⟩:=h
 cases rx
 obtain⟨t,rfl⟩:=ry
 obtain⟨ag,r,pl,hz⟩:=I.tuple hq
 obtain⟨j,h1,h2,h3,h4,h5⟩:=zK he
 obtain⟨w,ew,um⟩:=r.get h2
 have hl:=r.length
 have hn:=qw
 have fin:EP X pins σ Q w s:=⟨z,H,I,um,q⟩
 exact subscriptTail_builtinR (x:=w) pl.typeIs slot_tuple_getitem.lookup
  (getItem_tuple (j:=j) (Q:=fun r s'=>r=w/\EP X pins σ Q r s') pl (by omega) (by omega) (by rw[wU,<-hl];exact h1) (by simpa using ew) ⟨rfl,fin⟩) hs
theorem L7:sD X zP:=by
 intro value slice pins s σ H x y v u Q I rx ry h hs
 obtain⟨z,i,c,rfl,rfl,hz,he,q⟩:=h
 obtain⟨t,rfl⟩:=rx
 obtain⟨t',rfl⟩:=ry
 obtain⟨j,h1,h2,h3,h4,h5⟩:=zK he
 have hl:z.cps.toList.length=z.length:=by simp[Str.length]
 rw[hl] at h1 h4 h5
 have hn:=qw
 exact tail_any (typeIs_str s z t) slot_str_getitem.lookup (getItem_str (c:=c) (by
  have e1:decide (i < -(2 ^ 63:Int))=false:=WZ (by omega)
  have e2:decide (i ≥ 2 ^ 63)=false:=WZ (by omega)
  rw[e1,e2,Bool.or_false]) (by rw[h1];simpa using h2) ⟨.str ⟨#[c]⟩,H,I.tok _,⟨_,rfl⟩,q⟩) hs
theorem L8 (ag:List Value) (n j:Nat) (u:Value):Obj.mapSeq (·.setIfInBounds j u) { cls := .type "list",data := .seq ag.toArray n }={ cls := .type "list",data := .seq (ag.set j u).toArray n }:=by
 simp[Obj.mapSeq]
theorem Inv.lst {pins:List (Addr × Obj)} {σ : St} {H:Hp} {s:Shared} {p:Addr} {xs:List V} (I:Inv X pins σ H s) (h:H p=some (.lst xs)) :
  ∃ (ag:List Value) (n:Nat),Vals xs ag/\s.heap.get? p=some { cls := .type "list",data := .seq ag.toArray n }/\xs.length <= sizeLine:=by
 obtain⟨z,ag,n,r,e⟩:=I.aO p _ h
 exact⟨ag,n,r,e,z⟩
theorem Inv.qD {pins:List (Addr × Obj)} {σ : St} {H:Hp} {s:Shared} {p:Addr} {xs ys:List V} {ag its':List Value} {n n':Nat} {f:Obj->Obj} (I:Inv X pins σ H s) (h:H p=some (.lst xs))
  (ho:s.heap.get? p=some { cls := .type "list",data := .seq ag.toArray n }) (hf:f { cls := .type "list",data := .seq ag.toArray n }={ cls := .type "list",data := .seq its'.toArray n' }) (r:Vals ys its') (hz:ys.length <= sizeLine) (t:Nat) :
  Inv X pins σ (upd H p (.lst ys)) { s with heap:=s.heap.update p f,toks:=t }:=by
 have e:(s.heap.update p f).get? p=some { cls := .type "list",data := .seq its'.toArray n' }:=by
  rw[XR f ho (by rw[hf]<;>rfl),hf]
 refine I.write (x:=p) (e:=p) (by rw[h];trivial) (.inl rfl) (fun b u hb q=>(X1 _ _ (Yg hb)).trans q) ⟨_,e⟩ ?_
 exact⟨hz,its',n',r,e⟩
noncomputable def EL:V->V->V->Hp->(Hp->Prop)->Prop:=fun o i v H Q=>∃ p xs k j,o = .ref p/\i = .int k/\H p=some (.lst xs)/\kn xs.length k=some j/\Q (upd H p (.lst (xs.set j v)))
theorem set_list:qq X EL:=by
 intro pins s σ H o i v ov iv u Q I ro ri rv h
 obtain⟨p,xs,k,j,rfl,rfl,hp,hj,q⟩:=h
 cases ro
 obtain⟨t,rfl⟩:=ri
 obtain⟨ag,n,r,ho,hz⟩:=I.lst hp
 obtain⟨h1,h2,h3,h4⟩:=EK hj
 have hl:=r.length
 have hn:=qw
 have I':Inv X pins σ (upd H p (.lst (xs.set j v))) { s with heap:=s.heap.update p (Obj.mapSeq (·.setIfInBounds j u)) } :=
  I.qD hp ho (L8 ag n j u) (r.set rv j) (by rw[XT];exact hz) s.toks
 by_cases h0:0 <= k
 ·have hk:k.toNat=j:=by
   rw[seqIndex_of h0 h4] at h1
   exact WR h1
  exact PySem.W.ki_setAt ho h0 (by omega) (by rw[wU,<-hl];exact h4) (by rw[hk];exact⟨_,I',q⟩)
 ·have hk:(k + (ag.toArray.size:Int)).toNat=j:=by
   rw[seqIndex_neg (by omega) h3] at h1
   rw[wU,<-hl]
   exact WR h1
  exact PySem.W.ki_setBack ho (by omega) (by rw[wU,<-hl];exact h3) (by omega) (by rw[hk];exact⟨_,I',q⟩)
theorem L9 (lo hi:Option Int) (n:Nat):(sliceBounds lo hi none n).1=((HT.bj n 0 lo:Nat):Int)/\(sliceBounds lo hi none n).2.1=((HT.bj n n hi:Nat):Int)/\(sliceBounds lo hi none n).2.2=1:=by
 refine⟨?_,?_,rfl⟩
 ·cases lo with
  | none=>simp[sliceBounds,HT.bj]
  | some i =>
   simp only[sliceBounds,HT.bj,Zp,show (1:Int) > 0 by decide,Yf]
   by_cases h:i < 0
   ·simp only[h,Yf]<;>omega
   ·simp only[h,Xc]<;>omega
 ·cases hi with
  | none=>simp[sliceBounds,HT.bj]
  | some i =>
   simp only[sliceBounds,HT.bj,Zp,show (1:Int) > 0 by decide,Yf]
   by_cases h:i < 0
   ·simp only[h,Yf]<;>omega
   ·simp only[h,Xc]<;>omega
theorem L_ (ag:List Value) (lo hi:Option Int):slicePick ag.toArray lo hi none=((ag.drop (HT.bj ag.length 0 lo)).take (HT.bj ag.length ag.length hi - HT.bj ag.length 0 lo)).toArray:=by
 obtain⟨h1,h2,h3⟩:=L9 lo hi ag.toArray.size
 unfold slicePick
 rw[h1,h2,h3]
 simp only[sliceRange_one,pick_run,wU]<;>rfl
noncomputable def zQ (K:PySem.W.Frag):V->Option Int->Option Int->Hp->VK->Prop:=fun x lo hi H Q=>∃ a xs,x = .ref a/\bo K H a xs/\∀ p,H p=none->Q (.ref p) (upd H p (.lst (df xs lo hi)))
theorem iu:nJ X (zQ X.K):=by
 intro pins s σ H x v vl vu lo hi sl Q I rx hs pl pu h
 obtain⟨a,xs,rfl,hx,q⟩:=h
 cases rx
 obtain⟨ag,r,ht,hz⟩:=I.list hx
 have hlen:=r.length
 refine⟨"list",_,Z4.lookup,ht.isList.typeIs,?_⟩
 refine wpAny_getItem_list_slice ht.isList hs pl pu .none (by simp) ?_ (by rw[wU]<;>omega)
 rw[L_,<-hlen]
 refine⟨.ref s.heap.objs.size,_,I.laid (t':=s.toks) (o := .lst (df xs lo hi)) (fun b ob q=>qJ _ q) (wV _) ?_,rfl,q _ (I.aO.fresh (wV _))⟩
 exact⟨W7 (EJ xs lo hi) hz,_,0,(r.drop (HT.bj xs.length 0 lo)).take (HT.bj xs.length xs.length hi - HT.bj xs.length 0 lo),VW _ rfl⟩
noncomputable def kP:V->Bool
 | .non=>true
 | .bl _=>true
 | .int _=>true
 | .str _=>true
 | _=>false
noncomputable def g9:V->V->Bool
 | .non,.non=>true
 | .bl a,.bl b=>a == b
 | .bl a,.int b=>(if a then 1 else 0) == b
 | .int a,.bl b=>a == (if b then 1 else 0)
 | .int a,.int b=>a == b
 | .str a,.str b=>a == b
 | _,_=>false
theorem Ma {A:Around} {s:Shared} {y x:V} {u v:Value} (ry:RelV y u) (rx:RelV x v) (fy:kP y=true) (fx:kP x=true):SeqAt.EqAt A s u v (g9 y x):=by
 cases y with
 | non =>
  cases ry
  cases x with
  | non=>cases rx;exact ZE _
  | bl b=>cases rx;exact SeqAt.EqAt.none_bool b
  | int b=>obtain⟨t,rfl⟩:=rx;exact SeqAt.EqAt.none_int b t
  | str b=>obtain⟨t,rfl⟩:=rx;exact SeqAt.EqAt.none_str b t
  | _=>exact absurd (show false=true from fx) EY
 | bl a =>
  cases ry
  cases x with
  | non=>cases rx;exact SeqAt.EqAt.bool_none a
  | bl b=>cases rx;exact SeqAt.EqAt.bool_bool a b
  | int b=>obtain⟨t,rfl⟩:=rx;exact SeqAt.EqAt.bool_int a b t
  | str b=>obtain⟨t,rfl⟩:=rx;exact SeqAt.EqAt.bool_str a b t
  | _=>exact absurd (show false=true from fx) EY
 | int a =>
  obtain⟨t',rfl⟩:=ry
  cases x with
  | non=>cases rx;exact SeqAt.EqAt.int_none a t'
  | bl b=>cases rx;exact SeqAt.EqAt.int_bool a t' b
  | int b=>obtain⟨t,rfl⟩:=rx;exact ZU a t' b t
  | str b=>obtain⟨t,rfl⟩:=rx;exact ZR a t' b t
  | _=>exact absurd (show false=true from fx) EY
 | str a =>
  obtain⟨t',rfl⟩:=ry
  cases x with
  | non=>cases rx;exact SeqAt.EqAt.str_none a t'
  | bl b=>cases rx;exact SeqAt.EqAt.str_bool a t' b
  | int b=>obtain⟨t,rfl⟩:=rx;exact ZS a t' b t
  | str b=>obtain⟨t,rfl⟩:=rx;exact SeqAt.EqAt.str_str a t' b t
  | _=>exact absurd (show false=true from fx) EY
 | _=>exact absurd (show false=true from fy) EY
noncomputable def o9 (x:V) (u:Value):Bool:=match u with
 | .none=>g9 .non x
 | .bool b=>g9 (.bl b) x
 | .int i _=>g9 (.int i) x
 | .str z _=>g9 (.str z) x
 | _=>false
theorem zR {x y:V} {u:Value} (r:RelV y u) (f:kP y=true):o9 x u=g9 y x:=by
 cases y with
 | non=>cases r;rfl
 | bl b=>cases r;rfl
 | int i=>obtain⟨t,rfl⟩:=r;rfl
 | str z=>obtain⟨t,rfl⟩:=r;rfl
 | _=>exact absurd (show false=true from f) EY
theorem zS {A:Around} {s:Shared} {x:V} {v:Value} (rx:RelV x v) (fx:kP x=true):∀ {xs:List V} {us:List Value},Vals xs us->xs.all kP=true->∀ u∈us,SeqAt.EqAt A s u v (o9 x u)
 | _,_,.nil,_=>fun u hu=>by cases hu
 | y :: xs,u :: us,.cons r t,f=>fun u' hu=>by
  rw[Z9,VY] at f
  rcases EZ.mp hu with rfl | hu
  ·rw[zR r f.1];exact Ma r rx f.1 fx
  ·exact zS rx fx t f.2 u' hu
theorem EM:jm X (.builtin "len") (fun xs H Q=>∃ p ys,xs=[.ref p]/\(bo X.K H p ys\/bT X.K H p ys)/\Q (.int ys.length) H):=by
 intro pins s σ H xs us Q I r h
 obtain⟨p,ys,rfl,hq,q⟩:=h
 obtain⟨u,rfl,rx⟩:=vals1 r
 cases rx
 have hn:=qw
 rcases hq with hq | hq
 ·obtain⟨ag,r',pl,hz⟩:=I.list hq
  have hlen:=r'.length
  exact Calls.call_len_list pl.isList (by simp only[wU]<;>omega) ⟨.int ys.length,H,I.tok _,⟨s.toks + 1,by rw[wU,hlen]⟩,q⟩
 ·obtain⟨ag,r',pl,hz⟩:=I.tuple hq
  have hlen:=r'.length
  exact len_tuple pl (by simp only[wU]<;>omega) ⟨.int ys.length,H,I.tok _,⟨s.toks + 1,by rw[wU,hlen]⟩,q⟩
theorem Mb:jm X (.builtin "len") (fun xs H Q=>∃ z,xs=[.str z]/\z.length <= sizeLine/\Q (.int z.length) H):=by
 intro pins s σ H xs us Q I r h
 obtain⟨z,rfl,hz,q⟩:=h
 obtain⟨u,rfl,t,rfl⟩:=vals1 r
 have hn:=qw
 exact len_str (by omega) ⟨.int z.length,H,I.tok _,⟨_,rfl⟩,q⟩
theorem zT:jm X (.type "list") (fun xs H Q=>∃ p ys,xs=[.ref p]/\(bo X.K H p ys\/bT X.K H p ys)/\∀ l,H l=none->Q (.ref l) (upd H l (.lst ys))):=by
 intro pins s σ H xs us Q I r h
 obtain⟨p,ys,rfl,hq,q⟩:=h
 obtain⟨u,rfl,rx⟩:=vals1 r
 cases rx
 have fin:∀ (ag:List Value),Vals ys ag->ys.length <= sizeLine->∀ (h':Heap) (c':Nat),(∀ b o',s.heap.get? b=some o'->h'.get? b=some o') →
   h'.get? s.heap.objs.size=some { cls := .type "list",dict:=none,data := .seq ag.toArray c',slots := #[] }->EP X pins σ Q (.ref s.heap.objs.size) { s with heap:=h' }:=fun ag r' hz h' c' kp e =>
  ⟨.ref s.heap.objs.size,_,I.laid (t':=s.toks) kp (wV _) (show aN X.prog X.w _ h' _ (.lst ys) from ⟨hz,ag,c',r',e⟩),rfl,q _ (I.aO.fresh (wV _))⟩
 rcases hq with hq | hq
 ·obtain⟨ag,r',pl,hz⟩:=I.list hq
  have hlen:=r'.length
  obtain⟨o,ho,hc,n,hd⟩:=pl.isList
  exact call_list_seq p (.inl rfl) ho hc hd (fun h' c' kp e=>fin ag r' hz h' c' kp e) (by simp only[wU]<;>omega)
 ·obtain⟨ag,r',pl,hz⟩:=I.tuple hq
  have hlen:=r'.length
  obtain⟨o,ho,hc,n,hd⟩:=pl
  exact call_list_seq p (.inr rfl) ho hc hd (fun h' c' kp e=>fin ag r' hz h' c' kp e) (by simp only[wU]<;>omega)
theorem wO:jm X (.type "tuple") (fun xs H Q=>∃ p ys,xs=[.ref p]/\((bo X.K H p ys/\∀ l,H l=none->Q (.ref l) (upd H l (.tup ys)))\/(bT X.K H p ys/\Q (.ref p) H))):=by
 intro pins s σ H xs us Q I r h
 obtain⟨p,ys,rfl,h⟩:=h
 obtain⟨u,rfl,rx⟩:=vals1 r
 cases rx
 rcases h with⟨hq,q⟩ | ⟨hq,q⟩
 ·obtain⟨ag,r',pl,hz⟩:=I.list hq
  have hlen:=r'.length
  refine call_tuple_list pl.isList (fun h' kp => ?_) (by simp only[wU]<;>omega)
  have I1:Inv X pins σ H { s with heap:=h' }:=I.kept (t':=s.toks) kp
  have I2:Inv X pins σ (upd H h'.objs.size (.tup ys)) { s with heap:=h'.push { cls := .type "tuple",data := .seq ag.toArray } } :=
   I1.laid (t':=s.toks) (fun b o e=>qJ _ e) (wV _) (show aN X.prog X.w _ _ _ (.tup ys) from ⟨hz,ag,r',IsTup.new _ _⟩)
  exact⟨.ref h'.objs.size,_,I2,rfl,q _ (I1.aO.fresh (wV _))⟩
 ·obtain⟨ag,r',pl,hz⟩:=I.tuple hq
  exact call_tuple_same pl ⟨.ref p,H,I,rfl,q⟩
noncomputable def EN (K:PySem.W.Frag) (T:String) (x:V) (H:Hp):Prop:=match x with
 | .str _=>T = "str"
 | .int _=>T = "int"
 | .ref p=>(T = "list" /\ ∃ xs,bo K H p xs)\/(T = "tuple" /\ ∃ o,K.lookup p=some o/\o.cls = .type "tuple" /\ o.dict=none) ∨
   (T = "dict" /\ ((∃ bx,H p=some (.dK bx))\/∃ bx,H p=some (.dT bx)))\/(T = "set" /\ ∃ S n,H p=some (.set S n))
 | _=>False
theorem Mc {pins:List (Addr × Obj)} {σ : St} {H:Hp} {s:Shared} {T:String} {x:V} {v:Value} (I:Inv X pins σ H s) (r:RelV x v) (ty:EN X.K T x H) :
  s.TypeIs v T/\∀ a,v = .ref a->∃ ob,s.heap.get? a=some ob/\ob.dict=none:=by
 cases x with
 | str z =>
  obtain⟨t,rfl⟩:=r
  cases (show T = "str" from ty)
  exact⟨typeIs_str s z t,fun _ e=>nomatch e⟩
 | int i =>
  obtain⟨t,rfl⟩:=r
  cases (show T = "int" from ty)
  exact⟨typeIs_int s i t,fun _ e=>nomatch e⟩
 | ref p =>
  cases r
  rcases ty with⟨rfl,xs,hq⟩ | ⟨rfl,o,hk,hc,hd⟩ | ⟨rfl,hk⟩ | ⟨rfl,S,n,hk⟩
  ·obtain⟨ag,_,pl,_⟩:=I.list hq
   refine⟨pl.isList.typeIs,fun a e => ?_⟩
   cases e
   obtain⟨o,n,e,c,hd,_⟩:=pl
   exact⟨o,e,hd⟩
  ·refine⟨⟨o,I.fJ p o hk,hc⟩,fun a e => ?_⟩
   cases e
   exact⟨o,I.fJ _ o hk,hd⟩
  ·have z:∃ o,s.heap.get? p=some o/\o.ExactDict:=by
    rcases hk with⟨bx,hk⟩ | ⟨bx,hk⟩
    ·obtain⟨_,_,_,_,o,_,_,e,ex,_⟩:=I.aO p _ hk
     exact⟨o,e,ex⟩
    ·obtain⟨_,_,_,_,o,_,_,e,ex,_⟩:=I.aO p _ hk
     exact⟨o,e,ex⟩
   obtain⟨o,e,ex⟩:=z
   refine⟨⟨o,e,ex.1⟩,fun a e2 => ?_⟩
   cases e2
   exact⟨o,e,ex.2.1⟩
  ·obtain⟨o,_,_,_,e,ex,_⟩:=I.aO p _ hk
   refine⟨⟨o,e,ex.1⟩,fun a e2 => ?_⟩
   cases e2
   exact⟨o,e,ex.2.1⟩
 | _=>exact False.elim ty
noncomputable def uo (K:PySem.W.Frag) (T:String) (r:V->List V->Hp->VK->Prop) (to:TE) (t:TA):TE:=fun σ H Q=>to σ H fun x H1=>EN K T x H1/\t σ H1 fun xs H2=>r x xs H2 Q
variable {o e:Expr} {es:List Expr} {to:TE} {t:TA} {name:Str} {apos eF:Pos} {T id:String} {r:V->List V->Hp->VK->Prop}
theorem Md (pa:PlainAttrs T) (slot:Slot T name id) (zU:typeOf (.builtin id)=pure (.type "method_descriptor")) (hm:zM X id r) (ho:PE X o to) (ha:PA X (e :: es) t)
  (lz:attributeBase o name X.env (eval o X.env)=eval o X.env:=by rfl)
  (qE:((backTo eF (starEach (e :: es) X.env)).all (fun x => !x.1) && (backToKw eF (keywordEach [] X.env)).all (fun x=>x.1.isSome)
   && decide ((e :: es).length + ([]:List Keyword).length + (if ([]:List Keyword).isEmpty then 0 else 1) < 30))=true:=by rfl)
  (lA:(apos.endLine == eF.line)=true:=by rfl) (hs:starEach (e :: es) X.env=(false,eval e X.env) :: starEach es X.env:=by rfl) (jG:(backTo eF (starEach es X.env)).any (·.1)=false:=by rfl) :
  PE X (.Call (.Attribute o name apos) (e :: es) [] eF) (uo X.K T r to t):=by
 intro pins s σ H Q I h
 refine wpAny_Call_method_late lz qE lA rfl (bt (ho pins s σ H _ I h) fun v s1 ⟨x,H1,I1,r1,ty,q1⟩ => ?_)
 obtain⟨h1,h2⟩:=Mc I1 r1 ty
 refine⟨T,id,pa,slot,zU,h1,h2,?_⟩
 have hA:=ha eF pins s1 σ H1 _ I1 q1
 rw[hs] at hA ⊢
 refine Calls.callWith_builtin (by show (false || (backTo eF (starEach es X.env)).any (·.1))=false;rw[jG]<;>rfl) (Calls.evalArgs_plain ?_)
 exact bt hA fun us s2 h0_ => el5 h0_ fun vs H2 I2 r2 q2 =>hm pins s2 σ H2 x vs v us Q I2 r1 r2 q2
end
noncomputable def ur (X:Cx) (id:String) (r:V->List V->Hp->VK->Prop):Prop :=
 ∀ (pins:List (Addr × Obj)) (s:Shared) (σ : St) (H:Hp) (x:V) (xs:List V) (v:Value) (us:List Value) (Q:VK),Inv X pins σ H s->RelV x v->Vals xs us->r x xs H Q →
  wpAny (model X.prog X.w) X.A (call (.builtin id) (v :: us)) (EP X pins σ Q) X.xe s
theorem Vals.one:∀ {x:V} {us:List Value},Vals [x] us->∃ u,us=[u]/\RelV x u:=by
 intro x us h
 cases h with
 | cons r h=>cases h;exact⟨_,rfl,r⟩
theorem Vals.two:∀ {x y:V} {us:List Value},Vals [x,y] us->∃ u v,us=[u,v]/\RelV x u/\RelV y v:=by
 intro x y us h
 cases h with
 | cons r h =>
  obtain⟨v,rfl,q⟩:=Vals.one h
  exact⟨_,_,rfl,r,q⟩
theorem Vals.eraseIdx:∀ {xs:List V} {us:List Value} (i:Nat),Vals xs us->Vals (xs.eraseIdx i) (us.eraseIdx i)
 | _,_,_,.nil => .nil
 | _,_,0,.cons _ t=>t
 | _,_,i + 1,.cons r t => .cons r (Vals.eraseIdx i t)
theorem Vals.rep {xs:List V} {us:List Value} (h:Vals xs us):∀ k:Nat,Vals (List.replicate k xs).flatten (List.replicate k us).flatten
 | 0 => .nil
 | k + 1=>by
  rw[XD,XD,Ys,Ys]
  exact Vals.append h (Vals.rep h k)
theorem EO {α : Type}:∀ (l:List α) (i:Nat),(l.eraseIdx i).length <= l.length
 | [],_=>wV _
 | _ :: _,0=>Nat.le_succ _
 | _ :: r,i + 1=>Nat.succ_le_succ (EO r i)
theorem foldl_rep (ag:List Value):∀ (k:Nat) (acc:List Value),
  List.foldl (fun x1 x2=>x1 ++ x2) acc.toArray (List.replicate k ag.toArray)=(acc ++ (List.replicate k ag).flatten).toArray
 | 0,acc=>by simp
 | k + 1,acc=>by
  have e:acc.toArray ++ ag.toArray=(acc ++ ag).toArray:=by simp
  have e2:(acc ++ ag) ++ (List.replicate k ag).flatten=acc ++ (List.replicate (k + 1) ag).flatten:=by
   rw[XD,Ys,YH]
  rw[<-e2,<-foldl_rep ag k (acc ++ ag),<-e,XD,q0v]
section
variable {X:Cx} {pins:List (Addr × Obj)} {σ : St} {H:Hp} {s:Shared} {l b:Addr} {xs ys zs:List V}
theorem Inv.qF {ag its':List Value} {n:Nat} {f:Array Value->Array Value} {t':Nat} (I:Inv X pins σ H s) (hH:H l=some (.lst xs))
  (e:s.heap.get? l=some { cls := .type "list",data := .seq ag.toArray n }) (hf:f ag.toArray=its'.toArray) (hv:Vals ys its') (hz:ys.length <= sizeLine) :
  Inv X pins σ (upd H l (.lst ys)) { s with heap:=s.heap.update l (Obj.mapSeq f),toks:=t' }:=by
 have q:=PySem.IsL.update e f
 rw[hf] at q
 refine I.write (x:=l) (e:=l) (by rw[hH];exact trivial) (.inl rfl) (fun b' u hb hu=>(X1 s.heap (Obj.mapSeq f) (Yg hb)).trans hu) ⟨_,q⟩ ?_
 exact⟨hz,its',_,hv,q⟩
theorem Inv.cB {ag:List Value} {t':Nat} (I:Inv X pins σ H s) (hv:Vals ys ag) (hz:ys.length <= sizeLine) :
  Inv X pins σ (upd H s.heap.objs.size (.lst ys)) { s with heap:=s.heap.push { cls := .type "list",data := .seq ag.toArray },toks:=t' } :=
 I.laid (fun _ _ q=>qJ _ q) (wV _) ⟨hz,ag,0,hv,VW _ rfl⟩
theorem Inv.fresh (I:Inv X pins σ H s):H s.heap.objs.size=none:=I.aO.fresh (wV _)
theorem Inv.jH (I:Inv X pins σ H s) (hH:H l=some (.lst xs)):xs.length <= sizeLine/\∃ (ag:List Value) (n:Nat),Vals xs ag/\xs.length=ag.length/\s.heap.get? l=some { cls := .type "list",data := .seq ag.toArray n }:=by
 obtain⟨z,ag,n,r,e⟩:=I.aO l _ hH
 exact⟨z,ag,n,r,r.length,e⟩
theorem ER {n:Nat} (h:n <= sizeLine):Builtin.List.listTooLong n=false:=by
 unfold Builtin.List.listTooLong
 exact WZ (by omega)
end
section
variable {X:Cx}
noncomputable def ES:V->List V->Hp->VK->Prop:=fun x vs H Q=>∃ l xs y,x = .ref l/\vs=[y]/\H l=some (.lst xs)/\xs.length < sizeLine/\Q .non (upd H l (.lst (xs ++ [y])))
theorem wQ:ur X "list.append" ES:=by
 intro pins s σ H x vs v us Q I rx rv h
 obtain⟨l,xs,y,rfl,rfl,hH,hz,q⟩:=h
 cases rx
 obtain⟨u,rfl,ru⟩:=rv.one
 obtain⟨z,ag,n,r,hl,e⟩:=I.jH hH
 refine Zq F.slot_list_append ⟨_,e,rfl⟩ F.entry_list_append (F.args_list_append_2 _ _) (PySem.list_append l ag.toArray n u (by rw[wU];omega)) ⟨e,?_⟩
 refine⟨.non,_,I.qF (its':=ag ++ [u]) hH e (by simp) (r.append (.cons ru .nil)) ?_,rfl,q⟩
 rw[Mm,W_]
 omega
noncomputable def ET:V->List V->Hp->VK->Prop:=fun x vs H Q=>∃ l b xs zs,x = .ref l/\vs=[.ref b]/\H l=some (.lst xs)/\H b=some (.lst zs)/\xs.length + zs.length <= sizeLine/\Q .non (upd H l (.lst (xs ++ zs)))
theorem Me:ur X "list.extend" ET:=by
 intro pins s σ H x vs v us Q I rx rv h
 obtain⟨l,b,xs,zs,rfl,rfl,hH,hB,hz,q⟩:=h
 cases rx
 obtain⟨u,rfl,ru⟩:=rv.one
 cases ru
 obtain⟨z,ag,n,r,hl,e⟩:=I.jH hH
 obtain⟨z2,bc,n2,r2,qG,e2⟩:=I.jH hB
 have gm:ag.toArray.size + bc.toArray.size <= sizeLine:=by rw[wU,wU];omega
 have lB:¬ (!ag.toArray.isEmpty && Builtin.List.listTooLong (ag.toArray.size + bc.toArray.size))=true:=by
  rw[ER gm,Zg]
  exact EY
 refine Zq F.slot_list_extend ⟨_,e,rfl⟩ F.entry_list_extend (F.args_list_extend_2 _ _)
  (AutoSeq1.list_extend_list_list_0 l ag.toArray n b bc.toArray n2 lB (by rw[wU];omega) (by omega)) ⟨e,e2,?_⟩
 refine⟨.non,_,I.qF (its':=ag ++ bc) hH e (by simp) (r.append r2) ?_,rfl,q⟩
 rw[Mm]
 omega
noncomputable def EU:V->List V->Hp->VK->Prop:=fun x vs H Q=>∃ l xs i k y,x = .ref l/\vs=[.int i]/\H l=some (.lst xs) /\ -(2 ^ 63) <= i/\i < 2 ^ 63/\seqIndex? i xs.length=some k/\xs[k]? = some y/\Q y (upd H l (.lst (xs.eraseIdx k)))
theorem Mf:ur X "list.pop" EU:=by
 intro pins s σ H x vs v us Q I rx rv h
 obtain⟨l,xs,i,k,y,rfl,rfl,hH,h1,h2,hk,hy,q⟩:=h
 cases rx
 obtain⟨u,rfl,ru⟩:=rv.one
 obtain⟨t,rfl⟩:=ru
 obtain⟨z,ag,n,r,hl,e⟩:=I.jH hH
 obtain⟨w,hw,um⟩:=r.get hy
 refine Zq F.slot_list_pop ⟨_,e,rfl⟩ F.entry_list_pop (F.args_list_pop_2 _ _)
  (MeetsSeq.list_pop_at l ag.toArray n i t k w (fitsIndex_both h1 h2) (by rw[wU,<-hl];exact hk) (by rw[<-WU];exact hw) (by rw[wU];omega)) ⟨e,?_⟩
 refine⟨y,_,I.qF (its':=ag.eraseIdx k) hH e ?_ (r.eraseIdx k) ?_,um,q⟩
 ·show ag.toArray.eraseIdxIfInBounds k=(ag.eraseIdx k).toArray
  rw[List.eraseIdxIfInBounds_toArray]
 ·have:=EO xs k
  omega
noncomputable def zV:R2:=fun x y H Q=>∃ l b xs zs,x = .ref l/\y = .ref b/\H l=some (.lst xs)/\H b=some (.lst zs)/\xs.length + zs.length <= sizeLine/\∀ p,H p=none->Q (.ref p) (upd H p (.lst (xs ++ zs)))
theorem wR:c_ X (binaryOp .Add) zV:=by
 intro pins s σ H x y v u Q I rx ry h
 obtain⟨l,b,xs,zs,rfl,rfl,hH,hB,hz,q⟩:=h
 cases rx
 cases ry
 obtain⟨z,ag,n,r,hl,e⟩:=I.jH hH
 obtain⟨z2,bc,n2,r2,qG,e2⟩:=I.jH hB
 refine PySem.P.add_list e e2 ?_ (by rw[wU,wU];omega)
 have ea:ag.toArray ++ bc.toArray=(ag ++ bc).toArray:=by simp
 rw[ea]
 exact⟨.ref _,_,I.cB (t':=s.toks) (r.append r2) (by rw[Mm];omega),rfl,q _ I.fresh⟩
noncomputable def zW:R2:=fun x y H Q=>∃ l k xs,x = .ref l/\y = .int k/\H l=some (.lst xs) /\ -(2 ^ 63) <= k/\k < 2 ^ 63/\xs.length * k.toNat <= sizeLine ∧
 ∀ p,H p=none->Q (.ref p) (upd H p (.lst (List.replicate k.toNat xs).flatten))
theorem len_rep {α : Type} (xs:List α) (k:Nat):(List.replicate k xs).flatten.length=k * xs.length:=by
 induction k with
 | zero=>simp
 | succ k ih=>rw[XD,Ys,Mm,ih,Nat.succ_mul,Nat.add_comm]
theorem Mg:c_ X (binaryOp .Mult) zW:=by
 intro pins s σ H x y v u Q I rx ry h
 obtain⟨l,k,xs,rfl,rfl,hH,h1,h2,hz,q⟩:=h
 cases rx
 obtain⟨t,rfl⟩:=ry
 obtain⟨z,ag,n,r,hl,e⟩:=I.jH hH
 have hlen:ag.toArray.size * k.toNat <= sizeLine:=by rw[wU,<-hl];exact hz
 have zX:¬ ag.toArray.size * k.toNat > (2 ^ 63 - 1) / 8:=by
  have:(sizeLine:Nat) <= (2 ^ 63 - 1) / 8:=by decide
  omega
 have zY:¬ (!Builtin.List.listFitsIndex k)=true:=by
  rw[fitsIndex_both h1 h2]
  exact EY
 have lB:¬ Builtin.List.listTooLong (ag.toArray.size * k.toNat)=true:=by
  rw[ER hlen]
  exact EY
 have zZ:List.foldl (fun x1 x2=>x1 ++ x2) #[] (List.replicate (if ag.toArray.isEmpty=true then 0 else k.toNat) ag.toArray)=(List.replicate k.toNat ag).flatten.toArray:=by
  have f0:∀ m:Nat,List.foldl (fun x1 x2=>x1 ++ x2) #[] (List.replicate m ag.toArray)=(List.replicate m ag).flatten.toArray:=fun m=>by
   have:=foldl_rep ag m []
   rw[q0x] at this
   exact this
  rw[f0]
  cases ag with
  | nil=>simp
  | cons a r'=>rw[My (by simp)]
 refine wpAny_binaryOp_repeat_ref (T := "list") (U := "int") (by decide) ⟨_,e,rfl⟩ (fun s'=>typeIs_int s' k t) noFill_list_mul F.fills_int_mul F.slot_int_rmul repeat_list F.slot_int_index.lookup
  (Zq F.slot_int_rmul (typeIs_int s k t) F.entry_int_rmul (F.args_int_rmul_2 _ _) (int___rmul___int_list k t l ag.toArray n)
   ⟨e,rfl,⟨_,e,rfl⟩,Zq F.slot_list_mul ⟨_,e,rfl⟩ F.entry_list_mul (F.args_list_mul_2 _ _) (AutoListH.list___mul___list_int_3 l ag.toArray n k t zY zX lB) ⟨e,?_⟩⟩)
 rw[zZ]
 exact⟨.ref _,_,I.cB (t':=s.toks) (r.rep k.toNat) (by rw[len_rep,Nat.mul_comm];exact hz),rfl,q _ I.fresh⟩
end
section
variable {prog:Program} {w:World} {A:Around} {E:Value->Shared->Prop} {s:Shared}
end
section
variable {X:Cx}
end
end L2
namespace Att
open PySem PySem.W PySem.Calls PyProof.Rows
theorem fM {P:Params} {h:Heap}:∀ (ns:List Int) (vs:List Value),WellAll P h vs (ns.map WData.int)->IntsAre vs ns:=by
 intro ns
 induction ns with
 | nil =>
  intro vs w
  rw[YM] at w
  cases w
  exact .nil
 | cons n ns ih =>
  intro vs w
  rw[W8] at w
  cases w with
  | cons a b =>
   cases a
   exact .cons _ _ (ih _ b)
theorem kq {l:OpenLaw} {n:Nat} (hn:l.most=some n) {P:Params} {h:Heap} {args:List WData} {vals:List Value}
  (nK:l.row.toRowW.claim.pre args=true) (z_:WellAll P h vals args) :
  ∃ a vs ns,vals=[Value.ref a]/\args=[WData.list (ns.map WData.int)]/\h.get? a=some { cls := .type "list",data := .seq vs.toArray }/\IntsAre vs ns/\ns.length <= n:=by
 have Mh:WShape.hasAll [] args [.list .int]=true:=(pre_splitW nK).1
 have hc:l.pre.holds [] { args:=args }=true:=(pre_splitW nK).2
 obtain⟨d,r,rfl,h1,h2⟩:=hasAllW_cons Mh
 obtain rfl:=hasAllW_nil h2
 obtain⟨xs,rfl,h3⟩:=hasW_list h1
 obtain⟨ns,rfl⟩:=items_int h3
 have hlen:ns.length <= n:=by
  unfold OpenLaw.pre at hc
  have h4:(WTm.not (.lt (.lit (.int (n:Int))) (.len (.arg 0)))).holds [] { args:=[.list (ns.map .int)] }=true:=by
   have h4:=(holds_andW hc).1
   rw[hn] at h4
   exact h4
  have h5:=condW_of h4 (w_not (w_lt w_lit (w_len_list (w_arg rfl))))
  rw[sE] at h5
  refine q0d fun q => ?_
  have q':(n:Int) < ((ns.length:Nat):Int):=by omega
  first
   | (rw[WN q'] at h5;exact absurd h5 (by decide))
   | (simp at h5;omega)
 cases z_ with
 | cons w1 w2 =>
  cases w2
  cases w1 with
  | list ho gK=>exact⟨_,_,ns,rfl,rfl,ho,fM ns _ gK,hlen⟩
theorem kr (l:OpenLaw) (args:List WData):l.row.toRowW.claim.post args (.bool true) args=true :=
 postW_of (r:=l.row.toRowW) (X:=(true == true))
  (show WShape.has [] (.bool true) .bool=true by first | rfl | decide | simp[WShape.has,WShape.arms,WShape.armsAll])
  (show (WTm.eq .res (.lit (.bool true))).value [] { args:=args,res:=some (.bool true),after:=args }=some (.bool (true == true)) from w_eq_bool (w_res rfl) w_lit) rfl
theorem iY {l:OpenLaw} {n:Nat} {q:Program} {loose:List Str} {XP:(Str->Option Value)->Heap->Prop} {YP:World->Heap->Prop} {d:DefRec}
  (hn:l.most=some n) (uu:d.params.defaults=[])
  (call:∀ (w:World) (s₀ s₁ : Shared) (mg mb:Str->Option Value) (fa:Addr) (o:Obj) (pm cd doc:Value) (a:Addr) (vs:List Value) (ns:List Int),
   Ground q loose [] XP w s₀ mg mb s₁.heap->YP w s₁.heap →
   s₁.heap.get? fa=some o->o.data = .func (docDef d.name d.params d.body d.scope pm cd doc)->s₁.heap.CodeRec cd d.name->mg d.name=some (.ref fa) →
   s₁.heap.get? a=some { cls := .type "list",data := .seq vs.toArray }->IntsAre vs ns->ns.length <= n->s₁.gens = #[] →
   codeAny (model l.prog w) callerA (.call (.ref fa) ⟨[.ref a],[]⟩) (fun r s'=>r = .ok (.ret (.bool true))/\OldK s₁.heap s'.heap/\s'.os=s₁.os/\AllBare s'.gens) s₁) :
  WalkO q loose XP YP l.row.toRowW d [] (fun f vs=>PySem.call f vs):=by
 intro w s₀ s₁ mg mb G Y fa o pm cd doc dV kV ho hd fq hD nM hg args vals as nK Mi VT z_ VU
 obtain rfl:dV = .none:=Dflts.none hD uu
 obtain rfl:kV = .none:=Dflts.noKw hD
 obtain⟨a,vs,ns,rfl,rfl,qH,hints,hlen⟩:=kq hn nK z_
 refine enter_call (ZL (call w s₀ s₁ mg mb fa o pm cd doc a vs ns G Y ho (fd_plain hd) fq nM qH hints hlen hg) fun r s' hq => ?_)
 obtain⟨rfl,h2,h3,h4⟩:=hq
 exact⟨.inl ⟨.bool true,.bool true,[],rfl,fun _=>rfl,.bool true,kr l _,fun _=>⟨List.Pairwise.nil,fun _ hm=>(nomatch hm)⟩⟩,h2,h3,h4⟩
section
variable {prog:Program} {w:World} {A:Around} {E:Value->Shared->Prop} {s:Shared} {K:Frag}
end
end Att
namespace L2
open PySem PySem.Spec PyProof.Rows
theorem EV:∀ {vs:List Value} {ns:List Int},IntsAre vs ns->Vals (ns.map V.int) vs
 | _,_,.nil => .nil
 | _,_,.cons n t h => .cons ⟨t,rfl⟩ (EV h)
noncomputable def o_ (s:Stmt):Arguments:=match s with
 | .FunctionDef _ a _ _ _ _ _ _ _ _=>a
 | _=>{ posonlyargs:=[],args:=[],vararg:=none,kwonlyargs:=[],kw_defaults:=[],kwarg:=none,defaults:=[] }
noncomputable def dR (s:Stmt):List Stmt:=match s with
 | .FunctionDef _ _ b _ _ _ _ _ _ _=>b
 | _=>[]
noncomputable def bf (s:Stmt):Scope:=match s with
 | .FunctionDef _ _ _ _ _ _ sc _ _ _=>sc
 | _=>{ kind := .function,names:=[],isGenerator:=false,isCoroutine:=false }
noncomputable abbrev aW:jY:=fun _ _ _ _ _ _=>False
noncomputable abbrev E0:XK:=fun _ _ _=>False
theorem qL {X:Cx}:sx aW X E0:=fun _ _ _ _ _ _ _ h=>h.elim
structure b7 (K:PySem.W.Frag) (x qual:Str) (st:Stmt) (f:Addr) (fd:FuncData):Prop where
 ex:∃ (oc:Value) (od:Option Addr) (kV doc pm:Value) (an:Option Addr) (aK ct:Value) (mE:Array (Option Value)),
  fd=PySem.W.fnOf x qual (o_ st) (dR st) (bf st) .none kV doc pm an aK ct/\K.lookup f=some ⟨oc,od,.func fd,mE⟩/\PySem.W.codeIn K aK qual=true
 kp:PySem.W.keepIn K (.ref f)=true
section
variable {P:Program} {w:World} {K:PySem.W.Frag} {mg:Str->Option Value} {base:Heap}
theorem b7.ok {x qual:Str} {st:Stmt} {f:Addr} {fd:FuncData} {N ps:List Str} {k:Nat} {sp:Sp} (F:b7 K x qual st f fd) (S:dF N ps (bf st)) (len:∀ vs H Q E,sp vs H Q E->vs.length=ps.length)
  (de:∀ (aK:Value) (A:Around) (outer:List Env) (s:Shared) (H:Hp) (vs:List V) (Q:VK) (E:XK),bC k (A.deeper (envOfC qual (bf st) s.heap.objs.size f aK))->sp vs H Q E →
   ∃ t,fK (aS aW P w K mg base N qual (bf st) f aK A outer s H E).cg (dR st) t/\t { nx:=fun _ H'=>Q .non H',rt:=Q } (start N vs) H):aF P w K mg base aW (k + 1) f fd ps sp:=by
 obtain⟨oc,od,kV,doc,pm,an,aK,ct,mE,rfl,lk,fq⟩:=F.ex
 refine zE lk fq S len fun A outer s H vs Q E hr mF => ?_
 obtain⟨t,h,q⟩:=de aK A outer s H vs Q E hr mF
 exact⟨t,h.cg,q⟩
theorem b7.binds {x qual:Str} {st:Stmt} {f:Addr} {fd:FuncData} {ps:List Str} (F:b7 K x qual st f fd)
  (h:∀ (kV doc pm:Value) (an:Option Addr) (aK ct:Value) (us:List Value),us.length=ps.length->bindArgs (PySem.W.fnOf x qual (o_ st) (dR st) (bf st) .none kV doc pm an aK ct) ⟨us,[]⟩=pure (ps.zip us)):Binds K fd ps []:=by
 obtain⟨oc,od,kV,doc,pm,an,aK,ct,mE,rfl,lk,fq⟩:=F.ex
 exact .all (h kV doc pm an aK ct)
theorem Mp {x qual:Str} {st:Stmt} {f:Addr} {oc:Value} {od an:Option Addr} {mE:Array (Option Value)} {kV doc pm aK ct:Value} (l:K.lookup f=some ⟨oc,od,.func (PySem.W.fnOf x qual (o_ st) (dR st) (bf st) .none kV doc pm an aK ct),mE⟩)
  (c:PySem.W.codeIn K aK qual=true) (k:PySem.W.keepIn K (.ref f)=true):b7 K x qual st f (PySem.W.fnOf x qual (o_ st) (dR st) (bf st) .none kV doc pm an aK ct):=⟨⟨oc,od,kV,doc,pm,an,aK,ct,mE,rfl,l,c⟩,k⟩
end
theorem wW {n:Nat} (h:n <= 1000):n < sizeLine:=Y2 h (by decide)
section
variable {X:Cx}
theorem pv (i:Nat) {x:Str} {pos:Pos} (hN:X.N[i]? = some x:=by rfl) (hv:oU X.env.scope x:=by first | exact Or.inl rfl | exact Or.inr (Or.inl rfl) | exact Or.inr (Or.inr rfl)) (hd:(x == ("__debug__" : Str))=false:=by decide)
  (fq:(x == ("__classdict__" : Str))=false:=by decide):PE X (.Name x pos) (d4 i):=D_ hN hv hd fq
end
theorem qM {A B:Prop} (h:B):if false=true then A else B:=by
 rw[My EY]
 exact h
theorem Ab {A B:Prop} (h:A):if true=true then A else B:=by
 rw[VZ rfl]
 exact h
theorem Ac {c A B:Prop} [Decidable c] (h1:c->A) (h2:¬ c->B):if c then A else B:=by
 by_cases h:c
 ·rw[VZ h]
  exact h1 h
 ·rw[My h]
  exact h2 h
theorem Mq {c A B:Prop} [Decidable c] (hc:c) (h:B):if (!decide c)=true then A else B:=by
 rw[WN hc]
 exact qM h
noncomputable def aA (H H':Hp):Prop:=∀ b o,H b=some o->H' b=some o
theorem aA.trans {H H1 H2:Hp} (a:aA H H1) (b:aA H1 H2):aA H H2:=fun c o h=>b c o (a c o h)
theorem aA.free {H H':Hp} (e:aA H H') {l:Addr} (h:H' l=Option.none):H l=Option.none:=by
 cases q:H l with
 | none=>rfl
 | some o =>
  rw[e l o q] at h
  cases h
theorem aA.seq {K:PySem.W.Frag} {H H':Hp} {a:Addr} {xs:List V} (e:aA H H') (h:bo K H a xs):bo K H' a xs:=by
 rcases h with (h | ⟨o,h⟩) | h
 ·exact .inl (.inl (e _ _ h))
 ·exact .inl (.inr ⟨o,e _ _ h⟩)
 ·exact .inr h
theorem Mr {prog:Program} {w:World} {A:Around} {R:Result->Shared->Prop} {s:Shared} {elt target iter:Expr} {ifs:List Expr} {scope:Scope} {pos:Pos} {it acc:Value} {env:Env} (I:Nat->Shared->Prop)
  (turn:∀ n s,I n s->wpAny (model prog w) A (pyNext it) (fun r s₁ => match r with
   | none=>R (.ok .next) s₁
   | some v=>wpAny (model prog w) A (letOwnedTupleGo target it v) (fun _ s₂ => wpAny (model prog w) A (assign target env v) (fun _ s₃ =>
     wpAny (model prog w) A (forIn ifs true fun c r=>if r=true then do let ok <- isTrue c env (eval c env);pure (ForInStep.yield ok) else pure (ForInStep.yield r)) (fun ok s₄ =>
      if ok=true then wpAny (model prog w) A (eval elt env) (fun x s₅ =>
       wpAny (model prog w) A (call (.builtin "list.append") [acc,x]) (fun _ s₆ => ∃ m,m < n/\I m s₆) (fun _ _=>False) s₅) (fun _ _=>False) s₄
      else ∃ m,m < n/\I m s₄) (fun _ _=>False) s₃) (fun _ _=>False) s₂) (fun _ _=>False) s₁) (fun _ _=>False) s)
  (n:Nat) (h:I n s) :
  codeAny (model prog w) A (.compLoop (.ListComp elt [⟨target,iter,ifs,0⟩] scope pos) 0 it acc env) R s:=by
 refine codeAny_loop rfl I (fun n s hI => ?_) n h
 show wpAny _ A ((compTurn (.ListComp elt [⟨target,iter,ifs,0⟩] scope pos) 0 it acc env).onRaise (fun x=>do noteFrame x env;theTreesLotGoes x)) _ _ s
 refine wpAny_noted ?_
 rw[compTurn_list]
 refine nN (YF (nN (XF (turn n s hI) (fun r s₁ h₁ => ?_) fun _ _ h'=>False.elim h')))
 cases r with
 | none=>exact uq h₁
 | some v =>
  refine nN (XF h₁ (fun _ s₂ h₂ => ?_) fun _ _ h'=>False.elim h')
  refine nN (XF h₂ (fun _ s₃ h₃ => nN (XF h₃ (fun ok s₄ h₄ => ?_) fun _ _ h'=>False.elim h')) fun _ _ h'=>False.elim h')
  cases ok with
  | false=>exact uq ⟨rfl,h₄⟩
  | true =>
   exact nN (nN (XF h₄ (fun x s₄ h₄ => nN (XF h₄ (fun _ s₅ h₅ => uq (uq ⟨rfl,h₅⟩)) fun _ _ h'=>False.elim h')) fun _ _ h'=>False.elim h'))
theorem Ad {env:Env}:∀ (names:List (Str × NameKind)) (acc:List (Str × Addr)),(∀ y∈names,y.2 = .free->∃ c,env.cells.lookup y.1=some c)->(∀ x c,acc.lookup x=some c->env.cells.lookup x=some c) →
  ∃ cl,(forIn names acc (fun (x:Str × NameKind) (cs:List (Str × Addr))=>if x.2 == NameKind.free then cellOf env x.1 >>= fun a=>pure (ForInStep.yield ((x.1,a) :: cs)) else pure (ForInStep.yield cs)):Sem (List (Str × Addr)))=pure cl ∧
   (∀ x c,cl.lookup x=some c->env.cells.lookup x=some c)/\(∀ y∈names,y.2 = .free->∃ c,cl.lookup y.1=some c)/\(∀ x c,acc.lookup x=some c->∃ c,cl.lookup x=some c)
 | [],acc,_,h2=>⟨acc,rfl,h2,fun _ hy=>absurd hy (by simp),fun x c e=>⟨c,e⟩⟩
 | (n,k) :: r,acc,h1,h2=>by
  rw[q0y]
  by_cases hk:k = .free
  ·subst hk
   obtain⟨c,hc⟩:=h1 (n,.free) VV rfl
   have kO:env.cells.lookup n=some c:=hc
   have ec:cellOf env n=pure c:=by unfold cellOf;rw[kO]
   have iZ:∀ x d,((n,c) :: acc).lookup x=some d->env.cells.lookup x=some d:=fun x d e=>by
    rw[WX] at e
    cases q:x == n with
    | true =>
     rw[q] at e
     cases e
     rw[WV q];exact kO
    | false =>
     rw[q] at e
     exact h2 x d e
   obtain⟨cl,e,p1,p2,p3⟩:=Ad r ((n,c) :: acc) (fun y hy=>h1 y (Mn _ hy)) iZ
   refine⟨cl,?_,p1,fun y hy hf => ?_,fun x d e => ?_⟩
   ·dsimp only
    rw[VZ (by decide),ec]
    exact e
   ·rcases EZ.mp hy with rfl | hy
    ·exact p3 n c (by simp)
    ·exact p2 y hy hf
   ·cases q:x == n with
    | true=>exact p3 x c (by rw[WX,q])
    | false=>exact p3 x d (by rw[WX,q];exact e)
  ·obtain⟨cl,e,p1,p2,p3⟩:=Ad r acc (fun y hy=>h1 y (Mn _ hy)) h2
   refine⟨cl,?_,p1,fun y hy hf => ?_,p3⟩
   ·dsimp only
    rw[My (by simpa using hk)]
    exact e
   ·rcases EZ.mp hy with rfl | hy
    ·exact absurd hf hk
    ·exact p2 y hy hf
theorem E5 {scope:Scope} {env:Env} (h:∀ y∈scope.names,y.2 = .free->∃ c,env.cells.lookup y.1=some c) :
  ∃ cl,closureFor scope env=pure cl/\(∀ x c,cl.lookup x=some c->env.cells.lookup x=some c)/\∀ y∈scope.names,y.2 = .free->∃ c,cl.lookup y.1=some c:=by
 obtain⟨cl,e,p1,p2,_⟩:=Ad scope.names [] h (fun x c e=>by simp at e)
 refine⟨cl,?_,p1,p2⟩
 have e':closureFor scope env=(forIn scope.names ([]:List (Str × Addr)) (fun (x:Str × NameKind) (cs:List (Str × Addr))=>if x.2 == NameKind.free then cellOf env x.1 >>= fun a=>pure (ForInStep.yield ((x.1,a) :: cs)) else pure (ForInStep.yield cs)):Sem (List (Str × Addr))) >>= pure:=rfl
 rw[e',e]
 rfl
structure BD where
 cl:List (Str × Addr)
 C:Addr
 s:Shared
 H:Hp
 fp:List Addr
@[reducible] noncomputable def cF (X:Cx) (scope:Scope) (Nb:List Str) (d:BD):Cx where
 prog:=X.prog
 w:=X.w
 K:=X.K
 mg:=X.mg
 base:=X.base
 A:=X.A
 N:=Nb
 s₀ := d.s
 H₀ := d.H
 env:=compEnvC scope d.cl d.C X.env
 outer:=X.stack
 stack:=X.stack
 ex:=d.fp
 fn:=fun x=>decide (scope.names.lookup x=some .cell)
 calm:=X.calm
 pn:=[]
 xe:=fun _ _=>False
noncomputable def jo (cp:List (Option Nat)) (σ : St):St:=cp.map fun o=>match o with
 | some i=>(σ[i]?).join
 | none=>none
noncomputable def mI (N:List Str) (wX scope:Scope) (Nb:List Str) (cp:List (Option Nat)):Bool :=
 (scope.names.all fun y=>(decide (y.2 ≠ .cell) || decide (scope.names.lookup y.1=some .cell)) && (decide (y.2 ≠ .local) || decide (scope.names.lookup y.1=some .local)) && (decide (y.2 ≠ .free) || decide (wX.names.lookup y.1=some .cell) || decide (wX.names.lookup y.1=some .free))) &&
 decide (cp.length=Nb.length) && (cp.zip Nb).all fun z=>match z.1 with
  | none=>true
  | some i=>decide (N[i]? = some z.2) && decide (scope.names.lookup z.2=some .free)
structure wY (X:Cx) (scope:Scope) (Nb:List Str) (cp:List (Option Nat)):Prop where
 kind:scope.kind = .function
 cell:∀ y∈scope.names,y.2 = .cell->scope.names.lookup y.1=some .cell
 names:∀ y∈scope.names,y.2 = .local->scope.names.lookup y.1=some .local
 free:∀ y∈scope.names,y.2 = .free->(X.env.kindOf y.1=some .cell\/X.env.kindOf y.1=some .free)
 len:cp.length=Nb.length
 uv:∀ (j i:Nat) (x:Str),cp[j]? = some (some i)->Nb[j]? = some x->X.N[i]? = some x/\scope.names.lookup x=some .free
theorem x0P {X:Cx} {scope:Scope} {Nb:List Str} {cp:List (Option Nat)} (hk:scope.kind = .function) (h:mI X.N X.env.scope scope Nb cp=true):wY X scope Nb cp:=by
 unfold mI at h
 simp only[VY,Xb,Bool.or_eq_true,Xt] at h
 obtain⟨⟨h1,h2⟩,h3⟩:=h
 refine⟨hk,fun y hy e=>(h1 y hy).1.1.resolve_left (fun z=>z e),fun y hy e => ?_,fun y hy e => ?_,h2,fun j i x e1 e2 => ?_⟩
 ·rcases (h1 y hy).1.2 with z | z
  ·exact absurd e z
  ·exact z
 ·rcases (h1 y hy).2 with (z | z) | z
  ·exact absurd e z
  ·exact .inl z
  ·exact .inr z
 ·have hm:(some i,x)∈cp.zip Nb:=by
   have:(cp.zip Nb)[j]? = some (some i,x):=by
    rw[List.getElem?_zip_eq_some];exact⟨e1,e2⟩
   exact Xi this
  have:=h3 _ hm
  simpa using this
theorem Ae {env:Env} {x:Str}:∀ {names:List (Str × NameKind)} {k:NameKind},names.lookup x=some k →
  (names.map fun (n,k)=>if (k == NameKind.free && env.scope.kind == .function && env.kindOf n == some .cell) then (n,NameKind.cell) else (n,k)).lookup x =
   some (if (k == NameKind.free && env.scope.kind == .function && env.kindOf x == some .cell) then NameKind.cell else k)
 | [],k,h=>by simp at h
 | (n,k') :: r,k,h=>by
  have ih:=@Ae env x r k
  show List.lookup x ((if (k' == NameKind.free && env.scope.kind == .function && env.kindOf n == some .cell)=true then (n,NameKind.cell) else (n,k')) :: _)=_
  cases hx:x == n with
  | true =>
   simp only[WX,hx] at h
   cases h
   have e:x=n:=WV hx
   subst e
   by_cases hc:(k' == NameKind.free && env.scope.kind == .function && env.kindOf x == some .cell)=true
   ·rw[VZ hc,VZ hc];simp[WX]
   ·rw[My hc,My hc];simp[WX]
  | false =>
   simp only[WX,hx] at h
   by_cases hc:(k' == NameKind.free && env.scope.kind == .function && env.kindOf n == some .cell)=true
   ·rw[VZ hc];simp only[WX,hx];exact ih h
   ·rw[My hc];simp only[WX,hx];exact ih h
theorem E7 {env:Env} {x:Str}:∀ {names:List (Str × NameKind)},names.lookup x=none →
  (names.map fun (n,k)=>if (k == NameKind.free && env.scope.kind == .function && env.kindOf n == some .cell) then (n,NameKind.cell) else (n,k)).lookup x=none
 | [],h=>by simp
 | (n,k') :: r,h=>by
  have ih:=@E7 env x r
  show List.lookup x ((if (k' == NameKind.free && env.scope.kind == .function && env.kindOf n == some .cell)=true then (n,NameKind.cell) else (n,k')) :: _)=_
  cases hx:x == n with
  | true=>simp only[WX,hx] at h;cases h
  | false =>
   simp only[WX,hx] at h
   by_cases hc:(k' == NameKind.free && env.scope.kind == .function && env.kindOf n == some .cell)=true
   ·rw[VZ hc];simp only[WX,hx];exact ih h
   ·rw[My hc];simp only[WX,hx];exact ih h
noncomputable def PF (X:Cx) (ifs:List Expr) (t:TT):Prop :=
 ∀ (pins:List (Addr × Obj)) (s:Shared) (σ : St) (H:Hp) (Q:Bool->Hp->Prop),Inv X pins σ H s->t σ H Q →
  wpAny (model X.prog X.w) X.A (forIn ifs true fun c r=>if r=true then do let ok <- isTrue c X.env (eval c X.env);pure (ForInStep.yield ok) else pure (ForInStep.yield r)) (TP X pins σ Q) X.xe s
noncomputable def uw:TT:=fun _ H Q=>Q true H
theorem Ms {X:Cx}:PF X [] uw:=fun _ _ _ H _ I h=>wpAny_tests_nil ⟨H,I,h⟩
theorem Mt {X:Cx} {c:Expr} {t:TT} (h:PT X c t):PF X [c] t:=fun pins s σ H Q I hw=>wpAny_tests_one (h pins s σ H Q I hw)
noncomputable def Mu (g:TG) (tf:TT) (te:TE) (l:Addr) (x:V) (τ : St) (H:Hp) (N:St->Hp->Prop):Prop :=
 g x τ H fun τ2 H2=>tf τ2 H2 fun b H3=>if b=true then te τ2 H3 fun y H4=>∃ ys,H4 l=some (.lst ys)/\ys.length < sizeLine/\N τ2 (upd H4 l (.lst (ys ++ [y]))) else N τ2 H3
noncomputable def E8 (J:It) (g:TG) (tf:TT) (te:TE) (l:Addr) (τ0:St) (H0:Hp) (Q:VK):Prop :=
 ∃ W:Nat->Nat->St->Hp->Prop,(∃ m,W 0 m τ0 H0)/\∀ i m τ H,W i m τ H →
  (J.stop i H/\Q (.ref l) H)\/(J.go i H/\∃ N:St->Hp->Prop,(∀ τ' H',N τ' H'->∃ m',m' < m/\W (i + 1) m' τ' H')/\∀ x H',J.sv i H x H'->Mu g tf te l x τ H' N)
noncomputable def qN (wi:TI) (cp:List (Option Nat)) (g:BD->TG) (tf:BD->TT) (te:BD->TE):TE:=fun σ H Q=>wi σ H fun J H1=>∀ (d:BD) (l:Addr),H1 l=none->E8 J (g d) (tf d) (te d) l (jo cp σ) (upd H1 l (.lst [])) Q
theorem sF:∀ {names:List (Str × NameKind)} {n:Nat} {acc:List (Str × Addr)} {x:Str} {c:Addr},(cellsFrom n names acc).lookup x=some c->acc.lookup x=some c\/(n <= c/\(x,NameKind.cell)∈names)
 | [],n,acc,x,c,h => .inl h
 | (y,k) :: r,n,acc,x,c,h=>by
  unfold cellsFrom at h
  split at h
  ·rename_i hk
   have ek:k = .cell:=WV hk
   subst ek
   rcases sF h with h | ⟨h,m⟩
   ·rw[WX] at h
    cases q:x == y with
    | true=>rw[q] at h;cases h;rw[WV q];exact .inr ⟨wV _,VV ..⟩
    | false=>rw[q] at h;exact .inl h
   ·exact .inr ⟨by omega,Mn _ m⟩
  ·rcases sF h with h | ⟨h,m⟩
   ·exact .inl h
   ·exact .inr ⟨h,Mn _ m⟩
theorem Af:∀ {names:List (Str × NameKind)} {n:Nat} {acc:List (Str × Addr)} {x:Str} {c:Addr},(x,NameKind.cell)∈names->(cellsFrom n names acc).lookup x=some c->n <= c
 | [],n,acc,x,c,m,h=>by cases m
 | (y,k) :: r,n,acc,x,c,m,h=>by
  unfold cellsFrom at h
  by_cases mr:(x,NameKind.cell)∈r
  ·split at h
   ·have:=Af mr h;omega
   ·exact Af mr h
  ·have e:(x,NameKind.cell)=(y,k):=by
    rcases EZ.mp m with e | e
    ·exact e
    ·exact absurd e mr
   cases e
   rw[VZ (by decide)] at h
   rcases sF h with h | ⟨h,_⟩
   ·rw[WX,beq_self_eq_true] at h
    cases h;exact wV _
   ·omega
theorem Ag:∀ {names:List (Str × NameKind)} {n:Nat} {acc:List (Str × Addr)} {x y:Str} {c:Addr},(∀ u v c,acc.lookup u=some c->acc.lookup v=some c->u=v)->(∀ u c,acc.lookup u=some c->c < n)->(cellsFrom n names acc).lookup x=some c->(cellsFrom n names acc).lookup y=some c->x=y
 | [],n,acc,x,y,c,hi,_,h1,h2=>hi x y c h1 h2
 | (z,k) :: r,n,acc,x,y,c,hi,hb,h1,h2=>by
  unfold cellsFrom at h1 h2
  split at h1
  ·rename_i hk
   rw[VZ hk] at h2
   refine Ag (fun u v c q1 q2 => ?_) (fun u c q => ?_) h1 h2
   ·rw[WX] at q1 q2
    cases e1:u == z with
    | true =>
     rw[e1] at q1;cases q1
     cases e2:v == z with
     | true=>rw[WV e1,WV e2]
     | false=>rw[e2] at q2;exact absurd (hb v _ q2) (X_ _)
    | false =>
     rw[e1] at q1
     cases e2:v == z with
     | true=>rw[e2] at q2;cases q2;exact absurd (hb u _ q1) (X_ _)
     | false=>rw[e2] at q2;exact hi u v c q1 q2
   ·rw[WX] at q
    cases e1:u == z with
    | true=>rw[e1] at q;cases q;exact Zn _
    | false=>rw[e1] at q;exact XZ (hb u c q)
  ·rename_i hk
   rw[My hk] at h2
   exact Ag hi hb h1 h2
theorem Ah:∀ {names:List (Str × NameKind)} {n:Nat} {acc:List (Str × Addr)} {x:Str},(x,NameKind.cell)∉names->(cellsFrom n names acc).lookup x=acc.lookup x
 | [],n,acc,x,_=>rfl
 | (y,k) :: r,n,acc,x,m=>by
  unfold cellsFrom
  split
  ·rename_i hk
   have ek:k = .cell:=WV hk
   subst ek
   rw[Ah fun z=>m (Mn _ z),WX]
   cases q:x == y with
   | true=>exact absurd (by rw[WV q];exact VV ..) m
   | false=>rfl
  ·exact Ah fun z=>m (Mn _ z)
theorem Ai:∀ {names:List (Str × NameKind)} {h:Heap} {acc:List (Str × Addr)} {x:Str} {c:Addr},(∀ u c,acc.lookup u=some c->∃ v,h.IsCell c v)->(cellsFrom h.objs.size names acc).lookup x=some c->∃ v,(pushCells h names).IsCell c v
 | [],h,acc,x,c,hc,e=>hc x c e
 | (y,k) :: r,h,acc,x,c,hc,e=>by
  unfold cellsFrom at e
  unfold pushCells
  split at e
  ·rename_i hk
   rw[VZ hk]
   have hz:(h.push { cls := .type "cell",data := .cell none }).objs.size=h.objs.size + 1:=Yk ..
   rw[<-hz] at e
   refine Ai (fun u c q => ?_) e
   rw[WX] at q
   cases e1:u == y with
   | true=>rw[e1] at q;cases q;exact⟨none,_,VW _ rfl,rfl⟩
   | false =>
    rw[e1] at q
    obtain⟨v,o,g1,g2⟩:=hc u c q
    exact⟨v,o,qJ _ g1,g2⟩
  ·rename_i hk
   rw[My hk]
   exact Ai hc e
theorem Mv {M:Model} {A:Around} {E:Value->Shared->Prop} {s:Shared} {scope:Scope} {g:Addr} {cl:List (Str × Addr)} {qual:Str} {env:Env} {Q:Env->Shared->Prop}
  (h:Q (newEnv scope s.heap.objs.size g (cellsFrom (s.heap.objs.size + 1) scope.names cl) qual none .none (some env) builtinsNs) { s with heap:=pushCells (s.heap.push { cls := .type "dict",data := .dict #[] }) scope.names }) :
  wpAny M A (newFunctionEnv scope g cl [] qual none .none (some env)) Q E s:=by
 simp only[newFunctionEnv,Option.isSome_some,Yf]
 refine nN (wpAny_alloc ?_)
 refine nN (wpAny_layCells _ (fun name kind cells=>by cases Mw:kind == NameKind.cell<;>simp[Mw]) _ _ _ _ ?_)
 rw[show ({ s with heap:=s.heap.push { cls := .type "dict",data := .dict #[] } }:Shared).heap.objs.size=s.heap.objs.size + 1 from Yk ..]
 refine nN ?_
 rw[q0F]
 exact uq (uq h)
section
variable {X:Cx} {elt tg iter:Expr} {ifs:List Expr} {scope:Scope} {pos:Pos} {Nb:List Str} {cp:List (Option Nat)} {wi:TI} {g:BD->TG} {tf:BD->TT} {te:BD->TE}
variable {pins:List (Addr × Obj)} {σ : St} {H:Hp} {s:Shared}
noncomputable abbrev ux (scope:Scope) (s:Shared) (cl:List (Str × Addr)):List (Str × Addr):=cellsFrom (s.heap.objs.size + 1) scope.names cl
theorem Mx {fp:List Addr} {cl:List (Str × Addr)} (S:wY X scope Nb cp) (I:Inv X pins σ H s) (hf:∀ b∈fp,bF X pins H b) (ho:∀ b∈fp,∃ o,s.heap.get? b=some o)
  (c1:∀ x c,cl.lookup x=some c->X.env.cells.lookup x=some c) (c2:∀ y∈scope.names,y.2 = .free->∃ c,cl.lookup y.1=some c):(cF X scope Nb ⟨ux scope s cl,s.heap.objs.size,s,H,fp⟩).Ok:=by
 have Mz:∀ b∈fp,b∉fg X.stack:=fun b hb z=>by
  obtain⟨_,f1,f2,_⟩:=hf b hb
  rcases EZ.mp (I.iq b z) with e | e
  ·exact f1 e
  ·exact f2 e
 have lt:∀ u c,cl.lookup u=some c->c < s.heap.objs.size:=fun u c e=>by
  obtain⟨v,q⟩:=I.cell u c (c1 _ _ e)
  exact q.lt
 refine⟨I.ok.mod,?_,I.ok.glob,I.ok.blt,wV _,fun x y c h1 h2 => ?_,fun x hx => ?_,fun x c h hc => ?_,I.ok.hd,I.ok.frames,.inl rfl,fun b hb=>⟨?_,fun x c e => ?_⟩,I.bs,W7 I.ok.lg I.sz,fun b o e hb => ?_,Mz,I.stack,I.eB⟩
 ·exact S.kind
 ·exact Ag (fun u v c q1 q2=>I.ok.inj u v c (c1 _ _ q1) (c1 _ _ q2)) (fun u c e=>XZ (lt u c e)) h1 h2
 ·cases q:scope.names.lookup x with
  | none =>
   have z:(relabel scope X.env).names.lookup x=none:=E7 q
   have nP:(relabel scope X.env).names.lookup x=some .cell\/(relabel scope X.env).names.lookup x=some .free:=hx
   rw[z] at nP
   rcases nP with h | h<;>cases h
  | some k =>
   have hm:=XC q
   have z:(relabel scope X.env).names.lookup x=_:=Ae (env:=X.env) q
   have nP:(relabel scope X.env).names.lookup x=some .cell\/(relabel scope X.env).names.lookup x=some .free:=hx
   rw[z] at nP
   have kf:k = .free\/k = .cell:=by
    by_cases hk:k = .free
    ·exact .inl hk
    ·have:(k == NameKind.free)=false:=by simpa using hk
     simp only[this,q0E,Ml,Xc] at nP
     rcases nP with h | h
     ·exact .inr (WR h)
     ·exact absurd (WR h) hk
   refine Yu.mp (Zd scope.names _ cl ?_)
   rcases kf with rfl | rfl
   ·obtain⟨c,e⟩:=c2 (x,.free) hm rfl
    exact .inr (by rw[show cl.lookup x=some c from e];rfl)
   ·exact .inl q
 ·have hl:scope.names.lookup x=some .cell:=YI h
  have:=Af (XC hl) hc
  exact Nat.le_of_succ_le this
 ·obtain⟨o,e⟩:=ho b hb
  exact WL (EW e)
 ·rcases sF e with e | ⟨e,_⟩
  ·exact (hf b hb).2.2.2.2.1 x c (c1 _ _ e)
  ·obtain⟨o,eo⟩:=ho b hb
   have Aj:=EW eo
   intro z
   subst z
   exact absurd (Nat.lt_of_succ_le e) (Nat.not_lt.mpr (X9 Aj))
 ·rcases (hf b hb).2.2.2.1 with z | z
  ·exact I.ok.iW b o e z
  ·exact absurd (WD (EW (I.ok.bs b o e).1) z) (X_ _)
theorem MA {cp:List (Option Nat)} {σ : St} {j:Nat} {v:V} (h:(jo cp σ)[j]? = some (some v)):∃ i,cp[j]? = some (some i) /\ σ[i]? = some (some v):=by
 unfold jo at h
 rw[VX] at h
 cases e:cp[j]? with
 | none=>rw[e] at h;cases h
 | some o =>
  rw[e] at h
  cases o with
  | none=>cases h
  | some i =>
   refine⟨i,rfl,?_⟩
   have h':(σ[i]?).join=some v:=WR h
   cases q : σ[i]? with
   | none=>rw[q] at h';cases h'
   | some z =>
    rw[q] at h'
    have:z=some v:=h'
    rw[this]
theorem MB {fp:List Addr} {cl:List (Str × Addr)} {h1:Heap} {tk:Nat} (S:wY X scope Nb cp) (I:Inv X pins σ H s) (hf:∀ b∈fp,bF X pins H b) (ho:∀ b∈fp,∃ o,s.heap.get? b=some o)
  (c1:∀ x c,cl.lookup x=some c->X.env.cells.lookup x=some c) (c2:∀ y∈scope.names,y.2 = .free->∃ c,cl.lookup y.1=some c)
  (hn:h1.Ns s.heap.objs.size (fun x=>([]:List (Str × Value)).reverse.lookup x)) (hk:∀ b o,s.heap.get? b=some o->h1.get? b=some o) (nH:∀ x c,(ux scope s cl).lookup x=some c->∃ v,h1.IsCell c v) :
  Inv (cF X scope Nb ⟨ux scope s cl,s.heap.objs.size,s,H,fp⟩) [] (jo cp σ) H { s with heap:=h1,toks:=tk }:=by
 refine⟨Mx S I hf ho c1 c2,rfl,I.bare,Un.kept hk,⟨_,hn,fun j x v e1 e2 e3 => ?_⟩,nH,I.aO.fresh (wV _),fun x c e => ?_,fun p hp=>absurd (show p∈([]:List (Addr × Obj)) from hp) (by simp),I.aO.kept hk,?_⟩
 ·obtain⟨i,q1,q2⟩:=MA e2
  obtain⟨q3,q4⟩:=S.uv j i x q1 e1
  have hm:=XC q4
  have pb:=S.free _ hm rfl
  obtain⟨m,_,hl⟩:=I.loc
  have MD:oU X.env.scope x:=by
   rcases pb with h | h
   ·exact .inr (.inl h)
   ·exact .inr (.inr h)
  obtain⟨u,ru,lk⟩:=hl i x v q3 q2 MD
  refine⟨u,ru,?_⟩
  have nl:X.env.kindOf x≠some .local:=by
   rcases pb with h | h
   ·intro z;rw[h] at z;cases z
   ·intro z;rw[h] at z;cases z
  rcases lk with⟨k,_⟩ | ⟨_,c,ec,hc⟩
  ·exact absurd k nl
  ·obtain⟨c',E9⟩:=c2 (x,.free) hm rfl
   have E_:=c1 _ _ E9
   rw[ec] at E_;cases E_
   have nc:(x,NameKind.cell)∉scope.names:=fun z=>by have:=S.cell _ z rfl;rw[show scope.names.lookup x=some .free from q4] at this;cases this
   refine .inr ⟨?_,c,(Ah nc).trans E9,?_⟩
   ·have z:(relabel scope X.env).names.lookup x=_:=Ae (env:=X.env) q4
    show (relabel scope X.env).names.lookup x=some .cell\/(relabel scope X.env).names.lookup x=some .free
    rw[z]
    split
    ·exact .inl rfl
    ·exact .inr rfl
   ·obtain⟨o,e,d⟩:=hc
    exact⟨o,hk _ _ e,d⟩
 ·rcases sF e with e | ⟨e,_⟩
  ·exact I.bK x c (c1 _ _ e)
  ·exact I.aO.fresh (Nat.le_of_succ_le e)
 ·unfold jo
  rw[sE]
  exact S.len
theorem ME {fp:List Addr} {d:BD} {it l:Addr} {tn:Nat->Heap->Prop} {J:It} {R:Result->Shared->Prop} {Q:VK} {H1:Hp} {s1:Shared} {τ : St} (hc:X.calm=true)
  (hg:PG (cF X scope Nb d) tg (g d)) (hf:PF (cF X scope Nb d) ifs (tf d)) (he:PE (cF X scope Nb d) elt (te d)) (T:Turn X.prog X.w X.K tg J fp it tn)
  (V6:d.fp=fp) (I1:Inv (cF X scope Nb d) [] τ H1 s1) (iK:tn 0 s1.heap) (Fb:∀ b∈fp,bF (cF X scope Nb d) [] H1 b)
  (W:Nat->Nat->St->Hp->Prop) (w0:∃ m,W 0 m τ H1)
  (turn:∀ i m τ H,W i m τ H->(J.stop i H/\Q (.ref l) H)\/(J.go i H/\∃ N:St->Hp->Prop,(∀ τ' H',N τ' H'->∃ m',m' < m/\W (i + 1) m' τ' H')/\∀ x H',J.sv i H x H'->g d x τ H' fun τ2 H2=>tf d τ2 H2 fun b H3 =>
   if b=true then te d τ2 H3 fun y H4=>∃ ys,H4 l=some (.lst ys)/\ys.length < sizeLine/\N τ2 (upd H4 l (.lst (ys ++ [y]))) else N τ2 H3))
  (fin:∀ τ' H' s',Inv (cF X scope Nb d) [] τ' H' s'->Q (.ref l) H'->R (.ok .next) s') :
  codeAny (model X.prog X.w) X.A (.compStart (.ListComp elt [⟨tg,iter,ifs,0⟩] scope pos) 0 (.ref it) (.ref l) (compEnvC scope d.cl d.C X.env)) R s1:=by
 have jE:∀ {H':Hp},(∀ b∈fp,H' b=none)->∀ b∈fp,bF (cF X scope Nb d) [] H' b:=fun hn b hb=>⟨hn b hb,(Fb b hb).2⟩
 have loop:codeAny (model X.prog X.w) X.A (.compLoop (.ListComp elt [⟨tg,iter,ifs,0⟩] scope pos) 0 (.ref it) (.ref l) (compEnvC scope d.cl d.C X.env)) R s1:=by
  obtain⟨m0,w0⟩:=w0
  refine Mr (fun n s'=>∃ i τ' H',Inv (cF X scope Nb d) [] τ' H' s'/\tn i s'.heap/\(∀ b∈fp,H' b=none)/\W i n τ' H') ?_ m0 ⟨0,τ,H1,I1,iK,fun b hb=>(Fb b hb).1,w0⟩
  rintro n s3 ⟨i,σ3,H3,I3,qt,t_,w3⟩
  rcases turn i n σ3 H3 w3 with⟨stop,qn⟩ | ⟨go,N,hN,step⟩
  ·refine bt (T.done (cF X scope Nb d) rfl rfl rfl hc i [] s3 σ3 H3 (fun _ _=>False) I3 (jE t_) qt stop) fun r s4 ⟨hr,I4⟩ => ?_
   subst hr
   exact fin σ3 H3 s4 I4 qn
  ·refine bt (T.item (cF X scope Nb d) rfl rfl rfl hc i [] s3 σ3 H3 (fun _ _=>False) I3 (jE t_) qt go) fun r s4 ⟨u,hr,h4⟩ => ?_
   subst hr
   refine bt h4 fun _ s5 ⟨x,H5,I5,r5,y5,qu,zt⟩ => ?_
   have zu:=I5.pinned (jE zt) (T.obj _ _ qu)
   refine bt (hg _ s5 σ3 H5 x u _ zu r5 (step x H5 y5)) fun _ s6 ⟨σ6,H6,I6,q6⟩ => ?_
   have again:∀ {σ7:St} {H7:Hp} {s7:Shared} {m':Nat},Inv (cF X scope Nb d) ([] ++ t9 fp s5.heap) σ7 H7 s7->m' < n->W (i + 1) m' σ7 H7->∃ m,m < n/\∃ i σ' H',Inv (cF X scope Nb d) [] σ' H' s7/\tn i s7.heap/\(∀ b∈fp,H' b=none)/\W i m σ' H':=fun {σ7 H7 s7 m'} I7 hm w7=>by
    refine⟨m',hm,i + 1,σ7,H7,I7.eC,T.keep _ _ _ qu fun b hb o e=>(I7.pin (b,o) (WM _ (WM _ (wH hb e)))).1,fun b hb => ?_,w7⟩
    obtain⟨o,e,d⟩:=T.obj _ _ qu b hb
    exact (I7.pin (b,o) (WM _ (WM _ (wH hb e)))).2.1
   refine bt (hf _ s6 σ6 H6 _ I6 q6) fun ok s7 h0_ => el3 h0_ fun H7 I7 q7 => ?_
   cases ok with
   | false =>
    rw[My EY] at q7 ⊢
    obtain⟨m',hm,w7⟩:=hN _ _ q7
    exact again I7 hm w7
   | true =>
    rw[VZ rfl] at q7 ⊢
    refine bt (he _ s7 σ6 H7 _ I7 q7) fun y s8 ⟨yv,H8,I8,r8,ys,hy,hz,q8⟩ => ?_
    obtain⟨m',hm,w8⟩:=hN _ _ q8
    refine bt (wQ _ s8 σ6 H8 (.ref l) [yv] (.ref l) [y] (fun _ H9=>H9=upd H8 l (.lst (ys ++ [yv]))) I8 rfl (.cons r8 .nil) ⟨l,ys,yv,rfl,rfl,hy,hz,rfl⟩) fun _ s9 h0_ => el5 h0_ fun _ H9 I9 _ e9 => ?_
    subst e9
    exact again I9 hm w8
 exact codeAny_compStart_list loop (T.self _ 0 s1 _ _ iK loop)
theorem MF {fp:List Addr} {d:BD} {τ : St} {H1 H':Hp} {s1 s':Shared} (I1:Inv X pins σ H1 s1) (hs:d.s=s1) (hH:d.H=H1) (hd:d.fp=fp) (hf:∀ b∈fp,bF X pins H1 b) (J:Inv (cF X scope Nb d) [] τ H' s'):Inv X pins σ H' s':=by
 subst hs hH hd
 exact I1.jW (ch:=d.fp) J.os J.base J.aO J.bare fun b hb=>⟨(hf b hb).2.2.2.1,(hf b hb).2.1,(hf b hb).2.2.2.2.1,(hf b hb).2.2.2.2.2⟩
theorem Fc {use:Option (Value->Sem Unit)} {P:Value->Shared->Prop} {Q:VK} (hc:X.calm=true) (S:wY X scope Nb cp) (hi:PI X tg iter wi) (hg:∀ d,PG (cF X scope Nb d) tg (g d)) (hf:∀ d,PF (cF X scope Nb d) ifs (tf d)) (he:∀ d,PE (cF X scope Nb d) elt (te d))
  (hs:∀ x,foldedSetIterable iter X.env x=pure x) (I:Inv X pins σ H s) (h:qN wi cp g tf te σ H Q)
  (fin:∀ (l C:Addr) (H':Hp) (s':Shared) (m:Str->Option Value),Inv X pins σ H' s'->bF X pins H' C->(∀ p c,X.env.cells.lookup p=some c->c≠C)->s'.heap.Ns C m->Q (.ref l) H'->compPost (model X.prog X.w) X.A X.xe use P (.ref l) C (.ok .next) s') :
  wpAny (model X.prog X.w) X.A (comprehension (.ListComp elt [⟨tg,iter,ifs,0⟩] scope pos) scope X.env (firstIterPos [⟨tg,iter,ifs,0⟩] pos) (newList []) false (eval iter X.env) use) P X.xe s:=by
 obtain⟨cl,MG,c1,c2⟩:=E5 (scope:=scope) (env:=X.env) fun y hy mJ=>by
  rcases S.free y hy mJ with z | z
  ·exact I.ok.has _ (.inl z)
  ·exact I.ok.has _ (.inr z)
 refine wpAny_comprehension_free (cl:=cl) rfl hs MG S.kind S.names (bt (hi pins s σ H _ I h) fun v s1 h1=>bt h1 fun zq s2 h2 => ?_)
 obtain⟨it,fp,tn,J,H2,e,I2,T,mD,f2,q2⟩:=h2
 subst e
 refine Xj ?_
 have hl:H2 s2.heap.objs.size=none:=I2.fresh
 have I3:Inv X pins σ (upd H2 s2.heap.objs.size (.lst [])) { s2 with heap:=s2.heap.push { cls := .type "list",data := .seq ([]:List Value).toArray } }:=I2.cB (t':=s2.toks) (ys:=[]) .nil (W5 _)
 have k3:∀ b o,s2.heap.get? b=some o->(s2.heap.push { cls := .type "list",data := .seq ([]:List Value).toArray }).get? b=some o:=fun b o e=>qJ _ e
 have f3:∀ b∈fp,bF X pins (upd H2 s2.heap.objs.size (.lst [])) b:=fun b hb=>by
  obtain⟨o,e,_⟩:=T.obj _ _ mD b hb
  refine⟨?_,(f2 b hb).2⟩
  rw[aH (WL (EW e))]
  exact (f2 b hb).1
 generalize MH:upd H2 s2.heap.objs.size (.lst [])=H3 at I3 f3
 generalize MI:({ s2 with heap:=s2.heap.push { cls := .type "list",data := .seq ([]:List Value).toArray } }:Shared)=s3 at I3
 have Fd:∀ b o,s2.heap.get? b=some o->s3.heap.get? b=some o:=by rw[<-MI];exact k3
 have o3:∀ b∈fp,∃ o,s3.heap.get? b=some o:=fun b hb=>let ⟨o,e,_⟩:=T.obj _ _ mD b hb; ⟨o,Fd b o e⟩
 refine Mv ?_
 have k4:∀ b o,s3.heap.get? b=some o->(pushCells (s3.heap.push { cls := .type "dict",data := .dict #[] }) scope.names).get? b=some o:=fun b o e=>pushCells_keeps _ _ _ _ (qJ _ e)
 have uy:(pushCells (s3.heap.push { cls := .type "dict",data := .dict #[] }) scope.names).Ns s3.heap.objs.size (fun x=>([]:List (Str × Value)).reverse.lookup x):=(Heap.Ns.new s3.heap (.type "dict")).keeps (pushCells_keeps _ _)
 have I4:=MB (Nb:=Nb) (tk:=s3.toks) S I3 f3 o3 c1 c2 uy k4 fun x c e=>by
  have hz:(s3.heap.push { cls := .type "dict",data := .dict #[] }).objs.size=s3.heap.objs.size + 1:=Yk ..
  have e':(cellsFrom (s3.heap.push { cls := .type "dict",data := .dict #[] }).objs.size scope.names cl).lookup x=some c:=by rw[hz];exact e
  refine Ai (fun u c q => ?_) e'
  obtain⟨v,o,g1,g2⟩:=I3.cell u c (c1 _ _ q)
  exact⟨v,o,qJ _ g1,g2⟩
 generalize V7:pushCells (s3.heap.push { cls := .type "dict",data := .dict #[] }) scope.names=h₁ at k4 uy I4 ⊢
 obtain⟨W,w0,turn⟩:=q2 ⟨ux scope s3 cl,s3.heap.objs.size,s3,H3,fp⟩ s2.heap.objs.size hl
 rw[MH] at w0
 refine ME (d:=⟨ux scope s3 cl,s3.heap.objs.size,s3,H3,fp⟩) (fp:=fp) (tn:=tn) (J:=J) (Q:=Q) hc (hg _) (hf _) (he _) T rfl I4 (T.keep _ _ _ mD fun b hb o e=>k4 b o (Fd b o e)) (fun b hb => ?_) W w0 turn fun τ' H' s' I5 q5 => ?_
 ·obtain⟨o,e⟩:=o3 b hb
  refine⟨(f3 b hb).1,WL (EW e),fun z => ?_,.inl hb,fun x c ec => ?_,fun p hp=>absurd (show p∈([]:List (Addr × Obj)) from hp) (by simp)⟩
  ·rcases EZ.mp (I3.iq b z) with r | r
   ·exact (f3 b hb).2.1 r
   ·exact (f3 b hb).2.2.1 r
  ·rcases sF ec with q | ⟨q,_⟩
   ·exact (f3 b hb).2.2.2.2.1 x c (c1 _ _ q)
   ·have Aj:=EW e
    intro z
    subst z
    exact absurd (Nat.lt_of_succ_le q) (Nat.not_lt.mpr (X9 Aj))
 ·have I6:Inv X pins σ H' s':=MF I3 rfl rfl rfl f3 I5
  obtain⟨m,hn,_⟩:=I5.loc
  have fC:bF X pins H' s3.heap.objs.size:=I3.ir (wV _) I5.free
  exact fin _ _ _ _ m I6 fC (fun p c e=>fC.2.2.2.2.1 p c e) hn q5
theorem MJ (cp:List (Option Nat)) (Nb:List Str) (hc:X.calm=true) (hi:PI X tg iter wi) (hg:∀ d,PG (cF X scope Nb d) tg (g d)) (hf:∀ d,PF (cF X scope Nb d) ifs (tf d)) (he:∀ d,PE (cF X scope Nb d) elt (te d))
  (hk:scope.kind = .function:=by rfl) (ho:mI X.N X.env.scope scope Nb cp=true:=by first | rfl | kernel_rfl) (hs:∀ x,foldedSetIterable iter X.env x=pure x:=by intro _;rfl) :
  PE X (.ListComp elt [⟨tg,iter,ifs,0⟩] scope pos) (qN wi cp g tf te):=by
 intro pins s σ H Q I h
 rw[eval_ListComp]
 refine Fc (use:=none) hc (x0P hk ho) hi hg hf he hs I h fun l C H' s' m I' fC hcc hn q=>⟨m,hn,fun h' uz=>⟨.ref l,H',?_,rfl,q⟩⟩
 exact I'.turned (t':=s'.toks) (fun b o hb e=>(uz.2 b hb).trans e) fC.1 fC.2.1 fC.2.2.2.1 fC.2.2.2.2.1 fC.2.2.2.2.2
theorem MK (cp:List (Option Nat)) (Nb:List Str) {i:Nat} {x:Str} {pos' i5:Pos} (hN:X.N.Nodup) (hi:X.N[i]? = some x) (hx:Loc X.env.scope x) (hc:X.calm=true) (hit:PI X tg iter wi) (hg:∀ d,PG (cF X scope Nb d) tg (g d)) (hf:∀ d,PF (cF X scope Nb d) ifs (tf d)) (he:∀ d,PE (cF X scope Nb d) elt (te d))
  (hk:scope.kind = .function:=by rfl) (ho:mI X.N X.env.scope scope Nb cp=true:=by first | rfl | kernel_rfl) (hs:∀ x,foldedSetIterable iter X.env x=pure x:=by intro _;rfl)
  (uA:swapsWith (.ListComp elt [⟨tg,iter,ifs,0⟩] scope pos) (some (.Name x pos')) i5.line X.env=pure true:=by rfl)
  (nk:X.fn x=true\/X.env.scope.names.lookup x=some .local:=by first | exact .inl rfl | exact .inr rfl | assumption) :
  PS X (.Assign [.Name x pos'] (.ListComp elt [⟨tg,iter,ifs,0⟩] scope pos) i5) (bU (qN wi cp g tf te) (gg i)):=by
 intro pins s σ H D I h
 rw[exec_Assign_Name_used _ _ _ _ uA]
 refine nN (YF (nN ?_))
 show wpAny _ X.A (do let _ <- comprehension (.ListComp elt [⟨tg,iter,ifs,0⟩] scope pos) scope X.env _ (newList []) false (eval iter X.env) (some (assign (.Name x pos') X.env))) _ _ s
 refine nN (bt (Fc (use:=some (assign (.Name x pos') X.env)) (P:=fun _ s'=>SP X pins D .next s') hc (x0P hk ho) hit hg hf he hs I h fun l C H' s' m I' fC hcc hn q => ?_) fun _ s' hq=>uq (uq hq))
 show wpAny _ X.A (assign (.Name x pos') X.env (.ref l)) _ _ s'
 refine wpAny_assign_Name (D7 I' hN hi hx (v := .ref l) rfl (fun jF ML ⟨a,sb,ha⟩ => ?_) nk)
 have nC:C≠a:=by
  rcases ha with e | e
  ·rw[e];exact fC.2.1
  ·exact Yg (hcc _ _ e)
 refine⟨m,hn.sameBut sb nC,fun h' uz=>⟨_,H',?_,q⟩⟩
 exact ML.turned (t':=jF.toks) (fun b o hb e=>(uz.2 b hb).trans e) fC.1 fC.2.1 fC.2.2.2.1 fC.2.2.2.2.1 fC.2.2.2.2.2
end
section
variable {g:TG} {tf:TT} {te:TE}
end
section
variable {X:Cx} {pins:List (Addr × Obj)} {σ : St} {H:Hp} {s:Shared} {h':Heap} {T:Addr} {o:HO} {ch:List Addr} {t':Nat}
theorem Inv.gn (I:Inv X pins σ H s) (hf:∀ b∈ch,bF X pins H b) (k:∀ b u,b∉ch->s.heap.get? b=some u->h'.get? b=some u) (hT:s.heap.objs.size <= T) (new:aN X.prog X.w (upd H T o) h' T o) :
  Inv X pins σ (upd H T o) { s with heap:=h',toks:=t' }:=by
 have hn:H T=none:=I.aO.fresh hT
 have lh:∀ b u,H b=some u->b∉ch:=fun b u e hb=>by rw[(hf b hb).1] at e;cases e
 refine I.step (g':=s.gens) (d':=s.drawn) (ch:=ch) (fun b hb=>⟨(hf b hb).2.2.2.1,(hf b hb).2.1,(hf b hb).2.2.2.2.1,(hf b hb).2.2.2.2.2⟩) (fun b u _ _ hc e _=>k b u hc e) (fun b u _ _ hc e _=>⟨u.slots,k b u hc e⟩)
  (fun b u _ e n=>by rw[aH (WL (WD (EW e) hT))];exact n) (fun b u hc e=>⟨u,k b u hc e⟩) (fun b xs e=>by rw[aH (cz e hn)];exact e)
  (fun b u xs e=>by rw[aH (cz e hn)];exact e) (fun b ps e=>⟨#[],by rw[aH (cz e hn),e];simp⟩) (fun m hm => ?_) (fun b u e => ?_) I.bare
 ·obtain⟨u,es,ep,ho,r⟩:=hm
  exact⟨u,es,ep,k _ u (fun hb=>(hf _ hb).2.1 rfl) ho,r⟩
 ·by_cases hb:b=T
  ·subst hb;rw[bH] at e;cases e;exact new
  ·rw[aH hb] at e
   refine (I.aO b u e).eA (fun c v hc q=>k c v ?_ q) (fun c q=>by rw[aH (cz q hn)];exact q) fun c xs q=>by rw[aH (cz q hn)];exact q
   rcases hc with z | z
   ·rw[z];exact lh b u e
   ·exact lh c _ z
theorem Inv.g_ (I:Inv X pins σ H s) (hf:∀ b∈ch,bF X pins H b) (k:∀ b u,b∉ch->s.heap.get? b=some u->h'.get? b=some u):Inv X pins σ H { s with heap:=h',toks:=t' }:=by
 have lh:∀ b u,H b=some u->b∉ch:=fun b u e hb=>by rw[(hf b hb).1] at e;cases e
 refine I.step (g':=s.gens) (d':=s.drawn) (ch:=ch) (fun b hb=>⟨(hf b hb).2.2.2.1,(hf b hb).2.1,(hf b hb).2.2.2.2.1,(hf b hb).2.2.2.2.2⟩) (fun b u _ _ hc e _=>k b u hc e) (fun b u _ _ hc e _=>⟨u.slots,k b u hc e⟩)
  (fun b u _ e n=>n) (fun b u hc e=>⟨u,k b u hc e⟩) (fun b xs e=>e)
  (fun b u xs e=>e) (fun b ps e=>⟨#[],by rw[e];simp⟩) (fun m hm => ?_) (fun b u e => ?_) I.bare
 ·obtain⟨u,es,ep,ho,r⟩:=hm
  exact⟨u,es,ep,k _ u (fun hb=>(hf _ hb).2.1 rfl) ho,r⟩
 ·refine (I.aO b u e).eA (fun c v hc q=>k c v ?_ q) (fun c q=>q) fun c xs q=>q
  rcases hc with z | z
  ·rw[z];exact lh b u e
  ·exact lh c _ z
end
noncomputable def uB (K:PySem.W.Frag) (a:Addr):It :=
 ⟨fun i H=>∃ xs x,bo K H a xs/\xs[i]? = some x,fun i H x H'=>∃ T v,x = .ref T/\H T=none/\H'=upd H T (.tup [.int (i:Nat),v])/\∀ xs,bo K H a xs->xs[i]? = some v,fun i H=>∃ xs,bo K H a xs/\xs.length <= i⟩
theorem MM {P:Program} {w:World} {K:PySem.W.Frag} {elts:List Expr} {x1} {tp:Pos} (a e it:Addr) (j2:e≠it) :
  Turn P w K (.Tuple elts x1 tp) (uB K a) [e,it] e (fun i h=>(∃ old,IsEnum h e it (i:Nat) old)/\h.IsListIter it a i) where
 mem:=by simp
 obj:=fun i h st b hb=>by
  obtain⟨⟨old,he⟩,o,hi,hc,hd⟩:=st
  rcases EZ.mp hb with rfl | hb
  ·exact⟨_,he,fun v z=>by cases z⟩
  ·have z:b=it:=by simpa using hb
   subst z
   exact⟨o,hi,fun v z=>by rw[hd] at z;cases z⟩
 keep:=fun i h h' st k=>by
  obtain⟨⟨old,he⟩,hi⟩:=st
  exact⟨⟨old,k e (by simp) _ he⟩,hi.at fun o q=>k it (by simp) o q⟩
 item:=by
  intro X hP hw hK hc i pins s σ H E I hf st hg
  subst hP hw hK
  obtain⟨⟨old,he⟩,hi⟩:=st
  obtain⟨xs,x,hq,hx⟩:=hg
  obtain⟨ag,rv,p,hz⟩:=I.list hq
  obtain⟨u,hu,ru⟩:=rv.get hx
  refine wpAny_pyNext_enum_item he hi p.isList (x:=u) (by simpa using hu) j2 fun h1 oS uC Ak gm hk=>⟨_,rfl,?_⟩
  refine wpAny_letOwnedTupleGo_enum oS fun h2 Fe cA => ?_
  have hT:s.heap.objs.size≠e:=Ya (EW he)
  have nQ:h2.get? s.heap.objs.size=some { cls := .type "tuple",data := .seq #[.int i s.toks,u] }:=(cA.2 _ hT).trans Ak
  have k2:∀ b o,b∉[e,it]->s.heap.get? b=some o->h2.get? b=some o:=fun b o hb q=>by
   have sG:b≠e:=fun z=>hb (by simp[z])
   have iZ:b≠it:=fun z=>hb (by simp[z])
   exact (cA.2 _ sG).trans (hk b o sG iZ q)
  have hn:H s.heap.objs.size=none:=I.aO.fresh (wV _)
  refine⟨.ref s.heap.objs.size,upd H s.heap.objs.size (.tup [.int i,x]),I.gn (ch:=[e,it]) (t':=s.toks + 1) hf k2 (wV _) ?_,rfl,⟨_,x,rfl,hn,rfl,fun ys hy=>by rw[I.cY hy hq];exact hx⟩,⟨⟨u,?_⟩,?_⟩,fun b hb => ?_⟩
  ·exact⟨by show 2 <= sizeLine;decide,[.int i s.toks,u],.cons ⟨_,rfl⟩ (.cons ru .nil),_,nQ,rfl,_,rfl⟩
  ·have e3:((i:Int) + 1)=(((i + 1:Nat)):Int):=by omega
   rw[e3] at Fe
   exact Fe
  ·exact uC.at fun o q=>(cA.2 _ (Yg j2)).trans q
  ·have:b < s.heap.objs.size:=by
    obtain⟨o,q,_⟩:=hi
    rcases EZ.mp hb with rfl | hb
    ·exact EW he
    ·have z:b=it:=by simpa using hb
     subst z;exact EW q
   rw[aH (WL this)]
   exact (hf b hb).1
 done:=by
  intro X hP hw hK hc i pins s σ H E I hf st hg
  subst hP hw hK
  obtain⟨⟨old,he⟩,hi⟩:=st
  obtain⟨xs,hq,hx⟩:=hg
  obtain⟨ag,rv,p,hz⟩:=I.list hq
  have hl:=rv.length
  refine wpAny_pyNext_enum_end (I.ok.hd hc) he hi p.isList (by simp;omega) fun h1 eb=>⟨rfl,?_⟩
  obtain⟨f0,f1,f2,f3,f4,f5⟩:=hf it (by simp)
  exact I.turned (t':=s.toks) (fun b o hb q=>eb b o hb q) f0 f1 f3 f4 f5
 self:=fun A i s Q E st h=>by
  obtain⟨⟨old,he⟩,hi⟩:=st
  have hT:s.TypeIs (.ref e) "enumerate" := ⟨_,he,rfl⟩
  exact PySem.wpAny_pyIter_enum he h
section
variable {X:Cx} {elts:List Expr} {x1:Nat} {tp:Pos}
noncomputable def Ff (K:PySem.W.Frag) (ta:TA):TI:=fun σ H R=>ta σ H fun vs H1=>∃ a,vs=[.ref a]/\(∃ xs,bo K H1 a xs)/\R (uB K a) H1
theorem MN:bootBuiltins "enumerate" = some (.type "enumerate"):=by decide +kernel
theorem Fg:bootBuiltins "zip" = some (.type "zip"):=by decide +kernel
theorem MO {a:Expr} {ta:TA} {p pos:Pos} (hg:Gl X "enumerate") (hm:X.mg "enumerate" = none) (ha:PA X [a] ta) (hs:starEach [a] X.env=[(false,eval a X.env)]:=by rfl) :
  PI X (.Tuple elts x1 tp) (.Call (.Name "enumerate" p) [a] [] pos) (Ff X.K ta):=by
 intro pins s σ H R I h
 refine Call_ (nq I hg hm MN (XH (bt (ha pos pins s σ H _ I h) fun us s1 h0_ => el5 h0_ fun vs H1 I1 r1 q1 => ?_) hs rfl))
 obtain⟨l,e,⟨xs,hq⟩,q⟩:=q1
 subst e
 cases r1 with
 | cons r rr =>
  cases rr
  cases r
  obtain⟨ag,rv,p,hz⟩:=I1.list hq
  refine call_enumerate_list p.isList fun h' he hi gm hk => ?_
  have I2:Inv X pins σ H1 { s1 with heap:=h' }:=I1.kept (t':=s1.toks) hk
  refine PySem.wpAny_pyIter_enum he ?_
  refine⟨_,_,_,_,H1,rfl,I2,MM l (s1.heap.objs.size + 1) s1.heap.objs.size (Nat.succ_ne_self _),⟨⟨_,he⟩,hi⟩,fun b hb => ?_,q⟩
  have iJ:s1.heap.objs.size <= b:=by
   rcases EZ.mp hb with rfl | hb
   ·exact Nat.le_succ _
   ·have z:b=s1.heap.objs.size:=by simpa using hb
    rw[z];exact wV _
  exact I1.ir iJ (I1.aO.fresh iJ)
end
noncomputable def Fh (K:PySem.W.Frag) (a b:Addr):It :=
 ⟨fun i H=>∃ xs ys x y,bo K H a xs/\bo K H b ys/\xs[i]? = some x/\ys[i]? = some y,
  fun i H v H'=>∃ T x y,v = .ref T/\H T=none/\H'=upd H T (.tup [x,y])/\(∀ xs,bo K H a xs->xs[i]? = some x)/\∀ ys,bo K H b ys->ys[i]? = some y,
  fun i H=>∃ xs ys,bo K H a xs/\bo K H b ys/\(xs.length <= i\/ys.length <= i)⟩
structure MP (z TI TO i1 i2 l1 l2:Addr) (i:Nat) (h:Heap):Prop where
 hz:IsZip h z TI TO .none
 fP:IsPair h TI (.ref i1) (.ref i2)
 gq:∃ x y,IsPair h TO x y
 h1:h.IsListIter i1 l1 i
 h2:h.IsListIter i2 l2 i
theorem MQ {P:Program} {w:World} {K:PySem.W.Frag} {elts:List Expr} {x1} {tp:Pos} {z TI TO i1 i2 l1 l2:Addr} (D:ZipApart z TI TO i1 i2 l1 l2) :
  Turn P w K (.Tuple elts x1 tp) (Fh K l1 l2) [z,TI,TO,i1,i2] z (MP z TI TO i1 i2 l1 l2) where
 mem:=by simp
 obj:=fun i h st b hb=>by
  obtain⟨hz,fP,⟨x,y,gq⟩,⟨o1,q1,c1,d1⟩,⟨o2,q2,c2,d2⟩⟩:=st
  simp only[EZ,WC,Xy] at hb
  rcases hb with rfl | rfl | rfl | rfl | rfl
  ·exact⟨_,hz,fun v z=>by cases z⟩
  ·exact⟨_,fP,fun v z=>by cases z⟩
  ·exact⟨_,gq,fun v z=>by cases z⟩
  ·exact⟨_,q1,fun v z=>by rw[d1] at z;cases z⟩
  ·exact⟨_,q2,fun v z=>by rw[d2] at z;cases z⟩
 keep:=fun i h h' st k=>by
  obtain⟨hz,fP,⟨x,y,gq⟩,h1,h2⟩:=st
  exact⟨k z (by simp) _ hz,k TI (by simp) _ fP,⟨x,y,k TO (by simp) _ gq⟩,h1.at fun o q=>k i1 (by simp) o q,h2.at fun o q=>k i2 (by simp) o q⟩
 item:=by
  intro X hP hw hK hc i pins s σ H E I hf st hg
  subst hP hw hK
  obtain⟨hz,fP,⟨a,b,gq⟩,h1,h2⟩:=id st
  obtain⟨xs,ys,x,y,ku,kz,hx,hy⟩:=hg
  obtain⟨ag,rv,p,_⟩:=I.list ku
  obtain⟨bc,mK,p2,_⟩:=I.list kz
  obtain⟨u,hu,ru⟩:=rv.get hx
  obtain⟨v,hv,Al⟩:=mK.get hy
  refine wpAny_pyNext_zip_item D hz fP gq h1 h2 p.isList p2.isList (x:=u) (y:=v) (by simpa using hu) (by simpa using hv) fun g1 z1 t1 a1 a2 Am V8 k1=>⟨_,rfl,?_⟩
  refine wpAny_letOwnedTupleGo_zip z1 fun g2 z2 cA => ?_
  have An:s.heap.objs.size≠z:=Ya (EW hz)
  have Ao:IsPair g2 s.heap.objs.size u v:=(cA.2 _ An).trans Am
  have k2:∀ b o,b∉[z,TI,TO,i1,i2]->s.heap.get? b=some o->g2.get? b=some o:=fun b o hb q=>by
   simp only[EZ,WC,Xy,not_or] at hb
   exact (cA.2 _ hb.1).trans (k1 b o hb.1 hb.2.2.1 hb.2.2.2.1 hb.2.2.2.2 q)
  have hn:H s.heap.objs.size=none:=I.aO.fresh (wV _)
  refine⟨.ref s.heap.objs.size,upd H s.heap.objs.size (.tup [x,y]),I.gn (ch:=[z,TI,TO,i1,i2]) (t':=s.toks) hf k2 (wV _) ?_,rfl,⟨_,x,y,rfl,hn,rfl,fun zs hy=>by rw[I.cY hy ku];exact hx,fun zs pd=>by rw[I.cY pd kz];exact hy⟩,⟨z2,?_,⟨u,v,(cA.2 _ D.TOz).trans t1⟩,a1.at fun o q=>(cA.2 _ D.i1z).trans q,a2.at fun o q=>(cA.2 _ D.i2z).trans q⟩,fun b hb => ?_⟩
  ·exact⟨by show 2 <= sizeLine;decide,[u,v],.cons ru (.cons Al .nil),_,Ao,rfl,_,rfl⟩
  ·exact (cA.2 _ D.TIz).trans (k1 TI _ D.TIz D.TITO D.TIi1 D.TIi2 fP)
  ·have:b < s.heap.objs.size:=by
    obtain⟨o1,q1,_⟩:=h1
    obtain⟨o2,q2,_⟩:=h2
    simp only[EZ,WC,Xy] at hb
    rcases hb with rfl | rfl | rfl | rfl | rfl
    ·exact EW hz
    ·exact EW fP
    ·exact EW gq
    ·exact EW q1
    ·exact EW q2
   rw[aH (WL this)]
   exact (hf b hb).1
 done:=by
  intro X hP hw hK hc i pins s σ H E I hf st hg
  subst hP hw hK
  obtain⟨hz,fP,⟨a,b,gq⟩,h1,h2⟩:=id st
  obtain⟨xs,ys,ku,kz,hx⟩:=hg
  obtain⟨ag,rv,p,_⟩:=I.list ku
  obtain⟨bc,mK,p2,_⟩:=I.list kz
  have hl:=rv.length
  have qG:=mK.length
  refine wpAny_pyNext_zip_end (I.ok.hd hc) D hz fP gq h1 h2 p.isList p2.isList ?_ fun g1 k1=>⟨rfl,I.g_ (t':=s.toks) (ch:=[z,TI,TO,i1,i2]) hf fun b o hb q => ?_⟩
  ·rcases hx with hx | hx
   ·exact .inl (by simp;omega)
   ·exact .inr (by simp;omega)
  ·simp only[EZ,WC,Xy,not_or] at hb
   exact k1 b o hb.1 hb.2.2.1 hb.2.2.2.1 hb.2.2.2.2 q
 self:=fun A i s Q E st h=>Zr st.hz h
theorem MR (n l1 l2:Nat) (q1:l1 < n) (q2:l2 < n):ZipApart (n + 4) (n + 2) (n + 3) n (n + 1) l1 l2:=by
 constructor<;>(show @Ne Nat _ _;omega)
section
variable {X:Cx} {elts:List Expr} {x1:Nat} {tp:Pos}
noncomputable def uD (K:PySem.W.Frag) (ta:TA):TI:=fun σ H R=>ta σ H fun vs H1=>∃ a b,vs=[.ref a,.ref b]/\(∃ xs,bo K H1 a xs)/\(∃ ys,bo K H1 b ys)/\R (Fh K a b) H1
theorem MS {a b:Expr} {ta:TA} {p pos:Pos} (hg:Gl X "zip") (hm:X.mg "zip" = none) (ha:PA X [a,b] ta) (hs:starEach [a,b] X.env=[(false,eval a X.env),(false,eval b X.env)]:=by rfl) (cA:starEach [b] X.env=[(false,eval b X.env)]:=by rfl) :
  PI X (.Tuple elts x1 tp) (.Call (.Name "zip" p) [a,b] [] pos) (uD X.K ta):=by
 intro pins s σ H R I h
 refine Call_ (nq I hg hm Fg (XH (bt (ha pos pins s σ H _ I h) fun us s1 h0_ => el5 h0_ fun vs H1 I1 r1 q1 => ?_) (by rw[hs,cA]) (by rw[cA];rfl)))
 obtain⟨l1,l2,e,⟨xs,ku⟩,⟨ys,kz⟩,q⟩:=q1
 subst e
 cases r1 with
 | cons r rr =>
  cases rr with
  | cons r' Ap =>
   cases Ap
   cases r
   cases r'
   obtain⟨ag,rv,p,_⟩:=I1.list ku
   obtain⟨bc,mK,p2,_⟩:=I1.list kz
   have b1:l1 < s1.heap.objs.size:=by obtain⟨o,q,_⟩:=p.isList;exact EW q
   have b2:l2 < s1.heap.objs.size:=by obtain⟨o,q,_⟩:=p2.isList;exact EW q
   refine call_zip_2 p.isList p2.isList fun h' hz fP gq uC lC gm hk => ?_
   have I2:Inv X pins σ H1 { s1 with heap:=h' }:=I1.kept (t':=s1.toks) hk
   have D:=MR s1.heap.objs.size l1 l2 b1 b2
   refine Zr hz ?_
   refine⟨_,_,_,_,H1,rfl,I2,MQ D,⟨hz,fP,⟨_,_,gq⟩,uC,lC⟩,fun b hb => ?_,q⟩
   have iJ:s1.heap.objs.size <= b:=by
    simp only[EZ,WC,Xy] at hb
    rcases hb with rfl | rfl | rfl | rfl | rfl
    ·exact XQ _ _
    ·exact XQ _ _
    ·exact XQ _ _
    ·exact wV _
    ·exact XQ _ _
   exact I1.ir iJ (I1.aO.fresh iJ)
end
section
variable {X:Cx} {nm:Str} {tp:Pos}
end
end L2
namespace L2
open PySem PySem.Spec PyProof.Rows PySem.W
open Builtin Builtin.ObjectAttr
section
variable {prog:Program} {w:World} {A:Around} {E:Value->Shared->Prop} {s:Shared} {K:Frag} {x D:Addr} {ox:Obj} {mL:Option Obj} {name:Str}
theorem MT:builtinKind "BaseException.__getattribute__" = some .slot:=by decide +kernel
theorem MU:splitId "BaseException.__getattribute__" = some ("BaseException", "__getattribute__"):=by decide +kernel
theorem MV:plainId "BaseException.__getattribute__" = true:=PySem.F.attr_ValueError.ga.plain
theorem MW {tk:Tok} {Q:Unit->Shared->Prop} (X:K.In s.heap) (I:InstAt s.heap x ox D mL) (hb:mroIn K D (.type "BaseException")=some true) (q:Q () s) :
  wpAny (model prog w) A (checkBuiltinCall "BaseException.__getattribute__" ⟨[.ref x,.str name tk],[]⟩) Q E s:=by
 have sub:Looks (model prog w) s.heap (isInstance (.ref x) (.type "BaseException")) true:=(I.type (M:=model prog w)).andThen (looks_mroIn X hb)
 exact @check_slot (model prog w) A E s "BaseException.__getattribute__" "BaseException" "__getattribute__" (.ref x) [.str name tk] [] Q MT MU sub (PySem.F.args_bexc_ga (.ref x) (.str name tk)) q
theorem MX {tk:Tok} {Q:Value->Shared->Prop} (X:K.In s.heap) (I:InstAt s.heap x ox D mL) (hb:mroIn K D (.type "BaseException")=some true)
  (h:wpAny (model prog w) A.in1 (Builtin.«object.__getattribute__» ⟨[.ref x,.str name tk],[]⟩) (fun fin s'=>∃ v,fin = .done (.ret v)/\Q v s') E s) :
  wpAny (model prog w) A (call (.builtin "BaseException.__getattribute__") [.ref x,.str name tk]) Q E s:=by
 refine q0n (codeAny_call_builtin MV PySem.F.entry_bexc_ga ?_)
 refine MW X I hb ?_
 refine XF h (fun fin s' hf => ?_) fun _ _ z=>z
 obtain⟨v,rfl,q⟩:=hf
 exact q
theorem Fi {fill expr:Bool} {tk:Tok} {Q:Value->Shared->Prop} (X:K.In s.heap) (I:InstAt s.heap x ox D mL) (uE:findIn K (.ref D) "__getattribute__" = some (some (.builtin "BaseException.__getattribute__")))
  (uF:findIn K (.ref D) "__getattr__" = some none) (hb:mroIn K D (.type "BaseException")=some true)
  (h:wpAny (model prog w) A.in1 (Builtin.«object.__getattribute__» ⟨[.ref x,.str name tk],[]⟩) (fun fin s'=>∃ v,fin = .done (.ret v)/\handedIn v=true/\Q v s') (fun _ _=>False) s) :
  wpAny (model prog w) A (getAttrBy (.ref x) (.str name tk) fill expr) Q E s:=by
 have L0:=I.type (M:=model prog w)
 have L1:=looks_findIn (M:=model prog w) X uE
 have L2:=looks_findIn (M:=model prog w) X uF
 have yU:(onTheHeap (Value.ref D) && (Value.builtin "BaseException.__getattribute__" == Value.builtin "object.__getattribute__"))=false:=by
  rw[show (Value.builtin "BaseException.__getattribute__" == Value.builtin "object.__getattribute__")=false by decide +kernel];rfl
 have MY:(expr && onTheHeap (Value.builtin "BaseException.__getattribute__"))=false:=by cases expr<;>rfl
 have MZ:=PySem.F.attr_ValueError.ga.bind (.ref x)
 have main:wpAny (model prog w) A (callGetattribute (.ref x) (.str name tk) (.builtin "BaseException.__getattribute__") expr) (fun v s'=>handedIn v=true/\Q v s') (fun _ _=>False) s:=by
  unfold callGetattribute
  rw[MY,My EY]
  unfold boundAndCalled
  rw[MZ]
  refine nN (uq ?_)
  exact MX (Q:=fun v s'=>handedIn v=true/\Q v s') X I hb h
 unfold getAttrBy
 refine W6 (nN (L0.here (nN (L1.here ?_))))
 dsimp only
 rw[yU,My EY]
 unfold getAttrByItsOwn
 refine nN (L2.here (nN (Zs (W6 (XF main (fun v s' hf => ?_) fun _ _ z=>z.elim)))))
 dsimp only
 rw[handedOut_of hf.1]
 exact uq hf.2
theorem M0 {tk:Tok} {v:Value} {Q:Fin->Shared->Prop} (X:K.In s.heap) (I:InstAt s.heap x ox D mL) (hf:findObj K D mL name=some (.value v)) (h:Q (.done (.ret v)) s) :
  wpAny (model prog w) A (Builtin.«object.__getattribute__» ⟨[.ref x,.str name tk],[]⟩) Q E s:=by
 have L0:=I.type (M:=model prog w)
 have L1:=looks_find (M:=model prog w) X I hf
 refine nN (uq ?_)
 dsimp only
 refine nN (uq (nN (L0.here (nN (L1.here ?_)))))
 exact uq h
theorem M1 {expr:Bool} {v:Value} {Q:Value->Shared->Prop} (X:K.In s.heap) (I:InstAt s.heap x ox D mL) (uE:findIn K (.ref D) "__getattribute__" = some (some (.builtin "BaseException.__getattribute__")))
  (uF:findIn K (.ref D) "__getattr__" = some none) (hb:mroIn K D (.type "BaseException")=some true) (hf:findObj K D mL name=some (.value v)) (hv:handedIn v=true) (h:Q v { s with toks:=s.toks + 1 }) :
  wpAny (model prog w) A (getAttr (.ref x) name expr) Q E s:=by
 unfold getAttr
 refine nN (wpAny_mkText ?_)
 exact Fi (s:={ s with toks:=s.toks + 1 }) X I uE uF hb (M0 (s:={ s with toks:=s.toks + 1 }) X I hf ⟨v,rfl,hv,h⟩)
theorem M3 {Q:Option Value->Shared->Prop} (X:K.In s.heap) (I:InstAt s.heap x ox D mL) (uE:findIn K (.ref D) "__getattribute__" = some (some (.builtin "BaseException.__getattribute__")))
  (uF:findIn K (.ref D) "__getattr__" = some none) (hb:mroIn K D (.type "BaseException")=some true) (hm:mroIn K D (.type "object")=some true)
  (hf:findObj K D mL "__class__" = some (.bind (.builtin "getset_descriptor.__get__") (.builtin "object.__class__"))) (h:Q (some (.ref D)) { s with toks:=s.toks + 1 }) :
  wpAny (model prog w) A (getAttr? (.ref x) "__class__") Q E s:=by
 unfold getAttr? getAttrBy?
 refine nN (wpAny_mkText (nN (Zs ?_)))
 refine Fi (s:={ s with toks:=s.toks + 1 }) X I uE uF hb ?_
 have L0:=I.type (M:=model prog w)
 have L1:=looks_find (M:=model prog w) X I hf
 refine nN (uq ?_)
 dsimp only
 refine nN (uq (nN (Looks.here (s:={ s with toks:=s.toks + 1 }) L0 (nN (Looks.here (s:={ s with toks:=s.toks + 1 }) L1 ?_)))))
 show wpAny _ _ (holding [Value.builtin "object.__class__"] (call (.builtin "getset_descriptor.__get__") [.builtin "object.__class__",.ref x,.ref D]) >>= ret) _ _ _
 refine nN (W6 (q0n (class_get (s:={ s with toks:=s.toks + 1 }) (ox:=ox) (od:=mL) X I hm ?_)))
 exact uq ⟨.ref D,rfl,rfl,uq h⟩
noncomputable def jq:List Value->Bool
 | .ref _ :: r=>jq r
 | l=>l == [.type "ValueError",.type "Exception",.type "BaseException",.type "object"]
theorem uG:∀ {l:List Value},jq l=true->l.contains (.type "object")=true/\l.contains (.type "BaseException")=true/\l.isEmpty=false
 | .ref c :: r,e=>by
  have ih:=uG (l:=r) (by unfold jq at e;exact e)
  exact⟨by rw[Y4,ih.1,q0p],by rw[Y4,ih.2.1,q0p],rfl⟩
 | [],e=>by
  unfold jq at e
  rw[WV e];decide +kernel
 | .type n :: r,e=>by
  unfold jq at e
  rw[WV e];decide +kernel
 | .none :: r,e=>by unfold jq at e;cases WV e
 | .bool _ :: r,e=>by unfold jq at e;cases WV e
 | .int _ _ :: r,e=>by unfold jq at e;cases WV e
 | .float _ _ :: r,e=>by unfold jq at e;cases WV e
 | .str _ _ :: r,e=>by unfold jq at e;cases WV e
 | .bytes _ _ :: r,e=>by unfold jq at e;cases WV e
 | .builtin _ :: r,e=>by unfold jq at e;cases WV e
 | .notImplemented :: r,e=>by unfold jq at e;cases WV e
 | .ellipsis :: r,e=>by unfold jq at e;cases WV e
structure bL (K:Frag) (C:Addr):Prop where
 cd:∃ cd,clsIn K C=some cd/\jq cd.mro=true/\cd.hasDict=true
 ga:findIn K (.ref C) "__getattribute__" = some (some (.builtin "BaseException.__getattribute__"))
 gh:findIn K (.ref C) "__getattr__" = some none
 sa:findIn K (.ref C) "__setattr__" = some (some (.builtin "object.__setattr__"))
 cl:findIn K (.ref C) "__class__" = some (some (.builtin "object.__class__"))
 hn:specialIn K (.builtin "object.__class__") "__get__" = some (some (.builtin "getset_descriptor.__get__"))
 tk:takesIn K (.builtin "object.__class__")=some true
theorem bL.base {C:Addr} (c:bL K C):mroIn K C (.type "BaseException")=some true:=by
 obtain⟨cd,h1,h2,_⟩:=c.cd
 unfold mroIn
 rw[h1,Yy,My (by rw[(uG h2).2.2];decide),(uG h2).2.1]
theorem bL.obj {C:Addr} (c:bL K C):mroIn K C (.type "object")=some true:=by
 obtain⟨cd,h1,h2,_⟩:=c.cd
 unfold mroIn
 rw[h1,Yy,My (by rw[(uG h2).2.2];decide),(uG h2).1]
theorem M5 {C:Addr} {cd:ClassData} {od:Option Obj} {nm:Str} {g a:Value} (hc:clsIn K C=some cd) (ha:findIn K (.ref C) nm=some (some a)) (hn:specialIn K a "__get__" = some (some g)) (wK:takesIn K a=some true) :
  findObj K C od nm=some (.bind g a):=by
 unfold findObj
 rw[hc,Yy,ha,Yy]
 dsimp only
 rw[hn,Yy]
 dsimp only
 rw[wK,Yy]
theorem M6 {C:Addr} (c:bL K C):KitX K (.ref x) (.ref C) (fun h=>∃ ox od,InstAt h x ox C od) where
 ty:=fun _ _ _ I=>by obtain⟨_,_,I⟩:=I;exact I.type
 it:=fun _ _ X _=>by
  obtain⟨Fj,nR,_⟩:=c.cd
  unfold clsIn at nR
  split at nR
  ·rename_i c' d' M7 mB ho
   intro A' Q' E' s' k q
   unfold isType loadHead
   exact nN (wpAny_loadPart (k _ _ (X _ _ ho)) (uq q))
  ·cases nR
 ne:=fun h tp dd ag n sl X M8=>by
  obtain⟨Fj,nR,_⟩:=c.cd
  refine Bool.eq_false_iff.mpr fun q => ?_
  have e:C=tp:=Value.ref.inj (beq_iff_eq.mp q)
  subst e
  unfold clsIn at nR
  split at nR
  ·rename_i c' d' M7 mB ho
   have z:=(X _ _ ho).symm.trans M8
   cases z
  ·cases nR
 ca:=fun X I k=>by
  obtain⟨ox,od,I⟩:=I
  obtain⟨Fj,nR,_⟩:=c.cd
  exact M3 X I c.ga c.gh c.base c.obj (M5 nR c.cl c.hn c.tk) k
variable {h:Heap} {g:Array GenState} {d:Drawn} {t:Nat} {os:OsState} {nm q:Str} {C N:Addr} {bs bm V9:List Value} {i7:Bool} {sn:List Str} {sub:List Value} {ab:Bool} {col:Option Bool} {dd:Option Addr} {k0 k1 k2 k3 k5:Option Value} {B newId Aq:String}
end
end L2
namespace L2
open PySem PySem.Spec PyProof.Rows
noncomputable def gN (a C:Addr) (dx:Option Addr):HO := .ext fun h=>∃ t,h.get? a=some ⟨.ref C,dx,.fields #[.ref t,.none,.none,.none,.bool false,.none],#[]⟩
theorem M9 {P:Program} {w:World} {H:Hp} {h:Heap} {a C t:Addr} {dx:Option Addr} (e:h.get? a=some ⟨.ref C,dx,.fields #[.ref t,.none,.none,.none,.bool false,.none],#[]⟩):aN P w H h a (gN a C dx) :=
 ⟨⟨t,e⟩,⟨_,e⟩,fun h1 h2 ⟨t',e1⟩ k=>⟨t',k _ e1⟩⟩
theorem M_ {P:Program} {w:World} {H:Hp} {h:Heap} {a C:Addr} {dx:Option Addr} (x:aN P w H h a (gN a C dx)):∃ t,h.get? a=some ⟨.ref C,dx,.fields #[.ref t,.none,.none,.none,.bool false,.none],#[]⟩:=x.1
noncomputable def uH (K:PySem.W.Frag) (N:Addr) (name:Str) (r:Option Value):Prop:=∃ oc od es ep sl,K.lookup N=some ⟨oc,od,.dict es ep,sl⟩/\(es.all fun e=>match e.key with | .str _ _=>true | _=>false)=true/\nsFind es name=r
theorem uH.ns {K:PySem.W.Frag} {N:Addr} {name:Str} {r:Option Value} (x:uH K N name r) {h:Heap} (k:K.In h):∃ m,h.Ns N m/\m name=r:=by
 obtain⟨oc,od,es,ep,sl,l,hk,e⟩:=x
 refine⟨fun n=>nsFind es n,⟨_,es,ep,k _ _ l,rfl,fun en Na => ?_,fun _=>rfl⟩,e⟩
 have:=(Array.all_eq_true'.mp hk) en Na
 split at this
 ·rename_i s t q;exact⟨s,t,q⟩
 ·cases this
noncomputable abbrev sI:List Value:=[.type "ValueError",.type "Exception",.type "BaseException",.type "object"]
inductive cG (K:PySem.W.Frag):List Value->Prop
 | base:cG K sI
 | own {A:Addr} {c0:Value} {dd:Option Addr} {cd:ClassData} {sl:Array (Option Value)} {tl:List Value}:K.lookup A=some ⟨c0,dd,.cls cd,sl⟩->uH K cd.ns "__init__" none->cG K tl->cG K (.ref A :: tl)
theorem cG.tail {K:PySem.W.Frag} {l:List Value} (x:cG K l) {h:Heap} (k:K.In h):OwnTail h sI l:=by
 induction x with
 | base=>exact .base
 | own l n _ ih =>
  obtain⟨m,hn,e⟩:=n.ns k
  exact .own (k _ _ l) hn e ih
structure qO (K:PySem.W.Frag) (C:Addr) (lD:Option Value):Prop where
 Fl:∃ (nm q:Str) (N:Addr) (bs bm:List Value) (i7:Bool) (sn:List Str) (sub:List Value) (ab:Bool) (col:Option Bool) (dd:Option Addr) (k0 k1 k2 k3 k5:Option Value),
  K.lookup C=some (excClassObj nm q C N bs bm i7 sn sub ab col dd k0 k1 k2 k3 k5 "ValueError.__new__")/\cG K bm/\uH K N "__init__" lD
 kp:PySem.W.keepIn K (.ref C)=true
section
variable {X:Cx} {pins:List (Addr × Obj)} {σ : St} {H:Hp} {s:Shared} {C f:Addr} {CX:jY} {k:Nat} {fd:FuncData} {ps:List Str} {sp:Sp} {E:XK} {x:Str} {p pos pos':Pos} {e o value:Expr} {es:List Expr} {ta tv:TE} {t:TA}
theorem Fm {P:Program} {w:World} {H:Hp} {h:Heap} {a:Addr} {o:HO} (x:aN P w H h a o):∃ ob,h.get? a=some ob:=by
 cases o with
 | lst xs=>obtain⟨_,_,_,_,e⟩:=x;exact⟨_,e⟩
 | tup xs=>obtain⟨_,_,_,p⟩:=x;obtain⟨o,e,_⟩:=p;exact⟨_,e⟩
 | dK bx=>obtain⟨_,_,_,_,o,_,_,e,_⟩:=x;exact⟨_,e⟩
 | dT bx=>obtain⟨_,_,_,_,o,_,_,e,_⟩:=x;exact⟨_,e⟩
 | set S n=>obtain⟨o,_,_,_,e,_⟩:=x;exact⟨_,e⟩
 | ins C dx fs=>obtain⟨_,_,_,e,_⟩:=x;exact⟨_,e⟩
 | own y=>exact x
 | xd fs=>obtain⟨_,⟨_,_,_,e,_⟩,_⟩:=x;exact⟨_,e⟩
 | rng lo hi=>obtain⟨_,_,_,e⟩:=x;exact⟨_,e⟩
 | frz ob u=>obtain⟨e,_⟩:=x;exact⟨_,e⟩
 | tbl ps=>exact⟨_,(show h.get? a=some _ from x)⟩
 | met f y=>exact⟨_,(show h.get? a=some _ from x)⟩
 | ext φ => obtain⟨_,e,_⟩:=x;exact e
theorem Inv.pf {a:Addr} (I:Inv X pins σ H s) (hn:s.heap.get? a=none):H a=none:=by
 cases q:H a with
 | none=>rfl
 | some u =>
  obtain⟨o,ho⟩:=Fm (I.aO a u q)
  rw[hn] at ho;cases ho
theorem Inv.uI {h':Heap} {a:Addr} {u:HO} {t':Nat} (I:Inv X pins σ H s) (k:∀ b u,s.heap.get? b=some u->h'.get? b=some u) (hn:s.heap.get? a=none) (new:aN X.prog X.w (upd H a u) h' a u) :
  Inv X pins σ (upd H a u) { s with heap:=h',toks:=t' }:=by
 have hf:=I.pf hn
 have ne:∀ b ob,s.heap.get? b=some ob->b≠a:=fun b ob e z=>by rw[z,hn] at e;cases e
 refine I.un ⟨fun b o q _ _ _=>k b o q,fun b o q _ _ _=>⟨o.slots,k b o q⟩,fun b o q n _=>by rw[aH (ne b o q)];exact n,fun b o q _=>⟨o,k b o q⟩,fun b xs q=>by rw[aH (cz q hf)];exact q,fun b o xs q=>by rw[aH (cz q hf)];exact q,fun b ps q=>⟨#[],by rw[aH (cz q hf),q];simp⟩⟩ fun b o q => ?_
 by_cases hb:b=a
 ·subst hb;rw[bH] at q;cases q;exact new
 ·rw[aH hb] at q
  exact (I.aO b o q).eA (fun c v _ z=>k c v z) (fun c z=>by rw[aH (cz z hf)];exact z) fun c xs z=>by rw[aH (cz z hf)];exact z
theorem Inv.nU {h':Heap} {a:Addr} {us:List Value} (I:Inv X pins σ H s) (m:Heap.MadeExcOf s.heap h' a (.ref C) us):H a=none/\Inv X pins σ (upd H a (gN a C none)) { s with heap:=h' }:=by
 obtain⟨t,ht,_,_⟩:=m.there
 exact⟨I.pf m.new,I.uI (t':=s.toks) m.keeps m.new (M9 ht)⟩
noncomputable def uJ (C:Addr) (t:TA):TE:=fun σ H Q=>t σ H fun vs H1=>vs.length <= sizeLine/\∀ a,H1 a=none->Q (.ref a) (upd H1 a (gN a C none))
theorem Nc (M:qO X.K C none) (hg:Gl X x) (hm:X.mg x=some (.ref C)) (ha:PA X (e :: es) t) (gj:(x == ("__debug__" : Str))=false:=by decide)
  (he:starEach (e :: es) X.env=(false,eval e X.env) :: starEach es X.env:=by rfl) (fL:(backTo pos (starEach es X.env)).any (·.1)=false:=by rfl) :
  PE X (.Call (.Name x p) (e :: es) [] pos) (uJ C t):=by
 intro pins s σ H Q I h
 refine YA (wF I hg hm ?_ gj)
 refine PySem.W.callWith_K (h₀ := X.base) I.ok.mod.m_ M.kp (bt (ha pos pins s σ H _ I h) fun us s1 ⟨vs,H1,I1,r,hz,q⟩=>⟨I1.fJ,?_⟩) he fL
 obtain⟨nm,q',N,bs,bm,i7,sn,sub,ab,col,dd,k0,k1,k2,k3,k5,l,T,n⟩:=M.Fl
 obtain⟨mN,hN,hi⟩:=n.ns I1.fJ
 obtain⟨hp,g,d,tk,os⟩:=s1
 refine wpAny_call_exc_subT PySem.F.excBase_ValueError (T.tail I1.fJ) (I1.fJ _ _ l) hN hi (fun h' a hm => ?_) (by rw[q0x,<-r.length];exact hz)
 obtain⟨hf,I2⟩:=I1.nU hm
 exact⟨.ref a,_,I2,rfl,q a hf⟩
end
section
variable {X:Cx}
noncomputable def nW:V->Option Value
 | .ty n=>some (.type n)
 | .ref a=>some (.ref a)
 | _=>none
theorem Fo {y:V} {u c:Value} (r:RelV y u) (e:nW y=some c):u=c:=by
 cases y with
 | ty n=>cases e;exact r
 | ref a=>cases e;exact r
 | _=>cases e
theorem Nd:jm X (.builtin "isinstance") (fun xs H Q=>∃ x y c t b,xs=[x,y]/\nW y=some c/\eD X.K H x t/\PySem.W.kitOne X.K t c=some b/\Q (.bl b) H):=by
 intro pins s σ H xs us Q I rv h
 obtain⟨x,y,c,t,b,rfl,hc,ty,e,q⟩:=h
 obtain⟨u,w',rfl,rx,ry⟩:=rv.two
 rw[Fo ry hc]
 exact Lr I rx ty e fun tk=>⟨.bl b,H,I.tok tk,rfl,q⟩
theorem Fp {x:V}:∀ {xs:List V} {us:List Value},Vals xs us->xs.all kP=true->us.countP (o9 x)=xs.countP fun y=>g9 y x
 | _,_,.nil,_=>rfl
 | y :: xs,u :: us,.cons r t,f=>by
  rw[Z9,VY] at f
  rw[Yw,Yw,Fp t f.2,zR r f.1]
theorem IsList.parts {h:Heap} {l:Addr} {items:Array Value} (x:h.IsList l items):∃ dd n sl,h.get? l=some { cls := .type "list",dict:=dd,data := .seq items n,slots:=sl }:=by
 obtain⟨⟨cls,dd,data,sl⟩,ho,hc,n,hd⟩:=x
 simp only at hc hd
 subst hc hd
 exact⟨dd,n,sl,ho⟩
noncomputable def Nf (K:PySem.W.Frag):V->List V->Hp->VK->Prop:=fun x vs H Q=>∃ l xs y,x = .ref l/\vs=[y]/\bo K H l xs/\kP y=true/\xs.all kP=true/\Q (.int (xs.countP fun z=>g9 z y:Nat)) H
theorem Ng:ur X "list.count" (Nf X.K):=by
 intro pins s σ H x vs v us Q I rx rv h
 obtain⟨l,xs,y,rfl,rfl,hq,fy,fs,q⟩:=h
 cases rx
 obtain⟨u,rfl,ru⟩:=rv.one
 obtain⟨ag,r,pl,hz⟩:=I.list hq
 obtain⟨dd,n,sl,e⟩:=IsList.parts pl.isList
 refine Zq F.slot_list_count ⟨_,e,rfl⟩ F.entry_list_count (F.args_list_count_2 _ _) (SeqAt.list_countAt l ag.toArray n dd sl u (o9 y)) ⟨e,fun w hw=>zS ru fy r fs w (by simpa using hw),?_⟩
 refine⟨.int _,H,I.tok _,⟨_,rfl⟩,?_⟩
 have e2:ag.toArray.toList.countP (o9 y)=xs.countP fun z=>g9 z y:=by rw[List.toList_toArray];exact Fp r fs
 rw[e2]
 exact q
noncomputable def Nh (K:PySem.W.Frag):V->List V->Hp->VK->Prop:=fun x vs H Q=>∃ l xs y j,x = .ref l/\vs=[y]/\bo K H l xs/\kP y=true/\xs.all kP=true/\j < xs.length/\(∀ z,xs[j]? = some z->g9 z y=true)/\(∀ m z,m < j->xs[m]? = some z->g9 z y=false)/\Q (.int (j:Nat)) H
theorem Ni {x:V} {xs:List V} {us:List Value} (r:Vals xs us) (f:xs.all kP=true) {j:Nat} {u:Value} (hu:us[j]? = some u):∃ z,xs[j]? = some z/\o9 x u=g9 z x:=by
 have hl:=r.length
 have hj:j < us.length:=(qK.mp hu).1
 have hz:xs[j]? = some (xs[j]'(by omega)):=qI _
 obtain⟨u',e,ru⟩:=r.get hz
 rw[hu] at e;cases e
 exact⟨_,hz,zR ru ((Xb.mp f) _ (Yh _))⟩
theorem Nj:ur X "list.index" (Nh X.K):=by
 intro pins s σ H x vs v us Q I rx rv h
 obtain⟨l,xs,y,j,rfl,rfl,hq,fy,fs,hj,h1,h2,q⟩:=h
 cases rx
 obtain⟨u,rfl,ru⟩:=rv.one
 obtain⟨ag,r,pl,hz⟩:=I.list hq
 obtain⟨dd,n,sl,e⟩:=IsList.parts pl.isList
 have hl:=r.length
 have line:=qw
 have at_:∀ (m:Nat) (hm:m < ag.toArray.size),∃ z,xs[m]? = some z/\o9 y ag.toArray[m]=g9 z y:=fun m hm=>Ni r fs (by simp[qI (show m < ag.length by simpa using hm)])
 refine Zq F.slot_list_index ⟨_,e,rfl⟩ F.entry_list_index (F.args_list_index_2 _ _) (SeqAt.list_indexAt l ag.toArray n dd sl u (o9 y) j (by simp;omega) (by omega) ?_ ?_) ⟨e,fun w hw=>zS ru fy r fs w (by simpa using hw),?_⟩
 ·obtain⟨z,e1,e2⟩:=at_ j (by simp;omega)
  rw[e2];exact h1 z e1
 ·intro m hm Nk
  obtain⟨z,e1,e2⟩:=at_ m hm
  rw[e2];exact h2 m z Nk e1
 ·exact⟨.int _,H,I.tok _,⟨_,rfl⟩,q⟩
end
theorem Nl {K:PySem.W.Frag} {a:Addr} {xs:List V} {g:TG} {tb:TS} {D:Ends} {σ : St} {H:Hp} (Pv:Nat->St->Hp->Prop) (h0:Pv 0 σ H) (hl:∀ i σ H,i <= xs.length->Pv i σ H->bo K H a xs)
  (hs:∀ i x T σ H,xs[i]? = some x->Pv i σ H->H T=none->g (.ref T) σ (upd H T (.tup [.int (i:Nat),x])) fun σ2 H2=>tb { D with nx:=Pv (i + 1),ct:=Pv (i + 1),bk:=D.nx } σ2 H2) (hd:∀ σ H,Pv xs.length σ H->D.nx σ H) :
  ∃ W:Nat->Nat->St->Hp->Prop,(∃ m,W 0 m σ H)/\∀ i m σ H,W i m σ H →
   ((uB K a).stop i H/\D.nx σ H)\/((uB K a).go i H/\∃ N:St->Hp->Prop,(∀ σ' H',N σ' H'->∃ m',m' < m/\W (i + 1) m' σ' H')/\∀ x H',(uB K a).sv i H x H'->g x σ H' fun σ2 H2=>tb { D with nx:=N,ct:=N,bk:=D.nx } σ2 H2):=by
 refine⟨fun i m σ H=>m=xs.length - i/\i <= xs.length/\Pv i σ H,⟨xs.length,by simp,W5 _,h0⟩,?_⟩
 rintro i m σ H ⟨rfl,hi,p⟩
 have q:=hl i σ H hi p
 by_cases dY:i < xs.length
 ·refine .inr ⟨⟨xs,xs[i],q,by simp[dY]⟩,Pv (i + 1),fun σ' H' p'=>⟨xs.length - (i + 1),by omega,rfl,dY,p'⟩,fun x H' y => ?_⟩
  obtain⟨T,v,rfl,hT,rfl,y⟩:=y
  exact hs i v T σ H (y xs q) p hT
 ·have e:i=xs.length:=by omega
  subst e
  exact .inl ⟨⟨xs,q,wV _⟩,hd σ H p⟩
section
variable {g:TG} {tf:TT} {te:TE} {l:Addr} {τ0:St} {H0:Hp} {Q:VK}
end
section
variable {X:Cx} {es:List Expr} {te:TE} {t:TA}
theorem uK {c j p} (ha:PE X (.Constant c j p) te) (hr:PA X es t):PA X (.Constant c j p :: es) (gi te t):=nD ha hr rfl
theorem Ar {x p} (ha:PE X (.Name x p) te) (hr:PA X es t):PA X (.Name x p :: es) (gi te t):=nD ha hr rfl
theorem As {f a k p} (ha:PE X (.Call f a k p) te) (hr:PA X es t):PA X (.Call f a k p :: es) (gi te t):=nD ha hr rfl
theorem Au {a p} (ha:PE X (.List a p) te) (hr:PA X es t):PA X (.List a p :: es) (gi te t):=nD ha hr rfl
theorem Av {a k p} (ha:PE X (.Tuple a k p) te) (hr:PA X es t):PA X (.Tuple a k p :: es) (gi te t):=nD ha hr rfl
theorem Aw {a k p} (ha:PE X (.Subscript a k p) te) (hr:PA X es t):PA X (.Subscript a k p :: es) (gi te t):=nD ha hr rfl
theorem Ax {a k p} (ha:PE X (.Attribute a k p) te) (hr:PA X es t):PA X (.Attribute a k p :: es) (gi te t):=nD ha hr rfl
end
inductive D where
 | non | bl (b:Bool) | int (i:Int) | str (x:Str) | tup (xs:List D) | lst (xs:List D)
mutual
noncomputable def Is (H:Hp):D->V->Prop
 | .non,v=>v = .non
 | .bl b,v=>v = .bl b
 | .int i,v=>v = .int i
 | .str x,v=>v = .str x
 | .tup ds,v=>∃ a vs,v = .ref a/\H a=some (.tup vs)/\af H ds vs
 | .lst ds,v=>∃ a vs,v = .ref a/\H a=some (.lst vs)/\af H ds vs
noncomputable def af (H:Hp):List D->List V->Prop
 | [],vs=>vs=[]
 | d :: ds,vs=>∃ v r,vs=v :: r/\Is H d v/\af H ds r
end
mutual
theorem Is.same {H H':Hp} (s:aA H H'):∀ {d:D} {v:V},Is H d v->Is H' d v
 | .non,_,h=>h
 | .bl _,_,h=>h
 | .int _,_,h=>h
 | .str _,_,h=>h
 | .tup _,_,h=>by
  simp only[Is] at h ⊢
  obtain⟨a,vs,e,h1,h2⟩:=h
  exact⟨a,vs,e,s _ _ h1,af.same s h2⟩
 | .lst _,_,h=>by
  simp only[Is] at h ⊢
  obtain⟨a,vs,e,h1,h2⟩:=h
  exact⟨a,vs,e,s _ _ h1,af.same s h2⟩
theorem af.same {H H':Hp} (s:aA H H'):∀ {d:List D} {v:List V},af H d v->af H' d v
 | [],_,h=>h
 | _ :: _,_,h=>by
  simp only[af] at h ⊢
  obtain⟨v,r,e,h1,h2⟩:=h
  exact⟨v,r,e,Is.same s h1,af.same s h2⟩
end
theorem af.length {H:Hp}:∀ {ds:List D} {vs:List V},af H ds vs->vs.length=ds.length
 | [],_,h=>by simp only[af] at h;rw[h];rfl
 | _ :: _,_,h=>by
  simp only[af] at h
  obtain⟨v,r,rfl,_,h2⟩:=h
  rw[Mj,Mj,af.length h2]
theorem af.get {H:Hp}:∀ {ds:List D} {vs:List V} {i:Nat} {v:V},af H ds vs->vs[i]? = some v->∃ d,ds[i]? = some d/\Is H d v
 | [],_,i,v,h,e=>by simp only[af] at h;rw[h] at e;simp at e
 | d :: ds,_,i,v,h,e=>by
  simp only[af] at h
  obtain⟨v',r,rfl,h1,h2⟩:=h
  cases i with
  | zero=>simp at e;subst e;exact⟨d,rfl,h1⟩
  | succ i=>simp at e;simpa using af.get h2 e
theorem af.nil {H:Hp}:af H [] []:=by simp only[af]
theorem af.cons {H:Hp} {d:D} {ds:List D} {v:V} {vs:List V} (h:Is H d v) (r:af H ds vs):af H (d :: ds) (v :: vs):=by
 simp only[af]
 exact⟨v,vs,rfl,h,r⟩
theorem af.snoc {H:Hp} {d:D} {v:V}:∀ {ds:List D} {vs:List V},af H ds vs->Is H d v->af H (ds ++ [d]) (vs ++ [v])
 | [],_,h,q=>by simp only[af] at h;subst h;exact .cons q .nil
 | _ :: _,_,h,q=>by
  simp only[af] at h
  obtain⟨v',r,rfl,h1,h2⟩:=h
  exact .cons h1 (af.snoc h2 q)
mutual
noncomputable def dep:D->Nat
 | .tup ds=>bg ds + 1
 | .lst ds=>bg ds + 1
 | _=>0
noncomputable def bg:List D->Nat
 | []=>0
 | d :: ds=>max (dep d) (bg ds)
end
mutual
noncomputable def kQ:D->Bool
 | .tup _=>false
 | .lst ds=>decide (ds.length <= 1000) && ph ds
 | _=>true
noncomputable def ph:List D->Bool
 | []=>true
 | d :: ds=>kQ d && ph ds
end
theorem Az:∀ {ds:List D} {i:Nat} {d:D},ds[i]? = some d->dep d <= bg ds
 | [],i,d,e=>by simp at e
 | d' :: ds,0,d,e=>by simp at e;subst e;simp only[bg];exact Nat.le_max_left _ _
 | d' :: ds,i + 1,d,e=>by simp at e;simp only[bg];exact W7 (Az e) (Nat.le_max_right _ _)
noncomputable def bB:D->String
 | .non => "NoneType" | .bl _ => "bool" | .int _ => "int" | .str _ => "str" | .tup _ => "tuple" | .lst _ => "list"
theorem Is.ty {K:PySem.W.Frag} {H:Hp}:∀ {d:D} {v:V},Is H d v->eD K H v (.type (bB d))
 | .non,_,h=>by cases (show _=_ from h);exact .non
 | .bl b,_,h=>by cases (show _=_ from h);exact .bl b
 | .int i,_,h=>by cases (show _=_ from h);exact .int i
 | .str x,_,h=>by cases (show _=_ from h);exact .str x
 | .tup _,_,h=>by
  simp only[Is] at h
  obtain⟨a,vs,rfl,h1,_⟩:=h
  exact .tup h1
 | .lst _,_,h=>by
  simp only[Is] at h
  obtain⟨a,vs,rfl,h1,_⟩:=h
  exact .lst h1
noncomputable def aP (T c:String):Bool:=T == c || (T == "bool" && c == "int")
section
variable {K:PySem.W.Frag}
theorem Nm:∀ T∈["NoneType", "bool", "int", "str", "tuple", "list"],PySem.W.kitOne K (.type T) (.type "bool")=some (aP T "bool"):=by
 intro T hT
 simp only[EZ,WC,Xy] at hT
 rcases hT with rfl | rfl | rfl | rfl | rfl | rfl<;>kernel_rfl
theorem Nn:∀ T∈["NoneType", "bool", "int", "str", "tuple", "list"],PySem.W.kitOne K (.type T) (.type "int")=some (aP T "int"):=by
 intro T hT
 simp only[EZ,WC,Xy] at hT
 rcases hT with rfl | rfl | rfl | rfl | rfl | rfl<;>kernel_rfl
theorem Np:∀ T∈["NoneType", "bool", "int", "str", "tuple", "list"],PySem.W.kitOne K (.type T) (.type "str")=some (aP T "str"):=by
 intro T hT
 simp only[EZ,WC,Xy] at hT
 rcases hT with rfl | rfl | rfl | rfl | rfl | rfl<;>kernel_rfl
theorem kit_tuple:∀ T∈["NoneType", "bool", "int", "str", "tuple", "list"],PySem.W.kitOne K (.type T) (.type "tuple")=some (aP T "tuple"):=by
 intro T hT
 simp only[EZ,WC,Xy] at hT
 rcases hT with rfl | rfl | rfl | rfl | rfl | rfl<;>kernel_rfl
theorem Nq:∀ T∈["NoneType", "bool", "int", "str", "tuple", "list"],PySem.W.kitOne K (.type T) (.type "list")=some (aP T "list"):=by
 intro T hT
 simp only[EZ,WC,Xy] at hT
 rcases hT with rfl | rfl | rfl | rfl | rfl | rfl<;>kernel_rfl
theorem uL (d:D):bB d∈["NoneType", "bool", "int", "str", "tuple", "list"]:=by cases d<;>simp[bB]
end
section
variable {X:Cx}
noncomputable def strsOf:List Expr->Option (List Str)
 | []=>some []
 | .Constant (.str x) _ _ :: r=>(strsOf r).map (x :: ·)
 | _=>none
theorem Fq:∀ {es:List Expr} {ss:List Str},strsOf es=some ss->PA X es (fun _ H Q=>Q (ss.map V.str) H)
 | [],ss,h=>by
  cases h
  exact fun pos pins s σ H Q I h=>zC pos pins s σ H Q I h
 | .Constant (.str x) j p :: r,ss,h=>by
  obtain⟨s2,h2,rfl⟩:=WJ.mp (show (strsOf r).map (x :: ·)=some ss from h)
  have ih:=Fq h2
  exact fun pos pins s σ H Q I h=>uK (zh (j:=j) (pos:=p)) ih pos pins s σ H Q I h
 | .Constant (.int _) _ _ :: _,_,h=>by cases h
 | .Constant (.bool _) _ _ :: _,_,h=>by cases h
 | .Constant .none _ _ :: _,_,h=>by cases h
 | .Name _ _ :: _,_,h=>by cases h
theorem Nr {es:List Expr} {ss:List Str} {pos:Pos} (h:strsOf es=some ss) (hz:ss.length <= sizeLine):PE X (.List es pos) (fun _ H Q=>∀ p,H p=none->Q (.ref p) (upd H p (.lst (ss.map V.str)))):=by
 intro pins s σ H Q I hq
 exact Ex (Fq h) pins s σ H Q I ⟨by rw[sE];exact hz,hq⟩
theorem PE.weak {e:Expr} {t t':TE} (h:PE X e t) (k:∀ σ H Q,t' σ H Q->t σ H Q):PE X e t':=fun pins s σ H Q I q=>h pins s σ H Q I (k σ H Q q)
theorem PT.weak {e:Expr} {t t':TT} (h:PT X e t) (k:∀ σ H Q,t' σ H Q->t σ H Q):PT X e t':=fun pins s σ H Q I q=>h pins s σ H Q I (k σ H Q q)
theorem PA.weak {es:List Expr} {t t':TA} (h:PA X es t) (k:∀ σ H Q,t' σ H Q->t σ H Q):PA X es t':=fun pos pins s σ H Q I q=>h pos pins s σ H Q I (k σ H Q q)
theorem PS.weak {st:Stmt} {t t':TS} (h:PS X st t) (k:∀ D σ H,t' D σ H->t D σ H):PS X st t':=fun pins s σ H D I q=>h pins s σ H D I (k D σ H q)
theorem fK.weak {st:List Stmt} {t t':TS} (h:fK X st t) (k:∀ D σ H,t' D σ H->t D σ H):fK X st t':=fun pins s σ H D I q=>h pins s σ H D I (k D σ H q)
theorem Nt {i:Nat} {x:Str} {es:List Expr} {te:TE} {pos' p pos:Pos} (hN:X.N.Nodup) (hi:X.N[i]? = some x) (hx:Loc X.env.scope x) (he:PE X (.List es p) te) (hf:X.fn x=true\/X.env.scope.names.lookup x=some .local):PS X (.Assign [.Name x pos'] (.List es p) pos) (bU te (gg i)):=wG hN hi hx he rfl hf
theorem Nu {i:Nat} {x:Str} {a b:Expr} {op:Operator} {te:TE} {pos' p pos:Pos} (hN:X.N.Nodup) (hi:X.N[i]? = some x) (hx:Loc X.env.scope x) (he:PE X (.BinOp a op b p) te) (hf:X.fn x=true\/X.env.scope.names.lookup x=some .local):PS X (.Assign [.Name x pos'] (.BinOp a op b p) pos) (bU te (gg i)):=wG hN hi hx he rfl hf
theorem Nv {i:Nat} {x:Str} {f:Expr} {as:List Expr} {ks:List Keyword} {te:TE} {pos' p pos:Pos} (hN:X.N.Nodup) (hi:X.N[i]? = some x) (hx:Loc X.env.scope x) (he:PE X (.Call f as ks p) te) (hf:X.fn x=true\/X.env.scope.names.lookup x=some .local):PS X (.Assign [.Name x pos'] (.Call f as ks p) pos) (bU te (gg i)):=wG hN hi hx he rfl hf
theorem Nx {c A B:Prop} [Decidable c] (hc:¬ c) (h:A):if (!decide c)=true then A else B:=by
 rw[WZ hc];exact h
theorem Ny {L:List Stmt} {k:Nat} {d:Stmt} {t u:TS} (hk:k < L.length) (h:PS X (L.getD k d) t) (r:fK X (L.drop (k + 1)) u):fK X (L.drop k) (jD t u):=by
 have e:L.drop k=L.getD k d :: L.drop (k + 1):=by
  rw[Xu hk,EX,qI hk];rfl
 rw[e];exact Ee h r
theorem Nz {L:List Stmt} {k:Nat} {d:Stmt} {t:TS} (hk:L.length=k + 1) (h:PS X (L.getD k d) t):fK X (L.drop k) t:=by
 have iL:k < L.length:=by omega
 have e:L.drop k=[L.getD k d]:=by
  rw[Xu iL,EX,qI iL,Zh (by omega)];rfl
 rw[e];exact Ef h
theorem NA {L:List Stmt} {t:TS} (h:fK X (L.drop 0) t):fK X L t:=h
theorem i8 {n:Nat} (h:n <= 20):n <= sizeLine:=X9 (wW (W7 h (by decide)))
end
section
variable {κ : Type} [DecidableEq κ]
end
section
variable {P:Program} {w:World} {H:Hp} {h:Heap} {a:Addr}
end
section
variable {X:Cx} {pins:List (Addr × Obj)} {σ : St} {H:Hp} {s:Shared} {a:Addr} {y v:V} {u r:Value} {o:Option V} {A:Around} {E:Value->Shared->Prop}
end
section
variable {X:Cx} {pins:List (Addr × Obj)} {σ : St} {H:Hp} {s:Shared} {a:Addr} {bx:List (Key × V)} {k:Key} {u:Value} {A:Around} {E:Value->Shared->Prop}
end
section
variable {X:Cx} {o i e value:Expr} {pos pos' zB:Pos} {td ty tv:TE}
end
section
variable {X:Cx} {pos:Pos}
end
section
variable {X:Cx} {pins:List (Addr × Obj)} {σ : St} {H:Hp} {s:Shared} {a:Addr} {y d:V} {u r:Value} {o:Option V} {A:Around} {E:Value->Shared->Prop}
end
section
variable {X:Cx} {o e f:Expr} {apos eF:Pos} {td ty tx:TE}
end
section
variable {X:Cx} {pins:List (Addr × Obj)} {σ : St} {H:Hp} {s:Shared} {a:Addr} {bx:List (Key × V)} {A:Around} {E:Value->Shared->Prop}
end
section
variable {X:Cx} {pins:List (Addr × Obj)} {σ : St} {H:Hp} {s:Shared} {a:Addr} {y:V} {u:Value} {A:Around} {E:Value->Shared->Prop}
end
end L2
namespace L2
section
variable {κ : Type} [DecidableEq κ]
end
end L2
namespace L2
open PySem PySem.Spec PyProof.Rows
structure JE (X:Cx) (e:Expr) (t:TE):Prop where
 out:PE X e t
structure JT (X:Cx) (e:Expr) (t:TT):Prop where
 out:PT X e t
structure JW (X:Cx) (e:Expr) (t:TT):Prop where
 out:PW X e t
structure JA (X:Cx) (es:List Expr) (t:TA):Prop where
 out:PA X es t
structure JS (X:Cx) (st:Stmt) (t:TS):Prop where
 out:PS X st t
structure cV (X:Cx) (st:List Stmt) (t:TS):Prop where
 out:fK X st t
structure JF (X:Cx) (ifs:List Expr) (t:TT):Prop where
 out:PF X ifs t
structure JG (X:Cx) (tg:Expr) (t:TG):Prop where
 out:PG X tg t
structure kR (X:Cx) (ts:List Expr) (t:jX):Prop where
 out:tY X ts t
structure JI (X:Cx) (tg iter:Expr) (wi:TI):Prop where
 out:PI X tg iter wi
structure JC (X:Cx) (op:CmpOp) (a b:Expr) (t:TE):Prop where
 out:PC X op a b t
theorem JE.weak {X:Cx} {e:Expr} {t t':TE} (h:JE X e t) (k:∀ σ H Q,t' σ H Q->t σ H Q):JE X e t':=⟨PE.weak h.out k⟩
theorem JT.weak {X:Cx} {e:Expr} {t t':TT} (h:JT X e t) (k:∀ σ H Q,t' σ H Q->t σ H Q):JT X e t':=⟨PT.weak h.out k⟩
theorem JA.weak {X:Cx} {es:List Expr} {t t':TA} (h:JA X es t) (k:∀ σ H Q,t' σ H Q->t σ H Q):JA X es t':=⟨PA.weak h.out k⟩
theorem JS.weak {X:Cx} {st:Stmt} {t t':TS} (h:JS X st t) (k:∀ D σ H,t' D σ H->t D σ H):JS X st t':=⟨PS.weak h.out k⟩
theorem cV.weak {X:Cx} {st:List Stmt} {t t':TS} (h:cV X st t) (k:∀ D σ H,t' D σ H->t D σ H):cV X st t':=⟨fK.weak h.out k⟩
theorem JW.jt {X:Cx} {e:Expr} {t:TT} (h:JW X e t):JT X e t:=⟨PW.pt h.out⟩
theorem NB {X:Cx} {i:Nat} {x:Str} {pos:Pos} (hN:X.N[i]? = some x) (hv:oU X.env.scope x) (hd:(x == ("__debug__" : Str))=false:=by decide) (fq:(x == ("__classdict__" : Str))=false:=by decide):JE X (.Name x pos) (d4 i):=⟨L2.D_ hN hv hd fq⟩
theorem cw {X:Cx} {i j pos}:JE X (.Constant (.int i) j pos) (tC (.int i)):=⟨L2.Ea⟩
theorem AA {X:Cx} {b j pos}:JE X (.Constant (.bool b) j pos) (tC (.bl b)):=⟨L2.Ki⟩
theorem uM {X:Cx} {j pos}:JE X (.Constant .none j pos) (tC .non):=⟨L2.Kj⟩
theorem AB {X:Cx} {x j pos}:JE X (.Constant (.str x) j pos) (tC (.str x)):=⟨L2.zh⟩
theorem jI {X:Cx} {x:Str} {v:V} {u:Value} {pos:Pos} (hg:Gl X x) (hm:X.mg x=some u) (r:RelV v u) (hd:(x == ("__debug__" : Str))=false:=by decide):JE X (.Name x pos) (tC v):=⟨L2.Kk hg hm r hd⟩
theorem Fs {X:Cx} {x:Str} {v:V} {u:Value} {pos:Pos} (hg:Gl X x) (hm:X.mg x=none) (hv:bootBuiltins x=some u) (r:RelV v u) (hn:x ≠ "__name__" := by decide) (hd:(x == ("__debug__" : Str))=false:=by decide):JE X (.Name x pos) (tC v):=⟨L2.Kl hg hm hv r hn hd⟩
theorem Ft {X:Cx} {a:Expr} {ta:TE} {j pos'} (ha:JE X a ta):JC X .Is a (.Constant .none j pos') (qk ta):=⟨L2.Km ha.out⟩
theorem Fu {X:Cx} {a b:Expr} {pos:Pos} {op:CmpOp} {t:TE} (h:JC X op a b t) (h1:behindInMarks op b=false:=by first | exact Eb _ (by decide) (by decide) | rfl):JT X (.Compare a [op] [b] pos) (tB t):=⟨L2.Kn h.out h1⟩
theorem wZ {X:Cx} {e:Expr} {t:TE} (h:JE X e t) (he:∀ whole,isTrue e X.env whole=(do let v <- whole;standAt e.pos;holding [v] (truthy v)):=by intro _;rfl):JT X e (tB t):=⟨L2.Ko h.out he⟩
theorem NC {X:Cx} {a:Expr} {pos:Pos} {tA:TT} (ha:JT X a tA):JW X (.BoolOp .And [a] pos) tA:=⟨L2.Kq ha.out⟩
theorem Fv {X:Cx} {a:Expr} {pos:Pos} {tA:TT} (ha:JT X a tA):JW X (.BoolOp .Or [a] pos) tA:=⟨L2.Kr ha.out⟩
theorem ND {X:Cx} {a b:Expr} {pos:Pos} {tA mC:TT} {rest:List Expr} (ha:JT X a tA) (hb:JW X (.BoolOp .And (b :: rest) pos) mC):JW X (.BoolOp .And (a :: b :: rest) pos) (ql tA mC):=⟨L2.Ks ha.out hb.out⟩
theorem AD {X:Cx} {a b:Expr} {pos:Pos} {tA mC:TT} {rest:List Expr} (ha:JT X a tA) (hb:JW X (.BoolOp .Or (b :: rest) pos) mC):JW X (.BoolOp .Or (a :: b :: rest) pos) (zi tA mC):=⟨L2.Kt ha.out hb.out⟩
theorem w_ {X:Cx} {a:Expr} {pos:Pos} {tA:TT} (ha:JT X a tA):JT X (.UnaryOp .Not a pos) (qm tA):=⟨L2.Ku ha.out⟩
theorem NF {X:Cx} {a:Expr} {pos:Pos} {op} {t:TE} (h:JE X a t):JE X (.BoolOp op [a] pos) t:=⟨L2.Kv h.out⟩
theorem NG {X:Cx} {a b:Expr} {ta tb:TE} {pos:Pos} {rest:List Expr} (ha:JE X a ta) (hb:JE X (.BoolOp .And (b :: rest) pos) tb):JE X (.BoolOp .And (a :: b :: rest) pos) (Ec ta tb):=⟨L2.Kw ha.out hb.out⟩
theorem NH {X:Cx} {a:Expr} {ta:TE} {pos:Pos} (ha:JE X a ta):JE X (.UnaryOp .Not a pos) (Ed ta):=⟨L2.Kx ha.out⟩
theorem xa {X:Cx} {a b:Expr} {ta tb:TE} {pos:Pos} {tA:TT} {c:Expr} (hc:JT X c tA) (ha:JE X a ta) (hb:JE X b tb):JE X (.IfExp c a b pos) (zj tA ta tb):=⟨L2.Ky hc.out ha.out hb.out⟩
theorem iw {X:Cx}  : cV X [] zo:=⟨L2.Kz⟩
theorem mM {X:Cx} {st:Stmt} {rest:List Stmt} {t u:TS} (h1:JS X st t) (h2:cV X rest u):cV X (st :: rest) (jD t u):=⟨L2.Ee h1.out h2.out⟩
theorem kU {X:Cx} {st:Stmt} {t:TS} (h1:JS X st t):cV X [st] t:=⟨L2.Ef h1.out⟩
theorem Fw {X:Cx} {e:Expr} {te:TE} {pos:Pos} (he:JE X e te) (hs:swapsWith e none pos.line X.env=pure false:=by rfl):JS X (.Expr e pos) (zp te):=⟨L2.KC he.out hs⟩
theorem sJ {X:Cx} {e:Expr} {te:TE} {pos:Pos} (he:JE X e te):JS X (.Return (some e) pos) (qo te):=⟨L2.KD he.out⟩
theorem AE {X:Cx} {t u:TS} {pos:Pos} {c:Expr} {a b:List Stmt} {tc:TT} (hc:JT X c tc) (ha:cV X a t) (hb:cV X b u):JS X (.If c a b pos) (qp tc t u):=⟨L2.KG hc.out ha.out hb.out⟩
theorem AF {X:Cx} {pos:Pos} {i:Nat} {x:Str} (hN:X.N.Nodup) (hi:X.N[i]? = some x) (hx:Loc X.env.scope x) (hf:X.fn x=true\/X.env.scope.names.lookup x=some .local:=by first | exact .inl rfl | exact .inr rfl | assumption):JG X (.Name x pos) (gg i):=⟨L2.KH hN hi hx hf⟩
theorem j3 {X:Cx}  : kR X [] tZ:=⟨L2.KI⟩
theorem AG {X:Cx} {e:Expr} {es:List Expr} {t:TG} {u:jX} (h1:JG X e t) (h2:kR X es u) (hs:(assignEach (e :: es) X.env).map (·.2)=assign e X.env :: (assignEach es X.env).map (·.2):=by rfl):kR X (e :: es) (Eg t u):=⟨L2.KJ h1.out h2.out hs⟩
theorem Fx {X:Cx} {pos:Pos} {es:List Expr} {k:Nat} {t:jX} {n:Nat} (hc:X.calm=true) (h:kR X es t) (hn:(assignEach es X.env).length=n:=by rfl) (iK:(assignEach es X.env).findIdx? (·.1)=none:=by rfl):JG X (.Tuple es k pos) (t6 X.K n t):=⟨L2.KN hc h.out hn iK⟩
theorem uN {X:Cx} {pos:Pos} {o i:Expr} {to ti:TE} {t:nu} (ho:JE X o to) (hi:JE X i ti) (hs:qq X t) (ha:∀ v,assign (.Subscript o i pos) X.env v=(do
   let ov <- holding [v] (eval o X.env)
   let iv <- holding [v,ov] (eval i X.env)
   standAt pos
   holding [v,ov,iv] (setItem ov iv v)
   release [v,ov,iv] []):=by intro _;rfl):JG X (.Subscript o i pos) (qr to ti t):=⟨L2.KO ho.out hi.out hs ha⟩
theorem sL {X:Cx} {pos:Pos} {tg e:Expr} {te:TE} {g:TG} (he:JE X e te) (hg:JG X tg g) (hs:swapsWithSole [tg] e pos.line X.env=pure false:=by rfl) (hw:swappedStores [tg] e X.env=pure none:=by rfl) (h1:(assignEach [tg] X.env).map (·.2)=[assign tg X.env]:=by rfl):JS X (.Assign [tg] e pos) (bU te g):=⟨L2.KP he.out hg.out hs hw h1⟩
theorem lE {X:Cx} {pos:Pos} {i:Nat} {x:Str} {e:Expr} {te:TE} {pos':Pos} (hN:X.N.Nodup) (hi:X.N[i]? = some x) (hx:Loc X.env.scope x) (he:JE X e te) (hs:swapsWith e (some (.Name x pos')) pos.line X.env=pure false:=by rfl) (hf:X.fn x=true\/X.env.scope.names.lookup x=some .local:=by first | exact .inl rfl | exact .inr rfl | assumption):JS X (.Assign [.Name x pos'] e pos) (bU te (gg i)):=⟨L2.wG hN hi hx he.out hs hf⟩
theorem NI {X:Cx} {tg:Expr} {a:Expr} {ta:TA} {p pos:Pos} (hg:Gl X "range") (hm:X.mg "range" = none) (ha:JA X [a] ta) (hs:starEach [a] X.env=[(false,eval a X.env)]:=by rfl):JI X tg (.Call (.Name "range" p) [a] [] pos) (El ta):=⟨L2.KW hg hm ha.out hs⟩
theorem NJ {X:Cx} {tg:Expr} {a b:Expr} {ta:TA} {p pos:Pos} (hg:Gl X "range") (hm:X.mg "range" = none) (ha:JA X [a,b] ta) (hs:starEach [a,b] X.env=[(false,eval a X.env),(false,eval b X.env)]:=by rfl) (cA:starEach [b] X.env=[(false,eval b X.env)]:=by rfl):JI X tg (.Call (.Name "range" p) [a,b] [] pos) (Em ta):=⟨L2.KY hg hm ha.out hs cA⟩
theorem Fy {X:Cx} {tg:Expr} {iter:Expr} {body:List Stmt} {wi:TI} {g:TG} {tb:TS} {pos:Pos} (hp:PassesOwn (model X.prog X.w) X.A X.env X.xe) (hc:X.calm=true) (hi:JI X tg iter wi) (hg:JG X tg g) (hb:cV X body tb) (hs:∀ x,foldedSetIterable iter X.env x=pure x:=by intro _;rfl):JS X (.For tg iter body [] pos) (t8 wi g tb):=⟨L2.K1 hp hc hi.out hg.out hb.out hs⟩
theorem qP {X:Cx} {a b:Expr} {ta tb:TE} {pos:Pos} {op:Operator} {r:R2} (ho:c_ X (binaryOp op) r) (ha:JE X a ta) (hb:JE X b tb):JE X (.BinOp a op b pos) (nv r ta tb):=⟨L2.K4 ho ha.out hb.out⟩
theorem NK {X:Cx} {a:Expr} {ta:TE} {pos:Pos} {op:UnaryOp} {r:V->Hp->VK->Prop} (ho:wI X (unaryOp op) r) (ha:JE X a ta):JE X (.UnaryOp op a pos) (En r ta):=⟨L2.Eo ho ha.out⟩
theorem NL {X:Cx} {a b:Expr} {ta tb:TE} {pos:Pos} {op:CmpOp} {r:R2} (ho:c_ X (compareOp op) r) (ha:JE X a ta) (hb:JE X b tb) (hm:behindInMarks op b=false):JE X (.Compare a [op] [b] pos) (nv r ta tb):=⟨L2.Lj ho ha.out hb.out hm⟩
theorem AH {X:Cx} {a b:Expr} {ta tb:TE} {pos:Pos} {op:CmpOp} {r:R2} (ho:c_ X (compareOp op) r) (ha:JE X a ta) (hb:JE X b tb) (hm:behindInMarks op b=false):JT X (.Compare a [op] [b] pos) (Eu (nv r ta tb)):=⟨L2.Lk ho ha.out hb.out hm⟩
theorem NM {X:Cx} {a b c:Expr} {ta tb tc:TE} {pos:Pos} {op lq:CmpOp} {r r':R2} (ho:c_ X (compareOp op) r) (jl:c_ X (compareOp lq) r') (ha:JE X a ta) (hb:JE X b tb) (hc:JE X c tc) (hm:lastMarks [op,lq] [b,c]=false:=by with_unfolding_all rfl):JE X (.Compare a [op,lq] [b,c] pos) (Ew r r' ta tb tc):=⟨L2.Ll ho jl ha.out hb.out hc.out hm⟩
theorem aU {X:Cx}  : JA X [] iX:=⟨L2.zC⟩
theorem qQ {X:Cx} {e:Expr} {es:List Expr} {te:TE} {t:TA} (ha:JE X e te) (hr:JA X es t) (hs:starEach (e :: es) X.env=(false,eval e X.env) :: starEach es X.env:=by rfl):JA X (e :: es) (gi te t):=⟨L2.nD ha.out hr.out hs⟩
theorem NN {X:Cx} {es:List Expr} {t:TA} {pos:Pos} {x1} (h:JA X es t):JE X (.Tuple es x1 pos) (uc t):=⟨L2.Ls h.out⟩
theorem pq {X:Cx} {es:List Expr} {t:TA} {pos:Pos} (h:JA X es t):JE X (.List es pos) (ud t):=⟨L2.Ex h.out⟩
theorem nX {X:Cx} {CX:jY} {k:Nat} {f:Addr} {fd:FuncData} {ps:List Str} {sp:Sp} {lr:List V} {ds:List Value} {E:XK} {x:Str} {p pos:Pos} {e:Expr} {es:List Expr} {t:TA} (F:aF X.prog X.w X.K X.mg X.base CX k f fd ps sp) (hr:bC k X.A) (hg:Gl X x) (hm:X.mg x=some (.ref f)) (hk:PySem.W.keepIn X.K (.ref f)=true) (hb:Binds X.K fd ps ds) (hd:Vals lr ds) (hx:sx CX X E) (ha:JA X (e :: es) t) (gj:(x == ("__debug__" : Str))=false:=by decide) (he:starEach (e :: es) X.env=(false,eval e X.env) :: starEach es X.env:=by rfl) (fL:(backTo pos (starEach es X.env)).any (·.1)=false:=by rfl):JE X (.Call (.Name x p) (e :: es) [] pos) (oZ sp lr E t):=⟨L2.Lw F hr hg hm hk hb hd hx ha.out gj he fL⟩
theorem xb {X:Cx} {x:Str} {p pos:Pos} {e:Expr} {es:List Expr} {t:TA} {id:String} {r:List V->Hp->VK->Prop} (hc:jm X (.builtin id) r) (hg:Gl X x) (hm:X.mg x=none) (hv:bootBuiltins x=some (.builtin id)) (ha:JA X (e :: es) t) (hn:x ≠ "__name__" := by decide) (gj:(x == ("__debug__" : Str))=false:=by decide) (he:starEach (e :: es) X.env=(false,eval e X.env) :: starEach es X.env:=by rfl) (fL:(backTo pos (starEach es X.env)).any (·.1)=false:=by rfl):JE X (.Call (.Name x p) (e :: es) [] pos) (sy r t):=⟨L2.Ly hc hg hm hv ha.out hn gj he fL⟩
theorem sM {X:Cx} {x:Str} {p pos:Pos} {e:Expr} {es:List Expr} {t:TA} {T:String} {r:List V->Hp->VK->Prop} (hc:jm X (.type T) r) (hg:Gl X x) (hm:X.mg x=none) (hv:bootBuiltins x=some (.type T)) (ha:JA X (e :: es) t) (hn:x ≠ "__name__" := by decide) (gj:(x == ("__debug__" : Str))=false:=by decide) (he:starEach (e :: es) X.env=(false,eval e X.env) :: starEach es X.env:=by rfl) (fL:(backTo pos (starEach es X.env)).any (·.1)=false:=by rfl):JE X (.Call (.Name x p) (e :: es) [] pos) (sy r t):=⟨L2.Lz hc hg hm hv ha.out hn gj he fL⟩
theorem AI {X:Cx} {e:Expr} {te:TE} {lo hi:Option Expr} {tl th:TO} {pos p2:Pos} {r:V->Option Int->Option Int->Hp->VK->Prop} (hr:nJ X r) (he:JE X e te) (hl:PO X lo tl) (hu:PO X hi th):JE X (.Subscript e (.Slice lo hi none p2) pos) (EI r te tl th):=⟨L2.LX hr he.out hl hu⟩
theorem xc {X:Cx} {a b:Expr} {ta tb:TE} {pos:Pos} {r:R2} (hr:sD X r) (ha:JE X a ta) (hb:JE X b tb) (hs:zL b):JE X (.Subscript a b pos) (nv r ta tb):=⟨L2.L5 hr ha.out hb.out hs⟩
theorem qR {X:Cx} {o e:Expr} {es:List Expr} {to:TE} {t:TA} {name:Str} {apos eF:Pos} {T id:String} {r:V->List V->Hp->VK->Prop} (pa:PlainAttrs T) (slot:Slot T name id) (zU:typeOf (.builtin id)=pure (.type "method_descriptor")) (hm:zM X id r) (ho:JE X o to) (ha:JA X (e :: es) t) (lz:attributeBase o name X.env (eval o X.env)=eval o X.env:=by rfl) (qE:((backTo eF (starEach (e :: es) X.env)).all (fun x => !x.1) && (backToKw eF (keywordEach [] X.env)).all (fun x=>x.1.isSome)
   && decide ((e :: es).length + ([]:List Keyword).length + (if ([]:List Keyword).isEmpty then 0 else 1) < 30))=true:=by rfl) (lA:(apos.endLine == eF.line)=true:=by rfl) (hs:starEach (e :: es) X.env=(false,eval e X.env) :: starEach es X.env:=by rfl) (jG:(backTo eF (starEach es X.env)).any (·.1)=false:=by rfl):JE X (.Call (.Attribute o name apos) (e :: es) [] eF) (uo X.K T r to t):=⟨L2.Md pa slot zU hm ho.out ha.out lz qE lA hs jG⟩
theorem jv {X:Cx} (i:Nat) {x:Str} {pos:Pos} (hN:X.N[i]? = some x:=by rfl) (hv:oU X.env.scope x:=by first | exact Or.inl rfl | exact Or.inr (Or.inl rfl) | exact Or.inr (Or.inr rfl)) (hd:(x == ("__debug__" : Str))=false:=by decide) (fq:(x == ("__classdict__" : Str))=false:=by decide):JE X (.Name x pos) (d4 i):=⟨L2.pv i hN hv hd fq⟩
theorem qS {X:Cx}:JF X [] uw:=⟨L2.Ms⟩
theorem NO {X:Cx} {c:Expr} {t:TT} (h:JT X c t):JF X [c] t:=⟨L2.Mt h.out⟩
theorem FA {X:Cx} {elt tg iter:Expr} {ifs:List Expr} {scope:Scope} {pos:Pos} {wi:TI} {g:BD->TG} {tf:BD->TT} {te:BD->TE} (cp:List (Option Nat)) (Nb:List Str) (hc:X.calm=true) (hi:JI X tg iter wi) (hg:∀ d,JG (cF X scope Nb d) tg (g d)) (hf:∀ d,JF (cF X scope Nb d) ifs (tf d)) (he:∀ d,JE (cF X scope Nb d) elt (te d)) (hk:scope.kind = .function:=by rfl) (ho:mI X.N X.env.scope scope Nb cp=true:=by first | rfl | kernel_rfl) (hs:∀ x,foldedSetIterable iter X.env x=pure x:=by intro _;rfl):JE X (.ListComp elt [⟨tg,iter,ifs,0⟩] scope pos) (qN wi cp g tf te):=⟨L2.MJ cp Nb hc hi.out (fun dd=>(hg dd).out) (fun dd=>(hf dd).out) (fun dd=>(he dd).out) hk ho hs⟩
theorem NP {X:Cx} {elt tg iter:Expr} {ifs:List Expr} {scope:Scope} {pos:Pos} {wi:TI} {g:BD->TG} {tf:BD->TT} {te:BD->TE} (cp:List (Option Nat)) (Nb:List Str) {i:Nat} {x:Str} {pos' i5:Pos} (hN:X.N.Nodup) (hi:X.N[i]? = some x) (hx:Loc X.env.scope x) (hc:X.calm=true) (hit:JI X tg iter wi) (hg:∀ d,JG (cF X scope Nb d) tg (g d)) (hf:∀ d,JF (cF X scope Nb d) ifs (tf d)) (he:∀ d,JE (cF X scope Nb d) elt (te d)) (hk:scope.kind = .function:=by rfl) (ho:mI X.N X.env.scope scope Nb cp=true:=by first | rfl | kernel_rfl) (hs:∀ x,foldedSetIterable iter X.env x=pure x:=by intro _;rfl) (uA:swapsWith (.ListComp elt [⟨tg,iter,ifs,0⟩] scope pos) (some (.Name x pos')) i5.line X.env=pure true:=by rfl) (nk:X.fn x=true\/X.env.scope.names.lookup x=some .local:=by first | exact .inl rfl | exact .inr rfl | assumption):JS X (.Assign [.Name x pos'] (.ListComp elt [⟨tg,iter,ifs,0⟩] scope pos) i5) (bU (qN wi cp g tf te) (gg i)):=⟨L2.MK cp Nb hN hi hx hc hit.out (fun dd=>(hg dd).out) (fun dd=>(hf dd).out) (fun dd=>(he dd).out) hk ho hs uA nk⟩
theorem NQ {X:Cx} {elts:List Expr} {x1:Nat} {tp:Pos} {a:Expr} {ta:TA} {p pos:Pos} (hg:Gl X "enumerate") (hm:X.mg "enumerate" = none) (ha:JA X [a] ta) (hs:starEach [a] X.env=[(false,eval a X.env)]:=by rfl):JI X (.Tuple elts x1 tp) (.Call (.Name "enumerate" p) [a] [] pos) (Ff X.K ta):=⟨L2.MO hg hm ha.out hs⟩
theorem NR {X:Cx} {elts:List Expr} {x1:Nat} {tp:Pos} {a b:Expr} {ta:TA} {p pos:Pos} (hg:Gl X "zip") (hm:X.mg "zip" = none) (ha:JA X [a,b] ta) (hs:starEach [a,b] X.env=[(false,eval a X.env),(false,eval b X.env)]:=by rfl) (cA:starEach [b] X.env=[(false,eval b X.env)]:=by rfl):JI X (.Tuple elts x1 tp) (.Call (.Name "zip" p) [a,b] [] pos) (uD X.K ta):=⟨L2.MS hg hm ha.out hs cA⟩
theorem lF {X:Cx} {es:List Expr} {te:TE} {t:TA} {c j p} (ha:JE X (.Constant c j p) te) (hr:JA X es t):JA X (.Constant c j p :: es) (gi te t):=⟨L2.uK ha.out hr.out⟩
theorem gr {X:Cx} {es:List Expr} {te:TE} {t:TA} {x p} (ha:JE X (.Name x p) te) (hr:JA X es t):JA X (.Name x p :: es) (gi te t):=⟨L2.Ar ha.out hr.out⟩
theorem kA {X:Cx} {es:List Expr} {te:TE} {t:TA} {f a k p} (ha:JE X (.Call f a k p) te) (hr:JA X es t):JA X (.Call f a k p :: es) (gi te t):=⟨L2.As ha.out hr.out⟩
theorem AJ {X:Cx} {es:List Expr} {te:TE} {t:TA} {a p} (ha:JE X (.List a p) te) (hr:JA X es t):JA X (.List a p :: es) (gi te t):=⟨L2.Au ha.out hr.out⟩
theorem AK {X:Cx} {es:List Expr} {te:TE} {t:TA} {a k p} (ha:JE X (.Tuple a k p) te) (hr:JA X es t):JA X (.Tuple a k p :: es) (gi te t):=⟨L2.Av ha.out hr.out⟩
theorem qT {X:Cx} {es:List Expr} {te:TE} {t:TA} {a k p} (ha:JE X (.Subscript a k p) te) (hr:JA X es t):JA X (.Subscript a k p :: es) (gi te t):=⟨L2.Aw ha.out hr.out⟩
theorem AL {X:Cx} {es:List Expr} {te:TE} {t:TA} {a k p} (ha:JE X (.Attribute a k p) te) (hr:JA X es t):JA X (.Attribute a k p :: es) (gi te t):=⟨L2.Ax ha.out hr.out⟩
theorem NS {X:Cx} {es:List Expr} {ss:List Str} {pos:Pos} (h:strsOf es=some ss) (hz:ss.length <= sizeLine):JE X (.List es pos) (fun _ H Q=>∀ p,H p=none->Q (.ref p) (upd H p (.lst (ss.map V.str)))):=⟨L2.Nr h hz⟩
theorem FC {X:Cx} {i:Nat} {x:Str} {es:List Expr} {te:TE} {pos' p pos:Pos} (hN:X.N.Nodup) (hi:X.N[i]? = some x) (hx:Loc X.env.scope x) (he:JE X (.List es p) te) (hf:X.fn x=true\/X.env.scope.names.lookup x=some .local):JS X (.Assign [.Name x pos'] (.List es p) pos) (bU te (gg i)):=⟨L2.Nt hN hi hx he.out hf⟩
theorem xf {X:Cx} {i:Nat} {x:Str} {a b:Expr} {op:Operator} {te:TE} {pos' p pos:Pos} (hN:X.N.Nodup) (hi:X.N[i]? = some x) (hx:Loc X.env.scope x) (he:JE X (.BinOp a op b p) te) (hf:X.fn x=true\/X.env.scope.names.lookup x=some .local):JS X (.Assign [.Name x pos'] (.BinOp a op b p) pos) (bU te (gg i)):=⟨L2.Nu hN hi hx he.out hf⟩
theorem NT {X:Cx} {i:Nat} {x:Str} {f:Expr} {as:List Expr} {ks:List Keyword} {te:TE} {pos' p pos:Pos} (hN:X.N.Nodup) (hi:X.N[i]? = some x) (hx:Loc X.env.scope x) (he:JE X (.Call f as ks p) te) (hf:X.fn x=true\/X.env.scope.names.lookup x=some .local):JS X (.Assign [.Name x pos'] (.Call f as ks p) pos) (bU te (gg i)):=⟨L2.Nv hN hi hx he.out hf⟩
theorem pA {X:Cx} {L:List Stmt} {k:Nat} {d:Stmt} {t u:TS} (hk:k < L.length) (h:JS X (L.getD k d) t) (r:cV X (L.drop (k + 1)) u):cV X (L.drop k) (jD t u):=⟨L2.Ny hk h.out r.out⟩
theorem NU {X:Cx} {L:List Stmt} {k:Nat} {d:Stmt} {t:TS} (hk:L.length=k + 1) (h:JS X (L.getD k d) t):cV X (L.drop k) t:=⟨L2.Nz hk h.out⟩
theorem NV {X:Cx} {L:List Stmt} {t:TS} (h:cV X (L.drop 0) t):cV X L t:=⟨L2.NA h.out⟩
theorem b7.uO {P:Program} {w:World} {K:PySem.W.Frag} {mg:Str->Option Value} {base:Heap} {x qual:Str} {st:Stmt} {f:Addr} {fd:FuncData} {N ps:List Str} {k:Nat} {sp:Sp} (F:b7 K x qual st f fd) (S:dF N ps (bf st)) (len:∀ vs H Q E,sp vs H Q E->vs.length=ps.length)
  (de:∀ (aK:Value) (A:Around) (outer:List Env) (s:Shared) (H:Hp) (vs:List V) (Q:VK) (E:XK),bC k (A.deeper (envOfC qual (bf st) s.heap.objs.size f aK))->sp vs H Q E →
   ∃ t,cV (aS aW P w K mg base N qual (bf st) f aK A outer s H E).cg (dR st) t/\t { nx:=fun _ H'=>Q .non H',rt:=Q } (start N vs) H):aF P w K mg base aW (k + 1) f fd ps sp :=
 F.ok S len fun aK A outer s H vs Q E hr h=>let ⟨t,g,q⟩:=de aK A outer s H vs Q E hr h; ⟨t,g.out,q⟩
end L2
namespace LJS
open PySem
noncomputable def hp (i j:Int):Int:=reduceHash (Builtin.Tuple.tupleHashOf [hashInt i,hashInt j])
theorem FD {prog:Program} {w:World} (i j:Int):hT prog w [i,j]=hp i j:=rfl
noncomputable def xg:List (Int × Int):=(List.range 12).flatMap fun j=>(List.range j).map fun i:Nat=>(Int.ofNat i,Int.ofNat j)
theorem NW:∀ a∈xg,∀ b∈xg,hp a.1 a.2=hp b.1 b.2->a=b:=by decide +kernel
theorem FE {i j:Int} (h0:0 <= i) (h1:i < j) (h2:j < 12):(i,j)∈xg:=by
 obtain⟨a,rfl⟩:∃ a:Nat,i=a:=⟨i.toNat,by omega⟩
 obtain⟨b,rfl⟩:∃ b:Nat,j=b:=⟨j.toNat,by omega⟩
 unfold xg
 exact List.mem_flatMap.mpr ⟨b,W9.mpr (by omega),WQ.mpr ⟨a,W9.mpr (by omega),rfl⟩⟩
end LJS
namespace L2
open PySem PySem.Spec PyProof.Rows
noncomputable def lG (S:Addr) (n:Nat):HO := .ext fun h=>∃ hs:List Int,hs.length=n/\LJS.lb h S hs
theorem NX {P:Program} {w:World} {H:Hp} {h:Heap} {S:Addr} {hs:List Int} {n:Nat} (e:LJS.lb h S hs) (hn:hs.length=n):aN P w H h S (lG S n) :=
 ⟨⟨hs,hn,e⟩,let ⟨o,_,_,_,ho,_⟩:=e; ⟨o,ho⟩,fun h1 h2 ⟨xh,en,e1⟩ k=>⟨xh,en,LJS.J8 e1 fun o eo=>k o eo⟩⟩
section
variable {X:Cx}
theorem FF:∀ {ps:List Addr} {ag:List Value},Vals (ps.map V.ref) ag->ag=ps.map Value.ref
 | [],_,.nil=>rfl
 | _ :: _,_,.cons r rs=>by cases r;rw[FF rs];rfl
theorem NY:jm X (.builtin "len") (fun xs H Q=>∃ (p:Addr) (n:Nat),xs=[.ref p]/\H p=some (lG p n)/\n < 1000/\Q (.int n) H):=by
 intro pins s σ H xs us Q I r h
 obtain⟨p,n,rfl,hp,hn,q⟩:=h
 obtain⟨u,rfl,rx⟩:=vals1 r
 cases rx
 obtain⟨⟨hs,hl,o,es,ep,t,ho,hex,hd,T⟩,_⟩:=I.aO p _ hp
 have e:es.size=n:=by rw[T.num,hl]
 refine call_len_set ho hex hd T.fits (by omega) ⟨.int n,H,I.tok _,⟨_,by rw[e]⟩,q⟩
theorem FG:∀ {bs:List Bool} {ag:List Value},Vals (bs.map V.bl) ag->ag=bs.map Value.bool
 | [],_,.nil=>rfl
 | _ :: _,_,.cons r rs=>by cases r;rw[FG rs];rfl
theorem all_range (bs:List Bool):(List.range bs.length).all (fun i=>bs.getD i true)=bs.all id:=by
 rw[YZ,Xb,Xb]
 constructor
 ·intro h b hb
  obtain⟨i,hi⟩:=WK.mp hb
  have hl:=(qK.mp hi).1
  have:=h i (W9.mpr hl)
  rw[EX,hi] at this
  exact this
 ·intro h i hi
  have hl:=W9.mp hi
  rw[EX,qI hl]
  exact h _ (Yh hl)
theorem NZ (hc:X.calm=true):jm X (.builtin "all") (fun xs H Q=>∃ (l:Addr) (bs:List Bool),xs=[.ref l]/\bo X.K H l (bs.map V.bl)/\Q (.bl (bs.all id)) H):=by
 intro pins s σ H xs us Q I r h
 obtain⟨l,bs,rfl,hq,q⟩:=h
 obtain⟨u,rfl,rx⟩:=vals1 r
 cases rx
 obtain⟨ag,r',pl,_⟩:=I.list hq
 obtain rfl:=FG r'
 have hL:=pl.isList
 have ll:l < s.heap.objs.size:=by obtain⟨o,e,_⟩:=hL;exact EW e
 have nI:l≠s.heap.objs.size:=WL ll
 refine call_all_walk (YJ hL ?_)
 refine⟨s.heap.objs.size,_,_,_,_,_,fun i=>bs.getD i true,rfl,Walks.list (by rw[Y5];exact I.ok.hd hc) s.heap.objs.size l nI _,⟨⟨_,VW _ rfl,rfl,rfl⟩,hL.push _⟩,fun i v s' Q' E' hv xi => ?_,fun h' tk kp => ?_⟩
 ·have hv:(bs.map Value.bool).toArray[i]? = some v:=hv
  have xi:Q' (bs.getD i true) s':=xi
  rw[Yo,VX] at hv
  obtain⟨b,eb,rfl⟩:=WJ.mp hv
  rw[EX,eb] at xi
  exact Yc xi
 ·refine⟨.bl (bs.all id),H,I.kept (t':=tk) fun b o e=>kp b o (fun z => ?_) (qJ _ e),?_,q⟩
  ·have:=EW e
   rw[Xq.mp z] at this
   exact X_ _ this
  ·show Value.bool _=Value.bool _
   rw[wU,sE,all_range]
end
end L2
namespace LJ
open PySem L2
structure Fn (P:Program) (w:World) (K:PySem.W.Frag) (mg:Str->Option Value) (base:Heap) (k:Nat) (x:Str) (ps:List Str) (sp:Sp) (f:Addr) (fd:FuncData):Prop where
 ok:aF P w K mg base aW k f fd ps sp
 bD:mg x=some (.ref f)
 kp:PySem.W.keepIn K (.ref f)=true
 bd:Binds K fd ps []
theorem mO:bootBuiltins "bool" = some (.type "bool"):=by decide +kernel
theorem sN:bootBuiltins "int" = some (.type "int"):=by decide +kernel
theorem xj:bootBuiltins "str" = some (.type "str"):=by decide +kernel
theorem j4:bootBuiltins "tuple" = some (.type "tuple"):=by decide +kernel
theorem uP:bootBuiltins "list" = some (.type "list"):=by decide +kernel
theorem N4:bootBuiltins "set" = some (.type "set"):=by decide +kernel
theorem N5:bootBuiltins "all" = some (.builtin "all"):=by decide +kernel
section
variable {K:PySem.W.Frag}
end
structure kB (many:Int) (ys:List (Int × Int × Int)):Prop where
 m1:1 <= many
 xk:many <= 12
 lH:ys.length <= 30
 ends:∀ y∈ys,0 <= y.1/\y.1 < y.2.1/\y.2.1 < many/\0 <= y.2.2/\y.2.2 <= 1000000000
 unlike:(ys.map fun y=>(y.1,y.2.1)).Nodup
end LJ
namespace L2
open PySem PySem.Spec PyProof.Rows
section
variable {X:Cx}
end
end L2
namespace LJ
open PySem L2
noncomputable def j5:Nat->List (Int × Int)
 | 0=>[]
 | n + 1=>j5 n ++ (List.range n).map fun a:Nat=>(Int.ofNat a,Int.ofNat n)
theorem AM:∀ {n:Nat} {k:Int × Int},k∈j5 n->0 <= k.1/\k.1 < k.2/\k.2 < n
 | 0,_,h=>nomatch h
 | n + 1,k,h=>by
  rcases Xo.mp h with h | h
  ·have:=AM h;omega
  ·obtain⟨a,ha,rfl⟩:=WQ.mp h
   have:=W9.mp ha
   refine⟨Int.natCast_nonneg a,?_,?_⟩
   ·show (a:Int) < (n:Int);omega
   ·show (n:Int) < ((n + 1:Nat):Int);omega
theorem FH:∀ n:Nat,(j5 n).Nodup
 | 0=>ZX
 | n + 1=>by
  refine Ye.mpr ⟨FH n,?_,fun k h1 k' h2 e => ?_⟩
  ·refine Zc.mpr (q0c.imp fun {a b} ne e=>ne ?_)
   exact Int.ofNat.inj (congrArg Prod.fst e)
  ·subst e
   obtain⟨a,ha,rfl⟩:=WQ.mp h2
   have:=(AM h1).2.2
   have:(n:Int) < (n:Int):=this
   omega
theorem FI:∀ n:Nat,n <= 12->(j5 n).length <= 66:=by
 intro n h
 rcases n with _ | _ | _ | _ | _ | _ | _ | _ | _ | _ | _ | _ | _ | n
 all_goals first | decide | omega
end LJ
namespace LJ
open PySem
theorem N6 {j n:Nat} (h:j < n):seqIndex? (j:Int) n=some j:=by
 unfold seqIndex?
 first | (simp;omega) | skip
end LJ
namespace L2
open PySem PySem.Spec PyProof.Rows
section
variable {X:Cx}
theorem N7:jm X (.type "range") (fun xs H Q=>∃ j:Int,xs=[.int j]/\∀ r,H r=none->Q (.ref r) (upd H r (.rng 0 j))):=by
 intro pins s σ H xs us Q I r h
 obtain⟨j,rfl,q⟩:=h
 obtain⟨u,rfl,t,rfl⟩:=vals1 r
 refine call_range_1 ⟨.ref s.heap.objs.size,_,I.laid (t':=s.toks + 1 + 1) (o := .rng 0 j) (fun b o e=>qJ _ e) (wV _) ?_,rfl,q _ (I.aO.fresh (wV _))⟩
 exact⟨_,_,_,VW _ rfl⟩
noncomputable def jr (n:Nat):List Int:=(List.range n).map fun a:Nat=>(a:Int)
theorem FJ:∀ {ns:List Int} {us:List Value},us.length=ns.length->(∀ (i:Nat) (u:Value),us[i]? = some u->∃ t,u = .int (ns.getD i 0) t)->Vals (ns.map V.int) us
 | [],[],_,_ => .nil
 | [],_ :: _,h,_=>by simp at h
 | _ :: _,[],h,_=>by simp at h
 | n :: ns,u :: us,h,g=>by
  obtain⟨t,e⟩:=g 0 u rfl
  refine .cons ⟨t,e⟩ (FJ (by simpa using h) fun i v e2 => ?_)
  obtain⟨t,e⟩:=g (i + 1) v (by simpa using e2)
  exact⟨t,by simpa using e⟩
theorem FK {prog:Program} {w:World} {A:Around} {E:Value->Shared->Prop} {I l:Addr} {items:Array Value} (W:Walks prog w A I [I,l] [I] items.size (fun i v=>items[i]? = some v) (fun i h=>h.IsListIter I l i/\h.IsList l items)) :
  ∀ (k i:Nat) (s:Shared) (Q:List Value->Shared->Prop),i + k <= items.size->(s.heap.IsListIter I l i/\s.heap.IsList l items) →
   (∀ h' tk,(h'.IsListIter I l (i + k)/\h'.IsList l items)->(∀ b o,b∉[I]->s.heap.get? b=some o->h'.get? b=some o)->Q ((items.toList.drop i).take k) { s with heap:=h',toks:=tk })->wpAny (model prog w) A (draw (.ref I) k) Q E s
 | 0,i,s,Q,_,st,g=>by
  show wpAny _ _ (pure []) Q E s
  refine uq ?_
  have:=g s.heap s.toks st fun _ _ _ e=>e
  rw[ZY] at this
  exact this
 | k + 1,i,s,Q,hk,st,g=>by
  have hi:i < items.size:=by omega
  show wpAny _ _ (pyNext (.ref I) >>= _) Q E s
  refine nN (W.item i s _ _ hi st fun v h1 nY hv kW AN => ?_)
  refine nN (W6 (FK W k (i + 1) _ _ (by omega) kW fun h2 AO mD AQ=>uq ?_))
  have e:items.toList.drop i=v :: items.toList.drop (i + 1):=by
   rw[Xu (by rw[Aa];exact hi)]
   congr 1
   have FL:items[i]? = some v:=hv
   rw[V0 hi] at FL
   simpa using FL
  have:=g h2 AO (by rw[show i + (k + 1)=i + 1 + k by omega];exact mD) fun b o hb e=>AQ b o hb (AN b o hb e)
  rw[e,List.take_succ_cons] at this
  exact this
theorem N8 {prog:Program} {w:World} {A:Around} {E:Value->Shared->Prop} {s:Shared} {l:Addr} {items:Array Value} {Q:List Value->Shared->Prop} (hh:A.handled=none) (hl:s.heap.IsList l items)
  (g:∀ h' tk,(∀ b o,b≠s.heap.objs.size->s.heap.get? b=some o->h'.get? b=some o)->Q items.toList { s with heap:=h',toks:=tk }):wpAny (model prog w) A (unpackItems (.ref l) items.size none) Q E s:=by
 have ll:l < s.heap.objs.size:=by obtain⟨o,e,_⟩:=hl;exact EW e
 have W:=Walks.list (prog:=prog) (w:=w) hh s.heap.objs.size l (WL ll) items
 unfold unpackItems
 refine nN ?_
 unfold notIterableAtAll
 refine nN (wpAny_specialOf hl.typeIs slot_list_iter.lookup (uq ?_))
 simp only[Ml,Xc]
 refine nN (W6 (YJ hl ?_))
 refine nN (W6 (FK W items.size 0 _ _ (by omega) ⟨⟨_,VW _ rfl,rfl,rfl⟩,hl.push _⟩ fun h1 nY kW AN => ?_))
 rw[ZO,Xw (by rw[Aa];exact wV _),My (by rw[Aa];exact X_ _)]
 rw[XG] at kW
 refine nN (W6 (W.done _ _ _ kW fun h2 AO AQ => ?_))
 simp only[Option.isSome_none,Ml,Xc]
 refine uq (g h2 AO fun b o hb e=>AQ b o (by simpa using hb) (AN b o (by simpa using hb) (qJ _ e)))
noncomputable def N9 (K:PySem.W.Frag) (n:Nat) (t:jX):TG:=fun v σ H Q=>∃ a xs,v = .ref a/\bo K H a xs/\xs.length=n/\t xs σ H Q
theorem N_ {es:List Expr} {k:Nat} {t:jX} {n:Nat} {pos:Pos} (hc:X.calm=true) (h:kR X es t)
  (hn:(assignEach es X.env).length=n:=by rfl) (iK:(assignEach es X.env).findIdx? (·.1)=none:=by rfl):JG X (.Tuple es k pos) (N9 X.K n t):=by
 refine⟨?_⟩
 intro pins s σ H v u Q I r hw
 obtain⟨a,xs,e1,hq,hl,hw⟩:=hw
 subst e1
 cases r
 obtain⟨ag,rv,ht,hz⟩:=I.list hq
 have hlen:=rv.length
 rw[assign_Tuple]
 refine nN (YF ?_)
 unfold unpack
 rw[iK,show (assignEach es X.env).length=ag.toArray.size by rw[hn,<-hl,hlen];simp]
 refine nN (W6 (N8 (I.ok.hd hc) ht.isList fun h' tk kp => ?_))
 have I1:Inv X pins σ H { s with heap:=h',toks:=tk }:=I.kept fun b o e=>kp b o (WL (EW e)) e
 exact h.out pins _ σ H xs _ Q I1 (by simpa using rv) hw
end
theorem Oa (ag:List Value):slicePick ag.toArray none none (some (-1))=ag.reverse.toArray:=by
 unfold slicePick
 congr 1
 have e:sliceBounds none none (some (-1)) ag.toArray.size=((ag.length:Int) - 1,-1,-1):=by
  unfold sliceBounds
  simp
 rw[e]
 unfold sliceRange
 simp only
 have ec:(if (-1:Int) > 0 then (if (ag.length:Int) - 1 < -1 then (-1 - ((ag.length:Int) - 1) + -1 - 1) / -1 else 0) else (if (ag.length:Int) - 1 > -1 then ((ag.length:Int) - 1 - -1 - -1 - 1) / (- -1) else 0))=(ag.length:Int):=by
  rw[My (by decide)]
  split
  ·rw[show (- -1:Int)=1 by decide,Int.ediv_one];omega
  ·omega
 rw[ec,XI]
 rw[ZQ]
 have hc:∀ (n:Nat),(∀ k∈List.range n,k < ag.length)->(List.range n).filterMap ((fun k:Nat=>ag.toArray[k]?) ∘ fun k:Nat=>((ag.length:Int) - 1 + -1 * (k:Int)).toNat)=(List.range n).map fun k=>ag.getD (ag.length - 1 - k) .none:=by
  intro n hn
  generalize hr:List.range n=l at hn
  clear hr
  induction l with
  | nil=>rfl
  | cons k l ih =>
   have hk:=hn k (VV ..)
   have e1:((ag.length:Int) - 1 + -1 * (k:Int)).toNat=ag.length - 1 - k:=by omega
   have hl:ag.length - 1 - k < ag.length:=by omega
   rw[List.filterMap_cons_some (b:=ag.getD (ag.length - 1 - k) .none),W8,ih fun x hx=>hn x (Mn _ hx)]
   show ag.toArray[((ag.length:Int) - 1 + -1 * (k:Int)).toNat]? = _
   rw[e1,Yo,qI hl,EX,qI hl];rfl
 rw[hc ag.length fun k hk=>W9.mp hk]
 refine List.ext_getElem (by simp) fun i h1 h2 => ?_
 rw[Yi,List.getElem_range,List.getElem_reverse]
 have hi:i < ag.length:=by simpa using h1
 rw[EX,qI (by omega)];rfl
section
variable {X:Cx} {e:Expr} {te:TE} {pos p2 p3 p4:Pos}
theorem AR:∀ {xs:List V} {us:List Value},Vals xs us->Vals xs.reverse us.reverse
 | [],_,.nil => .nil
 | x :: xs,_,.cons r rs=>by
  rw[Zi,Zi]
  exact Vals.append (AR rs) (.cons r .nil)
end
inductive DV where
 | p (d:D) | o (k:Nat)
inductive OV where
 | lst (ds:List D) | dct (bx:List (Key × D))
structure aC where
 sl:List (Option DV)
 mu:List (Option OV)
noncomputable def sO (F:Hp):List (Key × D)->List (Key × V)->Prop
 | [],ws=>ws=[]
 | kd :: r,ws=>∃ v t,ws=(kd.1,v) :: t/\Is F kd.2 v/\sO F r t
noncomputable def hJ (F:Hp):OV->HO->Prop
 | .lst ds,o=>∃ vs,o = .lst vs/\af F ds vs
 | .dct bx,o=>∃ ws,o = .dK ws/\sO F bx ws
theorem sO.same {F F':Hp} (s:aA F F'):∀ {FN:List (Key × D)} {ws:List (Key × V)},sO F FN ws->sO F' FN ws
 | [],_,h=>h
 | _ :: _,_,⟨v,t,e,h1,h2⟩=>⟨v,t,e,h1.same s,sO.same s h2⟩
theorem hJ.same {F F':Hp} (s:aA F F'):∀ {ov:OV} {o:HO},hJ F ov o->hJ F' ov o
 | .lst _,_,⟨vs,e,h⟩=>⟨vs,e,h.same s⟩
 | .dct _,_,⟨ws,e,h⟩=>⟨ws,e,h.same s⟩
noncomputable def iy (F:Hp) (ad:List Addr):DV->V->Prop
 | .p d,v=>Is F d v
 | .o k,v=>∃ a,ad[k]? = some a/\v = .ref a
noncomputable def Lv (ad:List Addr) (mu:List (Option OV)) (a:Addr):Prop:=∃ (k:Nat) (ov:OV),ad[k]? = some a/\mu[k]? = some (some ov)
class aV where
 ad:List Addr
 ok:Hp->Prop
 same:∀ {H H':Hp},ok H->aA H H'->ok H'
 put:∀ {H:Hp} {a:Addr} {o o':HO},ok H->H a=some o->((∃ vs,o = .lst vs)\/∃ ws,o = .dK ws)->ok (upd H a o')
 tb:∀ {H:Hp} {a:Addr},ok H->a∈ad->∃ ps,H a=some (.tbl ps)
theorem hJ.kind {F:Hp}:∀ {ov:OV} {o:HO},hJ F ov o->(∃ vs,o = .lst vs)\/∃ ws,o = .dK ws
 | .lst _,_,⟨vs,e,_⟩ => .inl ⟨vs,e⟩
 | .dct _,_,⟨ws,e,_⟩ => .inr ⟨ws,e⟩
variable [aV]
structure SR (F:Hp) (ad:List Addr) (δ : aC) (σ : St) (H:Hp):Prop where
 sub:aA F H
 off:∀ a,Lv ad δ.mu a->F a=none
 cO:ad.length = δ.mu.length
 inj:∀ (k l:Nat) (a:Addr) (ov ow:OV),ad[k]? = some a->ad[l]? = some a -> δ.mu[k]? = some (some ov) -> δ.mu[l]? = some (some ow)->k=l
 mu:∀ (k:Nat) (ov:OV),δ.mu[k]? = some (some ov)->∃ a o,ad[k]? = some a/\H a=some o/\hJ F ov o
 sl:∀ (i:Nat) (x:DV),δ.sl[i]? = some (some x)->∃ v,σ[i]? = some (some v)/\iy F ad x v
 len : σ.length = δ.sl.length
 tab:aV.ok H
 nt:∀ a∈aV.ad,F a=none
structure Ext (F:Hp) (ad:List Addr) (mu:List (Option OV)) (H:Hp) (F':Hp) (aD:List Addr) (d5:List (Option OV)) (H':Hp):Prop where
 same:aA F F'
 new:∀ a o,F' a=some o->F a=some o\/H a=none\/Lv ad mu a
 keep:∀ a o,H a=some o->¬ Lv ad mu a->a∉aV.ad->H' a=some o
 pre:∀ (k:Nat) (a:Addr),ad[k]? = some a->aD[k]? = some a
 cB:∀ a,Lv aD d5 a->Lv ad mu a\/H a=none
 j6:∀ a o,H a=some o->∃ o',H' a=some o'
section
variable {F F' FO H H' lI:Hp} {ad aD uQ:List Addr} {mu d5 uR:List (Option OV)} {δ : aC} {σ : St}
theorem dG {H:Hp} {a:Addr} {o:HO} (h:H a=none):aA H (upd H a o):=fun b u e=>by rw[aH (cz e h)];exact e
theorem Ext.refl:Ext F ad mu H F ad mu H:=⟨fun _ _ e=>e,fun _ _ e => .inl e,fun _ _ e _ _=>e,fun _ _ e=>e,fun _ e => .inl e,fun _ o e=>⟨o,e⟩⟩
theorem Ext.trans (x:Ext F ad mu H F' aD d5 H') (y:Ext F' aD d5 H' FO uQ uR lI):Ext F ad mu H FO uQ uR lI where
 same:=x.same.trans y.same
 new:=fun a o e=>by
  rcases y.new a o e with h | h | h
  ·exact x.new a o h
  ·refine .inr (.inl ?_)
   cases q:H a with
   | none=>rfl
   | some u=>obtain⟨u',h'⟩:=x.j6 a u q;rw[h] at h';cases h'
  ·rcases x.cB a h with h | h
   ·exact .inr (.inr h)
   ·exact .inr (.inl h)
 keep:=fun a o e n t=>y.keep a o (x.keep a o e n t) (fun l=>by
  rcases x.cB a l with h | h
  ·exact n h
  ·rw[e] at h;cases h) t
 pre:=fun k a e=>y.pre k a (x.pre k a e)
 cB:=fun a l=>by
  rcases y.cB a l with h | h
  ·exact x.cB a h
  ·refine .inr ?_
   cases q:H a with
   | none=>rfl
   | some u=>obtain⟨u',h'⟩:=x.j6 a u q;rw[h] at h';cases h'
 j6:=fun a o e=>let ⟨o1,e1⟩:=x.j6 a o e;y.j6 a o1 e1
theorem iy.ext {x:DV} {v:V} (h:iy F ad x v) (e:Ext F ad mu H F' aD d5 H'):iy F' aD x v:=by
 cases x with
 | p d=>exact Is.same e.same h
 | o k=>obtain⟨a,h1,h2⟩:=h;exact⟨a,e.pre k a h1,h2⟩
noncomputable def Nw (F H H':Hp):Hp:=fun a=>match H a with
 | none=>H' a
 | some _=>F a
theorem Nw.same (s:aA F H):aA F (Nw F H H'):=fun a o e=>by
 unfold Nw;rw[s a o e];exact e
theorem Nw.sub (s:aA F H) (k:aA H H'):aA (Nw F H H') H':=fun a o e=>by
 unfold Nw at e
 cases q:H a with
 | none=>rw[q] at e;exact e
 | some u=>rw[q] at e;exact k a o (s a o e)
theorem Nw.upd {p:Addr} {o:HO} (s:aA F H) (hp:H p=none):Nw F H (upd H p o)=upd F p o:=by
 funext a
 unfold Nw L2.upd
 by_cases c:a=p
 ·subst c;rw[hp,VZ rfl];simp
 ·rw[My c,My c]
  cases q:H a with
  | none =>
   cases q2:F a with
   | none=>rfl
   | some u=>rw[s a u q2] at q;cases q
  | some u=>rfl
theorem Nw.refl (s:aA F H):Nw F H H=F:=by
 funext a
 unfold Nw
 cases q:H a with
 | none =>
  cases q2:F a with
  | none=>rfl
  | some u=>rw[s a u q2] at q;cases q
 | some u=>rfl
theorem SR.al (S:SR F ad δ σ H) (k:aA H H'):SR (Nw F H H') ad δ σ H':=by
 have sm:=Nw.same (H':=H') S.sub
 refine⟨Nw.sub S.sub k,fun a l => ?_,S.cO,S.inj,fun i ov e => ?_,fun i x e => ?_,S.len,aV.same S.tab k,fun a ha=>by obtain⟨ps,q⟩:=aV.tb S.tab ha;unfold Nw;rw[q];exact S.nt a ha⟩
 ·obtain⟨i,ov,e1,e2⟩:=l
  obtain⟨a',o,e3,e4,_⟩:=S.mu i ov e2
  rw[e1] at e3;cases e3
  unfold Nw;rw[e4];exact S.off a ⟨i,ov,e1,e2⟩
 ·obtain⟨a,o,e1,e2,h⟩:=S.mu i ov e
  exact⟨a,o,e1,k a o e2,h.same sm⟩
 ·obtain⟨v,e1,h⟩:=S.sl i x e
  refine⟨v,e1,?_⟩
  cases x with
  | p d=>exact Is.same sm h
  | o k=>exact h
theorem Ext.al (S:SR F ad δ σ H) (k:aA H H'):Ext F ad δ.mu H (Nw F H H') ad δ.mu H' where
 same:=Nw.same S.sub
 new:=fun a o e=>by
  unfold Nw at e
  cases q:H a with
  | none=>exact .inr (.inl rfl)
  | some u=>rw[q] at e;exact .inl e
 keep:=fun a o e _ _=>k a o e
 pre:=fun _ _ e=>e
 cB:=fun _ l => .inl l
 j6:=fun a o e=>⟨o,k a o e⟩
theorem SR.own {p:Addr} {o:HO} {ov:OV} (S:SR F ad δ σ H) (hp:H p=none) (h:hJ F ov o):SR F (ad ++ [p]) ⟨δ.sl,δ.mu ++ [some ov]⟩ σ (upd H p o):=by
 have old:∀ {k:Nat} {w:OV},(δ.mu ++ [some ov])[k]? = some (some w)->(k < δ.mu.length /\ δ.mu[k]? = some (some w))\/(k = δ.mu.length/\w=ov):=fun {k w} e=>by
  by_cases c:k < δ.mu.length
  ·rw[WB c] at e;exact .inl ⟨c,e⟩
  ·have hl:=(qK.mp e).1
   rw[Mm,W_] at hl
   have ek:k = δ.mu.length:=by omega
   subst ek
   rw[WH (wV _),XJ] at e
   exact .inr ⟨rfl,by simpa using e.symm⟩
 have pre:∀ {k:Nat},k < δ.mu.length->(ad ++ [p])[k]? = ad[k]? := fun {k} c=>WB (by rw[S.cO];exact c)
 have last:(ad ++ [p])[δ.mu.length]? = some p:=by rw[<-S.cO,WH (wV _),XJ];rfl
 have np:∀ {k:Nat} {a:Addr} {w:OV},ad[k]? = some a -> δ.mu[k]? = some (some w)->a≠p:=fun {k a w} e1 e2=>by
  obtain⟨a',u,e3,e4,_⟩:=S.mu k w e2
  rw[e1] at e3;cases e3
  exact cz e4 hp
 refine⟨fun a u e => ?_,fun a l => ?_,by rw[Mm,Mm,S.cO];rfl,fun k l a w w' e1 e2 e3 e4 => ?_,fun k w e => ?_,fun i x e => ?_,S.len,aV.same S.tab (dG hp),S.nt⟩
 ·have:=S.sub a u e
  rw[aH (cz this hp)];exact this
 ·obtain⟨k,w,e1,e2⟩:=l
  rcases old e2 with⟨c,e3⟩ | ⟨c,e3⟩
  ·rw[pre c] at e1;exact S.off a ⟨k,w,e1,e3⟩
  ·subst c;rw[last] at e1;cases e1
   cases q:F p with
   | none=>rfl
   | some u=>rw[S.sub p u q] at hp;cases hp
 ·rcases old e3 with⟨c,q⟩ | ⟨c,q⟩
  ·rw[pre c] at e1
   rcases old e4 with⟨c',q'⟩ | ⟨c',q'⟩
   ·rw[pre c'] at e2;exact S.inj k l a w w' e1 e2 q q'
   ·subst c';rw[last] at e2;cases e2;exact absurd rfl (np e1 q)
  ·subst c;rw[last] at e1;cases e1
   rcases old e4 with⟨c',q'⟩ | ⟨c',q'⟩
   ·rw[pre c'] at e2;exact absurd rfl (np e2 q')
   ·exact c'.symm
 ·rcases old e with⟨c,q⟩ | ⟨c,q⟩
  ·obtain⟨a,u,e1,e2,h'⟩:=S.mu k w q
   exact⟨a,u,by rw[pre c];exact e1,by rw[aH (np e1 q)];exact e2,h'⟩
  ·subst c;subst q;exact⟨p,o,last,bH,h⟩
 ·obtain⟨v,e1,h'⟩:=S.sl i x e
  refine⟨v,e1,?_⟩
  cases x with
  | p d=>exact h'
  | o k =>
   obtain⟨a,e2,e3⟩:=h'
   exact⟨a,by rw[WB (qK.mp e2).1];exact e2,e3⟩
theorem Ext.own {p:Addr} {o:HO} {ov:OV} (S:SR F ad δ σ H) (hp:H p=none):Ext F ad δ.mu H F (ad ++ [p]) (δ.mu ++ [some ov]) (upd H p o) where
 same:=fun _ _ e=>e
 new:=fun _ _ e => .inl e
 keep:=fun a u e _ _=>by rw[aH (cz e hp)];exact e
 pre:=fun k a e=>by rw[WB (qK.mp e).1];exact e
 cB:=fun a l=>by
  obtain⟨k,w,e1,e2⟩:=l
  by_cases c:k < δ.mu.length
  ·rw[WB c] at e2
   rw[WB (by rw[S.cO];exact c)] at e1
   exact .inl ⟨k,w,e1,e2⟩
  ·have hl:=(qK.mp e2).1
   rw[Mm,W_] at hl
   have ek:k=ad.length:=by rw[S.cO];omega
   subst ek
   rw[WH (wV _),XJ] at e1
   have:p=a:=by simpa using e1
   subst this;exact .inr hp
 j6:=fun a u e=>⟨u,by rw[aH (cz e hp)];exact e⟩
theorem SR.put {k:Nat} {a:Addr} {o:HO} {ov ow:OV} (S:SR F ad δ σ H) (hk : δ.mu[k]? = some (some ow)) (ha:ad[k]? = some a) (h:hJ F ov o):SR F ad ⟨δ.sl,δ.mu.set k (some ov)⟩ σ (upd H a o):=by
 have kl:=(qK.mp hk).1
 have old:∀ {l:Nat} {w:OV},(δ.mu.set k (some ov))[l]? = some (some w)->(l≠k /\ δ.mu[l]? = some (some w))\/(l=k/\w=ov):=fun {l w} e=>by
  by_cases c:k=l
  ·subst c;rw[Xe kl] at e;exact .inr ⟨rfl,by simpa using e.symm⟩
  ·rw[Xg c] at e;exact .inl ⟨fun z=>c z.symm,e⟩
 have lv:∀ {l:Nat} {w:OV} {b:Addr},ad[l]? = some b->(δ.mu.set k (some ov))[l]? = some (some w)->Lv ad δ.mu b:=fun {l w b} e1 e2=>by
  rcases old e2 with⟨_,q⟩ | ⟨c,_⟩
  ·exact⟨l,w,e1,q⟩
  ·subst c;exact⟨l,ow,e1,hk⟩
 have tk:aV.ok (upd H a o):=by
  obtain⟨a',u,e1,e2,h'⟩:=S.mu k ow hk
  rw[ha] at e1;cases e1
  exact aV.put S.tab e2 h'.kind
 refine⟨fun b u e => ?_,fun b l => ?_,by rw[XT];exact S.cO,fun l l' b w w' e1 e2 e3 e4 => ?_,fun l w e => ?_,fun i x e => ?_,S.len,tk,S.nt⟩
 ·have nb:b≠a:=fun z=>by
   subst z
   rw[S.off b ⟨k,ow,ha,hk⟩] at e;cases e
  rw[aH nb];exact S.sub b u e
 ·obtain⟨l,w,e1,e2⟩:=l
  exact S.off b (lv e1 e2)
 ·have h1:∃ w,δ.mu[l]? = some (some w):=by
   rcases old e3 with⟨_,q⟩ | ⟨c,_⟩
   ·exact⟨_,q⟩
   ·subst c;exact⟨_,hk⟩
  have h2:∃ w,δ.mu[l']? = some (some w):=by
   rcases old e4 with⟨_,q⟩ | ⟨c,_⟩
   ·exact⟨_,q⟩
   ·subst c;exact⟨_,hk⟩
  obtain⟨w1,q1⟩:=h1
  obtain⟨w2,q2⟩:=h2
  exact S.inj l l' b _ _ e1 e2 q1 q2
 ·rcases old e with⟨c,q⟩ | ⟨c,q⟩
  ·obtain⟨b,u,e1,e2,h'⟩:=S.mu l w q
   have nb:b≠a:=fun z=>by subst z;exact c (S.inj l k b _ _ e1 ha q hk)
   exact⟨b,u,e1,by rw[aH nb];exact e2,h'⟩
  ·subst c;subst q;exact⟨a,o,ha,bH,h⟩
 ·exact S.sl i x e
theorem Ext.put {k:Nat} {a:Addr} {o:HO} {ov ow:OV} (S:SR F ad δ σ H) (hk : δ.mu[k]? = some (some ow)) (ha:ad[k]? = some a):Ext F ad δ.mu H F ad (δ.mu.set k (some ov)) (upd H a o) where
 same:=fun _ _ e=>e
 new:=fun _ _ e => .inl e
 keep:=fun b u e n _=>by rw[aH fun z=>n (by subst z;exact⟨k,ow,ha,hk⟩)];exact e
 pre:=fun _ _ e=>e
 cB:=fun b l=>by
  obtain⟨l,w,e1,e2⟩:=l
  by_cases c:k=l
  ·subst c;exact .inl ⟨k,ow,e1,hk⟩
  ·rw[Xg c] at e2;exact .inl ⟨l,w,e1,e2⟩
 j6:=fun b u e=>by
  by_cases c:b=a
  ·subst c;exact⟨o,bH⟩
  ·exact⟨u,by rw[aH c];exact e⟩
theorem SR.fix {k:Nat} {a:Addr} {o:HO} {ow:OV} (S:SR F ad δ σ H) (hk : δ.mu[k]? = some (some ow)) (ha:ad[k]? = some a) (ho:H a=some o):SR (upd F a o) ad ⟨δ.sl,δ.mu.set k none⟩ σ H:=by
 have kl:=(qK.mp hk).1
 have fa:=S.off a ⟨k,ow,ha,hk⟩
 have sm:aA F (upd F a o):=fun b u e=>by rw[aH (cz e fa)];exact e
 have old:∀ {l:Nat} {w:OV},(δ.mu.set k none)[l]? = some (some w)->l≠k /\ δ.mu[l]? = some (some w):=fun {l w} e=>by
  by_cases c:k=l
  ·subst c;rw[Xe kl] at e;cases e
  ·rw[Xg c] at e;exact⟨fun z=>c z.symm,e⟩
 refine⟨fun b u e => ?_,fun b l => ?_,by rw[XT];exact S.cO,fun l l' b w w' e1 e2 e3 e4=>S.inj l l' b w w' e1 e2 (old e3).2 (old e4).2,fun l w e => ?_,fun i x e => ?_,S.len,S.tab,fun b hb => ?_⟩
 ·by_cases c:b=a
  ·subst c;rw[bH] at e;cases e;exact ho
  ·rw[aH c] at e;exact S.sub b u e
 ·obtain⟨l,w,e1,e2⟩:=l
  obtain⟨c,q⟩:=old e2
  have nb:b≠a:=fun z=>by subst z;exact c (S.inj l k b _ _ e1 ha q hk)
  rw[aH nb];exact S.off b ⟨l,w,e1,q⟩
 ·obtain⟨b,u,e1,e2,h'⟩:=S.mu l w (old e).2
  exact⟨b,u,e1,e2,h'.same sm⟩
 ·obtain⟨v,e1,h'⟩:=S.sl i x e
  refine⟨v,e1,?_⟩
  cases x with
  | p d=>exact Is.same sm h'
  | o k=>exact h'
 ·obtain⟨ps,q⟩:=aV.tb S.tab hb
  have nb:b≠a:=fun z=>by
   subst z
   obtain⟨a',u,e1,e2,h'⟩:=S.mu k ow hk
   rw[ha] at e1;cases e1
   rw[q] at e2;cases e2
   rcases h'.kind with⟨_,z⟩ | ⟨_,z⟩<;>cases z
  rw[aH nb];exact S.nt b hb
theorem Ext.fix {k:Nat} {a:Addr} {o:HO} {ow:OV} (S:SR F ad δ σ H) (hk : δ.mu[k]? = some (some ow)) (ha:ad[k]? = some a):Ext F ad δ.mu H (upd F a o) ad (δ.mu.set k none) H where
 same:=fun b u e=>by rw[aH (cz e (S.off a ⟨k,ow,ha,hk⟩))];exact e
 new:=fun b u e=>by
  by_cases c:b=a
  ·subst c;exact .inr (.inr ⟨k,ow,ha,hk⟩)
  ·rw[aH c] at e;exact .inl e
 keep:=fun b u e _ _=>e
 pre:=fun _ _ e=>e
 cB:=fun b l=>by
  obtain⟨l,w,e1,e2⟩:=l
  by_cases c:k=l
  ·subst c;rw[Xe (qK.mp hk).1] at e2;cases e2
  ·rw[Xg c] at e2;exact .inl ⟨l,w,e1,e2⟩
 j6:=fun b u e=>⟨u,e⟩
theorem SR.set {i:Nat} {x:DV} {v:V} (S:SR F ad δ σ H) (h:iy F ad x v):SR F ad ⟨δ.sl.set i (some x),δ.mu⟩ (σ.set i (some v)) H:=by
 refine⟨S.sub,S.off,S.cO,S.inj,S.mu,fun j y e => ?_,by rw[XT,XT];exact S.len,S.tab,S.nt⟩
 by_cases c:i=j
 ·subst c
  have hl:=(qK.mp e).1
  rw[XT] at hl
  rw[Xe hl] at e
  cases e
  exact⟨v,Xe (by rw[S.len];exact hl),h⟩
 ·rw[Xg c] at e
  obtain⟨w,e1,h1⟩:=S.sl j y e
  exact⟨w,by rw[Xg c];exact e1,h1⟩
end
noncomputable abbrev WE:=aC->(DV->aC->Prop)->Prop
noncomputable abbrev WA:=aC->(List DV->aC->Prop)->Prop
noncomputable abbrev WT:=aC->(Bool->aC->Prop)->Prop
noncomputable def eG (F:Hp) (ad:List Addr):List DV->List V->Prop
 | [],vs=>vs=[]
 | x :: xs,vs=>∃ v r,vs=v :: r/\iy F ad x v/\eG F ad xs r
theorem eG.ext {F F' H H':Hp} {ad aD:List Addr} {mu d5:List (Option OV)} (e:Ext F ad mu H F' aD d5 H'):∀ {xs:List DV} {vs:List V},eG F ad xs vs->eG F' aD xs vs
 | [],_,h=>h
 | _ :: _,_,⟨v,r,q,h1,h2⟩=>⟨v,r,q,h1.ext e,eG.ext e h2⟩
noncomputable def tD (f:WE):TE:=fun σ H Q=>∃ F ad δ K,SR F ad δ σ H/\f δ K/\∀ x δ',K x δ'->∀ v F' aD H',Ext F ad δ.mu H F' aD δ'.mu H'->SR F' aD δ' σ H'->iy F' aD x v->Q v H'
noncomputable def cP (f:WA):TA:=fun σ H Q=>∃ F ad δ K,SR F ad δ σ H/\f δ K/\∀ xs δ',K xs δ'->∀ vs F' aD H',Ext F ad δ.mu H F' aD δ'.mu H'->SR F' aD δ' σ H'->eG F' aD xs vs->Q vs H'
noncomputable def d6 (f:WT):TT:=fun σ H Q=>∃ F ad δ K,SR F ad δ σ H/\f δ K/\∀ b δ',K b δ'->∀ F' aD H',Ext F ad δ.mu H F' aD δ'.mu H'->SR F' aD δ' σ H'->Q b H'
noncomputable def iM (F H:Hp):D->V->Prop
 | .lst ds,v=>∃ a vs,v = .ref a/\H a=some (.lst vs)/\af F ds vs
 | d,v=>Is F d v
noncomputable def jJ (x:DV) (δ : aC) (K:D->Prop):Prop:=match x with
 | .p d=>K d
 | .o k=>match δ.mu[k]? with
  | some (some (.lst ds))=>K (.lst ds)
  | _=>False
theorem iM.of {F H:Hp} (s:aA F H):∀ {d:D} {v:V},Is F d v->iM F H d v
 | .lst _,_,h=>by
  simp only[Is] at h
  obtain⟨a,vs,e,h1,h2⟩:=h
  exact⟨a,vs,e,s _ _ h1,h2⟩
 | .tup _,_,h=>h
 | .non,_,h=>h
 | .bl _,_,h=>h
 | .int _,_,h=>h
 | .str _,_,h=>h
theorem iM.is {F H:Hp} (s:aA F H):∀ {d:D} {v:V},iM F H d v->Is H d v
 | .lst _,_,h=>by
  obtain⟨a,vs,e,h1,h2⟩:=h
  simp only[Is]
  exact⟨a,vs,e,h1,h2.same s⟩
 | .tup _,_,h=>Is.same s h
 | .non,_,h=>Is.same s h
 | .bl _,_,h=>Is.same s h
 | .int _,_,h=>Is.same s h
 | .str _,_,h=>Is.same s h
theorem j7 {F H:Hp} {ad:List Addr} {δ : aC} {σ : St} {x:DV} {v:V} {K:D->Prop} (S:SR F ad δ σ H) (hv:iy F ad x v) (h:jJ x δ K):∃ d,K d/\iM F H d v:=by
 cases x with
 | p d=>exact⟨d,h,iM.of S.sub hv⟩
 | o k =>
  unfold jJ at h
  dsimp only at h
  split at h
  ·rename_i ds e
   obtain⟨a,e1,rfl⟩:=hv
   obtain⟨a',o,e2,e3,vs,rfl,h4⟩:=S.mu k _ e
   rw[e1] at e2;cases e2
   exact⟨_,h,a,vs,rfl,e3,h4⟩
  ·exact h.elim
noncomputable def nZ:List DV->aC->(List D->Prop)->Prop
 | [],_,K=>K []
 | x :: xs,δ,K=>jJ x δ fun d=>nZ xs δ fun ds=>K (d :: ds)
noncomputable def kC (F H:Hp):List D->List V->Prop
 | [],vs=>vs=[]
 | d :: ds,vs=>∃ v r,vs=v :: r/\iM F H d v/\kC F H ds r
theorem AS {F H:Hp} {ad:List Addr} {δ : aC} {σ : St} (S:SR F ad δ σ H):∀ {xs:List DV} {vs:List V} {K:List D->Prop},eG F ad xs vs->nZ xs δ K->∃ ds,K ds/\kC F H ds vs
 | [],_,_,hv,h=>⟨[],h,hv⟩
 | x :: xs,_,_,⟨v,r,rfl,h1,h2⟩,h=>by
  obtain⟨d,h',rd⟩:=j7 S h1 h
  obtain⟨ds,sP,uS⟩:=AS S h2 h'
  exact⟨d :: ds,sP,v,r,rfl,rd,uS⟩
noncomputable abbrev Made (F H:Hp) (K:D->Prop) (Q:VK):Prop:=∀ z v H',K z->aA H H'->Is (Nw F H H') z v->Q v H'
noncomputable def fZ (X:Cx) (f:Value->Value->Sem Value) (g:D->D->(D->Prop)->Prop):Prop :=
 c_ X f fun x y H Q=>∃ F d e K,aA F H/\iM F H d x/\iM F H e y/\g d e K/\Made F H K Q
noncomputable def FP (X:Cx) (g:D->D->(D->Prop)->Prop):Prop :=
 sD X fun x y H Q=>∃ F d e K,aA F H/\iM F H d x/\iM F H e y/\g d e K/\Made F H K Q
noncomputable def fA (X:Cx) (f:Value) (g:List D->(D->Prop)->Prop):Prop :=
 jm X f fun xs H Q=>∃ F ds K,aA F H/\kC F H ds xs/\g ds K/\Made F H K Q
noncomputable def d2 (f g:WE) (op:D->D->(D->Prop)->Prop):WE:=fun δ K=>f δ fun x δ1=>g δ1 fun y δ2=>jJ x δ2 fun d=>jJ y δ2 fun e=>op d e fun z=>K (.p z) δ2
noncomputable def d1 (f:WE) (op:D->(D->Prop)->Prop):WE:=fun δ K=>f δ fun x δ1=>jJ x δ1 fun d=>op d fun z=>K (.p z) δ1
noncomputable def dN (f:WA) (op:List D->(D->Prop)->Prop):WE:=fun δ K=>f δ fun xs δ1=>nZ xs δ1 fun ds=>op ds fun z=>K (.p z) δ1
noncomputable def dC (d:D):WE:=fun δ K=>K (.p d) δ
noncomputable def ae (i:Nat):WE:=fun δ K=>match δ.sl[i]? with
 | some (some x)=>K x δ
 | _=>False
noncomputable def ai:WA:=fun δ K=>K [] δ
noncomputable def aj (f:WE) (g:WA):WA:=fun δ K=>f δ fun x δ1=>g δ1 fun xs δ2=>K (x :: xs) δ2
section
variable {X:Cx} {a b c:Expr} {f g h:WE} {fa:WA} {pos:Pos}
theorem uT {e:Expr} {d:D} {v:V} (h:JE X e (tC v)) (hi:∀ F,Is F d v):JE X e (tD (dC d)):=h.weak fun σ H Q h0_ => el7 h0_ fun F ad δ K S q k =>k _ _ q _ _ _ _ .refl S (hi F)
theorem aw {i j pos}:JE X (.Constant (.int i) j pos) (tD (dC (.int i))):=uT cw fun _=>rfl
theorem gO {i j pos}:JE X (.Constant (.bool i) j pos) (tD (dC (.bl i))):=uT AA fun _=>rfl
theorem uU {j pos}:JE X (.Constant .none j pos) (tD (dC .non)):=uT uM fun _=>rfl
theorem AU {x j pos}:JE X (.Constant (.str x) j pos) (tD (dC (.str x))):=uT AB fun _=>rfl
theorem AV {x:Str} {i:Int} {u:Value} {pos:Pos} (hg:Gl X x) (hm:X.mg x=some u) (r:RelV (.int i) u) (hd:(x == ("__debug__" : Str))=false:=by decide):JE X (.Name x pos) (tD (dC (.int i))):=uT (jI hg hm r hd) fun _=>rfl
theorem dv (i:Nat) {x:Str} {pos:Pos} (hN:X.N[i]? = some x:=by rfl) (hv:oU X.env.scope x:=by first | exact Or.inl rfl | exact Or.inr (Or.inl rfl) | exact Or.inr (Or.inr rfl))
  (hd:(x == ("__debug__" : Str))=false:=by decide) (fq:(x == ("__classdict__" : Str))=false:=by decide):JE X (.Name x pos) (tD (ae i)) :=
 (NB hN hv hd fq).weak fun σ H Q h0_ => el7 h0_ fun F ad δ K S q k =>by
  unfold ae at q
  split at q
  ·rename_i x e
   obtain⟨v,e1,h1⟩:=S.sl i x e
   exact⟨v,e1,k _ _ q _ _ _ _ .refl S h1⟩
  ·exact q.elim
theorem xm {r:R2} {ta tb:TE} {op:D->D->(D->Prop)->Prop} (hr:∀ x y H Q,(∃ F d e K,aA F H/\iM F H d x/\iM F H e y/\op d e K/\Made F H K Q)->r x y H Q):∀ σ H Q,tD (d2 f g op) σ H Q->nv r (tD f) (tD g) σ H Q:=by
 rintro σ H Q ⟨F,ad,δ,K,S,q,k⟩
 refine⟨F,ad,δ,_,S,q,fun x δ1 h1 v1 F1 bh H1 E1 S1 V1=>⟨F1,bh,δ1,_,S1,h1,fun y δ2 h2 v2 F2 dA H2 E2 S2 V2=>hr _ _ _ _ ?_⟩⟩
 obtain⟨d,h3,rd⟩:=j7 S2 (V1.ext E2) h2
 obtain⟨e,h4,re⟩:=j7 S2 V2 h3
 exact⟨F2,d,e,_,S2.sub,rd,re,h4,fun z v H' hz sm is=>k _ _ hz _ _ _ _ ((E1.trans E2).trans (Ext.al S2 sm)) (S2.al sm) is⟩
theorem bz {op:Operator} {o:D->D->(D->Prop)->Prop} (ho:fZ X (binaryOp op) o) (ha:JE X a (tD f)) (hb:JE X b (tD g)):JE X (.BinOp a op b pos) (tD (d2 f g o)) :=
 (qP ho ha hb).weak (xm (ta:=tD f) (tb:=tD g) fun _ _ _ _ h=>h)
theorem jK {op:CmpOp} {o:D->D->(D->Prop)->Prop} (ho:fZ X (compareOp op) o) (ha:JE X a (tD f)) (hb:JE X b (tD g)) (hm:behindInMarks op b=false):JE X (.Compare a [op] [b] pos) (tD (d2 f g o)) :=
 (NL ho ha hb hm).weak (xm (ta:=tD f) (tb:=tD g) fun _ _ _ _ h=>h)
theorem bX {o:D->D->(D->Prop)->Prop} (ho:FP X o) (ha:JE X a (tD f)) (hb:JE X b (tD g)) (hs:zL b):JE X (.Subscript a b pos) (tD (d2 f g o)) :=
 (xc ho ha hb hs).weak (xm (ta:=tD f) (tb:=tD g) fun _ _ _ _ h=>h)
theorem aG:JA X [] (cP ai):=aU.weak fun σ H Q h0_ => el7 h0_ fun F ad δ K S q k =>k _ _ q _ _ _ _ .refl S rfl
theorem qU:∀ σ H Q,cP (aj f fa) σ H Q->gi (tD f) (cP fa) σ H Q:=by
 rintro σ H Q ⟨F,ad,δ,K,S,q,k⟩
 exact⟨F,ad,δ,_,S,q,fun x δ1 h1 v1 F1 bh H1 E1 S1 V1=>⟨F1,bh,δ1,_,S1,h1,fun xs δ2 h2 vs F2 dA H2 E2 S2 V2=>k _ _ h2 _ _ _ _ (E1.trans E2) S2 ⟨v1,vs,rfl,V1.ext E2,V2⟩⟩⟩
theorem eI {e:Expr} {es:List Expr} (ha:JE X e (tD f)) (hr:JA X es (cP fa)) (hs:starEach (e :: es) X.env=(false,eval e X.env) :: starEach es X.env:=by rfl):JA X (e :: es) (cP (aj f fa)):=(qQ ha hr hs).weak qU
theorem aQ {es:List Expr} {c j p} (ha:JE X (.Constant c j p) (tD f)) (hr:JA X es (cP fa)):JA X (.Constant c j p :: es) (cP (aj f fa)):=(lF ha hr).weak qU
theorem aq {es:List Expr} {x p} (ha:JE X (.Name x p) (tD f)) (hr:JA X es (cP fa)):JA X (.Name x p :: es) (cP (aj f fa)):=(gr ha hr).weak qU
theorem dg {es:List Expr} {x y k p} (ha:JE X (.Call x y k p) (tD f)) (hr:JA X es (cP fa)):JA X (.Call x y k p :: es) (cP (aj f fa)):=(kA ha hr).weak qU
theorem uV {es:List Expr} {x p} (ha:JE X (.List x p) (tD f)) (hr:JA X es (cP fa)):JA X (.List x p :: es) (cP (aj f fa)):=(AJ ha hr).weak qU
theorem n_ {es:List Expr} {x k p} (ha:JE X (.Tuple x k p) (tD f)) (hr:JA X es (cP fa)):JA X (.Tuple x k p :: es) (cP (aj f fa)):=(AK ha hr).weak qU
theorem bQ {es:List Expr} {x k p} (ha:JE X (.Subscript x k p) (tD f)) (hr:JA X es (cP fa)):JA X (.Subscript x k p :: es) (cP (aj f fa)):=(qT ha hr).weak qU
theorem FQ {r:List V->Hp->VK->Prop} {op:List D->(D->Prop)->Prop} (hr:∀ xs H Q,(∃ F ds K,aA F H/\kC F H ds xs/\op ds K/\Made F H K Q)->r xs H Q):∀ σ H Q,tD (dN fa op) σ H Q->sy r (cP fa) σ H Q:=by
 rintro σ H Q ⟨F,ad,δ,K,S,q,k⟩
 refine⟨F,ad,δ,_,S,q,fun xs δ1 h1 vs F1 bh H1 E1 S1 V1=>hr _ _ _ ?_⟩
 obtain⟨ds,h2,uS⟩:=AS S1 V1 h1
 exact⟨F1,ds,_,S1.sub,uS,h2,fun z v H' hz sm is=>k _ _ hz _ _ _ _ (E1.trans (Ext.al S1 sm)) (S1.al sm) is⟩
theorem gP {x:Str} {p:Pos} {e:Expr} {es:List Expr} {id:String} {o:List D->(D->Prop)->Prop} (hc:fA X (.builtin id) o) (hg:Gl X x) (hm:X.mg x=none) (hv:bootBuiltins x=some (.builtin id)) (ha:JA X (e :: es) (cP fa)) (hn:x ≠ "__name__" := by decide) (gj:(x == ("__debug__" : Str))=false:=by decide)
  (he:starEach (e :: es) X.env=(false,eval e X.env) :: starEach es X.env:=by rfl) (fL:(backTo pos (starEach es X.env)).any (·.1)=false:=by rfl):JE X (.Call (.Name x p) (e :: es) [] pos) (tD (dN fa o)) :=
 (xb hc hg hm hv ha hn gj he fL).weak (FQ fun _ _ _ h=>h)
theorem FR {x:Str} {p:Pos} {e:Expr} {es:List Expr} {T:String} {o:List D->(D->Prop)->Prop} (hc:fA X (.type T) o) (hg:Gl X x) (hm:X.mg x=none) (hv:bootBuiltins x=some (.type T)) (ha:JA X (e :: es) (cP fa)) (hn:x ≠ "__name__" := by decide) (gj:(x == ("__debug__" : Str))=false:=by decide)
  (he:starEach (e :: es) X.env=(false,eval e X.env) :: starEach es X.env:=by rfl) (fL:(backTo pos (starEach es X.env)).any (·.1)=false:=by rfl):JE X (.Call (.Name x p) (e :: es) [] pos) (tD (dN fa o)) :=
 (sM hc hg hm hv ha hn gj he fL).weak (FQ fun _ _ _ h=>h)
end
noncomputable def FT (k:Nat) (ds:List D):Option DV->Option DV
 | some (.o j)=>if j=k then some (.p (.lst ds)) else some (.o j)
 | s=>s
noncomputable def aC.fix (δ : aC) (k:Nat) (ds:List D):aC:=⟨δ.sl.map (FT k ds),δ.mu.set k none⟩
noncomputable def pB (x:DV) (δ : aC) (K:D->aC->Prop):Prop:=match x with
 | .p d=>K d δ
 | .o k=>match δ.mu[k]? with
  | some (some (.lst ds))=>K (.lst ds) (δ.fix k ds)
  | _=>False
noncomputable def kD:List DV->aC->(List D->aC->Prop)->Prop
 | [],δ,K=>K [] δ
 | x :: xs,δ,K=>pB x δ fun d δ1=>kD xs δ1 fun ds δ2=>K (d :: ds) δ2
section
variable {F F' H H':Hp} {ad aD:List Addr} {δ δ':aC} {σ σ':St}
theorem SR.fixed {k:Nat} {a:Addr} {vs:List V} {ds:List D} (S:SR F ad δ σ H) (hk : δ.mu[k]? = some (some (.lst ds))) (ha:ad[k]? = some a) (ho:H a=some (.lst vs)) (hi:af F ds vs):SR (upd F a (.lst vs)) ad (δ.fix k ds) σ H:=by
 have S1:=S.fix hk ha ho
 have sm:aA F (upd F a (.lst vs)):=(Ext.fix (o := .lst vs) S hk ha).same
 refine⟨S1.sub,S1.off,S1.cO,S1.inj,S1.mu,fun i x e => ?_,by rw[S.len];unfold aC.fix;rw[sE],S1.tab,S1.nt⟩
 unfold aC.fix at e
 rw[VX] at e
 obtain⟨s,e1,e2⟩:=WJ.mp e
 match s,e2 with
 | none,e2=>cases e2
 | some (.p d),e2 =>
  cases (show some (DV.p d)=some x from e2)
  exact S1.sl i _ e1
 | some (.o j),e2 =>
  have e3:(if j=k then some (DV.p (.lst ds)) else some (DV.o j))=some x:=e2
  clear e2
  obtain⟨v,h1,a',h2,h3⟩:=S.sl i _ e1
  by_cases c:j=k
  ·rw[VZ c] at e3
   subst c
   cases e3
   rw[ha] at h2;cases h2
   refine⟨v,h1,?_⟩
   show Is _ (.lst ds) v
   simp only[Is]
   exact⟨a,vs,h3,bH,hi.same sm⟩
  ·rw[My c] at e3
   cases e3
   exact⟨v,h1,a',h2,h3⟩
theorem xn {x:DV} {v:V} {K:D->aC->Prop} (S:SR F ad δ σ H) (hv:iy F ad x v) (h:pB x δ K):∃ d δ' F',K d δ'/\Ext F ad δ.mu H F' ad δ'.mu H/\SR F' ad δ' σ H/\Is F' d v:=by
 cases x with
 | p d=>exact⟨d,δ,F,h,.refl,S,hv⟩
 | o k =>
  unfold pB at h
  dsimp only at h
  split at h
  ·rename_i ds e
   obtain⟨a,e1,rfl⟩:=hv
   obtain⟨a',o,e2,e3,vs,rfl,h4⟩:=S.mu k _ e
   rw[e1] at e2;cases e2
   refine⟨_,_,_,h,Ext.fix S e e1,S.fixed e e1 e3 h4,?_⟩
   simp only[Is]
   exact⟨a,vs,rfl,bH,h4.same (Ext.fix (o := .lst vs) S e e1).same⟩
  ·exact h.elim
theorem xo:∀ {xs:List DV} {vs:List V} {δ : aC} {F:Hp} {K:List D->aC->Prop},SR F ad δ σ H->eG F ad xs vs->kD xs δ K->∃ ds δ' F',K ds δ'/\Ext F ad δ.mu H F' ad δ'.mu H/\SR F' ad δ' σ H/\af F' ds vs
 | [],_,δ,F,_,S,hv,h=>⟨[],δ,F,h,.refl,S,by simp only[af];exact hv⟩
 | x :: xs,_,δ,F,_,S,⟨v,r,e,h1,h2⟩,h=>by
  subst e
  obtain⟨d,δ1,F1,h',E1,S1,i1⟩:=xn S h1 h
  obtain⟨ds,δ2,F2,sP,E2,S2,i2⟩:=xo S1 (h2.ext E1) h'
  exact⟨d :: ds,δ2,F2,sP,E1.trans E2,S2,.cons (i1.same E2.same) i2⟩
end
noncomputable def cQ (fa:WA):WE:=fun δ K=>fa δ fun xs δ1=>kD xs δ1 fun ds δ2=>ds.length <= 1000/\K (.p (.tup ds)) δ2
noncomputable def fQ (fa:WA):WE:=fun δ K=>fa δ fun xs δ1=>kD xs δ1 fun ds δ2=>ds.length <= 1000/\K (.p (.lst ds)) δ2
noncomputable def uW (fa:WA):WE:=fun δ K=>fa δ fun xs δ1=>kD xs δ1 fun ds δ2=>ds.length <= 1000/\K (.o δ2.mu.length) ⟨δ2.sl,δ2.mu ++ [some (.lst ds)]⟩
section
variable {X:Cx} {a b c:Expr} {es:List Expr} {f g h:WE} {fa:WA} {t u:WT} {pos:Pos}
theorem lJ {n:Nat} (h:n <= 1000):n <= sizeLine:=X9 (wW h)
theorem ju {x1} (ha:JA X es (cP fa)):JE X (.Tuple es x1 pos) (tD (cQ fa)):=(NN ha).weak fun σ H Q h0_ => el7 h0_ fun F ad δ K S q k =>
 ⟨F,ad,δ,_,S,q,fun xs δ1 h1 vs F1 bh H1 E1 S1 V1=>by
  obtain⟨ds,δ2,F2,⟨hl,h2⟩,E2,S2,i2⟩:=xo S1 V1 h1
  refine⟨lJ (by rw[i2.length];exact hl),fun p hp => ?_⟩
  have sm:aA H1 (upd H1 p (.tup vs)):=dG hp
  refine k _ _ h2 _ _ _ _ ((E1.trans E2).trans (Ext.al S2 sm)) (S2.al sm) ?_
  show Is _ (.tup ds) _
  simp only[Is]
  rw[Nw.upd S2.sub hp]
  refine⟨p,vs,rfl,bH,i2.same fun b o e => ?_⟩
  rw[aH (cz (S2.sub b o e) hp)];exact e⟩
theorem oa (ha:JA X es (cP fa)):JE X (.List es pos) (tD (fQ fa)):=(pq ha).weak fun σ H Q h0_ => el7 h0_ fun F ad δ K S q k =>
 ⟨F,ad,δ,_,S,q,fun xs δ1 h1 vs F1 bh H1 E1 S1 V1=>by
  obtain⟨ds,δ2,F2,⟨hl,h2⟩,E2,S2,i2⟩:=xo S1 V1 h1
  refine⟨lJ (by rw[i2.length];exact hl),fun p hp => ?_⟩
  have sm:aA H1 (upd H1 p (.lst vs)):=dG hp
  refine k _ _ h2 _ _ _ _ ((E1.trans E2).trans (Ext.al S2 sm)) (S2.al sm) ?_
  show Is _ (.lst ds) _
  simp only[Is]
  rw[Nw.upd S2.sub hp]
  refine⟨p,vs,rfl,bH,i2.same fun b o e => ?_⟩
  rw[aH (cz (S2.sub b o e) hp)];exact e⟩
theorem AW (ha:JA X es (cP fa)):JE X (.List es pos) (tD (uW fa)):=(pq ha).weak fun σ H Q h0_ => el7 h0_ fun F ad δ K S q k =>
 ⟨F,ad,δ,_,S,q,fun xs δ1 h1 vs F1 bh H1 E1 S1 V1=>by
  obtain⟨ds,δ2,F2,⟨hl,h2⟩,E2,S2,i2⟩:=xo S1 V1 h1
  refine⟨lJ (by rw[i2.length];exact hl),fun p hp => ?_⟩
  have oi:hJ F2 (.lst ds) (.lst vs):=⟨vs,rfl,i2⟩
  refine k _ _ h2 _ _ _ _ ((E1.trans E2).trans (Ext.own S2 hp)) (S2.own hp oi) ⟨p,?_,rfl⟩
  rw[<-S2.cO,WH (wV _),XJ];rfl⟩
noncomputable def sQ (x:DV) (P:Bool->Prop):Prop:=match x with
 | .p (.bl b)=>P b
 | _=>False
noncomputable def dT (f:WE):WT:=fun δ K=>f δ fun x δ1=>sQ x fun b=>K b δ1
noncomputable def i9 (t u:WT):WT:=fun δ K=>t δ fun b δ1=>if b=true then u δ1 K else K false δ1
noncomputable def j8 (t u:WT):WT:=fun δ K=>t δ fun b δ1=>if b=true then K true δ1 else u δ1 K
noncomputable def dH (t:WT):WT:=fun δ K=>t δ fun b δ1=>K (!b) δ1
noncomputable def AX (t:WT) (f g:WE):WE:=fun δ K=>t δ fun b δ1=>if b=true then f δ1 K else g δ1 K
noncomputable def iN (f g:WE):WE:=fun δ K=>f δ fun x δ1=>sQ x fun b=>if b=true then g δ1 K else K (.p (.bl false)) δ1
noncomputable def xp (f:WE):WE:=fun δ K=>f δ fun x δ1=>sQ x fun b=>K (.p (.bl (!b))) δ1
theorem xq {F:Hp} {ad:List Addr} {x:DV} {v:V} {P:Bool->Prop} (hv:iy F ad x v) (h:sQ x P):∃ b,v = .bl b/\P b:=by
 unfold sQ at h
 split at h
 ·rename_i b
  exact⟨b,hv,h⟩
 ·exact h.elim
theorem fB (ha:JE X a (tD f)) (he:∀ whole,isTrue a X.env whole=(do let v <- whole;standAt a.pos;holding [v] (truthy v)):=by intro _;rfl):JT X a (d6 (dT f)) :=
 (wZ ha he).weak fun σ H Q h0_ => el7 h0_ fun F ad δ K S q k =>⟨F,ad,δ,_,S,q,fun x δ1 h1 v F1 bh H1 E1 S1 V1=>by
  obtain⟨b,rfl,h2⟩:=xq V1 h1
  exact⟨b,rfl,k _ _ h2 _ _ _ E1 S1⟩⟩
theorem d7 {op:CmpOp} {o:D->D->(D->Prop)->Prop} (ho:fZ X (compareOp op) o) (ha:JE X a (tD f)) (hb:JE X b (tD g)) (hm:behindInMarks op b=false):JT X (.Compare a [op] [b] pos) (d6 (dT (d2 f g o))) :=
 (AH ho ha hb hm).weak fun σ H Q h0_ => el7 h0_ fun F ad δ K S q k =>xm (ta:=tD f) (tb:=tD g) (fun _ _ _ _ h=>h) σ H _ ⟨F,ad,δ,_,S,q,fun x δ1 h1 v F1 bh H1 E1 S1 V1=>by
  obtain⟨b,rfl,h2⟩:=xq V1 h1
  exact⟨b,rfl,k _ _ h2 _ _ _ E1 S1⟩⟩
theorem j9 (ha:JT X a (d6 t)):JT X (.UnaryOp .Not a pos) (d6 (dH t)):=(w_ ha).weak fun σ H Q h0_ => el7 h0_ fun F ad δ K S q k =>⟨F,ad,δ,_,S,q,fun b δ1 h1 F1 bh H1 E1 S1=>k _ _ h1 _ _ _ E1 S1⟩
theorem Ob:∀ σ H Q,d6 (i9 t u) σ H Q->ql (d6 t) (d6 u) σ H Q:=fun σ H Q h0_ => el7 h0_ fun F ad δ K S q k =>⟨F,ad,δ,_,S,q,fun b δ1 h1 F1 bh H1 E1 S1=>by
 cases b with
 | true =>
  rw[VZ rfl] at h1 ⊢
  exact⟨F1,bh,δ1,_,S1,h1,fun b δ2 h2 F2 dA H2 E2 S2=>k _ _ h2 _ _ _ (E1.trans E2) S2⟩
 | false =>
  rw[My EY] at h1 ⊢
  exact k _ _ h1 _ _ _ E1 S1⟩
theorem Oc:∀ σ H Q,d6 (j8 t u) σ H Q->zi (d6 t) (d6 u) σ H Q:=fun σ H Q h0_ => el7 h0_ fun F ad δ K S q k =>⟨F,ad,δ,_,S,q,fun b δ1 h1 F1 bh H1 E1 S1=>by
 cases b with
 | false =>
  rw[My EY] at h1 ⊢
  exact⟨F1,bh,δ1,_,S1,h1,fun b δ2 h2 F2 dA H2 E2 S2=>k _ _ h2 _ _ _ (E1.trans E2) S2⟩
 | true =>
  rw[VZ rfl] at h1 ⊢
  exact k _ _ h1 _ _ _ E1 S1⟩
theorem JW.weak {e:Expr} {t t':TT} (h:JW X e t) (k:∀ σ H Q,t' σ H Q->t σ H Q):JW X e t':=⟨fun wh pins s σ H Q I q=>h.out wh pins s σ H Q I (k σ H Q q)⟩
theorem AY (ha:JT X a (d6 t)):JW X (.BoolOp .And [a] pos) (d6 t):=NC ha
theorem oh (ha:JT X a (d6 t)):JW X (.BoolOp .Or [a] pos) (d6 t):=Fv ha
theorem uX {rest:List Expr} (ha:JT X a (d6 t)) (hb:JW X (.BoolOp .And (b :: rest) pos) (d6 u)):JW X (.BoolOp .And (a :: b :: rest) pos) (d6 (i9 t u)):=(ND ha hb).weak Ob
theorem lK {rest:List Expr} (ha:JT X a (d6 t)) (hb:JW X (.BoolOp .Or (b :: rest) pos) (d6 u)):JW X (.BoolOp .Or (a :: b :: rest) pos) (d6 (j8 t u)):=(AD ha hb).weak Oc
theorem j_ {op} (ha:JE X a (tD f)):JE X (.BoolOp op [a] pos) (tD f):=NF ha
theorem jw {rest:List Expr} (ha:JE X a (tD f)) (hb:JE X (.BoolOp .And (b :: rest) pos) (tD g)):JE X (.BoolOp .And (a :: b :: rest) pos) (tD (iN f g)) :=
 (NG ha hb).weak fun σ H Q h0_ => el7 h0_ fun F ad δ K S q k =>⟨F,ad,δ,_,S,q,fun x δ1 h1 v F1 bh H1 E1 S1 V1=>by
  obtain⟨b,rfl,h2⟩:=xq V1 h1
  refine⟨b,rfl,?_⟩
  cases b with
  | true =>
   rw[VZ rfl] at h2 ⊢
   exact⟨F1,bh,δ1,_,S1,h2,fun x δ2 h3 v F2 dA H2 E2 S2 V2=>k _ _ h3 _ _ _ _ (E1.trans E2) S2 V2⟩
  | false =>
   rw[My EY] at h2 ⊢
   exact k _ _ h2 _ _ _ _ E1 S1 rfl⟩
theorem FU (ha:JE X a (tD f)):JE X (.UnaryOp .Not a pos) (tD (xp f)) :=
 (NH ha).weak fun σ H Q h0_ => el7 h0_ fun F ad δ K S q k =>⟨F,ad,δ,_,S,q,fun x δ1 h1 v F1 bh H1 E1 S1 V1=>by
  obtain⟨b,rfl,h2⟩:=xq V1 h1
  exact⟨b,rfl,k _ _ h2 _ _ _ _ E1 S1 rfl⟩⟩
theorem Od (hc:JT X c (d6 t)) (ha:JE X a (tD f)) (hb:JE X b (tD g)):JE X (.IfExp c a b pos) (tD (AX t f g)) :=
 (xa hc ha hb).weak fun σ H Q h0_ => el7 h0_ fun F ad δ K S q k =>⟨F,ad,δ,_,S,q,fun b δ1 h1 F1 bh H1 E1 S1=>by
  cases b with
  | true =>
   rw[VZ rfl] at h1 ⊢
   exact⟨F1,bh,δ1,_,S1,h1,fun x δ2 h3 v F2 dA H2 E2 S2 V2=>k _ _ h3 _ _ _ _ (E1.trans E2) S2 V2⟩
  | false =>
   rw[My EY] at h1 ⊢
   exact⟨F1,bh,δ1,_,S1,h1,fun x δ2 h3 v F2 dA H2 E2 S2 V2=>k _ _ h3 _ _ _ _ (E1.trans E2) S2 V2⟩⟩
end
structure KS where
 nx:aC->Prop
 rt:DV->aC->Prop
 bk:aC->Prop:=fun _=>False
 ct:aC->Prop:=fun _=>False
noncomputable abbrev WS:=KS->aC->Prop
noncomputable def Cn (F:Hp) (ad:List Addr) (mu:List (Option OV)) (H:Hp) (P:aC->Prop) (R:St->Hp->Prop):Prop:=∀ δ',P δ'->∀ F' aD σ' H',Ext F ad mu H F' aD δ'.mu H'->SR F' aD δ' σ' H'->R σ' H'
structure xr (F:Hp) (ad:List Addr) (mu:List (Option OV)) (H:Hp) (K:KS) (D:Ends):Prop where
 nx:Cn F ad mu H K.nx D.nx
 bk:Cn F ad mu H K.bk D.bk
 ct:Cn F ad mu H K.ct D.ct
 rt:∀ x δ',K.rt x δ'->∀ v F' aD σ' H',Ext F ad mu H F' aD δ'.mu H'->SR F' aD δ' σ' H'->iy F' aD x v->D.rt v H'
theorem Cn.ext {F F' H H':Hp} {ad aD:List Addr} {mu d5:List (Option OV)} {P:aC->Prop} {R:St->Hp->Prop} (c:Cn F ad mu H P R) (e:Ext F ad mu H F' aD d5 H'):Cn F' aD d5 H' P R:=fun δ' h _ _ _ _ E S=>c δ' h _ _ _ _ (e.trans E) S
theorem xr.ext {F F' H H':Hp} {ad aD:List Addr} {mu d5:List (Option OV)} {K:KS} {D:Ends} (c:xr F ad mu H K D) (e:Ext F ad mu H F' aD d5 H'):xr F' aD d5 H' K D :=
 ⟨c.nx.ext e,c.bk.ext e,c.ct.ext e,fun x δ' h _ _ _ _ _ E S V=>c.rt x δ' h _ _ _ _ _ (e.trans E) S V⟩
noncomputable def gs (G:WS):TS:=fun D σ H=>∃ F ad δ K,SR F ad δ σ H/\G K δ /\ xr F ad δ.mu H K D
noncomputable def az (G G':WS):WS:=fun K δ => G { K with nx:=G' K } δ
noncomputable def cR:WS:=fun K δ => K.nx δ
noncomputable def bu (i:Nat) (f:WE):WS:=fun K δ => f δ fun x δ1=>K.nx ⟨δ1.sl.set i (some x),δ1.mu⟩
noncomputable def qV (f:WE):WS:=fun K δ => f δ fun _ δ1=>K.nx δ1
noncomputable def aI (f:WE):WS:=fun K δ => f δ fun x δ1=>K.rt x δ1
noncomputable def br (t:WT) (G G':WS):WS:=fun K δ => t δ fun b δ1=>if b=true then G K δ1 else G' K δ1
section
variable {X:Cx} {e c:Expr} {st:Stmt} {rest:List Stmt} {f:WE} {t:WT} {G G':WS} {pos:Pos}
theorem dh:cV X [] (gs cR):=iw.weak fun D σ H h0_ => el7 h0_ fun F ad δ K S q k =>k.nx _ q _ _ _ _ .refl S
theorem bE (h:JS X st (gs G)):cV X [st] (gs G):=kU h
theorem bA (h:JS X st (gs G)) (r:cV X rest (gs G')):cV X (st :: rest) (gs (az G G')) :=
 (mM h r).weak fun D σ H h0_ => el7 h0_ fun F ad δ K S q k =>⟨F,ad,δ,_,S,q,⟨fun δ' h _ _ _ _ E S'=>⟨_,_,δ',K,S',h,k.ext E⟩,k.bk,k.ct,k.rt⟩⟩
theorem Oe {i:Nat}:∀ D σ H,gs (bu i f) D σ H->bU (tD f) (gg i) D σ H:=fun D σ H h0_ => el7 h0_ fun F ad δ K S q k =>⟨F,ad,δ,_,S,q,fun x δ1 h1 v F1 bh H1 E1 S1 V1=>k.nx _ h1 _ _ _ _ E1 (S1.set V1)⟩
theorem d_ {i:Nat} {x:Str} {pos':Pos} (hN:X.N.Nodup) (hi:X.N[i]? = some x) (hx:Loc X.env.scope x) (he:JE X e (tD f)) (hs:swapsWith e (some (.Name x pos')) pos.line X.env=pure false:=by rfl)
  (hf:X.fn x=true\/X.env.scope.names.lookup x=some .local:=by first | exact .inl rfl | exact .inr rfl | assumption):JS X (.Assign [.Name x pos'] e pos) (gs (bu i f)):=(lE hN hi hx he hs hf).weak Oe
theorem uY (he:JE X e (tD f)) (hs:swapsWith e none pos.line X.env=pure false:=by rfl):JS X (.Expr e pos) (gs (qV f)) :=
 (Fw he hs).weak fun D σ H h0_ => el7 h0_ fun F ad δ K S q k =>⟨F,ad,δ,_,S,q,fun x δ1 h1 v F1 bh H1 E1 S1 V1=>k.nx _ h1 _ _ _ _ E1 S1⟩
theorem bM (he:JE X e (tD f)):JS X (.Return (some e) pos) (gs (aI f)) :=
 (sJ he).weak fun D σ H h0_ => el7 h0_ fun F ad δ K S q k =>⟨F,ad,δ,_,S,q,fun x δ1 h1 v F1 bh H1 E1 S1 V1=>k.rt _ _ h1 _ _ _ _ _ E1 S1 V1⟩
theorem cW {a b:List Stmt} (hc:JT X c (d6 t)) (ha:cV X a (gs G)) (hb:cV X b (gs G')):JS X (.If c a b pos) (gs (br t G G')) :=
 (AE hc ha hb).weak fun D σ H h0_ => el7 h0_ fun F ad δ K S q k =>⟨F,ad,δ,_,S,q,fun b δ1 h1 F1 bh H1 E1 S1=>by
  cases b with
  | true =>
   rw[VZ rfl] at h1 ⊢
   exact⟨F1,bh,δ1,K,S1,h1,k.ext E1⟩
  | false =>
   rw[My EY] at h1 ⊢
   exact⟨F1,bh,δ1,K,S1,h1,k.ext E1⟩⟩
noncomputable def AZ:WS:=fun _ _=>False
noncomputable abbrev WG:=DV->aC->(aC->Prop)->Prop
noncomputable def lM (g:WG):TG:=fun v σ H Q=>∃ F ad δ x K,SR F ad δ σ H/\iy F ad x v/\g x δ K/\Cn F ad δ.mu H K Q
noncomputable abbrev qW:=List D->aC->(aC->Prop)->Prop
noncomputable def oj (g:qW):jX:=fun vs σ H Q=>∃ F ad δ ds K,SR F ad δ σ H/\af F ds vs/\g ds δ K/\Cn F ad δ.mu H K Q
noncomputable def dB (i:Nat):WG:=fun x δ K=>K ⟨δ.sl.set i (some x),δ.mu⟩
noncomputable def qX:qW:=fun ds δ K=>match ds with
 | []=>K δ
 | _=>False
noncomputable def kX (g:WG) (g':qW):qW:=fun ds δ K=>match ds with
 | d :: r=>g (.p d) δ fun δ1=>g' r δ1 K
 | []=>False
theorem JG.weak {tg:Expr} {t t':TG} (h:JG X tg t) (k:∀ v σ H Q,t' v σ H Q->t v σ H Q):JG X tg t':=⟨fun pins s σ H v u Q I r q=>h.out pins s σ H v u Q I r (k v σ H Q q)⟩
theorem kR.weak {ts:List Expr} {t t':jX} (h:kR X ts t) (k:∀ v σ H Q,t' v σ H Q->t v σ H Q):kR X ts t':=⟨fun pins s σ H v u Q I r q=>h.out pins s σ H v u Q I r (k v σ H Q q)⟩
theorem fD {i:Nat} {x:Str} (hN:X.N.Nodup) (hi:X.N[i]? = some x) (hx:Loc X.env.scope x) (hf:X.fn x=true\/X.env.scope.names.lookup x=some .local:=by first | exact .inl rfl | exact .inr rfl | assumption):JG X (.Name x pos) (lM (dB i)) :=
 (AF hN hi hx hf).weak fun v σ H Q ⟨F,ad,δ,x,K,S,V,q,k⟩=>k _ q _ _ _ _ .refl (S.set V)
theorem xt:kR X [] (oj qX):=j3.weak fun vs σ H Q ⟨F,ad,δ,ds,K,S,V,q,k⟩=>by
 unfold qX at q
 split at q
 ·simp only[af] at V
  exact⟨V,k _ q _ _ _ _ .refl S⟩
 ·exact q.elim
theorem om {es:List Expr} {g:WG} {g':qW} (h1:JG X e (lM g)) (h2:kR X es (oj g')) (hs:(assignEach (e :: es) X.env).map (·.2)=assign e X.env :: (assignEach es X.env).map (·.2):=by rfl):kR X (e :: es) (oj (kX g g')) :=
 (AG h1 h2 hs).weak fun vs σ H Q ⟨F,ad,δ,ds,K,S,V,q,k⟩=>by
  unfold kX at q
  split at q
  ·rename_i d r
   simp only[af] at V
   obtain⟨v,r',e,i1,i2⟩:=V
   exact⟨v,r',e,F,ad,δ,.p d,_,S,i1,q,fun δ' h _ _ _ _ E S'=>⟨_,_,δ',r,K,S',i2.same E.same,h,k.ext E⟩⟩
  ·exact q.elim
noncomputable def sR (n:Nat) (g:qW):WG:=fun x δ K=>jJ x δ fun d=>match d with
 | .tup ds=>ds.length=n/\g ds δ K
 | .lst ds=>ds.length=n/\g ds δ K
 | _=>False
theorem JG.or {tg:Expr} {t t':TG} (h:JG X tg t) (h':JG X tg t'):JG X tg (fun v σ H Q=>t v σ H Q\/t' v σ H Q):=⟨fun pins s σ H v u Q I r q=>q.elim (fun q=>h.out pins s σ H v u Q I r q) fun q=>h'.out pins s σ H v u Q I r q⟩
theorem xu {es:List Expr} {k:Nat} {g:qW} {n:Nat} (hc:X.calm=true) (h:kR X es (oj g)) (hn:(assignEach es X.env).length=n:=by rfl) (iK:(assignEach es X.env).findIdx? (·.1)=none:=by rfl):JG X (.Tuple es k pos) (lM (sR n g)) :=
 ((Fx hc h hn iK).or (N_ hc h hn iK)).weak fun v σ H Q ⟨F,ad,δ,x,K,S,V,q,k⟩=>by
  obtain⟨d,q,rd⟩:=j7 S V q
  split at q
  ·rename_i ds
   have xv:Is F (.tup ds) v:=rd
   simp only[Is] at xv
   obtain⟨a,vs,e,h1,h2⟩:=xv
   exact .inl ⟨a,vs,e,bT.of (S.sub _ _ h1),by rw[h2.length];exact q.1,F,ad,δ,ds,K,S,h2,q.2,k⟩
  ·rename_i ds
   obtain⟨a,vs,e,h1,h2⟩:=rd
   exact .inr ⟨a,vs,e,bo.of h1,by rw[h2.length];exact q.1,F,ad,δ,ds,K,S,h2,q.2,k⟩
  ·exact q.elim
noncomputable def oo (f:WE) (g:WG):WS:=fun K δ => f δ fun x δ1=>g x δ1 K.nx
theorem FV {tg:Expr} {g:WG} (he:JE X e (tD f)) (hg:JG X tg (lM g)) (hs:swapsWithSole [tg] e pos.line X.env=pure false:=by rfl) (hw:swappedStores [tg] e X.env=pure none:=by rfl)
  (h1:(assignEach [tg] X.env).map (·.2)=[assign tg X.env]:=by rfl):JS X (.Assign [tg] e pos) (gs (oo f g)) :=
 (sL he hg hs hw h1).weak fun D σ H h0_ => el7 h0_ fun F ad δ K S q k =>⟨F,ad,δ,_,S,q,fun x δ1 h1 v F1 bh H1 E1 S1 V1=>⟨F1,bh,δ1,x,K.nx,S1,V1,h1,k.nx.ext E1⟩⟩
end
structure pC where
 items:List D
 bI:aC->Prop
noncomputable abbrev WI:=aC->(pC->aC->Prop)->Prop
noncomputable def qY (F:Hp) (ad:List Addr) (it:pC) (J:It):Prop:=∀ (F':Hp) (aD:List Addr) (δ : aC) (σ : St) (H:Hp),aA F F'->(∀ (k:Nat) (a:Addr),ad[k]? = some a->aD[k]? = some a)->SR F' aD δ σ H->it.bI δ →
 J.stop it.items.length H/\∀ (i:Nat) (d:D),it.items[i]? = some d->J.go i H/\∀ x H',J.sv i H x H'->aA H H'/\Is (Nw F' H H') d x
noncomputable def lN (w:WI):TI:=fun σ H R=>∃ F ad δ K,SR F ad δ σ H/\w δ K/\∀ it δ',K it δ'->∀ J F' aD H',Ext F ad δ.mu H F' aD δ'.mu H'->SR F' aD δ' σ H'->qY F' aD it J->R J H'
noncomputable def A0 (n:Nat):Option DV->Option DV->Option DV
 | none,_=>none
 | some _,some (.o k)=>if k < n then some (.o k) else none
 | some _,s=>s
noncomputable def hU (n:Nat):List (Option DV)->List (Option DV)->List (Option DV)
 | s0 :: r0,s :: r=>A0 n s0 s :: hU n r0 r
 | [],_ :: r=>none :: hU n [] r
 | _,[]=>[]
noncomputable def aC.trim (δ0 δ : aC):aC:=⟨hU δ0.mu.length δ0.sl δ.sl,δ.mu.take δ0.mu.length⟩
theorem A1 {n:Nat}:∀ (l0 l:List (Option DV)),(hU n l0 l).length=l.length
 | _ :: r0,_ :: r=>by rw[hU,Mj,Mj,A1 r0 r]
 | [],_ :: r=>by rw[hU,Mj,Mj,A1 [] r]
 | [],[]=>rfl
 | _ :: _,[]=>rfl
theorem A2 {n:Nat}:∀ {l0 l:List (Option DV)} {i:Nat} {x:DV},(hU n l0 l)[i]? = some (some x)->l[i]? = some (some x)/\∀ k,x = .o k->k < n
 | s0 :: r0,s :: r,0,x,h=>by
  have h:A0 n s0 s=some x:=by simpa [hU] using h
  match s0,s,h with
  | none,_,h=>cases h
  | some _,none,h=>cases h
  | some _,some (.p d),h=>cases (show some (DV.p d)=some x from h);exact⟨rfl,fun k e=>nomatch e⟩
  | some _,some (.o k),h =>
   have h:(if k < n then some (DV.o k) else none)=some x:=h
   by_cases c:k < n
   ·rw[VZ c] at h;cases h;exact⟨rfl,fun k' e=>by cases e;exact c⟩
   ·rw[My c] at h;cases h
 | s0 :: r0,s :: r,i + 1,x,h=>by
  have h:(hU n r0 r)[i]? = some (some x):=by simpa [hU] using h
  simpa using A2 h
 | [],s :: r,0,x,h=>by simp[hU] at h
 | [],s :: r,i + 1,x,h=>by
  have h:(hU n [] r)[i]? = some (some x):=by simpa [hU] using h
  simpa using A2 h
 | [],[],i,x,h=>by simp[hU] at h
 | _ :: _,[],i,x,h=>by simp[hU] at h
section
variable {F F' H H':Hp} {ad aD:List Addr} {δ δ' δ0:aC} {σ σ' τ : St} {mu d5:List (Option OV)} {l:Addr} {o:HO}
theorem Lv.take {n:Nat} {a:Addr} (h:Lv (ad.take n) (mu.take n) a):Lv ad mu a:=by
 obtain⟨k,ov,e1,e2⟩:=h
 have hk:k < n:=by
  have:=(qK.mp e1).1
  rw[WW] at this;omega
 rw[Xh hk] at e1 e2
 exact⟨k,ov,e1,e2⟩
theorem SR.trim (S:SR F ad δ σ H):SR F (ad.take δ0.mu.length) (δ0.trim δ) σ H:=by
 have tk:∀ {k:Nat} {a:Addr},(ad.take δ0.mu.length)[k]? = some a->k < δ0.mu.length/\ad[k]? = some a:=fun {k a} e=>by
  have hk:k < δ0.mu.length:=by
   have:=(qK.mp e).1
   rw[WW] at this;omega
  rw[Xh hk] at e;exact⟨hk,e⟩
 have tm:∀ {k:Nat} {w:Option OV},(δ.mu.take δ0.mu.length)[k]? = some w->k < δ0.mu.length /\ δ.mu[k]? = some w:=fun {k w} e=>by
  have hk:k < δ0.mu.length:=by
   have:=(qK.mp e).1
   rw[WW] at this;omega
  rw[Xh hk] at e;exact⟨hk,e⟩
 refine⟨S.sub,fun a x=>S.off a x.take,?_,fun k l a w w' e1 e2 e3 e4=>S.inj k l a w w' (tk e1).2 (tk e2).2 (tm e3).2 (tm e4).2,fun k ov e => ?_,fun i x e => ?_,?_,S.tab,S.nt⟩
 ·show (ad.take _).length=(δ.mu.take _).length
  rw[WW,WW,S.cO]
 ·obtain⟨a,o,e1,e2,h⟩:=S.mu k ov (tm e).2
  exact⟨a,o,by rw[Xh (tm e).1];exact e1,e2,h⟩
 ·obtain⟨e1,e2⟩:=A2 e
  obtain⟨v,h1,h2⟩:=S.sl i x e1
  refine⟨v,h1,?_⟩
  cases x with
  | p d=>exact h2
  | o k =>
   obtain⟨a,h3,h4⟩:=h2
   exact⟨a,by rw[Xh (e2 k rfl)];exact h3,h4⟩
 ·show σ.length=(hU _ _ _).length
  rw[A1];exact S.len
theorem Ext.trim {n:Nat} (e:Ext F ad mu H F' aD d5 H') (hn:ad.length=n):Ext F ad mu H F' (aD.take n) (d5.take n) H' :=
 ⟨e.same,e.new,e.keep,fun k a h=>by rw[Xh (by rw[<-hn];exact (qK.mp h).1)];exact e.pre k a h,fun a x=>e.cB a x.take,e.j6⟩
theorem SR.other (S:SR F ad δ σ H) (hf:F l=none) (hl:¬ Lv ad δ.mu l) (tk:aV.ok (upd H l o)):SR F ad δ σ (upd H l o):=by
 refine⟨fun a u e => ?_,S.off,S.cO,S.inj,fun k ov e => ?_,S.sl,S.len,tk,S.nt⟩
 ·rw[aH (cz e hf)];exact S.sub a u e
 ·obtain⟨a,u,e1,e2,h⟩:=S.mu k ov e
  exact⟨a,u,e1,by rw[aH fun z=>hl (by subst z;exact⟨k,ov,e1,e⟩)];exact e2,h⟩
theorem Ext.other (e:Ext F ad mu H F' aD d5 H') (hl:H l=none):Ext F ad mu H F' aD d5 (upd H' l o) :=
 ⟨e.same,e.new,fun a u h n t=>by rw[aH (cz h hl)];exact e.keep a u h n t,e.pre,e.cB,fun a u h=>by rw[aH (cz h hl)];exact e.j6 a u h⟩
theorem SR.adopt (S:SR F ad δ σ H) (hf:F l=none) (ho:H l=some o) (hl:¬ Lv ad δ.mu l) (no:∀ ps,o ≠ .tbl ps:=by intro _ z;cases z):SR (upd F l o) ad δ σ H:=by
 have sm:aA F (upd F l o):=dG hf
 refine⟨fun a u e => ?_,fun a x => ?_,S.cO,S.inj,fun k ov e => ?_,fun i x e => ?_,S.len,S.tab,fun a ha=>by
  obtain⟨ps,q⟩:=aV.tb S.tab ha
  rw[aH fun z=>by subst z;rw[ho] at q;exact no ps (WR q)]
  exact S.nt a ha⟩
 ·by_cases c:a=l
  ·subst c;rw[bH] at e;cases e;exact ho
  ·rw[aH c] at e;exact S.sub a u e
 ·rw[aH fun z=>hl (by subst z;exact x)];exact S.off a x
 ·obtain⟨a,u,e1,e2,h⟩:=S.mu k ov e
  exact⟨a,u,e1,e2,h.same sm⟩
 ·obtain⟨v,e1,h⟩:=S.sl i x e
  refine⟨v,e1,?_⟩
  cases x with
  | p d=>exact Is.same sm h
  | o k=>exact h
theorem Ext.adopt (e:Ext F ad mu H F' aD d5 H') (hl:H l=none) (hf:F' l=none):Ext F ad mu H (upd F' l o) aD d5 H' :=
 ⟨e.same.trans (dG hf),fun a u h=>by
  by_cases c:a=l
  ·subst c;exact .inr (.inl hl)
  ·rw[aH c] at h;exact e.new a u h,e.keep,e.pre,e.cB,e.j6⟩
theorem SR.eJ {ov:OV} (S:SR F ad δ σ H) (hf:F l=none) (ho:H l=some o) (hl:¬ Lv ad δ.mu l) (h:hJ F ov o):SR F (ad ++ [l]) ⟨δ.sl,δ.mu ++ [some ov]⟩ σ H:=by
 have old:∀ {k:Nat} {w:OV},(δ.mu ++ [some ov])[k]? = some (some w)->(k < δ.mu.length /\ δ.mu[k]? = some (some w))\/(k = δ.mu.length/\w=ov):=fun {k w} e=>by
  by_cases c:k < δ.mu.length
  ·rw[WB c] at e;exact .inl ⟨c,e⟩
  ·have hl:=(qK.mp e).1
   rw[Mm,W_] at hl
   have ek:k = δ.mu.length:=by omega
   subst ek
   rw[WH (wV _),XJ] at e
   exact .inr ⟨rfl,by simpa using e.symm⟩
 have pre:∀ {k:Nat},k < δ.mu.length->(ad ++ [l])[k]? = ad[k]? := fun {k} c=>WB (by rw[S.cO];exact c)
 have last:(ad ++ [l])[δ.mu.length]? = some l:=by rw[<-S.cO,WH (wV _),XJ];rfl
 refine⟨S.sub,fun a x => ?_,by rw[Mm,Mm,S.cO];rfl,fun k k' a w w' e1 e2 e3 e4 => ?_,fun k w e => ?_,fun i x e => ?_,S.len,S.tab,S.nt⟩
 ·obtain⟨k,w,e1,e2⟩:=x
  rcases old e2 with⟨c,e3⟩ | ⟨c,e3⟩
  ·rw[pre c] at e1;exact S.off a ⟨k,w,e1,e3⟩
  ·subst c;rw[last] at e1;cases e1;exact hf
 ·rcases old e3 with⟨c,q⟩ | ⟨c,q⟩
  ·rw[pre c] at e1
   rcases old e4 with⟨c',q'⟩ | ⟨c',q'⟩
   ·rw[pre c'] at e2;exact S.inj k k' a w w' e1 e2 q q'
   ·subst c';rw[last] at e2;cases e2;exact absurd ⟨k,w,e1,q⟩ hl
  ·subst c;rw[last] at e1;cases e1
   rcases old e4 with⟨c',q'⟩ | ⟨c',q'⟩
   ·rw[pre c'] at e2;exact absurd ⟨k',w',e2,q'⟩ hl
   ·exact c'.symm
 ·rcases old e with⟨c,q⟩ | ⟨c,q⟩
  ·obtain⟨a,u,e1,e2,h'⟩:=S.mu k w q
   exact⟨a,u,by rw[pre c];exact e1,e2,h'⟩
  ·subst c;subst q;exact⟨l,o,last,ho,h⟩
 ·obtain⟨v,e1,h'⟩:=S.sl i x e
  refine⟨v,e1,?_⟩
  cases x with
  | p d=>exact h'
  | o k =>
   obtain⟨a,e2,e3⟩:=h'
   exact⟨a,by rw[WB (qK.mp e2).1];exact e2,e3⟩
theorem Ext.eJ {ov:OV} (e:Ext F ad mu H F' aD d5 H') (hl:H l=none) (hm:aD.length=d5.length):Ext F ad mu H F' (aD ++ [l]) (d5 ++ [some ov]) H' :=
 ⟨e.same,e.new,e.keep,fun k a h=>by rw[WB (qK.mp (e.pre k a h)).1];exact e.pre k a h,fun a x=>by
  obtain⟨k,w,e1,e2⟩:=x
  by_cases c:k < d5.length
  ·rw[WB c] at e2
   rw[WB (by rw[hm];exact c)] at e1
   exact e.cB a ⟨k,w,e1,e2⟩
  ·have i_:=(qK.mp e2).1
   rw[Mm,W_] at i_
   have ek:k=aD.length:=by rw[hm];omega
   subst ek
   rw[WH (wV _),XJ] at e1
   have:l=a:=by simpa using e1
   subst this;exact .inr hl,e.j6⟩
theorem SR.back {sl:List (Option DV)} (S0:SR F ad δ σ H) (e:Ext F ad δ.mu H F' aD d5 H') (S:SR F' aD ⟨sl,d5⟩ τ H'):SR F' aD ⟨δ.sl,d5⟩ σ H' :=
 ⟨S.sub,S.off,S.cO,S.inj,S.mu,fun i x q=>let ⟨v,h1,h2⟩:=S0.sl i x q; ⟨v,h1,h2.ext e⟩,S0.len,S.tab,S.nt⟩
noncomputable def dI (cp:List (Option Nat)) (sl:List (Option DV)):List (Option DV):=cp.map fun o=>match o with
 | some i=>(sl[i]?).join
 | none=>none
theorem SR.uZ {cp:List (Option Nat)} (S:SR F ad δ σ H):SR F ad ⟨dI cp δ.sl,δ.mu⟩ (jo cp σ) H:=by
 refine⟨S.sub,S.off,S.cO,S.inj,S.mu,fun j x e => ?_,by unfold jo dI;rw[sE,sE],S.tab,S.nt⟩
 unfold dI at e
 rw[VX] at e
 obtain⟨o,e1,e2⟩:=WJ.mp e
 match o,e2 with
 | none,e2=>cases e2
 | some i,e2 =>
  have e2:(δ.sl[i]?).join=some x:=e2
  cases q : δ.sl[i]? with
  | none=>rw[q] at e2;cases e2
  | some z =>
   rw[q] at e2
   have e3:z=some x:=e2
   subst e3
   obtain⟨v,h1,h2⟩:=S.sl i x q
   refine⟨v,?_,h2⟩
   unfold jo
   rw[VX,e1]
   show some ((σ[i]?).join)=some (some v)
   rw[h1];rfl
end
noncomputable def mP (δ0:aC) (bI:aC->Prop) (g:WG) (b:WS) (K:KS):List D->aC->Prop
 | [],δ => bI δ /\ K.nx δ
 | d :: r,δ => bI δ /\ g (.p d) δ fun δ1=>b { nx:=fun δ2=>mP δ0 bI g b K r (δ0.trim δ2),ct:=fun δ2=>mP δ0 bI g b K r (δ0.trim δ2),bk:=K.nx,rt:=K.rt } δ1
noncomputable def iz (w:WI) (g:WG) (b:WS):WS:=fun K δ => w δ fun it δ1=>mP δ1 it.bI g b K it.items δ1
noncomputable def ka (δ0:aC) (bI:aC->Prop) (g:WG) (t:WT) (f:WE) (K:List D->aC->Prop):List D->List D->aC->Prop
 | [],acc,δ => bI δ /\ K acc δ
 | d :: r,acc,δ => bI δ /\ g (.p d) δ fun δ1=>t δ1 fun b δ2=>if b=true then f δ2 fun x δ3=>pB x δ3 fun e δ4=>acc.length < 1000/\ka δ0 bI g t f K r (acc ++ [e]) (δ0.trim δ4) else ka δ0 bI g t f K r acc (δ0.trim δ2)
noncomputable def kE (w:WI) (cp:List (Option Nat)) (g:WG) (t:WT) (f:WE):WE:=fun δ K=>w δ fun it δ1=>ka ⟨dI cp δ1.sl,δ1.mu⟩ it.bI g t f (fun acc δ'=>K (.p (.lst acc)) ⟨δ1.sl,δ'.mu⟩) it.items [] ⟨dI cp δ1.sl,δ1.mu⟩
noncomputable def qZ (w:WI) (cp:List (Option Nat)) (g:WG) (t:WT) (f:WE):WE:=fun δ K=>w δ fun it δ1=>ka ⟨dI cp δ1.sl,δ1.mu⟩ it.bI g t f (fun acc δ'=>K (.o δ'.mu.length) ⟨δ1.sl,δ'.mu ++ [some (.lst acc)]⟩) it.items [] ⟨dI cp δ1.sl,δ1.mu⟩
section
variable {X:Cx} {tg iter elt:Expr} {body:List Stmt} {w:WI} {g:WG} {b:WS} {pos:Pos} {ifs:List Expr} {t:WT} {f:WE} {scope:Scope}
theorem sS (hp:PassesOwn (model X.prog X.w) X.A X.env X.xe) (hc:X.calm=true) (hi:JI X tg iter (lN w)) (hg:JG X tg (lM g)) (hb:cV X body (gs b)) (hs:∀ x,foldedSetIterable iter X.env x=pure x:=by intro _;rfl) :
  JS X (.For tg iter body [] pos) (gs (iz w g b)):=(Fy hp hc hi hg hb hs).weak fun D σ H h0_ => el7 h0_ fun F ad δ K S q k =>by
 refine⟨F,ad,δ,_,S,q,fun it δ1 h1 J F1 bh H1 E1 S1 I1 => ?_⟩
 have k1:=k.ext E1
 refine⟨fun i m σ' H'=>∃ F' aD δ',i + m=it.items.length/\Ext F1 bh δ1.mu H1 F' aD δ'.mu H'/\SR F' aD δ' σ' H'/\mP δ1 it.bI g b K (it.items.drop i) δ',⟨it.items.length,F1,bh,δ1,by omega,.refl,S1,h1⟩,?_⟩
 rintro i m σ' H' ⟨F',aD,δ',hm,E',S',h⟩
 by_cases dY:i < it.items.length
 ·rw[Xu dY] at h
  obtain⟨ck,h⟩:=h
  obtain⟨go,yl⟩:=(I1 F' aD δ' σ' H' E'.same E'.pre S' ck).2 i _ (qI dY)
  refine .inr ⟨go,fun σ2 H2=>∃ F2 dA δ2,Ext F1 bh δ1.mu H1 F2 dA δ2.mu H2/\SR F2 dA δ2 σ2 H2/\mP δ1 it.bI g b K (it.items.drop (i + 1)) δ2,fun σ2 H2 ⟨F2,dA,δ2,e1,e2,e3⟩=>⟨m - 1,by omega,F2,dA,δ2,by omega,e1,e2,e3⟩,fun x H2 y => ?_⟩
  obtain⟨sm,is⟩:=yl x H2 y
  have E2:=E'.trans (Ext.al S' sm)
  refine⟨_,aD,δ',.p _,_,S'.al sm,is,h,fun δ3 h3 F3 u2 σ3 H3 E3 S3 => ?_⟩
  have xw:=E2.trans E3
  refine⟨F3,u2,δ3,_,S3,h3,⟨fun δ4 h4 F4 xx σ4 H4 E4 S4=>⟨F4,_,_,(xw.trans E4).trim S1.cO,S4.trim,h4⟩,k1.nx.ext xw,fun δ4 h4 F4 xx σ4 H4 E4 S4=>⟨F4,_,_,(xw.trans E4).trim S1.cO,S4.trim,h4⟩,(k1.ext xw).rt⟩⟩
 ·have ei:i=it.items.length:=by omega
  subst ei
  rw[Zh (wV _)] at h
  obtain⟨ck,h⟩:=h
  exact .inl ⟨(I1 F' aD δ' σ' H' E'.same E'.pre S' ck).1,k1.nx _ h _ _ _ _ E' S'⟩
noncomputable def gu:WT:=fun δ K=>K true δ
theorem JF.weak {ifs:List Expr} {t t':TT} (h:JF X ifs t) (k:∀ σ H Q,t' σ H Q->t σ H Q):JF X ifs t':=⟨fun pins s σ H Q I q=>h.out pins s σ H Q I (k σ H Q q)⟩
theorem oq:JF X [] (d6 gu):=qS.weak fun σ H Q h0_ => el7 h0_ fun F ad δ K S q k =>k _ _ q _ _ _ .refl S
theorem xy {c:Expr} (h:JT X c (d6 t)):JF X [c] (d6 t):=NO h
theorem FW {J:It} {l:Addr} {F1:Hp} {bh:List Addr} {δ1:aC} {σ : St} {H1:Hp} {it:pC} {cp:List (Option Nat)} {Q:VK} {K:List D->aC->Prop} (S1:SR F1 bh δ1 σ H1) (I1:qY F1 bh it J) (hl:H1 l=none)
  (h:ka ⟨dI cp δ1.sl,δ1.mu⟩ it.bI g t f K it.items [] ⟨dI cp δ1.sl,δ1.mu⟩)
  (fin:∀ acc δ' F' aD τ H' ys,K acc δ'->Ext F1 bh δ1.mu H1 F' aD δ'.mu H'->SR F' aD δ' τ H'->H' l=some (.lst ys)->F' l=none->¬ Lv aD δ'.mu l->af F' acc ys->Q (.ref l) H') :
  E8 J (lM g) (d6 t) (tD f) l (jo cp σ) (upd H1 l (.lst [])) Q:=by
 have f1:F1 l=none:=by
  cases q:F1 l with
  | none=>rfl
  | some u=>rw[S1.sub l u q] at hl;cases hl
 have nl:∀ {ad mu},(∀ a,Lv ad mu a->Lv bh δ1.mu a\/H1 a=none)->True:=fun _=>trivial
 have l1:¬ Lv bh δ1.mu l:=fun ⟨k,ov,e1,e2⟩=>by
  obtain⟨a,o,e3,e4,_⟩:=S1.mu k ov e2
  rw[e1] at e3;cases e3
  rw[hl] at e4;cases e4
 have S0:SR F1 bh ⟨dI cp δ1.sl,δ1.mu⟩ (jo cp σ) (upd H1 l (.lst [])):=S1.uZ.other f1 l1 (aV.same S1.tab (dG hl))
 refine⟨fun i m τ H'=>∃ F' aD δ' acc ys,i + m=it.items.length/\Ext F1 bh δ1.mu H1 F' aD δ'.mu H'/\SR F' aD δ' τ H'/\H' l=some (.lst ys)/\F' l=none/\¬ Lv aD δ'.mu l/\af F' acc ys/\ka ⟨dI cp δ1.sl,δ1.mu⟩ it.bI g t f K (it.items.drop i) acc δ',⟨it.items.length,F1,bh,_,[],[],by omega,Ext.refl.other hl,S0,bH,f1,l1,.nil,h⟩,?_⟩
 rintro i m τ H' ⟨F',aD,δ',acc,ys,hm,E',S',i_,ot,pD,ia,h⟩
 by_cases dY:i < it.items.length
 ·rw[Xu dY] at h
  obtain⟨ck,h⟩:=h
  obtain⟨go,yl⟩:=(I1 F' aD δ' τ H' E'.same E'.pre S' ck).2 i _ (qI dY)
  have step:∀ {F2:Hp} {dA:List Addr} {A3:List (Option OV)} {H2:Hp},Ext F' aD δ'.mu H' F2 dA A3 H2->H2 l=some (.lst ys)/\F2 l=none/\¬ Lv dA A3 l/\af F2 acc ys:=fun {F2 dA A3 H2} e=>by
   refine⟨e.keep _ _ i_ pD (fun z=>by obtain⟨ps,q⟩:=aV.tb S1.tab z;rw[hl] at q;cases q),?_,fun z => ?_,ia.same e.same⟩
   ·cases q:F2 l with
    | none=>rfl
    | some u =>
     rcases e.new l u q with z | z | z
     ·rw[ot] at z;cases z
     ·rw[i_] at z;cases z
     ·exact absurd z pD
   ·rcases e.cB l z with z | z
    ·exact pD z
    ·rw[i_] at z;cases z
  refine .inr ⟨go,fun τ2 H2=>∃ F2 dA δ2 ou xA,Ext F1 bh δ1.mu H1 F2 dA δ2.mu H2/\SR F2 dA δ2 τ2 H2/\H2 l=some (.lst xA)/\F2 l=none/\¬ Lv dA δ2.mu l/\af F2 ou xA/\ka ⟨dI cp δ1.sl,δ1.mu⟩ it.bI g t f K (it.items.drop (i + 1)) ou δ2,
   fun τ2 H2 ⟨F2,dA,δ2,ou,xA,r⟩=>⟨m - 1,by omega,F2,dA,δ2,ou,xA,by omega,r⟩,fun x H2 y => ?_⟩
  obtain⟨sm,is⟩:=yl x H2 y
  have X2:=Ext.al S' sm
  refine⟨_,aD,δ',.p _,_,S'.al sm,is,h,fun δ3 h3 F3 u2 σ3 H3 X3 S3 => ?_⟩
  refine⟨F3,u2,δ3,_,S3,h3,fun bb δ4 h4 F4 xx H4 X4 S4 => ?_⟩
  have A4:=(X2.trans X3).trans X4
  cases bb with
  | false =>
   dsimp only at h4 ⊢
   rw[My EY] at h4 ⊢
   obtain⟨a1,a2,a3,a4⟩:=step A4
   exact⟨F4,_,_,acc,ys,(E'.trans A4).trim S1.cO,S4.trim (δ0:=⟨dI cp δ1.sl,δ1.mu⟩),a1,a2,fun z=>a3 z.take,a4,h4⟩
  | true =>
   dsimp only at h4 ⊢
   rw[VZ rfl] at h4 ⊢
   refine⟨F4,xx,δ4,_,S4,h4,fun y δ5 h5 v F5 V_ H5 X5 S5 V5 => ?_⟩
   obtain⟨e,δ6,F6,⟨hlen,h6⟩,X6,S6,i6⟩:=xn S5 V5 h5
   have FX:=(A4.trans X5).trans X6
   obtain⟨a1,a2,a3,a4⟩:=step FX
   refine⟨ys,a1,wW (by rw[a4.length];omega),F6,_,_,acc ++ [e],ys ++ [v],?_,(S6.other a2 a3 (aV.put S6.tab a1 (.inl ⟨_,rfl⟩))).trim (δ0:=⟨dI cp δ1.sl,δ1.mu⟩),bH,a2,fun z=>a3 z.take,a4.snoc i6,h6⟩
   exact ((E'.trans FX).other hl).trim S1.cO
 ·have ei:i=it.items.length:=by omega
  subst ei
  rw[Zh (wV _)] at h
  obtain⟨ck,h⟩:=h
  exact .inl ⟨(I1 F' aD δ' τ H' E'.same E'.pre S' ck).1,fin _ _ _ _ _ _ _ h E' S' i_ ot pD ia⟩
theorem FY {cp:List (Option Nat)}:∀ σ H Q,tD (kE w cp g t f) σ H Q->qN (lN w) cp (fun _=>lM g) (fun _=>d6 t) (fun _=>tD f) σ H Q:=fun σ H Q h0_ => el7 h0_ fun F ad δ K S q k =>by
 refine⟨F,ad,δ,_,S,q,fun it δ1 h1 J F1 bh H1 E1 S1 I1=>fun d l hl => ?_⟩
 refine FW S1 I1 hl h1 fun acc δ' F' aD τ H' ys hk E' S' i_ ot pD ia => ?_
 have sm:aA F' (upd F' l (.lst ys)):=dG ot
 refine k _ _ hk _ _ _ _ (E1.trans (E'.adopt hl ot)) (SR.back (sl := δ'.sl) S1 (E'.adopt hl ot) (S'.adopt ot i_ pD)) ?_
 show Is _ (.lst acc) _
 simp only[Is]
 exact⟨l,ys,rfl,bH,ia.same sm⟩
theorem Of {cp:List (Option Nat)}:∀ σ H Q,tD (qZ w cp g t f) σ H Q->qN (lN w) cp (fun _=>lM g) (fun _=>d6 t) (fun _=>tD f) σ H Q:=fun σ H Q h0_ => el7 h0_ fun F ad δ K S q k =>by
 refine⟨F,ad,δ,_,S,q,fun it δ1 h1 J F1 bh H1 E1 S1 I1=>fun d l hl => ?_⟩
 refine FW S1 I1 hl h1 fun acc δ' F' aD τ H' ys hk E' S' i_ ot pD ia => ?_
 have S2:=S'.eJ (ov := .lst acc) ot i_ pD ⟨ys,rfl,ia⟩
 have E2:=E'.eJ (ov := .lst acc) hl S'.cO
 refine k _ _ hk _ _ _ _ (E1.trans E2) (SR.back (sl := δ'.sl) S1 E2 S2) ⟨l,?_,rfl⟩
 rw[<-S'.cO,WH (wV _),XJ];rfl
theorem pE (cp:List (Option Nat)) (Nb:List Str) (hc:X.calm=true) (hi:JI X tg iter (lN w)) (hg:∀ d,JG (cF X scope Nb d) tg (lM g)) (hf:∀ d,JF (cF X scope Nb d) ifs (d6 t)) (he:∀ d,JE (cF X scope Nb d) elt (tD f))
  (hk:scope.kind = .function:=by rfl) (ho:mI X.N X.env.scope scope Nb cp=true:=by first | rfl | kernel_rfl) (hs:∀ x,foldedSetIterable iter X.env x=pure x:=by intro _;rfl) :
  JE X (.ListComp elt [⟨tg,iter,ifs,0⟩] scope pos) (tD (kE w cp g t f)):=(FA cp Nb hc hi hg hf he hk ho hs).weak FY
theorem xB (cp:List (Option Nat)) (Nb:List Str) (hc:X.calm=true) (hi:JI X tg iter (lN w)) (hg:∀ d,JG (cF X scope Nb d) tg (lM g)) (hf:∀ d,JF (cF X scope Nb d) ifs (d6 t)) (he:∀ d,JE (cF X scope Nb d) elt (tD f))
  (hk:scope.kind = .function:=by rfl) (ho:mI X.N X.env.scope scope Nb cp=true:=by first | rfl | kernel_rfl) (hs:∀ x,foldedSetIterable iter X.env x=pure x:=by intro _;rfl) :
  JE X (.ListComp elt [⟨tg,iter,ifs,0⟩] scope pos) (tD (qZ w cp g t f)):=(FA cp Nb hc hi hg hf he hk ho hs).weak Of
theorem Og (cp:List (Option Nat)) (Nb:List Str) {i:Nat} {x:Str} {pos' i5:Pos} (hN:X.N.Nodup) (hi:X.N[i]? = some x) (hx:Loc X.env.scope x) (hc:X.calm=true) (hit:JI X tg iter (lN w)) (hg:∀ d,JG (cF X scope Nb d) tg (lM g)) (hf:∀ d,JF (cF X scope Nb d) ifs (d6 t)) (he:∀ d,JE (cF X scope Nb d) elt (tD f))
  (hk:scope.kind = .function:=by rfl) (ho:mI X.N X.env.scope scope Nb cp=true:=by first | rfl | kernel_rfl) (hs:∀ x,foldedSetIterable iter X.env x=pure x:=by intro _;rfl)
  (uA:swapsWith (.ListComp elt [⟨tg,iter,ifs,0⟩] scope pos) (some (.Name x pos')) i5.line X.env=pure true:=by rfl)
  (nk:X.fn x=true\/X.env.scope.names.lookup x=some .local:=by first | exact .inl rfl | exact .inr rfl | assumption) :
  JS X (.Assign [.Name x pos'] (.ListComp elt [⟨tg,iter,ifs,0⟩] scope pos) i5) (gs (bu i (kE w cp g t f))) :=
 (NP cp Nb hN hi hx hc hit hg hf he hk ho hs uA nk).weak fun D σ H h0_ => el7 h0_ fun F ad δ K S q k =>FY σ H _ ⟨F,ad,δ,_,S,q,fun x δ1 h1 v F1 bh H1 E1 S1 V1=>k.nx _ h1 _ _ _ _ E1 (S1.set V1)⟩
end
inductive RV where
 | p (d:D) | n (ds:List D) | a (j:Nat)
noncomputable abbrev GD:=List DV->List OV->(RV->List OV->Prop)->Prop
structure gv (F:Hp) (ad:List Addr) (H:Hp) (r:RV) (ows:List OV) (v:V) (F' H':Hp):Prop where
 sub:aA F' H'
 same:aA F F'
 new:∀ a o,F' a=some o->F a=some o\/H a=none
 keep:∀ a o,H a=some o->a∉ad->a∉aV.ad->H' a=some o
 tab:aV.ok H'
 nt:∀ a∈aV.ad,F' a=none
 len:ows.length=ad.length
 own:∀ (j:Nat) (ow:OV),ows[j]? = some ow->∃ a o,ad[j]? = some a/\H' a=some o/\hJ F' ow o
 off:∀ a∈ad,F' a=none
 res:match r with
  | .p d=>Is F' d v
  | .n ds=>∃ a vs,v = .ref a/\H a=none/\H' a=some (.lst vs)/\F' a=none/\af F' ds vs
  | .a j=>∃ a,ad[j]? = some a/\v = .ref a
noncomputable def aR (G:GD) (n:Nat):Sp:=fun vs H Q _=>vs.length=n/\∃ F ad ys ao K,SR F ad ⟨ys.map some,ao.map some⟩ (vs.map some) H/\G ys ao K/\∀ r ows,K r ows->∀ v F' H',gv F ad H r ows v F' H'->Q v H'
noncomputable def gQ (n:Nat) (K:RV->List OV->Prop) (x:DV) (δ : aC):Prop:=∃ ows,δ.mu.take n=ows.map some/\ows.length=n/\match x with
 | .p d=>K (.p d) ows
 | .o k=>if k < n then K (.a k) ows else match δ.mu[k]? with
  | some (some (.lst ds))=>K (.n ds) ows\/K (.p (.lst ds)) ows
  | _=>False
noncomputable def cC (n:Nat) (K:RV->List OV->Prop):KS where
 nx:=gQ n K (.p .non)
 rt:=gQ n K
section
variable {F F' H H':Hp} {ad aD:List Addr} {σ σ':St}
theorem FZ {α : Type} {l:List α} {i:Nat} {x : α} (h:(l.map some)[i]? = some (some x)):l[i]? = some x:=by
 rw[VX] at h
 obtain⟨y,e,q⟩:=WJ.mp h
 cases q;exact e
theorem Oh {α : Type} {l:List α} {i:Nat} {x : α} (h:l[i]? = some x):(l.map some)[i]? = some (some x):=by
 rw[VX,h];rfl
theorem SR.start {ys:List DV} {mu:List (Option OV)} {vs:List V} {N:List Str} (S:SR F ad ⟨ys.map some,mu⟩ (vs.map some) H):SR F ad ⟨ys.map some ++ List.replicate (N.length - vs.length) none,mu⟩ (start N vs) H:=by
 have hl:vs.length=ys.length:=by
  have:=S.len
  rw[sE] at this
  show vs.length=ys.length
  rw[this];show (ys.map some).length=_;rw[sE]
 refine⟨S.sub,S.off,S.cO,S.inj,S.mu,fun i x e => ?_,?_,S.tab,S.nt⟩
 ·have hi:i < ys.length:=by
   by_cases c:i < ys.length
   ·exact c
   ·rw[WH (by rw[sE];omega),Yx] at e
    split at e
    ·cases e
    ·cases e
  rw[WB (by rw[sE];exact hi)] at e
  obtain⟨v,h1,h2⟩:=S.sl i x e
  exact⟨v,by unfold L2.start;rw[WB (by rw[sE,hl];exact hi)];exact h1,h2⟩
 ·unfold L2.start
  show _=(ys.map some ++ _).length
  rw[Mm,Mm,Yn,Yn,sE,sE,hl]
theorem xC {ao:List OV} {δ : aC} {x:DV} {v:V} {K:RV->List OV->Prop} {Q:VK} {sl:List (Option DV)} {τ : St} (S0:SR F ad ⟨sl,ao.map some⟩ τ H) (E:Ext F ad (ao.map some) H F' aD δ.mu H') (S:SR F' aD δ σ' H') (V:iy F' aD x v)
  (h:gQ ao.length K x δ) (k:∀ r ows,K r ows->∀ v F' H',gv F ad H r ows v F' H'->Q v H'):Q v H':=by
 obtain⟨ows,tk,hl,h⟩:=h
 have al:ad.length=ao.length:=by have:=S0.cO;rwa [sE] at this
 have lv:∀ (j:Nat) (a:Addr),ad[j]? = some a->∃ ow,ows[j]? = some ow /\ δ.mu[j]? = some (some ow)/\Lv aD δ.mu a:=fun j a e=>by
  have hj:j < ao.length:=by rw[<-al];exact (qK.mp e).1
  have h1:(δ.mu.take ao.length)[j]? = some (some (ows[j]'(by rw[hl];exact hj))):=by
   rw[tk,VX,qI (by rw[hl];exact hj)];rfl
  rw[Xh hj] at h1
  exact⟨_,qI (by rw[hl];exact hj),h1,j,_,E.pre j a e,h1⟩
 have lO:∀ a∈ad,F' a=none:=fun a ha=>by
  obtain⟨j,e⟩:=WK.mp ha
  obtain⟨_,_,_,l⟩:=lv j a e
  exact S.off a l
 have base:∀ {F2:Hp},aA F' F2->aA F2 H'->(∀ a o,F2 a=some o->F' a=some o\/(H a=none/\¬ a∈ad))->(∀ a∈ad,F2 a=none)->(∀ a∈aV.ad,F2 a=none)->∀ {r:RV},(match r with
   | .p d=>Is F2 d v
   | .n ds=>∃ a vs,v = .ref a/\H a=none/\H' a=some (.lst vs)/\F2 a=none/\af F2 ds vs
   | .a j=>∃ a,ad[j]? = some a/\v = .ref a)->gv F ad H r ows v F2 H':=fun {F2} s1 s2 n2 o2 Oi {r} res=>by
  refine⟨s2,E.same.trans s1,fun a o e => ?_,fun a o e n t => ?_,S.tab,Oi,by rw[hl,al],fun j ow e => ?_,o2,res⟩
  ·rcases n2 a o e with e | ⟨e,_⟩
   ·rcases E.new a o e with z | z | ⟨j,ov,z,_⟩
    ·exact .inl z
    ·exact .inr z
    ·rw[lO a (WK.mpr ⟨j,z⟩)] at e;cases e
   ·exact .inr e
  ·exact E.keep a o e (fun ⟨j,ov,z,_⟩=>n (WK.mpr ⟨j,z⟩)) t
  ·have hj:j < ad.length:=by rw[al,<-hl];exact (qK.mp e).1
   obtain⟨A5,e1,e2,_⟩:=lv j _ (qI hj)
   rw[e] at e1;cases e1
   obtain⟨a,o,e3,e4,h5⟩:=S.mu j _ e2
   rw[E.pre j _ (qI hj)] at e3
   cases e3
   exact⟨_,o,qI hj,e4,h5.same s1⟩
 cases x with
 | p d=>exact k _ _ h _ _ _ (base (F2:=F') (fun _ _ e=>e) S.sub (fun _ _ e => .inl e) lO S.nt V)
 | o i =>
  dsimp only at h
  obtain⟨a,e1,rfl⟩:=V
  by_cases c:i < ao.length
  ·rw[VZ c] at h
   have ei:ad[i]? = some a:=by
    have:=E.pre i _ (qI (by rw[al];exact c))
    rw[e1] at this
    rw[qI (by rw[al];exact c)]
    exact this.symm
   exact k _ _ h _ _ _ (base (F2:=F') (fun _ _ e=>e) S.sub (fun _ _ e => .inl e) lO S.nt ⟨a,ei,rfl⟩)
  ·rw[My c] at h
   split at h
   ·rename_i ds em
    obtain⟨a',o,e2,e3,vs,rfl,h4⟩:=S.mu i _ em
    rw[e1] at e2;cases e2
    have na:a∉ad:=fun z=>by
     obtain⟨j,e⟩:=WK.mp z
     obtain⟨ow,_,e5,_⟩:=lv j a e
     have:i=j:=S.inj i j a _ _ e1 (E.pre j a e) em e5
     subst this
     exact c (by rw[<-al];exact (qK.mp e).1)
    have fa:F' a=none:=S.off a ⟨i,_,e1,em⟩
    have ha:H a=none:=by
     rcases E.cB a ⟨i,_,e1,em⟩ with⟨j,ov,z,_⟩ | z
     ·exact absurd (WK.mpr ⟨j,z⟩) na
     ·exact z
    rcases h with h | h
    ·exact k _ _ h _ _ _ (base (F2:=F') (fun _ _ e=>e) S.sub (fun _ _ e => .inl e) lO S.nt ⟨a,vs,rfl,ha,e3,fa,h4⟩)
    ·refine k _ _ h _ _ _ (base (F2:=upd F' a (.lst vs)) (dG fa) (fun b o e => ?_) (fun b o e => ?_) (fun b hb => ?_) (fun b hb => ?_) ?_)
     ·by_cases z:b=a
      ·subst z;rw[bH] at e;cases e;exact e3
      ·rw[aH z] at e;exact S.sub b o e
     ·by_cases z:b=a
      ·subst z;exact .inr ⟨ha,na⟩
      ·rw[aH z] at e;exact .inl e
     ·rw[aH fun z=>na (by subst z;exact hb)];exact lO b hb
     ·obtain⟨ps,q⟩:=aV.tb S.tab hb
      rw[aH fun z=>by subst z;rw[e3] at q;cases q];exact S.nt b hb
     ·show Is _ (.lst ds) _
      simp only[Is]
      exact⟨a,vs,rfl,bH,h4.same (dG fa)⟩
   ·exact h.elim
end
theorem b7.gB {P:Program} {w:World} {K:PySem.W.Frag} {mg:Str->Option Value} {base:Heap} {x qual:Str} {st:Stmt} {f:Addr} {fd:FuncData} {N ps:List Str} {k:Nat} {G:GD} (F:b7 K x qual st f fd) (S:dF N ps (bf st))
  (de:∀ (aK:Value) (A:Around) (outer:List Env) (s:Shared) (H:Hp) (E:XK),bC k (A.deeper (envOfC qual (bf st) s.heap.objs.size f aK)) →
   ∃ B:WS,cV (aS aW P w K mg base N qual (bf st) f aK A outer s H E).cg (dR st) (gs B)/\∀ ys ao K',ys.length=ps.length->G ys ao K'->B (cC ao.length K') ⟨ys.map some ++ List.replicate (N.length - ps.length) none,ao.map some⟩) :
  aF P w K mg base aW (k + 1) f fd ps (aR G ps.length) :=
 F.uO S (fun vs H Q E h=>h.1) fun aK A outer s H vs Q E hr h=>by
  obtain⟨hl,Fz,ad,ys,ao,K',S0,g,kk⟩:=h
  obtain⟨B,jb,hb⟩:=de aK A outer s H E hr
  have hy:ys.length=ps.length:=by
   have:=S0.len
   rw[sE] at this
   rw[<-hl,this];show _=(ys.map some).length;rw[sE]
  refine⟨_,jb,Fz,ad,⟨ys.map some ++ List.replicate (N.length - ps.length) none,ao.map some⟩,cC ao.length K',by rw[<-hl];exact S0.start,hb ys ao K' hy g,⟨fun δ' h F' aD σ' H' E' S' => ?_,fun δ' h=>h.elim,fun δ' h=>h.elim,fun y δ' h v F' aD σ' H' E' S' V => ?_⟩⟩
  ·exact xC (σ' := σ') S0 E' S' (x := .p .non) (v := .non) rfl h kk
  ·exact xC (σ' := σ') S0 E' S' V h kk
noncomputable def passes (mu:List (Option OV)):List DV->Nat->Option (List DV × List (Nat × OV))
 | [],_=>some ([],[])
 | .p d :: xs,j=>match passes mu xs j with
  | some r=>some (.p d :: r.1,r.2)
  | none=>none
 | .o k :: xs,j=>match mu[k]? with
  | some (some ov)=>match passes mu xs (j + 1) with
   | some r=>some (.o j :: r.1,(k,ov) :: r.2)
   | none=>none
  | _=>none
noncomputable def gC (mu:List (Option OV)):List (Nat × OV)->List OV->List (Option OV)
 | (k,_) :: r,ow :: ows=>gC (mu.set k (some ow)) r ows
 | _,_=>mu
noncomputable def mQ:List (Nat × OV)->Bool
 | []=>true
 | (k,_) :: r => !(r.any fun e=>e.1 == k) && mQ r
noncomputable def q_ (δ : aC) (hV:List (Nat × OV)) (K:DV->aC->Prop) (r:RV) (ows:List OV):Prop:=match r with
 | .p d=>K (.p d) ⟨δ.sl,gC δ.mu hV ows⟩
 | .n ds=>K (.p (.lst ds)) ⟨δ.sl,gC δ.mu hV ows⟩
 | .a j=>match hV[j]? with
  | some ko=>K (.o ko.1) ⟨δ.sl,gC δ.mu hV ows⟩
  | none=>False
noncomputable def rf (δ : aC) (hV:List (Nat × OV)) (K:DV->aC->Prop) (r:RV) (ows:List OV):Prop:=match r with
 | .n ds=>K (.o (gC δ.mu hV ows).length) ⟨δ.sl,gC δ.mu hV ows ++ [some (.lst ds)]⟩
 | _=>False
noncomputable def ay (n:Nat) (G:GD) (fa:WA):WE:=fun δ K=>fa δ fun xs δ1=>match passes δ1.mu xs 0 with
 | some r=>(mQ r.2=true/\r.1.length=n)/\G r.1 (r.2.map (·.2)) (q_ δ1 r.2 K)
 | none=>False
noncomputable def u3 (n:Nat) (G:GD) (fa:WA):WE:=fun δ K=>fa δ fun xs δ1=>match passes δ1.mu xs 0 with
 | some r=>(mQ r.2=true/\r.1.length=n)/\G r.1 (r.2.map (·.2)) (rf δ1 r.2 K)
 | none=>False
section
variable {F F' H H':Hp} {ad aD:List Addr} {δ : aC} {σ σ':St}
theorem xD {mu:List (Option OV)} (hm:∀ (k:Nat) (ov:OV),mu[k]? = some (some ov)->∃ a o,ad[k]? = some a/\H a=some o/\hJ F ov o):∀ {xs:List DV} {vs:List V} {j:Nat} {r:List DV × List (Nat × OV)},passes mu xs j=some r->eG F ad xs vs →
  ∃ as:List Addr,as.length=r.2.length/\(∀ (i:Nat) (ko:Nat × OV),r.2[i]? = some ko->mu[ko.1]? = some (some ko.2)/\∃ a o,as[i]? = some a/\ad[ko.1]? = some a/\H a=some o/\hJ F ko.2 o) ∧
   ∀ (pre:List Addr),pre.length=j->∃ _u:Unit,vs.length=r.1.length/\∀ (i:Nat) (y:DV),r.1[i]? = some y->∃ v,vs[i]? = some v/\iy F (pre ++ as) y v
 | [],vs,j,r,h,hv=>by
  cases h
  have:vs=[]:=hv
  subst this
  exact⟨[],rfl,fun i ko e=>by simp at e,fun pre _=>⟨(),rfl,fun i y e=>by simp at e⟩⟩
 | .p d :: xs,_,j,r,h,⟨v,t,e,h1,h2⟩=>by
  subst e
  unfold passes at h
  split at h
  ·rename_i r' hr
   cases h
   obtain⟨as,l,b,c⟩:=xD hm hr h2
   refine⟨as,l,b,fun pre hp=>⟨(),?_,fun i y e => ?_⟩⟩
   ·obtain⟨_,c1,_⟩:=c pre hp
    rw[Mj,Mj,c1]
   ·obtain⟨_,_,c2⟩:=c pre hp
    cases i with
    | zero=>cases (show some (DV.p d)=some y by simpa using e);exact⟨v,rfl,h1⟩
    | succ i=>simpa using c2 i y (by simpa using e)
  ·cases h
 | .o k :: xs,_,j,r,h,⟨v,t,e,h1,h2⟩=>by
  subst e
  unfold passes at h
  split at h
  ·rename_i ov hk
   split at h
   ·rename_i r' hr
    cases h
    obtain⟨as,l,b,c⟩:=xD hm hr h2
    obtain⟨a,e1,rfl⟩:=h1
    obtain⟨a',o,e2,e3,e4⟩:=hm k ov hk
    rw[e1] at e2;cases e2
    refine⟨a :: as,by rw[Mj,Mj,l],fun i ko e => ?_,fun pre hp=>⟨(),?_,fun i y e => ?_⟩⟩
    ·cases i with
     | zero=>cases (show some (k,ov)=some ko by simpa using e);exact⟨hk,a,o,rfl,e1,e3,e4⟩
     | succ i=>simpa using b i ko (by simpa using e)
    ·obtain⟨_,c1,_⟩:=c (pre ++ [a]) (by rw[Mm,hp];rfl)
     rw[Mj,Mj,c1]
    ·obtain⟨_,_,c2⟩:=c (pre ++ [a]) (by rw[Mm,hp];rfl)
     cases i with
     | zero =>
      cases (show some (DV.o j)=some y by simpa using e)
      refine⟨_,rfl,a,?_,rfl⟩
      rw[WH (by omega),hp,XJ];rfl
     | succ i =>
      obtain⟨v',c3,c4⟩:=c2 i y (by simpa using e)
      exact⟨v',by simpa using c3,by rw[YH] at c4;exact c4⟩
   ·cases h
  ·cases h
theorem F7:∀ {hV:List (Nat × OV)},mQ hV=true->∀ (i j:Nat) (k:Nat) (a b:OV),hV[i]? = some (k,a)->hV[j]? = some (k,b)->i=j
 | [],_,i,j,k,a,b,e,_=>by simp at e
 | (k',ov) :: r,h,i,j,k,a,b,e1,e2=>by
  unfold mQ at h
  simp only[VY,Z5] at h
  have no:∀ (m:Nat) (c:OV),r[m]? = some (k',c)->False:=fun m c e=>by
   have:=Yd.mp h.1 _ (WK.mpr ⟨m,e⟩)
   exact this (by simp)
  cases i with
  | zero =>
   cases (show some (k',ov)=some (k,a) by simpa using e1)
   cases j with
   | zero=>rfl
   | succ j=>exact (no j b (by simpa using e2)).elim
  | succ i =>
   cases j with
   | zero=>cases (show some (k',ov)=some (k,b) by simpa using e2);exact (no i a (by simpa using e1)).elim
   | succ j=>rw[F7 h.2 i j k a b (by simpa using e1) (by simpa using e2)]
theorem F8:∀ (hV:List (Nat × OV)) (ows:List OV) (mu:List (Option OV)),(gC mu hV ows).length=mu.length
 | (k,_) :: r,ow :: ows,mu=>by rw[gC,F8 r ows,XT]
 | [],_,_=>rfl
 | _ :: _,[],_=>rfl
theorem xE:∀ (hV:List (Nat × OV)) (ows:List OV) (mu:List (Option OV)) (l:Nat),(∀ ko∈hV,ko.1≠l)->(gC mu hV ows)[l]? = mu[l]?
 | (k,_) :: r,ow :: ows,mu,l,h=>by
  rw[gC,xE r ows _ l fun ko hk=>h ko (Mn _ hk),Xg (h _ VV)]
 | [],_,_,_,_=>rfl
 | _ :: _,[],_,_,_=>rfl
theorem F9:∀ {hV:List (Nat × OV)} {ows:List OV} {mu:List (Option OV)} {i:Nat} {ko:Nat × OV} {ow:OV},mQ hV=true->hV[i]? = some ko->ows[i]? = some ow->ko.1 < mu.length->(gC mu hV ows)[ko.1]? = some (some ow)
 | (k,ov) :: r,A5 :: ows,mu,0,ko,ow,h,e1,e2,hl=>by
  cases (show some (k,ov)=some ko by simpa using e1)
  cases (show some A5=some ow by simpa using e2)
  unfold mQ at h
  simp only[VY,Z5] at h
  rw[gC,xE r ows _ k fun ko hk z=>absurd (by simpa using z) (Yd.mp h.1 ko hk),Xe hl]
 | (k,ov) :: r,A5 :: ows,mu,i + 1,ko,ow,h,e1,e2,hl=>by
  unfold mQ at h
  simp only[VY,Z5] at h
  rw[gC]
  exact F9 h.2 (by simpa using e1) (by simpa using e2) (by rw[XT];exact hl)
 | [],_,_,i,_,_,_,e1,_,_=>by simp at e1
 | _ :: _,[],_,i,_,_,_,_,e2,_=>by simp at e2
theorem F_ {xs:List DV} {vs:List V} {r:List DV × List (Nat × OV)} {G:GD} {n:Nat} {Q:VK} {E:XK} {K:RV->List OV->Prop} (S:SR F ad δ σ H) (V:eG F ad xs vs) (hn:vs.length=n) (hp:passes δ.mu xs 0=some r) (nd:mQ r.2=true) (g:G r.1 (r.2.map (·.2)) K)
  (fin:∀ res ows v F' H',K res ows->Ext F ad δ.mu H F' ad (gC δ.mu r.2 ows) H'->SR F' ad ⟨δ.sl,gC δ.mu r.2 ows⟩ σ H'->(match res with
   | .p d=>Is F' d v
   | .n ds=>∃ a vs,v = .ref a/\H a=none/\H' a=some (.lst vs)/\F' a=none/\af F' ds vs
   | .a j=>∃ ko a,r.2[j]? = some ko/\ad[ko.1]? = some a/\v = .ref a)->Q v H'):aR G n vs H Q E:=by
 obtain⟨as,al,b,c⟩:=xD S.mu hp V
 obtain⟨_,c1,c2⟩:=c [] rfl
 have sT:∀ (i:Nat) (a:Addr),as[i]? = some a->Lv ad δ.mu a/\∃ ko,r.2[i]? = some ko/\ad[ko.1]? = some a /\ δ.mu[ko.1]? = some (some ko.2):=fun i a e=>by
  have hi:i < r.2.length:=by rw[<-al];exact (qK.mp e).1
  obtain⟨m1,a',o,e1,e2,_,_⟩:=b i _ (qI hi)
  rw[e] at e1;cases e1
  exact⟨⟨_,_,e2,m1⟩,_,qI hi,e2,m1⟩
 refine⟨hn,F,as,r.1,r.2.map (·.2),K,⟨S.sub,fun a ⟨i,ov,e1,e2⟩=>S.off a (sT i a e1).1,by rw[al];show _=((r.2.map (·.2)).map some).length;rw[sE,sE],fun i j a ov ow e1 e2 _ _ => ?_,fun i ov e => ?_,fun i y e => ?_,?_,S.tab,S.nt⟩,g,fun res ows hk v F' H' P => ?_⟩
 ·obtain⟨_,ko,k1,k2,k3⟩:=sT i a e1
  obtain⟨_,kp,p1,p2,p3⟩:=sT j a e2
  have:ko.1=kp.1:=S.inj _ _ a _ _ k2 p2 k3 p3
  exact F7 nd i j ko.1 ko.2 kp.2 k1 (by rw[this];exact p1)
 ·have e:=FZ e
  rw[VX] at e
  obtain⟨ko,e1,rfl⟩:=WJ.mp e
  obtain⟨_,a,o,e2,_,e4,e5⟩:=b i ko e1
  exact⟨a,o,e2,e4,e5⟩
 ·obtain⟨v,e1,e2⟩:=c2 i y (FZ e)
  exact⟨v,Oh e1,by simpa using e2⟩
 ·show (vs.map some).length=(r.1.map some).length
  rw[sE,sE,c1]
 ·have ol:ows.length=r.2.length:=by rw[P.len,al]
  have m_:∀ (l:Nat) (ow:OV),(gC δ.mu r.2 ows)[l]? = some (some ow)->(∃ (i:Nat) (ko:Nat × OV),r.2[i]? = some ko/\ko.1=l/\ows[i]? = some ow)\/((∀ ko∈r.2,ko.1≠l) /\ δ.mu[l]? = some (some ow)):=fun l ow e=>by
   by_cases z:∃ ko∈r.2,ko.1=l
   ·obtain⟨ko,hk,rfl⟩:=z
    obtain⟨i,hi⟩:=WK.mp hk
    have A6:i < ows.length:=by rw[ol];exact (qK.mp hi).1
    have:=F9 (mu := δ.mu) nd hi (qI A6) (qK.mp (b i ko hi).1).1
    rw[e] at this
    cases this
    exact .inl ⟨i,ko,hi,rfl,qI A6⟩
   ·have z':∀ ko∈r.2,ko.1≠l:=fun ko hk q=>z ⟨ko,hk,q⟩
    rw[xE _ _ _ _ z'] at e
    exact .inr ⟨z',e⟩
  have Ga:∀ (l:Nat) (ow:OV) (a:Addr),ad[l]? = some a->(gC δ.mu r.2 ows)[l]? = some (some ow)->Lv ad δ.mu a:=fun l ow a e1 e2=>by
   rcases m_ l ow e2 with⟨i,ko,hi,rfl,_⟩ | ⟨_,q⟩
   ·exact⟨_,_,e1,(b i ko hi).1⟩
   ·exact⟨_,_,e1,q⟩
  have Oj:∀ a,a∈as->Lv ad δ.mu a:=fun a ha=>by
   obtain⟨i,e⟩:=WK.mp ha
   exact (sT i a e).1
  have ex:Ext F ad δ.mu H F' ad (gC δ.mu r.2 ows) H':=by
   refine⟨P.same,fun a o e => ?_,fun a o e n t=>P.keep a o e (fun z=>n (Oj a z)) t,fun _ _ e=>e,fun a ⟨l,ow,e1,e2⟩ => .inl (Ga l ow a e1 e2),fun a o e => ?_⟩
   ·rcases P.new a o e with z | z
    ·exact .inl z
    ·exact .inr (.inl z)
   ·by_cases z:a∈as
    ·obtain⟨i,e1⟩:=WK.mp z
     have hi:i < ows.length:=by rw[P.len];exact (qK.mp e1).1
     obtain⟨a',o',e2,e3,_⟩:=P.own i _ (qI hi)
     rw[e1] at e2;cases e2
     exact⟨o',e3⟩
    ·by_cases t:a∈aV.ad
     ·obtain⟨ps,q⟩:=aV.tb P.tab t
      exact⟨_,q⟩
     ·exact⟨o,P.keep a o e z t⟩
  have A7:∀ a,Lv ad δ.mu a->F' a=none:=fun a l=>by
   by_cases z:a∈as
   ·exact P.off a z
   ·cases q:F' a with
    | none=>rfl
    | some u =>
     rcases P.new a u q with y | y
     ·rw[S.off a l] at y;cases y
     ·obtain⟨k,ov,e1,e2⟩:=l
      obtain⟨a',o,e3,e4,_⟩:=S.mu k ov e2
      rw[e1] at e3;cases e3
      rw[y] at e4;cases e4
  have sr:SR F' ad ⟨δ.sl,gC δ.mu r.2 ows⟩ σ H':=by
   refine⟨P.sub,fun a ⟨l,ow,e1,e2⟩=>A7 a (Ga l ow a e1 e2),by rw[S.cO];exact (F8 _ _ _).symm,fun k l a ov ow e1 e2 e3 e4 => ?_,fun l ow e => ?_,fun i y e => ?_,S.len,P.tab,P.nt⟩
   ·have h3:∃ w,δ.mu[k]? = some (some w):=by
     rcases m_ k ov e3 with⟨i,ko,hi,rfl,_⟩ | ⟨_,q⟩
     ·exact⟨_,(b i ko hi).1⟩
     ·exact⟨_,q⟩
    have h4:∃ w,δ.mu[l]? = some (some w):=by
     rcases m_ l ow e4 with⟨i,ko,hi,rfl,_⟩ | ⟨_,q⟩
     ·exact⟨_,(b i ko hi).1⟩
     ·exact⟨_,q⟩
    obtain⟨_,h3⟩:=h3
    obtain⟨_,h4⟩:=h4
    exact S.inj k l a _ _ e1 e2 h3 h4
   ·rcases m_ l ow e with⟨i,ko,hi,rfl,ho⟩ | ⟨z,q⟩
    ·obtain⟨_,a,o,e1,e2,_,_⟩:=b i ko hi
     obtain⟨a',o',e3,e4,h5⟩:=P.own i ow ho
     rw[e1] at e3;cases e3
     exact⟨a,o',e2,e4,h5⟩
    ·obtain⟨a,o,e1,e2,h⟩:=S.mu l ow q
     refine⟨a,o,e1,P.keep a o e2 (fun y => ?_) (fun t => ?_),h.same P.same⟩
     ·obtain⟨i,e3⟩:=WK.mp y
      obtain⟨_,ko,k1,k2,k3⟩:=sT i a e3
      exact z ko (WK.mpr ⟨i,k1⟩) (S.inj _ _ a _ _ k2 e1 k3 q)
     ·obtain⟨ps,q2⟩:=aV.tb S.tab t
      rw[e2] at q2
      cases q2
      rcases h.kind with⟨_,z⟩ | ⟨_,z⟩<;>cases z
   ·obtain⟨v,e1,h⟩:=S.sl i y e
    exact⟨v,e1,h.ext ex⟩
  refine fin res ows v F' H' hk ex sr ?_
  have rg:=P.res
  cases res with
  | p d=>exact rg
  | n ds=>exact rg
  | a j =>
   obtain⟨a,e1,e2⟩:=rg
   obtain⟨_,ko,k1,k2,_⟩:=sT j a e1
   exact⟨ko,a,k1,k2,e2⟩
end
section
variable {X:Cx} {fa:WA} {G:GD} {pos:Pos}
theorem Gb {F1 F2 H1 H2:Hp} {bh:List Addr} {δ1:aC} {σ : St} {xs:List DV} {vs:List V} {r:List DV × List (Nat × OV)} {ows:List OV} {a:Addr} (S1:SR F1 bh δ1 σ H1) (V1:eG F1 bh xs vs) (hp:passes δ1.mu xs 0=some r) (n1:H1 a=none):¬ Lv bh (gC δ1.mu r.2 ows) a:=fun ⟨k,ov,e1,e2⟩=>by
 have c:∃ ov,δ1.mu[k]? = some (some ov):=by
  by_cases y:∃ ko∈r.2,ko.1=k
  ·obtain⟨ko,iL,rfl⟩:=y
   obtain⟨as,_,b,_⟩:=xD S1.mu hp V1
   obtain⟨i,hi⟩:=WK.mp iL
   exact⟨_,(b i ko hi).1⟩
  ·rw[xE _ _ _ _ fun ko iL q=>y ⟨ko,iL,q⟩] at e2
   exact⟨_,e2⟩
 obtain⟨Ol,c⟩:=c
 obtain⟨a',o,e3,e4,_⟩:=S1.mu k Ol c
 rw[e1] at e3;cases e3
 rw[n1] at e4;cases e4
theorem eG.length {F:Hp} {ad:List Addr}:∀ {xs:List DV} {vs:List V},eG F ad xs vs->vs.length=xs.length
 | [],vs,h=>by have h:vs=[]:=h;rw[h];rfl
 | x :: xs,vs,⟨v,r,e,_,h2⟩=>by rw[e,Mj,Mj,eG.length h2]
theorem xF {mu:List (Option OV)}:∀ {xs:List DV} {j:Nat} {r:List DV × List (Nat × OV)},passes mu xs j=some r->r.1.length=xs.length
 | [],j,r,h=>by cases h;rfl
 | .p d :: xs,j,r,h=>by
  unfold passes at h
  split at h
  ·rename_i r' hr;cases h;show (DV.p d :: r'.1).length=_;rw[Mj,Mj,xF hr]
  ·cases h
 | .o k :: xs,j,r,h=>by
  unfold passes at h
  split at h
  ·split at h
   ·rename_i r' hr;cases h;show (DV.o j :: r'.1).length=_;rw[Mj,Mj,xF hr]
   ·cases h
  ·cases h
section
variable {k:Nat} {f:Addr} {fd:FuncData} {ps:List Str} {x:Str} {p:Pos} {e:Expr} {es:List Expr} {n:Nat}
theorem Om {E:XK}:∀ σ H Q,tD (ay n G fa) σ H Q->oZ (aR G n) [] E (cP fa) σ H Q:=fun σ H Q h0_ => el7 h0_ fun F ad δ K S q kk =>by
 refine⟨F,ad,δ,_,S,q,fun xs δ1 h1 vs F1 bh H1 E1 S1 V1 => ?_⟩
 split at h1
 ·rename_i r hp
  obtain⟨⟨nd,hn⟩,h1⟩:=h1
  rw[ZA]
  refine F_ S1 V1 (by rw[V1.length,<-xF hp,hn]) hp nd h1 fun res ows v F2 H2 hk E2 S2 lP => ?_
  unfold q_ at hk
  cases res with
  | p d=>exact kk _ _ hk _ _ _ _ (E1.trans E2) S2 lP
  | n ds =>
   obtain⟨a,us,rfl,n1,n2,n3,n4⟩:=lP
   refine kk _ _ hk _ _ _ _ (E1.trans (E2.adopt (o := .lst us) n1 n3)) (S2.adopt n3 n2 (Gb (F2:=F2) (H2:=H2) S1 V1 hp n1)) ?_
   show Is _ (.lst ds) _
   simp only[Is]
   exact⟨a,us,rfl,bH,n4.same (dG n3)⟩
  | a j =>
   obtain⟨ko,a,h1,h2,h3⟩:=lP
   dsimp only at hk
   rw[h1] at hk
   exact kk _ _ hk _ _ _ _ (E1.trans E2) S2 ⟨a,h2,h3⟩
 ·exact h1.elim
theorem Oo {E:XK}:∀ σ H Q,tD (u3 n G fa) σ H Q->oZ (aR G n) [] E (cP fa) σ H Q:=fun σ H Q h0_ => el7 h0_ fun F ad δ K S q kk =>by
 refine⟨F,ad,δ,_,S,q,fun xs δ1 h1 vs F1 bh H1 E1 S1 V1 => ?_⟩
 split at h1
 ·rename_i r hp
  obtain⟨⟨nd,hn⟩,h1⟩:=h1
  rw[ZA]
  refine F_ S1 V1 (by rw[V1.length,<-xF hp,hn]) hp nd h1 fun res ows v F2 H2 hk E2 S2 lP => ?_
  unfold rf at hk
  cases res with
  | p d=>exact hk.elim
  | n ds =>
   obtain⟨a,us,rfl,n1,n2,n3,n4⟩:=lP
   have oi:hJ F2 (.lst ds) (.lst us):=⟨us,rfl,n4⟩
   refine kk _ _ hk _ _ _ _ (E1.trans (E2.eJ (ov := .lst ds) n1 S2.cO)) (S2.eJ n3 n2 (Gb (F2:=F2) (H2:=H2) S1 V1 hp n1) oi) ⟨a,?_,rfl⟩
   have:bh.length=(gC δ1.mu r.2 ows).length:=S2.cO
   rw[<-this,WH (wV _),XJ];rfl
  | a j=>exact hk.elim
 ·exact h1.elim
theorem bV (Fn:aF X.prog X.w X.K X.mg X.base aW k f fd ps (aR G n)) (hr:bC k X.A) (hg:Gl X x) (hm:X.mg x=some (.ref f)) (hk:PySem.W.keepIn X.K (.ref f)=true) (hb:Binds X.K fd ps [])
  (ha:JA X (e :: es) (cP fa)) (gj:(x == ("__debug__" : Str))=false:=by decide) (he:starEach (e :: es) X.env=(false,eval e X.env) :: starEach es X.env:=by rfl) (fL:(backTo pos (starEach es X.env)).any (·.1)=false:=by rfl) :
  JE X (.Call (.Name x p) (e :: es) [] pos) (tD (ay n G fa)):=(nX Fn hr hg hm hk hb .nil qL ha gj he fL).weak Om
theorem Gd (Fn:aF X.prog X.w X.K X.mg X.base aW k f fd ps (aR G n)) (hr:bC k X.A) (hg:Gl X x) (hm:X.mg x=some (.ref f)) (hk:PySem.W.keepIn X.K (.ref f)=true) (hb:Binds X.K fd ps [])
  (ha:JA X (e :: es) (cP fa)) (gj:(x == ("__debug__" : Str))=false:=by decide) (he:starEach (e :: es) X.env=(false,eval e X.env) :: starEach es X.env:=by rfl) (fL:(backTo pos (starEach es X.env)).any (·.1)=false:=by rfl) :
  JE X (.Call (.Name x p) (e :: es) [] pos) (tD (u3 n G fa)):=(nX Fn hr hg hm hk hb .nil qL ha gj he fL).weak Oo
end
end
end L2
namespace PySem
open Sem (wp)
open AutoSeq1 (wpAny_loadPart')
section
variable {prog:Program} {w:World} {A:Around} {E:Value->Shared->Prop} {s:Shared}
theorem Oq {it l:Addr} {i:Nat} {items:Array Value} {x:Value} {Q:Value->Shared->Prop} (hit:s.heap.IsTupleIter it l i) (hl:s.heap.IsTuple l items) (hx:items[i]? = some x)
  (hQ:∀ h',h'.IsTupleIter it l (i + 1)->Heap.SameBut it s.heap h'->Q x { s with heap:=h' }):wpAny (model prog w) A (Builtin.SmallTypes.nextOf (.ref it)) Q E s:=by
 obtain⟨o,ho,hc,hd⟩:=id hit
 obtain⟨ol,A8,_,nl,A9⟩:=hl
 have nn:¬ ((Value.ref l == Value.none)=true):=EY
 unfold Builtin.SmallTypes.nextOf
 refine nN (XM (name:=Str.ofString "__next__") hit.typeIs Yl (X8 Yl hit.typeIs F.entry_tuple_iterator_next ?_ (ZF _)))
 show wpAny _ _ (field (.ref it) 0 >>= _) _ _ s;refine nN (Xp ho hd (x := .ref l) rfl ?_)
 show wpAny _ _ (if (Value.ref l == Value.none)=true then _ else _) _ _ s;rw[My nn]
 show wpAny _ _ (field (.ref it) 1 >>= _) _ _ s;refine nN (Xp ho hd (x := .int i 0) rfl ?_)
 show wpAny _ _ (seqItems? (.ref l) >>= _) _ _ s;refine nN (X0 A8 A9 ?_)
 simp only[XI,hx]
 refine nN (ZZ ho hd (by simp) (uq ⟨x,rfl,uq (hQ _ ⟨_,XR _ ho (Zm (YC hd _)),(Obj.cls_mapFields ..).trans hc,?_⟩ (Xn ..))⟩))
 rw[YC hd];simp[rawInt]
theorem Ot {it l:Addr} {i:Nat} {items:Array Value} {Q:Value->Shared->Prop} (hh:A.handled=none) (hit:s.heap.IsTupleIter it l i) (hl:s.heap.IsTuple l items) (hx:items[i]? = none)
  (hE:∀ h' e,Heap.ExtBut it s.heap h'->(∃ o,h'.get? e=some o/\o.cls = .type "StopIteration")->E (.ref e) { s with heap:=h' }):wpAny (model prog w) A (Builtin.SmallTypes.nextOf (.ref it)) Q E s:=by
 obtain⟨o,ho,hc,hd⟩:=id hit
 obtain⟨ol,A8,_,nl,A9⟩:=hl
 have nn:¬ ((Value.ref l == Value.none)=true):=EY
 unfold Builtin.SmallTypes.nextOf
 refine nN (XM (name:=Str.ofString "__next__") hit.typeIs Yl (X8 Yl hit.typeIs F.entry_tuple_iterator_next ?_ (ZF _)))
 show wpAny _ _ (field (.ref it) 0 >>= _) _ _ s;refine nN (Xp ho hd (x := .ref l) rfl ?_)
 show wpAny _ _ (if (Value.ref l == Value.none)=true then _ else _) _ _ s;rw[My nn]
 show wpAny _ _ (field (.ref it) 1 >>= _) _ _ s;refine nN (Xp ho hd (x := .int i 0) rfl ?_)
 show wpAny _ _ (seqItems? (.ref l) >>= _) _ _ s;refine nN (X0 A8 A9 ?_)
 simp only[XI,hx]
 refine nN (q0q (nN (ZZ ho hd (by simp) ?_)))
 show wpAny _ _ (newExc (.type "StopIteration") [] >>= _) _ _ _;refine nN ?_
 simp only[newExc,newTuple];refine nN (Xj ?_ (by size_fits))
 refine nN (m:=firstArgMember _ _) (wpAny_of_eq (a:=Value.none) (by first | rfl | (simp only[firstArgMember];rfl)) (Xj ?_ (by size_fits)))
 simp only[raiseNew];refine nN (wpAny_handled ?_)
 first | rw[show A.in1.handled=none from hh] | rw[hh]
 refine nN (uq (wpAny_throw (hE _ _ (((Xn ..).extBut.push _).push _) ⟨_,VW _ rfl,rfl⟩)))
theorem Ou (hh:A.handled=none) (it l:Addr) (j2:l≠it) (items:Array Value):Draws prog w A it [it,l] items.size (fun i v=>items[i]? = some v) (fun i h=>h.IsTupleIter it l i/\h.IsTuple l items) where
 live:=fun _ _ st=>let ⟨o,ho,_⟩:=st.1; ⟨o,ho⟩
 frame:=fun _ _ _ st hk=>⟨st.1.at fun o e=>hk it (by simp) o e,st.2.at fun o e=>hk l (by simp) o e⟩
 item:=fun i s Q E hi st hQ=>Oq st.1 st.2 (x:=items[i]) (by simp[hi]) fun h' A_ xh=>hQ _ h' s.toks (by simp[hi]) ⟨A_,st.2.extBut xh.extBut j2⟩ xh
 done:=fun s Q E st hE=>Ot hh st.1 st.2 (by simp) hE
end
end PySem
namespace L2
open PySem PySem.Spec PyProof.Rows
section
variable {X:Cx} {elts:List Expr} {x1:Nat} {tp:Pos} {tg:Expr}
noncomputable def Ba (K:PySem.W.Frag) (tl:TE):TI:=fun σ H R=>tl σ H fun x H1=>∃ a,x = .ref a/\(((∃ xs,bo K H1 a xs)/\R (Ei K a) H1)\/((∃ xs,bT K H1 a xs)/\R (Ej K a) H1))
theorem Ov {l:Expr} {tl:TE} (hl:JE X l tl):JI X tg l (Ba X.K tl):=by
 refine⟨?_⟩
 intro pins s σ H R I h
 refine bt (hl.out pins s σ H _ I h) fun v s1 h0_ => el5 h0_ fun x H1 I1 r1 q1 => ?_
 obtain⟨a,e,q⟩:=q1
 subst e
 cases r1
 have fp:∀ b∈[s1.heap.objs.size],bF X pins H1 b:=fun b hb=>by
  have e:b=s1.heap.objs.size:=by simpa using hb
  subst e
  exact I1.ir (wV _) (I1.aO.fresh (wV _))
 rcases q with⟨⟨xs,hq⟩,q⟩ | ⟨⟨xs,hq⟩,q⟩
 ·obtain⟨ag,rv,p,hz⟩:=I1.list hq
  exact YJ p.isList ⟨s1.heap.objs.size,[s1.heap.objs.size],_,_,H1,rfl,I1.kept (t':=s1.toks) fun b o e=>qJ _ e,KQ a _,⟨_,VW _ rfl,rfl,rfl⟩,fp,q⟩
 ·obtain⟨ag,rv,p,hz⟩:=I1.tuple hq
  exact wpAny_pyIter_tuple (show s1.heap.IsTuple a ag.toArray from p) ⟨s1.heap.objs.size,[s1.heap.objs.size],_,_,H1,rfl,I1.kept (t':=s1.toks) fun b o e=>qJ _ e,KR a _,⟨_,VW _ rfl,rfl,rfl⟩,fp,q⟩
end
variable [aV]
noncomputable def di (lo:Int) (n:Nat):List D:=(List.range n).map fun i:Nat=>D.int (lo + i)
noncomputable def bR:List D->List D->List D
 | a :: r,b :: s => .tup [a,b] :: bR r s
 | _,_=>[]
noncomputable def rh (x:DV) (δ : aC) (K:pC->Prop):Prop:=match x with
 | .p (.lst ds)=>K ⟨ds,fun _=>True⟩
 | .p (.tup ds)=>K ⟨ds,fun _=>True⟩
 | .o k=>match δ.mu[k]? with
  | some (some (.lst ds))=>K ⟨ds,fun δ' => δ'.mu[k]? = some (some (.lst ds))⟩
  | _=>False
 | _=>False
noncomputable def gR (f:WE):WI:=fun δ K=>f δ fun x δ1=>rh x δ1 fun it=>K it δ1
noncomputable def mR (fa:WA):WI:=fun δ K=>fa δ fun xs δ1=>match xs with
 | [.p (.int j)]=>(-(2 ^ 62) <= j/\j < 2 ^ 62)/\K ⟨di 0 j.toNat,fun _=>True⟩ δ1
 | _=>False
noncomputable def Bb (fa:WA):WI:=fun δ K=>fa δ fun xs δ1=>match xs with
 | [.p (.int i),.p (.int j)]=>(-(2 ^ 62) <= i/\i < 2 ^ 62 /\ -(2 ^ 62) <= j/\j < 2 ^ 62)/\K ⟨di i (j - i).toNat,fun _=>True⟩ δ1
 | _=>False
noncomputable def u4 (x:DV) (δ : aC) (K:pC->Prop):Prop:=match x with
 | .p (.lst ds)=>K ⟨ds,fun _=>True⟩
 | .o k=>match δ.mu[k]? with
  | some (some (.lst ds))=>K ⟨ds,fun δ' => δ'.mu[k]? = some (some (.lst ds))⟩
  | _=>False
 | _=>False
noncomputable def rk (fa:WA):WI:=fun δ K=>fa δ fun xs δ1=>match xs with
 | [x,y]=>u4 x δ1 fun i=>u4 y δ1 fun j=>K ⟨bR i.items j.items,fun δ'=>i.bI δ'/\j.bI δ'⟩ δ1
 | _=>False
theorem oy {lo:Int} {n i:Nat} {d:D} (h:(di lo n)[i]? = some d):i < n/\d = .int (lo + i):=by
 unfold di at h
 rw[VX] at h
 obtain⟨j,e,rfl⟩:=WJ.mp h
 have hj:=(qK.mp e).1
 rw[Xs] at hj
 rw[XA hj] at e
 cases e
 exact⟨hj,rfl⟩
theorem mS (lo:Int) (n:Nat):(di lo n).length=n:=by unfold di;rw[sE,Xs]
theorem Bc:∀ {as bs:List D} {i:Nat} {d:D},(bR as bs)[i]? = some d->∃ a b,as[i]? = some a/\bs[i]? = some b/\d = .tup [a,b]
 | [],_,i,d,h=>by simp[bR] at h
 | _ :: _,[],i,d,h=>by simp[bR] at h
 | a :: r,b :: s,0,d,h=>by
  cases (show some (D.tup [a,b])=some d by simpa [bR] using h)
  exact⟨a,b,rfl,rfl,rfl⟩
 | a :: r,b :: s,i + 1,d,h=>by
  obtain⟨x,y,h1,h2,h3⟩:=Bc (as:=r) (bs:=s) (i:=i) (d:=d) (by simpa [bR] using h)
  exact⟨x,y,by simpa using h1,by simpa using h2,h3⟩
theorem rl:∀ (as bs:List D),(bR as bs).length=min as.length bs.length
 | [],_=>by simp[bR]
 | _ :: _,[]=>by simp[bR]
 | a :: r,b :: s=>by rw[bR,Mj,Mj,Mj,rl r s];omega
section
variable {X:Cx} {tg l a b:Expr} {f:WE} {fa:WA} {F H:Hp} {ad:List Addr} {δ : aC} {σ : St}
theorem JI.weak {iter:Expr} {w w':TI} (h:JI X tg iter w) (k:∀ σ H R,w' σ H R->w σ H R):JI X tg iter w':=⟨fun pins s σ H R I q=>h.out pins s σ H R I (k σ H R q)⟩
theorem pF {ds:List D} {vs:List V} (h:af F ds vs) {i:Nat} {d:D} (e:ds[i]? = some d):∃ v,vs[i]? = some v/\Is F d v:=by
 have hl:=h.length
 have hi:i < vs.length:=by rw[hl];exact (qK.mp e).1
 obtain⟨d',e1,h1⟩:=h.get (qI hi)
 rw[e] at e1;cases e1
 exact⟨_,qI hi,h1⟩
theorem xG {x:DV} {v:V} {K:pC->Prop} (S:SR F ad δ σ H) (V1:iy F ad x v) (h:u4 x δ K):∃ a it,v = .ref a/\K it/\(∃ vs,H a=some (.lst vs)) ∧
  ∀ (F':Hp) (aD:List Addr) (δ':aC) (σ':St) (H':Hp),aA F F'->(∀ (k:Nat) (a:Addr),ad[k]? = some a->aD[k]? = some a)->SR F' aD δ' σ' H'->it.bI δ'->∃ vs,H' a=some (.lst vs)/\af F' it.items vs:=by
 unfold u4 at h
 split at h
 ·rename_i ds
  have V2:Is F (.lst ds) v:=V1
  simp only[Is] at V2
  obtain⟨a,vs,rfl,h1,h2⟩:=V2
  exact⟨a,_,rfl,h,⟨vs,S.sub _ _ h1⟩,fun F' aD δ' σ' H' s _ S' _=>⟨vs,S'.sub _ _ (s _ _ h1),h2.same s⟩⟩
 ·rename_i k
  split at h
  ·rename_i ds e
   obtain⟨a,e1,rfl⟩:=V1
   obtain⟨a',o,e2,e3,vs,rfl,h4⟩:=S.mu k _ e
   rw[e1] at e2;cases e2
   refine⟨a,_,rfl,h,⟨vs,e3⟩,fun F' aD δ' σ' H' _ pre S' ck => ?_⟩
   obtain⟨Wa,o,e5,e6,ws,rfl,h7⟩:=S'.mu k _ ck
   rw[pre k a e1] at e5;cases e5
   exact⟨ws,e6,h7⟩
  ·exact h.elim
 ·exact h.elim
theorem Ge {x:DV} {v:V} {K:pC->Prop} (S:SR F ad δ σ H) (V1:iy F ad x v) (h:rh x δ K):∃ a it,v = .ref a/\K it ∧
  (((∃ vs,H a=some (.lst vs))/\∀ (F':Hp) (aD:List Addr) (δ':aC) (σ':St) (H':Hp),aA F F'->(∀ (k:Nat) (a:Addr),ad[k]? = some a->aD[k]? = some a)->SR F' aD δ' σ' H'->it.bI δ'->∃ vs,H' a=some (.lst vs)/\af F' it.items vs) ∨
  ((∃ vs,H a=some (.tup vs))/\∀ (F':Hp) (aD:List Addr) (δ':aC) (σ':St) (H':Hp),aA F F'->(∀ (k:Nat) (a:Addr),ad[k]? = some a->aD[k]? = some a)->SR F' aD δ' σ' H'->it.bI δ'->∃ vs,H' a=some (.tup vs)/\af F' it.items vs)):=by
 unfold rh at h
 split at h
 ·rename_i ds
  obtain⟨a,it,e,k,r⟩:=xG (x := .p (.lst ds)) S V1 h
  exact⟨a,it,e,k,.inl r⟩
 ·rename_i ds
  have V2:Is F (.tup ds) v:=V1
  simp only[Is] at V2
  obtain⟨a,vs,rfl,h1,h2⟩:=V2
  exact⟨a,_,rfl,h,.inr ⟨⟨vs,S.sub _ _ h1⟩,fun F' aD δ' σ' H' s _ S' _=>⟨vs,S'.sub _ _ (s _ _ h1),h2.same s⟩⟩⟩
 ·rename_i k
  obtain⟨a,it,e,k,r⟩:=xG (x := .o k) S V1 h
  exact⟨a,it,e,k,.inl r⟩
 ·exact h.elim
theorem pG (hl:JE X l (tD f)):JI X tg l (lN (gR f)):=(Ov hl).weak fun σ H R h0_ => el7 h0_ fun F ad δ K S q k =>⟨F,ad,δ,_,S,q,fun x δ1 h1 v F1 bh H1 E1 S1 V1=>by
 obtain⟨a,it,rfl,hk,r⟩:=Ge S1 V1 h1
 refine⟨a,rfl,?_⟩
 rcases r with⟨⟨vs,e⟩,r⟩ | ⟨⟨vs,e⟩,r⟩
 ·refine .inl ⟨⟨vs,bo.of e⟩,k _ _ hk _ _ _ _ E1 S1 fun F' aD δ' σ' H' s pre S' ck => ?_⟩
  obtain⟨ws,e1,e2⟩:=r F' aD δ' σ' H' s pre S' ck
  refine⟨⟨ws,bo.of e1,by rw[e2.length];exact wV _⟩,fun i d ed => ?_⟩
  obtain⟨w,e3,e4⟩:=pF e2 ed
  refine⟨⟨ws,w,bo.of e1,e3⟩,fun y lI ⟨eh,hy⟩ => ?_⟩
  subst eh
  refine⟨fun _ _ e=>e,?_⟩
  have:=hy ws (bo.of e1)
  rw[e3] at this;cases this
  rw[Nw.refl S'.sub];exact e4
 ·refine .inr ⟨⟨vs,bT.of e⟩,k _ _ hk _ _ _ _ E1 S1 fun F' aD δ' σ' H' s pre S' ck => ?_⟩
  obtain⟨ws,e1,e2⟩:=r F' aD δ' σ' H' s pre S' ck
  refine⟨⟨ws,bT.of e1,by rw[e2.length];exact wV _⟩,fun i d ed => ?_⟩
  obtain⟨w,e3,e4⟩:=pF e2 ed
  refine⟨⟨ws,w,bT.of e1,e3⟩,fun y lI ⟨eh,hy⟩ => ?_⟩
  subst eh
  refine⟨fun _ _ e=>e,?_⟩
  have:=hy ws (bT.of e1)
  rw[e3] at this;cases this
  rw[Nw.refl S'.sub];exact e4⟩
theorem Gf {F H:Hp} {T:Addr} {d e:D} {x y:V} (s:aA F H) (hT:H T=none) (h1:Is F d x) (h2:Is F e y):Is (Nw F H (upd H T (.tup [x,y]))) (.tup [d,e]) (.ref T):=by
 rw[Nw.upd s hT]
 have hF:F T=none:=by
  cases q:F T with
  | none=>rfl
  | some u=>rw[s T u q] at hT;cases hT
 have sm:aA F (upd F T (.tup [x,y])):=dG hF
 simp only[Is]
 exact⟨T,_,rfl,bH,.cons (h1.same sm) (.cons (h2.same sm) .nil)⟩
theorem Ox {elts:List Expr} {x1:Nat} {tp p pos:Pos} (hg:Gl X "zip") (hm:X.mg "zip" = none) (ha:JA X [a,b] (cP fa)) (hs:starEach [a,b] X.env=[(false,eval a X.env),(false,eval b X.env)]:=by rfl) (cA:starEach [b] X.env=[(false,eval b X.env)]:=by rfl) :
  JI X (.Tuple elts x1 tp) (.Call (.Name "zip" p) [a,b] [] pos) (lN (rk fa)):=(NR hg hm ha hs cA).weak fun σ H R h0_ => el7 h0_ fun F ad δ K S q k =>⟨F,ad,δ,_,S,q,fun xs δ1 h1 vs F1 bh H1 E1 S1 V1=>by
 match xs,h1,V1 with
 | [x,y],g1,⟨v,r,e,W1,w,r2,e2,W2,W3⟩ =>
  subst e
  subst e2
  have W4:r2=[]:=W3
  subst W4
  obtain⟨a,it,rfl,sU,⟨vs,e⟩,r⟩:=xG S1 W1 g1
  obtain⟨b,jt,rfl,hk,⟨us,e'⟩,r'⟩:=xG S1 W2 sU
  refine⟨a,b,rfl,⟨vs,bo.of e⟩,⟨us,bo.of e'⟩,k _ _ hk _ _ _ _ E1 S1 fun F' aD δ' σ' H' s pre S' ck => ?_⟩
  obtain⟨ws,e1,e2⟩:=r F' aD δ' σ' H' s pre S' ck.1
  obtain⟨zs,e3,e4⟩:=r' F' aD δ' σ' H' s pre S' ck.2
  refine⟨⟨ws,zs,bo.of e1,bo.of e3,?_⟩,fun i d ed => ?_⟩
  ·rw[e2.length,e4.length,rl];omega
  ·obtain⟨d1,d2,Be,Bf,rfl⟩:=Bc ed
   obtain⟨w1,f1,g1⟩:=pF e2 Be
   obtain⟨w2,f2,g2⟩:=pF e4 Bf
   refine⟨⟨ws,zs,w1,w2,bo.of e1,bo.of e3,f1,f2⟩,fun y lI ⟨T,v1,v2,ey,hT,eh,Bg,Bh⟩ => ?_⟩
   subst eh ey
   have q1:=Bg ws (bo.of e1)
   have q2:=Bh zs (bo.of e3)
   rw[f1] at q1;cases q1
   rw[f2] at q2;cases q2
   exact⟨dG hT,Gf S'.sub hT g1 g2⟩
 | [],h1,_=>exact h1.elim
 | [_],h1,_=>exact h1.elim
 | _ :: _ :: _ :: _,h1,_=>exact h1.elim⟩
theorem Gg {F1:Hp} {bh:List Addr} {lo:Int} {n:Nat}:qY F1 bh ⟨di lo n,fun _=>True⟩ (t7 lo n):=fun F' aD δ' σ' H' s pre S' _=>by
 refine⟨by show n <= (di lo n).length;rw[mS];exact wV _,fun i d ed => ?_⟩
 obtain⟨hi,rfl⟩:=oy ed
 refine⟨hi,fun x lI ⟨eh,ex⟩ => ?_⟩
 subst eh ex
 exact⟨fun _ _ e=>e,rfl⟩
theorem pH {p pos:Pos} (hg:Gl X "range") (hm:X.mg "range" = none) (ha:JA X [a] (cP fa)) (hs:starEach [a] X.env=[(false,eval a X.env)]:=by rfl):JI X tg (.Call (.Name "range" p) [a] [] pos) (lN (mR fa)) :=
 (NI hg hm ha hs).weak fun σ H R h0_ => el7 h0_ fun F ad δ K S q k =>⟨F,ad,δ,_,S,q,fun xs δ1 h1 vs F1 bh H1 E1 S1 V1=>by
  split at h1
  ·rename_i j
   obtain⟨v,r,e,V1,V2⟩:=V1
   have V2:r=[]:=V2
   have V1:v = .int j:=V1
   subst V2 V1 e
   exact⟨j,rfl,h1.1.1,h1.1.2,k _ _ h1.2 _ _ _ _ E1 S1 Gg⟩
  ·exact h1.elim⟩
theorem Oy {p pos:Pos} (hg:Gl X "range") (hm:X.mg "range" = none) (ha:JA X [a,b] (cP fa)) (hs:starEach [a,b] X.env=[(false,eval a X.env),(false,eval b X.env)]:=by rfl) (cA:starEach [b] X.env=[(false,eval b X.env)]:=by rfl) :
  JI X tg (.Call (.Name "range" p) [a,b] [] pos) (lN (Bb fa)) :=
 (NJ hg hm ha hs cA).weak fun σ H R h0_ => el7 h0_ fun F ad δ K S q k =>⟨F,ad,δ,_,S,q,fun xs δ1 h1 vs F1 bh H1 E1 S1 V1=>by
  split at h1
  ·rename_i i j
   obtain⟨v,r,e,V1,w,r2,e2,V2,V3⟩:=V1
   have V3:r2=[]:=V3
   have V1:v = .int i:=V1
   have V2:w = .int j:=V2
   subst V3 V1 V2 e2 e
   exact⟨i,j,rfl,h1.1,k _ _ h1.2 _ _ _ _ E1 S1 Gg⟩
  ·exact h1.elim⟩
end
end L2
namespace L2
open PySem PySem.Spec PyProof.Rows
mutual
noncomputable def aB:D->D->Bool
 | .non,.non=>true
 | .bl a,.bl b=>a == b
 | .bl a,.int b=>(if a then 1 else 0) == b
 | .int a,.bl b=>a == (if b then 1 else 0)
 | .int a,.int b=>a == b
 | .str a,.str b=>a == b
 | .tup a,.tup b=>dJ a b
 | .lst a,.lst b=>dJ a b
 | _,_=>false
noncomputable def dJ:List D->List D->Bool
 | [],[]=>true
 | a :: r,b :: s=>aB a b && dJ r s
 | _,_=>false
end
mutual
theorem eK:∀ d:D,aB d d=true
 | .non=>by simp[aB]
 | .bl a=>by simp[aB]
 | .int a=>by simp[aB]
 | .str a=>by simp[aB]
 | .tup a=>by simp only[aB];exact Bi a
 | .lst a=>by simp only[aB];exact Bi a
theorem Bi:∀ ds:List D,dJ ds ds=true
 | []=>by simp[dJ]
 | d :: r=>by simp only[dJ,eK d,Bi r,Bool.and_true]
end
mutual
theorem Is.inj {H:Hp}:∀ {d e:D} {v:V},Is H d v->Is H e v->d=e
 | .non,e,v,h,q=>by cases e<;>simp only[Is] at h q<;>first | rfl | (subst h;first | (obtain⟨_,_,z,_⟩:=q;cases z;done) | (cases q;done) | (cases q;rfl))
 | .bl a,e,v,h,q=>by cases e<;>simp only[Is] at h q<;>(subst h;first | (obtain⟨_,_,z,_⟩:=q;cases z;done) | (cases q;done) | (cases q;rfl))
 | .int a,e,v,h,q=>by cases e<;>simp only[Is] at h q<;>(subst h;first | (obtain⟨_,_,z,_⟩:=q;cases z;done) | (cases q;done) | (cases q;rfl))
 | .str a,e,v,h,q=>by cases e<;>simp only[Is] at h q<;>(subst h;first | (obtain⟨_,_,z,_⟩:=q;cases z;done) | (cases q;done) | (cases q;rfl))
 | .tup a,e,v,h,q=>by
  simp only[Is] at h
  obtain⟨p,vs,rfl,h1,h2⟩:=h
  cases e with
  | tup b =>
   simp only[Is] at q
   obtain⟨p',ws,z,q1,q2⟩:=q
   cases z
   rw[h1] at q1;cases q1
   rw[af.inj h2 q2]
  | lst b =>
   simp only[Is] at q
   obtain⟨p',ws,z,q1,q2⟩:=q
   cases z
   rw[h1] at q1;cases q1
  | non=>simp only[Is] at q;cases q
  | bl _=>simp only[Is] at q;cases q
  | int _=>simp only[Is] at q;cases q
  | str _=>simp only[Is] at q;cases q
 | .lst a,e,v,h,q=>by
  simp only[Is] at h
  obtain⟨p,vs,rfl,h1,h2⟩:=h
  cases e with
  | lst b =>
   simp only[Is] at q
   obtain⟨p',ws,z,q1,q2⟩:=q
   cases z
   rw[h1] at q1;cases q1
   rw[af.inj h2 q2]
  | tup b =>
   simp only[Is] at q
   obtain⟨p',ws,z,q1,q2⟩:=q
   cases z
   rw[h1] at q1;cases q1
  | non=>simp only[Is] at q;cases q
  | bl _=>simp only[Is] at q;cases q
  | int _=>simp only[Is] at q;cases q
  | str _=>simp only[Is] at q;cases q
theorem af.inj {H:Hp}:∀ {ds es:List D} {vs:List V},af H ds vs->af H es vs->ds=es
 | [],es,vs,h,q=>by
  simp only[af] at h;subst h
  cases es with
  | nil=>rfl
  | cons _ _=>simp only[af] at q;obtain⟨_,_,z,_⟩:=q;cases z
 | d :: ds,es,vs,h,q=>by
  simp only[af] at h
  obtain⟨v,r,rfl,h1,h2⟩:=h
  cases es with
  | nil=>simp only[af] at q;cases q
  | cons e es =>
   simp only[af] at q
   obtain⟨v',r',z,q1,q2⟩:=q
   cases z
   rw[Is.inj h1 q1,af.inj h2 q2]
end
theorem u5:∀ {ds es:List D},ds.length≠es.length->dJ ds es=false
 | [],[],h=>absurd rfl h
 | [],_ :: _,_=>by simp[dJ]
 | _ :: _,[],_=>by simp[dJ]
 | d :: r,e :: s,h=>by simp only[dJ];rw[u5 (fun z=>h (by rw[Mj,Mj,z])),Zg]
noncomputable def rm (ds es:List D) (j:Nat):Bool:=match ds[j]?,es[j]? with
 | some a,some b=>aB a b
 | _,_=>true
theorem u7:∀ {ds es:List D},ds.length=es.length->(List.range ds.length).all (rm ds es)=dJ ds es
 | [],[],_=>by simp[dJ]
 | [],_ :: _,h=>by simp at h
 | _ :: _,[],h=>by simp at h
 | d :: r,e :: s,h=>by
  have ih:=u7 (ds:=r) (es:=s) (by simpa using h)
  rw[Mj,List.range_succ_eq_map,Z9,List.all_map]
  simp only[dJ]
  rw[<-ih]
  rfl
section
variable {X:Cx} {pins:List (Addr × Obj)} {σ : St} {H:Hp} {s:Shared}
theorem xH {vs:List V} {ag:List Value} (r:Vals vs ag) {j:Nat} (h:j < ag.toArray.size):∃ v,vs[j]? = some v/\RelV v ag.toArray[j]:=by
 have hj:j < ag.length:=by simpa using h
 have hv:j < vs.length:=by rw[r.length];exact hj
 obtain⟨u,e,ru⟩:=r.get (qI hv)
 have:ag.toArray[j]=u:=by
  have:=(qK.mp e).2
  simpa using this
 rw[this]
 exact⟨_,qI hv,ru⟩
theorem dM (I:Inv X pins σ H s) {a:Addr} {vs:List V} (h:H a=some (.lst vs)):∃ ag:List Value,Vals vs ag/\s.heap.IsList a ag.toArray:=by
 obtain⟨ag,r,p,_⟩:=I.list (bo.of h)
 exact⟨ag,r,p.isList⟩
theorem dO (I:Inv X pins σ H s) {a:Addr} {vs:List V} (h:H a=some (.tup vs)):∃ ag:List Value,Vals vs ag/\s.heap.IsTuple a ag.toArray:=by
 obtain⟨ag,r,p,_⟩:=I.tuple (bT.of h)
 exact⟨ag,r,p⟩
theorem in1_units (A:Around):A.in1.units=A.units + 1:=rfl
theorem Bj (I:Inv X pins σ H s):∀ (n:Nat) {A:Around} {d e:D} {v u:V} {x y:Value},dep d <= n->A.units + n < cLine->Is H d v->Is H e u->RelV v x->RelV u y->SeqAt.EqAt A s x y (aB d e)/\SeqAt.RcAt A s x y (aB d e):=by
 intro n
 induction n with
 | zero =>
  intro A d e v u x y hd hu hv hw rv ru
  have nz:A.units < cLine:=by omega
  cases d with
  | tup ds=>simp[dep] at hd
  | lst ds=>simp[dep] at hd
  | non =>
   cases (show v = .non from hv);cases rv
   cases e with
   | non=>cases (show u = .non from hw);cases ru;simp only[aB];exact⟨ZE _,SeqAt.RcAt.none_none⟩
   | bl b=>cases (show u = .bl b from hw);cases ru;simp only[aB];exact⟨SeqAt.EqAt.none_bool _,SeqAt.RcAt.none_bool _⟩
   | int b=>cases (show u = .int b from hw);obtain⟨t,rfl⟩:=ru;simp only[aB];exact⟨SeqAt.EqAt.none_int _ _,SeqAt.RcAt.none_int _ _⟩
   | str b=>cases (show u = .str b from hw);obtain⟨t,rfl⟩:=ru;simp only[aB];exact⟨SeqAt.EqAt.none_str _ _,SeqAt.RcAt.none_str _ _⟩
   | tup es=>simp only[Is] at hw;obtain⟨a,vs,rfl,h1,_⟩:=hw;cases ru;obtain⟨_,_,p⟩:=dO I h1;simp only[aB];exact⟨SeqAt.EqAt.none_tuple p nz,SeqAt.RcAt.none_tuple p nz⟩
   | lst es=>simp only[Is] at hw;obtain⟨a,vs,rfl,h1,_⟩:=hw;cases ru;obtain⟨_,_,p⟩:=dM I h1;simp only[aB];exact⟨SeqAt.EqAt.none_list p nz,SeqAt.RcAt.none_list p nz⟩
  | bl b0 =>
   cases (show v = .bl b0 from hv);cases rv
   cases e with
   | non=>cases (show u = .non from hw);cases ru;simp only[aB];exact⟨SeqAt.EqAt.bool_none _,SeqAt.RcAt.bool_none _⟩
   | bl b=>cases (show u = .bl b from hw);cases ru;simp only[aB];exact⟨SeqAt.EqAt.bool_bool _ _,SeqAt.RcAt.bool_bool _ _⟩
   | int b=>cases (show u = .int b from hw);obtain⟨t,rfl⟩:=ru;simp only[aB];exact⟨SeqAt.EqAt.bool_int _ _ _,SeqAt.RcAt.bool_int _ _ _⟩
   | str b=>cases (show u = .str b from hw);obtain⟨t,rfl⟩:=ru;simp only[aB];exact⟨SeqAt.EqAt.bool_str _ _ _,SeqAt.RcAt.bool_str _ _ _⟩
   | tup es=>simp only[Is] at hw;obtain⟨a,vs,rfl,h1,_⟩:=hw;cases ru;obtain⟨_,_,p⟩:=dO I h1;simp only[aB];exact⟨SeqAt.EqAt.bool_tuple _ p nz,SeqAt.RcAt.bool_tuple _ p nz⟩
   | lst es=>simp only[Is] at hw;obtain⟨a,vs,rfl,h1,_⟩:=hw;cases ru;obtain⟨_,_,p⟩:=dM I h1;simp only[aB];exact⟨SeqAt.EqAt.bool_list _ p nz,SeqAt.RcAt.bool_list _ p nz⟩
  | int b0 =>
   cases (show v = .int b0 from hv);obtain⟨t0,rfl⟩:=rv
   cases e with
   | non=>cases (show u = .non from hw);cases ru;simp only[aB];exact⟨SeqAt.EqAt.int_none _ _,SeqAt.RcAt.int_none _ _⟩
   | bl b=>cases (show u = .bl b from hw);cases ru;simp only[aB];exact⟨SeqAt.EqAt.int_bool _ _ _,SeqAt.RcAt.int_bool _ _ _⟩
   | int b=>cases (show u = .int b from hw);obtain⟨t,rfl⟩:=ru;simp only[aB];exact⟨ZU _ _ _ _,SeqAt.RcAt.int_int _ _ _ _⟩
   | str b=>cases (show u = .str b from hw);obtain⟨t,rfl⟩:=ru;simp only[aB];exact⟨ZR _ _ _ _,SeqAt.RcAt.int_str _ _ _ _⟩
   | tup es=>simp only[Is] at hw;obtain⟨a,vs,rfl,h1,_⟩:=hw;cases ru;obtain⟨_,_,p⟩:=dO I h1;simp only[aB];exact⟨SeqAt.EqAt.int_tuple _ _ p nz,SeqAt.RcAt.int_tuple _ _ p nz⟩
   | lst es=>simp only[Is] at hw;obtain⟨a,vs,rfl,h1,_⟩:=hw;cases ru;obtain⟨_,_,p⟩:=dM I h1;simp only[aB];exact⟨SeqAt.EqAt.int_list _ _ p nz,SeqAt.RcAt.int_list _ _ p nz⟩
  | str b0 =>
   cases (show v = .str b0 from hv);obtain⟨t0,rfl⟩:=rv
   cases e with
   | non=>cases (show u = .non from hw);cases ru;simp only[aB];exact⟨SeqAt.EqAt.str_none _ _,SeqAt.RcAt.str_none _ _⟩
   | bl b=>cases (show u = .bl b from hw);cases ru;simp only[aB];exact⟨SeqAt.EqAt.str_bool _ _ _,SeqAt.RcAt.str_bool _ _ _⟩
   | int b=>cases (show u = .int b from hw);obtain⟨t,rfl⟩:=ru;simp only[aB];exact⟨ZS _ _ _ _,SeqAt.RcAt.str_int _ _ _ _⟩
   | str b=>cases (show u = .str b from hw);obtain⟨t,rfl⟩:=ru;simp only[aB];exact⟨SeqAt.EqAt.str_str _ _ _ _,SeqAt.RcAt.str_str _ _ _ _⟩
   | tup es=>simp only[Is] at hw;obtain⟨a,vs,rfl,h1,_⟩:=hw;cases ru;obtain⟨_,_,p⟩:=dO I h1;simp only[aB];exact⟨SeqAt.EqAt.str_tuple _ _ p nz,SeqAt.RcAt.str_tuple _ _ p nz⟩
   | lst es=>simp only[Is] at hw;obtain⟨a,vs,rfl,h1,_⟩:=hw;cases ru;obtain⟨_,_,p⟩:=dM I h1;simp only[aB];exact⟨SeqAt.EqAt.str_list _ _ p nz,SeqAt.RcAt.str_list _ _ p nz⟩
 | succ n ih =>
  intro A d e v u x y hd hu hv hw rv ru
  have nz:A.units < cLine:=by omega
  have step:∀ {ds es:List D} {vs us:List V} {ag bc:List Value} (r1:Vals vs ag) (r2:Vals us bc),bg ds <= n->af H ds vs->af H es us →
    ∀ (j:Nat) (h1:j < ag.toArray.size) (h2:j < bc.toArray.size),SeqAt.EqAt A.in1 s ag.toArray[j] bc.toArray[j] (rm ds es j):=fun {ds es vs us ag bc} r1 r2 hl i1 i2 j h1 h2=>by
   obtain⟨v1,e1,q1⟩:=xH r1 h1
   obtain⟨v2,e2,q2⟩:=xH r2 h2
   obtain⟨d1,f1,g1⟩:=i1.get e1
   obtain⟨d2,f2,g2⟩:=i2.get e2
   unfold rm
   rw[f1,f2]
   exact (ih (W7 (Az f1) hl) (by rw[in1_units];omega) g1 g2 q1 q2).1
  cases d with
  | tup ds =>
   have hl:bg ds <= n:=by simp only[dep] at hd;omega
   have Bk:=hv
   simp only[Is] at hv
   obtain⟨a,vs,rfl,h1,i1⟩:=hv
   cases rv
   obtain⟨ag,r1,p1⟩:=dO I h1
   cases e with
   | tup es =>
    have Bl:=hw
    simp only[Is] at hw
    obtain⟨b,us,rfl,h2,i2⟩:=hw
    cases ru
    obtain⟨bc,r2,p2⟩:=dO I h2
    have rc:SeqAt.RcAt A s (.ref a) (.ref b) (aB (.tup ds) (.tup es)):=by
     have:=SeqAt.RcAt.tuples p1 p2 nz (step r1 r2 hl i1 i2)
     have l1:ag.toArray.size=ds.length:=by rw[wU,<-r1.length,i1.length]
     have l2:bc.toArray.size=es.length:=by rw[wU,<-r2.length,i2.length]
     rw[l1,l2] at this
     have eb:((List.range (min ds.length es.length)).all (rm ds es) && ds.length == es.length)=aB (.tup ds) (.tup es):=by
      simp only[aB]
      by_cases c:ds.length=es.length
      ·rw[<-c,Nat.min_self,u7 c];simp
      ·rw[u5 c];simp[c]
     rw[eb] at this;exact this
    refine⟨?_,rc⟩
    by_cases c:a=b
    ·subst c
     have:=Is.inj Bk Bl
     rw[this,eK];exact ZE _
    ·exact SeqAt.EqAt.of_refs c rc
   | lst es =>
    simp only[Is] at hw
    obtain⟨b,us,rfl,h2,i2⟩:=hw
    cases ru
    obtain⟨bc,r2,p2⟩:=dM I h2
    simp only[aB];exact⟨SeqAt.EqAt.tuple_list p1 p2 nz,SeqAt.RcAt.tuple_list p1 p2 nz⟩
   | non=>cases (show u = .non from hw);cases ru;simp only[aB];exact⟨SeqAt.EqAt.tuple_none p1 nz,SeqAt.RcAt.tuple_none p1 nz⟩
   | bl b=>cases (show u = .bl b from hw);cases ru;simp only[aB];exact⟨SeqAt.EqAt.tuple_bool _ p1 nz,SeqAt.RcAt.tuple_bool _ p1 nz⟩
   | int b=>cases (show u = .int b from hw);obtain⟨t,rfl⟩:=ru;simp only[aB];exact⟨SeqAt.EqAt.tuple_int _ _ p1 nz,SeqAt.RcAt.tuple_int _ _ p1 nz⟩
   | str b=>cases (show u = .str b from hw);obtain⟨t,rfl⟩:=ru;simp only[aB];exact⟨SeqAt.EqAt.tuple_str _ _ p1 nz,SeqAt.RcAt.tuple_str _ _ p1 nz⟩
  | lst ds =>
   have hl:bg ds <= n:=by simp only[dep] at hd;omega
   have Bk:=hv
   simp only[Is] at hv
   obtain⟨a,vs,rfl,h1,i1⟩:=hv
   cases rv
   obtain⟨ag,r1,p1⟩:=dM I h1
   cases e with
   | lst es =>
    have Bl:=hw
    simp only[Is] at hw
    obtain⟨b,us,rfl,h2,i2⟩:=hw
    cases ru
    obtain⟨bc,r2,p2⟩:=dM I h2
    have l1:ag.toArray.size=ds.length:=by rw[wU,<-r1.length,i1.length]
    have l2:bc.toArray.size=es.length:=by rw[wU,<-r2.length,i2.length]
    have rc:SeqAt.RcAt A s (.ref a) (.ref b) (aB (.lst ds) (.lst es)):=by
     by_cases c:ds.length=es.length
     ·have:=SeqAt.RcAt.lists p1 p2 (by rw[l1,l2];exact c) nz (step r1 r2 hl i1 i2)
      rw[l1,u7 c] at this
      simp only[aB];exact this
     ·simp only[aB];rw[u5 c]
      exact SeqAt.RcAt.lists_lengths p1 p2 (by rw[l1,l2];simpa using c) nz
    refine⟨?_,rc⟩
    by_cases c:a=b
    ·subst c
     have:=Is.inj Bk Bl
     rw[this,eK];exact ZE _
    ·exact SeqAt.EqAt.of_refs c rc
   | tup es =>
    simp only[Is] at hw
    obtain⟨b,us,rfl,h2,i2⟩:=hw
    cases ru
    obtain⟨bc,r2,p2⟩:=dO I h2
    simp only[aB];exact⟨SeqAt.EqAt.list_tuple p1 p2 nz,SeqAt.RcAt.list_tuple p1 p2 nz⟩
   | non=>cases (show u = .non from hw);cases ru;simp only[aB];exact⟨SeqAt.EqAt.list_none p1 nz,SeqAt.RcAt.list_none p1 nz⟩
   | bl b=>cases (show u = .bl b from hw);cases ru;simp only[aB];exact⟨SeqAt.EqAt.list_bool _ p1 nz,SeqAt.RcAt.list_bool _ p1 nz⟩
   | int b=>cases (show u = .int b from hw);obtain⟨t,rfl⟩:=ru;simp only[aB];exact⟨SeqAt.EqAt.list_int _ _ p1 nz,SeqAt.RcAt.list_int _ _ p1 nz⟩
   | str b=>cases (show u = .str b from hw);obtain⟨t,rfl⟩:=ru;simp only[aB];exact⟨SeqAt.EqAt.list_str _ _ p1 nz,SeqAt.RcAt.list_str _ _ p1 nz⟩
  | non=>exact ih (by simp[dep]) (by omega) hv hw rv ru
  | bl b0=>exact ih (by simp[dep]) (by omega) hv hw rv ru
  | int b0=>exact ih (by simp[dep]) (by omega) hv hw rv ru
  | str b0=>exact ih (by simp[dep]) (by omega) hv hw rv ru
theorem Oz (I:Inv X pins σ H s) {A:Around} {d e:D} {v u:V} {x y:Value} (hd:dep d <= 60) (hu:A.units + 61 < cLine) (hv:Is H d v) (hw:Is H e u) (rv:RelV v x) (ru:RelV u y):SeqAt.RcNeAt A s x y (!aB d e):=by
 have nz:A.units < cLine:=by omega
 have step:∀ {ds es:List D} {vs us:List V} {ag bc:List Value} (r1:Vals vs ag) (r2:Vals us bc),bg ds <= 59->af H ds vs->af H es us →
   ∀ (j:Nat) (h1:j < ag.toArray.size) (h2:j < bc.toArray.size),SeqAt.EqAt A.in1 s ag.toArray[j] bc.toArray[j] (rm ds es j):=fun {ds es vs us ag bc} r1 r2 hl i1 i2 j h1 h2=>by
  obtain⟨v1,e1,q1⟩:=xH r1 h1
  obtain⟨v2,e2,q2⟩:=xH r2 h2
  obtain⟨d1,f1,g1⟩:=i1.get e1
  obtain⟨d2,f2,g2⟩:=i2.get e2
  unfold rm
  rw[f1,f2]
  exact (Bj I 59 (W7 (Az f1) hl) (by rw[in1_units];omega) g1 g2 q1 q2).1
 cases d with
 | tup ds =>
  have hl:bg ds <= 59:=by simp only[dep] at hd;omega
  simp only[Is] at hv
  obtain⟨a,vs,rfl,h1,i1⟩:=hv
  cases rv
  obtain⟨ag,r1,p1⟩:=dO I h1
  cases e with
  | tup es =>
   simp only[Is] at hw
   obtain⟨b,us,rfl,h2,i2⟩:=hw
   cases ru
   obtain⟨bc,r2,p2⟩:=dO I h2
   have:=SeqAt.RcNeAt.tuples p1 p2 nz (step r1 r2 hl i1 i2)
   have l1:ag.toArray.size=ds.length:=by rw[wU,<-r1.length,i1.length]
   have l2:bc.toArray.size=es.length:=by rw[wU,<-r2.length,i2.length]
   rw[l1,l2] at this
   have eb:((List.range (min ds.length es.length)).all (rm ds es) && ds.length == es.length)=aB (.tup ds) (.tup es):=by
    simp only[aB]
    by_cases c:ds.length=es.length
    ·rw[<-c,Nat.min_self,u7 c];simp
    ·rw[u5 c];simp[c]
   rw[eb] at this;exact this
  | lst es=>simp only[Is] at hw;obtain⟨b,us,rfl,h2,i2⟩:=hw;cases ru;obtain⟨bc,r2,p2⟩:=dM I h2;simp only[aB];exact SeqAt.RcNeAt.tuple_list p1 p2 nz
  | non=>cases (show u = .non from hw);cases ru;simp only[aB];exact SeqAt.RcNeAt.tuple_none p1 nz
  | bl b=>cases (show u = .bl b from hw);cases ru;simp only[aB];exact SeqAt.RcNeAt.tuple_bool _ p1 nz
  | int b=>cases (show u = .int b from hw);obtain⟨t,rfl⟩:=ru;simp only[aB];exact SeqAt.RcNeAt.tuple_int _ _ p1 nz
  | str b=>cases (show u = .str b from hw);obtain⟨t,rfl⟩:=ru;simp only[aB];exact SeqAt.RcNeAt.tuple_str _ _ p1 nz
 | lst ds =>
  have hl:bg ds <= 59:=by simp only[dep] at hd;omega
  simp only[Is] at hv
  obtain⟨a,vs,rfl,h1,i1⟩:=hv
  cases rv
  obtain⟨ag,r1,p1⟩:=dM I h1
  cases e with
  | lst es =>
   simp only[Is] at hw
   obtain⟨b,us,rfl,h2,i2⟩:=hw
   cases ru
   obtain⟨bc,r2,p2⟩:=dM I h2
   have l1:ag.toArray.size=ds.length:=by rw[wU,<-r1.length,i1.length]
   have l2:bc.toArray.size=es.length:=by rw[wU,<-r2.length,i2.length]
   by_cases c:ds.length=es.length
   ·have:=SeqAt.RcNeAt.lists p1 p2 (by rw[l1,l2];exact c) nz (step r1 r2 hl i1 i2)
    rw[l1,u7 c] at this
    simp only[aB];exact this
   ·simp only[aB];rw[u5 c]
    exact SeqAt.RcNeAt.lists_lengths p1 p2 (by rw[l1,l2];simpa using c) nz
  | tup es=>simp only[Is] at hw;obtain⟨b,us,rfl,h2,i2⟩:=hw;cases ru;obtain⟨bc,r2,p2⟩:=dO I h2;simp only[aB];exact SeqAt.RcNeAt.list_tuple p1 p2 nz
  | non=>cases (show u = .non from hw);cases ru;simp only[aB];exact SeqAt.RcNeAt.list_none p1 nz
  | bl b=>cases (show u = .bl b from hw);cases ru;simp only[aB];exact SeqAt.RcNeAt.list_bool _ p1 nz
  | int b=>cases (show u = .int b from hw);obtain⟨t,rfl⟩:=ru;simp only[aB];exact SeqAt.RcNeAt.list_int _ _ p1 nz
  | str b=>cases (show u = .str b from hw);obtain⟨t,rfl⟩:=ru;simp only[aB];exact SeqAt.RcNeAt.list_str _ _ p1 nz
 | non =>
  cases (show v = .non from hv);cases rv
  cases e with
  | non=>cases (show u = .non from hw);cases ru;simp only[aB];exact SeqAt.RcNeAt.none_none
  | bl b=>cases (show u = .bl b from hw);cases ru;simp only[aB];exact SeqAt.RcNeAt.none_bool _
  | int b=>cases (show u = .int b from hw);obtain⟨t,rfl⟩:=ru;simp only[aB];exact SeqAt.RcNeAt.none_int _ _
  | str b=>cases (show u = .str b from hw);obtain⟨t,rfl⟩:=ru;simp only[aB];exact SeqAt.RcNeAt.none_str _ _
  | tup es=>simp only[Is] at hw;obtain⟨a,vs,rfl,h1,_⟩:=hw;cases ru;obtain⟨_,_,p⟩:=dO I h1;simp only[aB];exact SeqAt.RcNeAt.none_tuple p nz
  | lst es=>simp only[Is] at hw;obtain⟨a,vs,rfl,h1,_⟩:=hw;cases ru;obtain⟨_,_,p⟩:=dM I h1;simp only[aB];exact SeqAt.RcNeAt.none_list p nz
 | bl b0 =>
  cases (show v = .bl b0 from hv);cases rv
  cases e with
  | non=>cases (show u = .non from hw);cases ru;simp only[aB];exact SeqAt.RcNeAt.bool_none _
  | bl b=>cases (show u = .bl b from hw);cases ru;simp only[aB];exact SeqAt.RcNeAt.bool_bool _ _
  | int b=>cases (show u = .int b from hw);obtain⟨t,rfl⟩:=ru;simp only[aB];exact SeqAt.RcNeAt.bool_int _ _ _
  | str b=>cases (show u = .str b from hw);obtain⟨t,rfl⟩:=ru;simp only[aB];exact SeqAt.RcNeAt.bool_str _ _ _
  | tup es=>simp only[Is] at hw;obtain⟨a,vs,rfl,h1,_⟩:=hw;cases ru;obtain⟨_,_,p⟩:=dO I h1;simp only[aB];exact SeqAt.RcNeAt.bool_tuple _ p nz
  | lst es=>simp only[Is] at hw;obtain⟨a,vs,rfl,h1,_⟩:=hw;cases ru;obtain⟨_,_,p⟩:=dM I h1;simp only[aB];exact SeqAt.RcNeAt.bool_list _ p nz
 | int b0 =>
  cases (show v = .int b0 from hv);obtain⟨t0,rfl⟩:=rv
  cases e with
  | non=>cases (show u = .non from hw);cases ru;simp only[aB];exact SeqAt.RcNeAt.int_none _ _
  | bl b=>cases (show u = .bl b from hw);cases ru;simp only[aB];exact SeqAt.RcNeAt.int_bool _ _ _
  | int b=>cases (show u = .int b from hw);obtain⟨t,rfl⟩:=ru;simp only[aB];exact SeqAt.RcNeAt.int_int _ _ _ _
  | str b=>cases (show u = .str b from hw);obtain⟨t,rfl⟩:=ru;simp only[aB];exact SeqAt.RcNeAt.int_str _ _ _ _
  | tup es=>simp only[Is] at hw;obtain⟨a,vs,rfl,h1,_⟩:=hw;cases ru;obtain⟨_,_,p⟩:=dO I h1;simp only[aB];exact SeqAt.RcNeAt.int_tuple _ _ p nz
  | lst es=>simp only[Is] at hw;obtain⟨a,vs,rfl,h1,_⟩:=hw;cases ru;obtain⟨_,_,p⟩:=dM I h1;simp only[aB];exact SeqAt.RcNeAt.int_list _ _ p nz
 | str b0 =>
  cases (show v = .str b0 from hv);obtain⟨t0,rfl⟩:=rv
  cases e with
  | non=>cases (show u = .non from hw);cases ru;simp only[aB];exact SeqAt.RcNeAt.str_none _ _
  | bl b=>cases (show u = .bl b from hw);cases ru;simp only[aB];exact SeqAt.RcNeAt.str_bool _ _ _
  | int b=>cases (show u = .int b from hw);obtain⟨t,rfl⟩:=ru;simp only[aB];exact SeqAt.RcNeAt.str_int _ _ _ _
  | str b=>cases (show u = .str b from hw);obtain⟨t,rfl⟩:=ru;simp only[aB];exact SeqAt.RcNeAt.str_str _ _ _ _
  | tup es=>simp only[Is] at hw;obtain⟨a,vs,rfl,h1,_⟩:=hw;cases ru;obtain⟨_,_,p⟩:=dO I h1;simp only[aB];exact SeqAt.RcNeAt.str_tuple _ _ p nz
  | lst es=>simp only[Is] at hw;obtain⟨a,vs,rfl,h1,_⟩:=hw;cases ru;obtain⟨_,_,p⟩:=dM I h1;simp only[aB];exact SeqAt.RcNeAt.str_list _ _ p nz
end
variable [aV]
noncomputable def intsOf:List D->Option (List Int)
 | []=>some []
 | .int i :: r=>match intsOf r with
  | some ns=>some (i :: ns)
  | none=>none
 | _=>none
theorem xI:∀ ns:List Int,intsOf (ns.map D.int)=some ns
 | []=>rfl
 | n :: r=>by show (match intsOf (r.map D.int) with | some ns=>some (n :: ns) | none=>none)=_;rw[xI r]
theorem Bm:∀ {ds:List D} {ns:List Int},intsOf ds=some ns->ds=ns.map D.int
 | [],ns,h=>by cases h;rfl
 | .int i :: r,ns,h=>by
  unfold intsOf at h
  split at h
  ·rename_i ms e;cases h;rw[W8,Bm e]
  ·cases h
 | .non :: r,ns,h=>by cases h
 | .bl _ :: r,ns,h=>by cases h
 | .str _ :: r,ns,h=>by cases h
 | .tup _ :: r,ns,h=>by cases h
 | .lst _ :: r,ns,h=>by cases h
theorem u9 {F:Hp}:∀ {ns:List Int} {vs:List V},af F (ns.map D.int) vs->vs=ns.map V.int
 | [],vs,h=>by simp only[YM,af] at h;exact h
 | n :: r,vs,h=>by
  simp only[W8,af] at h
  obtain⟨v,t,rfl,h1,h2⟩:=h
  have h1:v = .int n:=h1
  rw[u9 h2,h1];rfl
theorem Bo {F:Hp}:∀ {ns:List Int},af F (ns.map D.int) (ns.map V.int)
 | [] => .nil
 | n :: r => .cons (show _=_ from rfl) Bo
theorem sV {F:Hp}:∀ {as bs:List D} {us vs:List V},af F as us->af F bs vs->af F (as ++ bs) (us ++ vs)
 | [],bs,us,vs,h,q=>by simp only[af] at h;subst h;exact q
 | a :: r,bs,us,vs,h,q=>by
  simp only[af] at h
  obtain⟨v,t,rfl,h1,h2⟩:=h
  exact .cons h1 (sV h2 q)
theorem Gh {F:Hp}:∀ {as:List D} {us:List V} (n:Nat),af F as us->af F (as.take n) (us.take n)
 | as,us,0,_=>by rw[ZY,ZY];exact .nil
 | [],us,n + 1,h=>by simp only[af] at h;subst h;exact .nil
 | a :: r,us,n + 1,h=>by
  simp only[af] at h
  obtain⟨v,t,rfl,h1,h2⟩:=h
  exact .cons h1 (Gh n h2)
theorem Gi {F:Hp}:∀ {as:List D} {us:List V} (n:Nat),af F as us->af F (as.drop n) (us.drop n)
 | as,us,0,h=>h
 | [],us,n + 1,h=>by simp only[af] at h;subst h;exact .nil
 | a :: r,us,n + 1,h=>by
  simp only[af] at h
  obtain⟨v,t,rfl,h1,h2⟩:=h
  exact Gi n h2
theorem Bp {F:Hp}:∀ {as:List D} {us:List V},af F as us->af F as.reverse us.reverse
 | [],us,h=>by simp only[af] at h;subst h;exact .nil
 | a :: r,us,h=>by
  simp only[af] at h
  obtain⟨v,t,rfl,h1,h2⟩:=h
  rw[Zi,Zi]
  exact (Bp h2).snoc h1
theorem Gj {F:Hp}:∀ {as:List D} {us:List V} (n:Nat) {d:D} {v:V},af F as us->Is F d v->af F (as.set n d) (us.set n v)
 | [],us,n,d,v,h,_=>by simp only[af] at h;subst h;exact .nil
 | a :: r,us,0,d,v,h,q=>by
  simp only[af] at h
  obtain⟨w,t,rfl,h1,h2⟩:=h
  exact .cons q h2
 | a :: r,us,n + 1,d,v,h,q=>by
  simp only[af] at h
  obtain⟨w,t,rfl,h1,h2⟩:=h
  exact .cons h1 (Gj n h2 q)
theorem Gk {F:Hp}:∀ {as:List D} {us:List V} (n:Nat),af F as us->af F (as.eraseIdx n) (us.eraseIdx n)
 | [],us,n,h=>by simp only[af] at h;subst h;exact .nil
 | a :: r,us,0,h=>by
  simp only[af] at h
  obtain⟨w,t,rfl,h1,h2⟩:=h
  exact h2
 | a :: r,us,n + 1,h=>by
  simp only[af] at h
  obtain⟨w,t,rfl,h1,h2⟩:=h
  exact .cons h1 (Gk n h2)
theorem pI {F H:Hp} {p:Addr} {ds:List D} {vs:List V} (s:aA F H) (hp:H p=none) (h:af F ds vs):Is (Nw F H (upd H p (.lst vs))) (.lst ds) (.ref p):=by
 rw[Nw.upd s hp]
 simp only[Is]
 exact⟨p,vs,rfl,bH,h.same (dG (s.free hp))⟩
theorem xJ {F H:Hp} {p:Addr} {ds:List D} {vs:List V} (s:aA F H) (hp:H p=none) (h:af F ds vs):Is (Nw F H (upd H p (.tup vs))) (.tup ds) (.ref p):=by
 rw[Nw.upd s hp]
 simp only[Is]
 exact⟨p,vs,rfl,bH,h.same (dG (s.free hp))⟩
theorem u_ {F H:Hp} {d:D} {v:V} (s:aA F H) (h:Is F d v):Is (Nw F H H) d v:=by rw[Nw.refl s];exact h
noncomputable def rp:D->D->(D->Prop)->Prop
 | .int i,.int j,K=>K (.int (i + j))
 | .lst a,.lst b,K=>a.length + b.length <= 1000/\K (.lst (a ++ b))
 | .tup a,.tup b,K=>(a≠[]/\a.length + b.length <= 1000)/\K (.tup (a ++ b))
 | .str a,.str b,K=>a.length + b.length <= 1000/\K (.str (a ++ b))
 | _,_,_=>False
noncomputable def oI (f:Int->Int->D):D->D->(D->Prop)->Prop
 | .int i,.int j,K=>K (f i j)
 | _,_,_=>False
noncomputable def dS (C:Int->Int->Prop) (f:Int->Int->D):D->D->(D->Prop)->Prop
 | .int i,.int j,K=>C i j/\K (f i j)
 | _,_,_=>False
noncomputable def gT:D->D->(D->Prop)->Prop
 | .int i,.int j,K=>nB i j/\K (.int (i * j))
 | .lst a,.int j,K=>(-(2 ^ 63) <= j/\j < 2 ^ 63/\a.length * j.toNat <= 1000)/\K (.lst (List.replicate j.toNat a).flatten)
 | _,_,_=>False
section
variable {X:Cx}
theorem xK {f:Value->Value->Sem Value} {g:Int->Int->V} {h:Int->Int->D} (op:c_ X f (ny g)) (hg:∀ F i j,Is F (h i j) (g i j)):fZ X f (oI h):=by
 rintro pins s σ H x y v u Q I rx ry ⟨F,d,e,K,sub,rd,re,q,md⟩
 unfold oI at q
 split at q
 ·rename_i i j
  exact op pins s σ H x y v u Q I rx ry ⟨i,j,rd,re,md _ _ _ q (fun _ _ e=>e) (hg _ i j)⟩
 ·exact q.elim
theorem Bq {f:Value->Value->Sem Value} {C:Int->Int->Prop} {g:Int->Int->V} {h:Int->Int->D} (op:c_ X f (rI C g)) (hg:∀ F i j,Is F (h i j) (g i j)):fZ X f (dS C h):=by
 rintro pins s σ H x y v u Q I rx ry ⟨F,d,e,K,sub,rd,re,q,md⟩
 unfold dS at q
 split at q
 ·rename_i i j
  exact op pins s σ H x y v u Q I rx ry ⟨i,j,rd,re,q.1,md _ _ _ q.2 (fun _ _ e=>e) (hg _ i j)⟩
 ·exact q.elim
theorem xM:fZ X (binaryOp .Add) rp:=by
 rintro pins s σ H x y v u Q I rx ry ⟨F,d,e,K,sub,rd,re,q,md⟩
 unfold rp at q
 split at q
 ·rename_i i j
  exact Ep pins s σ H x y v u Q I rx ry ⟨i,j,rd,re,md _ _ _ q (fun _ _ e=>e) rfl⟩
 ·rename_i as bs
  obtain⟨a,us,rfl,h1,h2⟩:=rd
  obtain⟨b,ws,rfl,h3,h4⟩:=re
  refine wR pins s σ H _ _ v u Q I rx ry ⟨a,b,us,ws,rfl,rfl,h1,h3,lJ (by rw[h2.length,h4.length];exact q.1),fun p hp=>md _ _ _ q.2 (dG hp) (pI sub hp (sV h2 h4))⟩
 ·rename_i as bs
  have dj:Is F (.tup as) x:=rd
  have ja:Is F (.tup bs) y:=re
  simp only[Is] at dj ja
  obtain⟨a,us,rfl,h1,h2⟩:=dj
  obtain⟨b,ws,rfl,h3,h4⟩:=ja
  have ne:us≠[]:=fun z=>q.1.1 (Y7.mp (by rw[<-h2.length,z];rfl))
  refine L4 pins s σ H _ _ v u Q I rx ry ⟨a,b,us,ws,rfl,rfl,bT.of (sub _ _ h1),bT.of (sub _ _ h3),ne,lJ (by rw[h2.length,h4.length];exact q.1.2),fun z => ?_,fun z p hp=>md _ _ _ q.2 (dG hp) (xJ sub hp (sV h2 h4))⟩
  have:bs=[]:=Y7.mp (by rw[<-h4.length,z];rfl)
  subst this
  refine md _ _ _ q.2 (fun _ _ e=>e) (u_ sub ?_)
  rw[ZA];exact rd
 ·rename_i as bs
  have dj:x = .str as:=rd
  have ja:y = .str bs:=re
  subst dj ja
  exact Lm pins s σ H _ _ v u Q I rx ry ⟨as,bs,rfl,rfl,lJ q.1,md _ _ _ q.2 (fun _ _ e=>e) rfl⟩
 ·exact q.elim
theorem kY:fZ X (binaryOp .Sub) (oI fun i j => .int (i - j)):=xK K5 fun _ _ _=>rfl
theorem rq:fZ X (binaryOp .Mult) gT:=by
 rintro pins s σ H x y v u Q I rx ry ⟨F,d,e,K,sub,rd,re,q,md⟩
 unfold gT at q
 split at q
 ·rename_i i j
  exact K6 pins s σ H x y v u Q I rx ry ⟨i,j,rd,re,q.1,md _ _ _ q.2 (fun _ _ e=>e) rfl⟩
 ·rename_i as j
  obtain⟨a,us,rfl,h1,h2⟩:=rd
  refine Mg pins s σ H _ _ v u Q I rx ry ⟨a,j,us,rfl,re,h1,q.1.1,q.1.2.1,lJ (by rw[h2.length];exact q.1.2.2),fun p hp=>md _ _ _ q.2 (dG hp) (pI sub hp ?_)⟩
  have:∀ k:Nat,af F (List.replicate k as).flatten (List.replicate k us).flatten:=fun k=>by
   induction k with
   | zero=>exact .nil
   | succ k ih=>rw[XD,XD,Ys,Ys];exact sV h2 ih
  exact this _
 ·exact q.elim
theorem OA:fZ X (binaryOp .FloorDiv) (dS ub fun i j => .int (i.fdiv j)):=Bq K7 fun _ _ _=>rfl
theorem kZ:fZ X (binaryOp .Mod) (dS (fun _ j=>0 < j) fun i j => .int (i % j)):=Bq zv fun _ _ _=>rfl
theorem lQ:fZ X (binaryOp .Pow) (dS ft fun i j => .int (i ^ j.toNat)):=Bq K8 fun _ _ _=>rfl
noncomputable def oEq:D->D->(D->Prop)->Prop:=fun d e K=>dep d <= 60/\K (.bl (aB d e))
noncomputable def lR:D->D->(D->Prop)->Prop:=fun d e K=>dep d <= 60/\K (.bl (!aB d e))
theorem iO (hu:X.A.units + 64 < cLine):fZ X (compareOp .Eq) oEq:=by
 rintro pins s σ H x y v u Q I rx ry ⟨F,d,e,K,sub,rd,re,q,md⟩
 exact (Bj I 60 q.1 (by omega) (rd.is sub) (re.is sub) rx ry).2 _ _ _ _ ⟨.bl _,H,I,rfl,md _ _ _ q.2 (fun _ _ e=>e) rfl⟩
theorem oz (hu:X.A.units + 64 < cLine):fZ X (compareOp .NotEq) lR:=by
 rintro pins s σ H x y v u Q I rx ry ⟨F,d,e,K,sub,rd,re,q,md⟩
 exact Oz I q.1 (by omega) (rd.is sub) (re.is sub) rx ry _ _ _ _ ⟨.bl _,H,I,rfl,md _ _ _ q.2 (fun _ _ e=>e) rfl⟩
noncomputable def oLt:D->D->(D->Prop)->Prop
 | .int i,.int j,K=>K (.bl (decide (i < j)))
 | .tup a,.tup b,K=>match intsOf a,intsOf b with
  | some ns,some ms=>K (.bl (HT.lexLt ns ms))
  | _,_=>False
 | _,_,_=>False
theorem xN (hu:X.A.units + 64 < cLine):fZ X (compareOp .Lt) oLt:=by
 rintro pins s σ H x y v u Q I rx ry ⟨F,d,e,K,sub,rd,re,q,md⟩
 unfold oLt at q
 split at q
 ·rename_i i j
  exact Es pins s σ H x y v u Q I rx ry ⟨i,j,rd,re,md _ _ _ q (fun _ _ e=>e) rfl⟩
 ·rename_i as bs
  split at q
  ·rename_i ns ms e1 e2
   rw[Bm e1] at rd
   rw[Bm e2] at re
   have dj:Is F (.tup (ns.map D.int)) x:=rd
   have ja:Is F (.tup (ms.map D.int)) y:=re
   simp only[Is] at dj ja
   obtain⟨a,us,rfl,h1,h2⟩:=dj
   obtain⟨b,ws,rfl,h3,h4⟩:=ja
   rw[u9 h2] at h1
   rw[u9 h4] at h3
   exact LZ (by omega) pins s σ H _ _ v u Q I rx ry ⟨a,b,ns,ms,rfl,rfl,bT.of (sub _ _ h1),bT.of (sub _ _ h3),md _ _ _ q (fun _ _ e=>e) rfl⟩
  ·exact q.elim
 ·exact q.elim
theorem xO:fZ X (compareOp .LtE) (oI fun i j => .bl (decide (i <= j))):=xK Lf fun _ _ _=>rfl
theorem rz:fZ X (compareOp .Gt) (oI fun i j => .bl (decide (j < i))):=xK Lg fun _ _ _=>rfl
theorem OB:fZ X (compareOp .GtE) (oI fun i j => .bl (decide (j <= i))):=xK Lh fun _ _ _=>rfl
noncomputable def lS:D->D->(D->Prop)->Prop
 | .non,.non,K=>K (.bl true)
 | .bl _,.non,K=>K (.bl false)
 | .int _,.non,K=>K (.bl false)
 | .str _,.non,K=>K (.bl false)
 | .tup _,.non,K=>K (.bl false)
 | .lst _,.non,K=>K (.bl false)
 | _,_,_=>False
theorem OC {F H:Hp} {d e:D} {x y:V} {K:D->Prop} (rd:iM F H d x) (re:iM F H e y) (q:lS d e K):y = .non/\K (.bl (decide (x = .non))):=by
 unfold lS at q
 split at q
 ·have:x = .non:=rd;have h2:y = .non:=re;subst this;exact⟨h2,q⟩
 ·rename_i b;have:x = .bl b:=rd;have h2:y = .non:=re;subst this;exact⟨h2,q⟩
 ·rename_i b;have:x = .int b:=rd;have h2:y = .non:=re;subst this;exact⟨h2,q⟩
 ·rename_i b;have:x = .str b:=rd;have h2:y = .non:=re;subst this;exact⟨h2,q⟩
 ·rename_i b;have rd:Is F (.tup b) x:=rd;simp only[Is] at rd;obtain⟨a,_,rfl,_⟩:=rd;exact⟨re,q⟩
 ·rename_i b;obtain⟨a,_,rfl,_⟩:=rd;exact⟨re,q⟩
 ·exact q.elim
theorem OD:fZ X (compareOp .Is) lS:=by
 rintro pins s σ H x y v u Q I rx ry ⟨F,d,e,K,sub,rd,re,q,md⟩
 obtain⟨h1,h2⟩:=OC rd re q
 exact Li pins s σ H x y v u Q I rx ry ⟨h1,md _ _ _ h2 (fun _ _ e=>e) rfl⟩
noncomputable def pJ (neg:Bool):D->D->(D->Prop)->Prop
 | d,.lst es,K=>bg es <= 55/\K (.bl (if neg then !(es.any fun e=>aB e d) else es.any fun e=>aB e d))
 | d,.tup es,K=>bg es <= 55/\K (.bl (if neg then !(es.any fun e=>aB e d) else es.any fun e=>aB e d))
 | _,_,_=>False
noncomputable def jx (H:Hp) (d:D) (u:Value):Bool:=by
 classical exact if ∃ e v,Is H e v/\RelV v u/\aB e d=true then true else false
theorem Gm {H:Hp} {d e:D} {v:V} {u:Value} (h:Is H e v) (r:RelV v u):jx H d u=aB e d:=by
 unfold jx
 split
 ·rename_i z
  obtain⟨e',v',h',r',q⟩:=z
  have:v'=v:=r'.inj r
  subst this
  rw[Is.inj h h'];exact q.symm
 ·rename_i z
  cases q:aB e d with
  | false=>rfl
  | true=>exact absurd ⟨e,v,h,r,q⟩ z
theorem va {H:Hp} {d:D}:∀ {es:List D} {vs:List V} {us:List Value},af H es vs->Vals vs us->us.any (jx H d)=es.any fun e=>aB e d
 | [],vs,us,h,r=>by simp only[af] at h;subst h;cases r;rfl
 | e :: es,vs,us,h,r=>by
  simp only[af] at h
  obtain⟨v,t,rfl,h1,h2⟩:=h
  cases r with
  | cons r1 r2=>rw[Z_,Z_,Gm h1 r1,va h2 r2]
theorem vb {pins:List (Addr × Obj)} {σ : St} {H:Hp} {s:Shared} (I:Inv X pins σ H s) {A:Around} (hu:A.units + 60 < cLine) {d:D} {x:V} {w:Value} (hd:Is H d x) (rd:RelV x w):∀ {es:List D} {vs:List V} {us:List Value},bg es <= 55->af H es vs->Vals vs us->∀ u∈us,SeqAt.EqAt A s u w (jx H d u)
 | [],vs,us,_,h,r=>by simp only[af] at h;subst h;cases r;intro u hu;cases hu
 | e :: es,vs,us,hp,h,r=>by
  simp only[af] at h
  obtain⟨v,t,rfl,h1,h2⟩:=h
  simp only[bg] at hp
  cases r with
  | cons r1 r2 =>
   intro u hu'
   rcases EZ.mp hu' with rfl | hu'
   ·rw[Gm h1 r1];exact (Bj I 55 (by omega) (by omega) h1 hd r1 rd).1
   ·exact vb I hu hd rd (by omega) h2 r2 u hu'
theorem OE (hu:X.A.units + 64 < cLine):fZ X (compareOp .In) (pJ false):=by
 rintro pins s σ H x y v u Q I rx ry ⟨F,d,e,K,sub,rd,re,q,md⟩
 unfold pJ at q
 split at q
 ·rename_i es
  obtain⟨a,vs,rfl,h1,h2⟩:=re
  cases ry
  obtain⟨ag,r,p⟩:=dM I h1
  have iZ:=h2.same sub
  refine SeqAt.in_listAt (jx H d) p (fun w hw=>vb I (by rw[in1_units];omega) (rd.is sub) rx q.1 iZ r w (by simpa using hw)) ⟨.bl _,H,I,rfl,?_⟩
  rw[show ag.toArray.any (jx H d)=ag.any (jx H d) by simp,va iZ r]
  exact md _ _ _ q.2 (fun _ _ e=>e) rfl
 ·rename_i es
  have ja:Is F (.tup es) y:=re
  simp only[Is] at ja
  obtain⟨a,vs,rfl,h1,h2⟩:=ja
  cases ry
  obtain⟨ag,r,p⟩:=dO I (sub _ _ h1)
  have iZ:=h2.same sub
  refine SeqAt.in_tupleAt (jx H d) p (fun w hw=>vb I (by rw[in1_units];omega) (rd.is sub) rx q.1 iZ r w (by simpa using hw)) ⟨.bl _,H,I,rfl,?_⟩
  rw[show ag.toArray.any (jx H d)=ag.any (jx H d) by simp,va iZ r]
  exact md _ _ _ q.2 (fun _ _ e=>e) rfl
 ·exact q.elim
theorem Gn (hu:X.A.units + 64 < cLine):fZ X (compareOp .NotIn) (pJ true):=by
 rintro pins s σ H x y v u Q I rx ry ⟨F,d,e,K,sub,rd,re,q,md⟩
 unfold pJ at q
 split at q
 ·rename_i es
  obtain⟨a,vs,rfl,h1,h2⟩:=re
  cases ry
  obtain⟨ag,r,p⟩:=dM I h1
  have iZ:=h2.same sub
  refine SeqAt.notIn_listAt (jx H d) p (fun w hw=>vb I (by rw[in1_units];omega) (rd.is sub) rx q.1 iZ r w (by simpa using hw)) ⟨.bl _,H,I,rfl,?_⟩
  rw[show ag.toArray.any (jx H d)=ag.any (jx H d) by simp,va iZ r]
  exact md _ _ _ q.2 (fun _ _ e=>e) rfl
 ·rename_i es
  have ja:Is F (.tup es) y:=re
  simp only[Is] at ja
  obtain⟨a,vs,rfl,h1,h2⟩:=ja
  cases ry
  obtain⟨ag,r,p⟩:=dO I (sub _ _ h1)
  have iZ:=h2.same sub
  refine SeqAt.notIn_tupleAt (jx H d) p (fun w hw=>vb I (by rw[in1_units];omega) (rd.is sub) rx q.1 iZ r w (by simpa using hw)) ⟨.bl _,H,I,rfl,?_⟩
  rw[show ag.toArray.any (jx H d)=ag.any (jx H d) by simp,va iZ r]
  exact md _ _ _ q.2 (fun _ _ e=>e) rfl
 ·exact q.elim
noncomputable def bS:D->D->(D->Prop)->Prop
 | .lst ds,.int i,K=>match fY ds i with
  | some d=>K d
  | none=>False
 | .tup ds,.int i,K=>match fY ds i with
  | some d=>K d
  | none=>False
 | .str z,.int i,K=>z.length <= 1000/\match fY z.cps.toList i with
  | some c=>K (.str ⟨#[c]⟩)
  | none=>False
 | _,_,_=>False
theorem Gp {F:Hp} {ds:List D} {vs:List V} {i:Int} {d:D} (h:af F ds vs) (e:fY ds i=some d):∃ v,fY vs i=some v/\Is F d v:=by
 unfold fY at e ⊢
 rw[h.length]
 cases q:kn ds.length i with
 | none=>rw[q] at e;cases e
 | some j =>
  rw[q] at e
  exact pF h (show ds[j]? = some d from e)
theorem bY:FP X bS:=by
 rintro value slice pins s σ H x y v u Q I rx ry ⟨F,d,e,K,sub,rd,re,q,md⟩ hs
 unfold bS at q
 split at q
 ·rename_i ds i
  split at q
  ·rename_i d' e1
   obtain⟨a,vs,rfl,h1,h2⟩:=rd
   obtain⟨w,e2,h3⟩:=Gp h2 e1
   exact wN value slice pins s σ H _ _ v u Q I rx ry ⟨a,vs,i,w,rfl,re,bo.of h1,e2,md _ _ _ q (fun _ _ e=>e) (u_ sub h3)⟩ hs
  ·exact q.elim
 ·rename_i ds i
  split at q
  ·rename_i d' e1
   have dj:Is F (.tup ds) x:=rd
   simp only[Is] at dj
   obtain⟨a,vs,rfl,h1,h2⟩:=dj
   obtain⟨w,e2,h3⟩:=Gp h2 e1
   exact L6 value slice pins s σ H _ _ v u Q I rx ry ⟨a,vs,i,w,rfl,re,bT.of (sub _ _ h1),e2,md _ _ _ q (fun _ _ e=>e) (u_ sub h3)⟩ hs
  ·exact q.elim
 ·rename_i z i
  obtain⟨hz,q⟩:=q
  split at q
  ·rename_i c e1
   have dj:x = .str z:=rd
   subst dj
   exact L7 value slice pins s σ H _ _ v u Q I rx ry ⟨z,i,c,rfl,re,lJ hz,e1,md _ _ _ q (fun _ _ e=>e) rfl⟩ hs
  ·exact q.elim
 ·exact q.elim
noncomputable def cutD (ds:List D) (lo hi:Option Int):List D:=(ds.drop (HT.bj ds.length 0 lo)).take (HT.bj ds.length ds.length hi - HT.bj ds.length 0 lo)
theorem Gq {F:Hp} {ds:List D} {vs:List V} (h:af F ds vs) (lo hi:Option Int):af F (cutD ds lo hi) (df vs lo hi):=by
 unfold cutD df
 rw[h.length]
 exact Gh _ (Gi _ h)
noncomputable abbrev WO:=aC->(Option Int->aC->Prop)->Prop
noncomputable def xP (f:WO):TO:=fun σ H Q=>∃ F ad δ K,SR F ad δ σ H/\f δ K/\∀ o δ',K o δ'->∀ F' aD H',Ext F ad δ.mu H F' aD δ'.mu H'->SR F' aD δ' σ H'->Q o H'
noncomputable def gU:WO:=fun δ K=>K none δ
noncomputable def mT (f:WE):WO:=fun δ K=>f δ fun x δ1=>match x with
 | .p (.int i)=>K (some i) δ1
 | _=>False
theorem pK:PO X none (xP gU):=fun pins s σ H Q I h0_ => el7 h0_ fun F ad δ K S q k =>EH pins s σ H Q I (k _ _ q _ _ _ .refl S)
theorem pL {e:Expr} {f:WE} (h:JE X e (tD f)):PO X (some e) (xP (mT f)):=fun pins s σ H Q I h0_ => el7 h0_ fun F ad δ K S q k =>wM h.out pins s σ H Q I ⟨F,ad,δ,_,S,q,fun x δ1 h1 v F1 bh H1 E1 S1 V1=>by
 split at h1
 ·rename_i i
  exact⟨i,V1,k _ _ h1 _ _ _ E1 S1⟩
 ·exact h1.elim⟩
noncomputable def lT:D->(D->Prop)->Prop
 | .int i,K=>K (.int (-i))
 | _,_=>False
theorem Gr {e:Expr} {f:WE} {pos:Pos} (he:JE X e (tD f)):JE X (.UnaryOp .USub e pos) (tD (d1 f lT)) :=
 (NK Er he).weak fun σ H Q h0_ => el7 h0_ fun F ad δ K S q k =>⟨F,ad,δ,_,S,q,fun x δ1 h1 v F1 bh H1 E1 S1 V1=>by
  obtain⟨d,h4,rd⟩:=j7 S1 V1 h1
  unfold lT at h4
  split at h4
  ·rename_i i
   exact⟨i,rd,k _ _ h4 _ _ _ _ E1 S1 rfl⟩
  ·exact h4.elim⟩
noncomputable def xQ (f g h:WE) (o o':D->D->(D->Prop)->Prop):WE:=fun δ K=>f δ fun x δ1=>g δ1 fun y δ2=>jJ x δ2 fun d=>jJ y δ2 fun e=>o d e fun z=>match z with
 | .bl true=>h δ2 fun w δ3=>jJ y δ3 fun e'=>jJ w δ3 fun c=>o' e' c fun z'=>K (.p z') δ3
 | .bl false=>K (.p (.bl false)) δ2
 | _=>False
theorem Gs {a b c:Expr} {f g h:WE} {op lq:CmpOp} {o o':D->D->(D->Prop)->Prop} {pos:Pos} (ho:fZ X (compareOp op) o) (jl:fZ X (compareOp lq) o') (ha:JE X a (tD f)) (hb:JE X b (tD g)) (hc:JE X c (tD h))
  (hm:lastMarks [op,lq] [b,c]=false:=by with_unfolding_all rfl):JE X (.Compare a [op,lq] [b,c] pos) (tD (xQ f g h o o')) :=
 (NM ho jl ha hb hc hm).weak fun σ H Q h0_ => el7 h0_ fun F ad δ K S q k =>by
  refine⟨F,ad,δ,_,S,q,fun x δ1 h1 v1 F1 bh H1 E1 S1 V1=>⟨F1,bh,δ1,_,S1,h1,fun y δ2 h2 v2 F2 dA H2 E2 S2 V2 => ?_⟩⟩
  obtain⟨d,h3,rd⟩:=j7 S2 (V1.ext E2) h2
  obtain⟨e,h4,re⟩:=j7 S2 V2 h3
  refine⟨F2,d,e,_,S2.sub,rd,re,h4,fun z v H' hz sm is => ?_⟩
  have S3:=S2.al sm
  have E3:=Ext.al S2 sm
  split at hz
  ·refine⟨true,is,?_⟩
   rw[VZ rfl]
   refine⟨_,dA,δ2,_,S3,hz,fun w δ4 h5 v4 F4 xx H4 E4 S4 V4 => ?_⟩
   obtain⟨d',h6,xv⟩:=j7 S4 ((V2.ext E3).ext E4) h5
   obtain⟨e',h7,OF⟩:=j7 S4 V4 h6
   exact⟨F4,d',e',_,S4.sub,xv,OF,h7,fun z v H' hz sm is=>k _ _ hz _ _ _ _ ((((E1.trans E2).trans E3).trans E4).trans (Ext.al S4 sm)) (S4.al sm) is⟩
  ·refine⟨false,is,?_⟩
   rw[My EY]
   exact k _ _ hz _ _ _ _ ((E1.trans E2).trans E3) S3 rfl
  ·exact hz.elim
end
noncomputable def cx:List D->(D->Prop)->Prop
 | [.lst ds],K=>K (.int ds.length)
 | [.tup ds],K=>K (.int ds.length)
 | [.str z],K=>z.length <= 1000/\K (.int z.length)
 | _,_=>False
noncomputable def xR:List D->(D->Prop)->Prop
 | [.lst ds],K=>K (.lst ds)
 | [.tup ds],K=>K (.lst ds)
 | _,_=>False
noncomputable def xS:List D->(D->Prop)->Prop
 | [.lst ds],K=>K (.tup ds)
 | [.tup ds],K=>K (.tup ds)
 | _,_=>False
noncomputable def rA:List D->Option (List Bool)
 | []=>some []
 | .bl b :: r=>match rA r with
  | some bs=>some (b :: bs)
  | none=>none
 | _=>none
theorem Gu:∀ bs:List Bool,rA (bs.map D.bl)=some bs
 | []=>rfl
 | n :: r=>by show (match rA (r.map D.bl) with | some ns=>some (n :: ns) | none=>none)=_;rw[Gu r]
theorem Gv:∀ {ds:List D} {bs:List Bool},rA ds=some bs->ds=bs.map D.bl
 | [],ns,h=>by cases h;rfl
 | .bl i :: r,ns,h=>by
  unfold rA at h
  split at h
  ·rename_i ms e;cases h;rw[W8,Gv e]
  ·cases h
 | .non :: r,ns,h=>by cases h
 | .int _ :: r,ns,h=>by cases h
 | .str _ :: r,ns,h=>by cases h
 | .tup _ :: r,ns,h=>by cases h
 | .lst _ :: r,ns,h=>by cases h
theorem Gw {F:Hp}:∀ {bs:List Bool} {vs:List V},af F (bs.map D.bl) vs->vs=bs.map V.bl
 | [],vs,h=>by simp only[YM,af] at h;exact h
 | n :: r,vs,h=>by
  simp only[W8,af] at h
  obtain⟨v,t,rfl,h1,h2⟩:=h
  have h1:v = .bl n:=h1
  rw[Gw h2,h1];rfl
noncomputable def oA:List D->(D->Prop)->Prop
 | [.lst ds],K=>match rA ds with
  | some bs=>K (.bl (bs.all id))
  | none=>False
 | _,_=>False
noncomputable def xT:List D->(D->Prop)->Prop
 | [.int i,.int j],K=>K (.int (min i j))
 | _,_=>False
section
variable {X:Cx}
theorem dj {F H:Hp} {d:D} {xs:List V} (h:kC F H [d] xs):∃ v,xs=[v]/\iM F H d v:=by
 obtain⟨v,r,rfl,h1,h2⟩:=h
 have h2:r=[]:=h2
 subst h2
 exact⟨v,rfl,h1⟩
theorem OG {F H:Hp} {d e:D} {xs:List V} (h:kC F H [d,e] xs):∃ v w,xs=[v,w]/\iM F H d v/\iM F H e w:=by
 obtain⟨v,r,rfl,h1,h2⟩:=h
 obtain⟨w,rfl,h3⟩:=dj h2
 exact⟨v,w,rfl,h1,h3⟩
theorem iP:fA X (.builtin "len") cx:=by
 rintro pins s σ H xs us Q I r ⟨F,ds,K,sub,rd,q,md⟩
 unfold cx at q
 split at q
 ·obtain⟨v,rfl,a,vs,rfl,h1,h2⟩:=dj rd
  exact EM pins s σ H _ us Q I r ⟨a,vs,rfl,.inl (bo.of h1),by rw[h2.length];exact md _ _ _ q (fun _ _ e=>e) rfl⟩
 ·rename_i es
  obtain⟨v,rfl,h⟩:=dj rd
  have h:Is F (.tup es) v:=h
  simp only[Is] at h
  obtain⟨a,vs,rfl,h1,h2⟩:=h
  exact EM pins s σ H _ us Q I r ⟨a,vs,rfl,.inr (bT.of (sub _ _ h1)),by rw[h2.length];exact md _ _ _ q (fun _ _ e=>e) rfl⟩
 ·rename_i z
  obtain⟨v,rfl,h⟩:=dj rd
  have h:v = .str z:=h
  subst h
  exact Mb pins s σ H _ us Q I r ⟨z,rfl,lJ q.1,md _ _ _ q.2 (fun _ _ e=>e) rfl⟩
 ·exact q.elim
theorem OH:fA X (.type "list") xR:=by
 rintro pins s σ H xs us Q I r ⟨F,ds,K,sub,rd,q,md⟩
 unfold xR at q
 split at q
 ·obtain⟨v,rfl,a,vs,rfl,h1,h2⟩:=dj rd
  exact zT pins s σ H _ us Q I r ⟨a,vs,rfl,.inl (bo.of h1),fun l hl=>md _ _ _ q (dG hl) (pI sub hl h2)⟩
 ·rename_i es
  obtain⟨v,rfl,h⟩:=dj rd
  have h:Is F (.tup es) v:=h
  simp only[Is] at h
  obtain⟨a,vs,rfl,h1,h2⟩:=h
  exact zT pins s σ H _ us Q I r ⟨a,vs,rfl,.inr (bT.of (sub _ _ h1)),fun l hl=>md _ _ _ q (dG hl) (pI sub hl h2)⟩
 ·exact q.elim
theorem OI:fA X (.type "tuple") xS:=by
 rintro pins s σ H xs us Q I r ⟨F,ds,K,sub,rd,q,md⟩
 unfold xS at q
 split at q
 ·obtain⟨v,rfl,a,vs,rfl,h1,h2⟩:=dj rd
  exact wO pins s σ H _ us Q I r ⟨a,vs,rfl,.inl ⟨bo.of h1,fun l hl=>md _ _ _ q (dG hl) (xJ sub hl h2)⟩⟩
 ·rename_i es
  obtain⟨v,rfl,h⟩:=dj rd
  have h0:Is F (.tup es) v:=h
  have h:Is F (.tup es) v:=h
  simp only[Is] at h
  obtain⟨a,vs,rfl,h1,h2⟩:=h
  exact wO pins s σ H _ us Q I r ⟨a,vs,rfl,.inr ⟨bT.of (sub _ _ h1),md _ _ _ q (fun _ _ e=>e) (u_ sub h0)⟩⟩
 ·exact q.elim
theorem OJ (hc:X.calm=true):fA X (.builtin "all") oA:=by
 rintro pins s σ H xs us Q I r ⟨F,ds,K,sub,rd,q,md⟩
 unfold oA at q
 split at q
 ·rename_i es
  split at q
  ·rename_i bs e
   obtain⟨v,rfl,a,vs,rfl,h1,h2⟩:=dj rd
   rw[Gv e] at h2
   rw[Gw h2] at h1
   exact NZ hc pins s σ H _ us Q I r ⟨a,bs,rfl,bo.of h1,md _ _ _ q (fun _ _ e=>e) rfl⟩
  ·exact q.elim
 ·exact q.elim
theorem OK (hc:X.calm=true):fA X (.builtin "min") xT:=by
 rintro pins s σ H xs us Q I r ⟨F,ds,K,sub,rd,q,md⟩
 unfold xT at q
 split at q
 ·rename_i i j
  obtain⟨v,w,rfl,h1,h2⟩:=OG rd
  have h1:v = .int i:=h1
  have h2:w = .int j:=h2
  subst h1 h2
  refine Ln hc pins s σ H _ us Q I r ⟨i,j,rfl,?_⟩
  have:(if j < i then j else i)=min i j:=by split<;>omega
  rw[this]
  exact md _ _ _ q (fun _ _ e=>e) rfl
 ·exact q.elim
theorem Br (n:Nat):di 0 n=(jr n).map D.int:=by
 unfold di jr
 rw[Xf]
 refine XE fun i _ => ?_
 show D.int (0 + (i:Int))=D.int (i:Int)
 rw[Int.zero_add]
noncomputable def bw (T:String):D->(D->Prop)->Prop:=fun d K=>K (.bl (aP (bB d) T))
theorem dm {T:String} {t:Str} {a:Expr} {f:WE} {p p2 pos:Pos} (hk:∀ d:D,PySem.W.kitOne X.K (.type (bB d)) (.type T)=some (aP (bB d) T)) (hg:Gl X "isinstance") (hm:X.mg "isinstance" = none) (OL:Gl X t) (OM:X.mg t=none) (ON:bootBuiltins t=some (.type T)) (ha:JE X a (tD f))
  (Ak:t ≠ "__name__" := by decide) (nQ:(t == ("__debug__" : Str))=false:=by decide) (he:starEach [a,.Name t p2] X.env=(false,eval a X.env) :: starEach [.Name t p2] X.env:=by rfl):JE X (.Call (.Name "isinstance" p) [a,.Name t p2] [] pos) (tD (d1 f (bw T))) :=
 (xb Nd hg hm ZH (qQ ha (gr (Fs OL OM ON (v := .ty T) rfl Ak nQ) aU) he) (he:=he)).weak fun σ H Q h0_ => el7 h0_ fun F ad δ K S q k =>⟨F,ad,δ,_,S,q,fun x δ1 h1 v F1 bh H1 E1 S1 V1=>by
  obtain⟨d,h2,rd⟩:=j7 S1 V1 h1
  refine⟨v,.ty T,.type T,.type (bB d),_,rfl,rfl,Is.ty (rd.is S1.sub),hk d,k _ _ h2 _ _ _ _ E1 S1 rfl⟩⟩
theorem sW {K:PySem.W.Frag}:∀ d:D,PySem.W.kitOne K (.type (bB d)) (.type "int")=some (aP (bB d) "int"):=fun d=>Nn _ (uL d)
theorem mU {K:PySem.W.Frag}:∀ d:D,PySem.W.kitOne K (.type (bB d)) (.type "bool")=some (aP (bB d) "bool"):=fun d=>Nm _ (uL d)
theorem xU {K:PySem.W.Frag}:∀ d:D,PySem.W.kitOne K (.type (bB d)) (.type "str")=some (aP (bB d) "str"):=fun d=>Np _ (uL d)
theorem lU {K:PySem.W.Frag}:∀ d:D,PySem.W.kitOne K (.type (bB d)) (.type "tuple")=some (aP (bB d) "tuple"):=fun d=>kit_tuple _ (uL d)
theorem xV {K:PySem.W.Frag}:∀ d:D,PySem.W.kitOne K (.type (bB d)) (.type "list")=some (aP (bB d) "list"):=fun d=>Nq _ (uL d)
noncomputable def gW (x:DV) (δ : aC) (K:Nat->List D->Prop):Prop:=match x with
 | .o k=>match δ.mu[k]? with
  | some (some (.lst ds))=>K k ds
  | _=>False
 | _=>False
theorem rB {F H:Hp} {ad:List Addr} {δ : aC} {σ : St} {x:DV} {v:V} {K:Nat->List D->Prop} (S:SR F ad δ σ H) (V1:iy F ad x v) (h:gW x δ K):∃ k ds a vs,x = .o k/\K k ds/\v = .ref a/\ad[k]? = some a/\H a=some (.lst vs)/\af F ds vs /\ δ.mu[k]? = some (some (.lst ds)):=by
 unfold gW at h
 split at h
 ·rename_i k
  split at h
  ·rename_i ds e
   obtain⟨a,e1,rfl⟩:=V1
   obtain⟨a',o,e2,e3,vs,rfl,h4⟩:=S.mu k _ e
   rw[e1] at e2;cases e2
   exact⟨k,ds,a,vs,rfl,h,rfl,e1,e3,h4,e⟩
  ·exact h.elim
 ·exact h.elim
noncomputable def lV (f:WE) (fa:WA):WE:=fun δ K=>f δ fun x δ1=>gW x δ1 fun _ _=>fa δ1 fun ys δ2=>match ys with
 | [y]=>pB y δ2 fun d δ3=>gW x δ3 fun k ds=>ds.length < 1000/\K (.p .non) ⟨δ3.sl,δ3.mu.set k (some (.lst (ds ++ [d])))⟩
 | _=>False
theorem Bs {f:WE} {fa:WA} {K0:PySem.W.Frag}:∀ σ H Q,tD (lV f fa) σ H Q->uo K0 "list" ES (tD f) (cP fa) σ H Q:=fun σ H Q h0_ => el7 h0_ fun F ad δ K S q k =>⟨F,ad,δ,_,S,q,fun x δ1 h1 v F1 bh H1 E1 S1 V1=>by
 obtain⟨k0,Gx,a,vs,rfl,h2,rfl,e1,e2,i1,m1⟩:=rB S1 V1 h1
 refine⟨.inl ⟨rfl,vs,bo.of e2⟩,F1,bh,δ1,_,S1,h2,fun ys δ2 h3 us F2 dA H2 E2 S2 V2 => ?_⟩
 match ys,h3,V2 with
 | [y],g3,⟨u,r,e,W1,W2⟩ =>
  have W3:r=[]:=W2
  subst W3 e
  obtain⟨d,δ3,F3,h4,E3,S3,i3⟩:=xn S2 W1 g3
  obtain⟨k1,ds,b,ws,ek,h5,eb,e3,e4,i4,m4⟩:=rB (x := .o k0) S3 ((V1.ext E2).ext E3) h4
  cases ek
  have vc:a=b:=by injection eb
  subst vc
  have oi:hJ F3 (.lst (ds ++ [d])) (.lst (ws ++ [u])):=⟨_,rfl,i4.snoc i3⟩
  refine⟨a,ws,u,rfl,rfl,e4,wW (by rw[i4.length];omega),?_⟩
  exact k _ _ h5.2 _ _ _ _ (((E1.trans E2).trans E3).trans (Ext.put S3 m4 e3)) (S3.put m4 e3 oi) rfl
 | [],g3,_=>exact g3.elim
 | _ :: _ :: _,g3,_=>exact g3.elim⟩
noncomputable def rC (f:WE) (fa:WA):WE:=fun δ K=>f δ fun x δ1=>gW x δ1 fun _ _=>fa δ1 fun ys δ2=>match ys with
 | [.p (.lst es)]=>gW x δ2 fun k ds=>ds.length + es.length <= 1000/\K (.p .non) ⟨δ2.sl,δ2.mu.set k (some (.lst (ds ++ es)))⟩
 | _=>False
theorem OO {f:WE} {fa:WA} {K0:PySem.W.Frag}:∀ σ H Q,tD (rC f fa) σ H Q->uo K0 "list" ET (tD f) (cP fa) σ H Q:=fun σ H Q h0_ => el7 h0_ fun F ad δ K S q k =>⟨F,ad,δ,_,S,q,fun x δ1 h1 v F1 bh H1 E1 S1 V1=>by
 obtain⟨k0,Gx,a,vs,rfl,h2,rfl,e1,e2,i1,m1⟩:=rB S1 V1 h1
 refine⟨.inl ⟨rfl,vs,bo.of e2⟩,F1,bh,δ1,_,S1,h2,fun ys δ2 h3 us F2 dA H2 E2 S2 V2 => ?_⟩
 split at h3
 ·rename_i es
  obtain⟨u,r,e,W1,W2⟩:=V2
  have W3:r=[]:=W2
  have W4:Is F2 (.lst es) u:=W1
  simp only[Is] at W4
  obtain⟨b,zs,rfl,z1,z2⟩:=W4
  subst W3 e
  obtain⟨k1,ds,b',ws,ek,h5,eb,e3,e4,i4,m4⟩:=rB (x := .o k0) S2 (V1.ext E2) h3
  cases ek
  have vc:a=b':=by injection eb
  subst vc
  have oi:hJ F2 (.lst (ds ++ es)) (.lst (ws ++ zs)):=⟨_,rfl,sV i4 z2⟩
  refine⟨a,b,ws,zs,rfl,rfl,e4,S2.sub _ _ z1,lJ (by rw[i4.length,z2.length];exact h5.1),?_⟩
  exact k _ _ h5.2 _ _ _ _ ((E1.trans E2).trans (Ext.put S2 m4 e3)) (S2.put m4 e3 oi) rfl
 ·exact h3.elim⟩
noncomputable def Bt (f:WE) (fa:WA):WE:=fun δ K=>f δ fun x δ1=>gW x δ1 fun _ _=>fa δ1 fun ys δ2=>match ys with
 | [.p (.int i)]=>gW x δ2 fun k ds=>(-(2 ^ 63) <= i/\i < 2 ^ 63)/\match seqIndex? i ds.length with
  | some j=>match ds[j]? with
   | some d=>K (.p d) ⟨δ2.sl,δ2.mu.set k (some (.lst (ds.eraseIdx j)))⟩
   | none=>False
  | none=>False
 | _=>False
theorem OQ {f:WE} {fa:WA} {K0:PySem.W.Frag}:∀ σ H Q,tD (Bt f fa) σ H Q->uo K0 "list" EU (tD f) (cP fa) σ H Q:=fun σ H Q h0_ => el7 h0_ fun F ad δ K S q k =>⟨F,ad,δ,_,S,q,fun x δ1 h1 v F1 bh H1 E1 S1 V1=>by
 obtain⟨k0,Gx,a,vs,rfl,h2,rfl,e1,e2,i1,m1⟩:=rB S1 V1 h1
 refine⟨.inl ⟨rfl,vs,bo.of e2⟩,F1,bh,δ1,_,S1,h2,fun ys δ2 h3 us F2 dA H2 E2 S2 V2 => ?_⟩
 split at h3
 ·rename_i i
  obtain⟨u,r,e,W1,W2⟩:=V2
  have W3:r=[]:=W2
  have W4:u = .int i:=W1
  subst W3 W4 e
  obtain⟨k1,ds,b',ws,ek,⟨h5,h6⟩,eb,e3,e4,i4,m4⟩:=rB (x := .o k0) S2 (V1.ext E2) h3
  cases ek
  have vc:a=b':=by injection eb
  subst vc
  split at h6
  ·rename_i j hj
   split at h6
   ·rename_i d hd
    obtain⟨w,g1,g2⟩:=pF i4 hd
    have oi:hJ F2 (.lst (ds.eraseIdx j)) (.lst (ws.eraseIdx j)):=⟨_,rfl,Gk j i4⟩
    refine⟨a,ws,i,j,w,rfl,rfl,e4,h5.1,h5.2,by rw[i4.length];exact hj,g1,?_⟩
    exact k _ _ h6 _ _ _ _ ((E1.trans E2).trans (Ext.put S2 m4 e3)) (S2.put m4 e3 oi) g2
   ·exact h6.elim
  ·exact h6.elim
 ·exact h3.elim⟩
noncomputable def rD (f fo fi:WE):WS:=fun K δ => f δ fun x δ1=>fo δ1 fun o δ2=>fi δ2 fun i δ3=>pB x δ3 fun d δ4=>gW o δ4 fun k ds=>match i with
 | .p (.int j)=>match kn ds.length j with
  | some m=>K.nx ⟨δ4.sl,δ4.mu.set k (some (.lst (ds.set m d)))⟩
  | none=>False
 | _=>False
theorem xW {f fo fi:WE}:∀ D σ H,gs (rD f fo fi) D σ H->bU (tD f) (qr (tD fo) (tD fi) EL) D σ H:=fun D σ H h0_ => el7 h0_ fun F ad δ K S q k =>⟨F,ad,δ,_,S,q,fun x δ1 h1 v F1 bh H1 E1 S1 V1=>⟨F1,bh,δ1,_,S1,h1,fun o δ2 h2 ov F2 dA H2 E2 S2 V2=>⟨F2,dA,δ2,_,S2,h2,fun i δ3 h3 iv F3 u2 H3 E3 S3 V3=>by
 obtain⟨d,δ4,F4,h4,E4,S4,i4⟩:=xn S3 ((V1.ext E2).ext E3) h3
 obtain⟨k0,ds,a,vs,rfl,h5,rfl,e1,e2,i1,m1⟩:=rB S4 ((V2.ext E3).ext E4) h4
 split at h5
 ·rename_i j
  split at h5
  ·rename_i m hm
   have V3:iv = .int j:=V3
   subst V3
   have oi:hJ F4 (.lst (ds.set m d)) (.lst (vs.set m v)):=⟨_,rfl,Gj m i1 i4⟩
   refine⟨a,vs,j,m,rfl,rfl,e2,by rw[i1.length];exact hm,?_⟩
   exact k.nx _ h5 _ _ _ _ ((((E1.trans E2).trans E3).trans E4).trans (Ext.put S4 m1 e1)) (S4.put m1 e1 oi)
  ·exact h5.elim
 ·exact h5.elim⟩⟩⟩
end
end L2
namespace L2
open PySem PySem.Spec PyProof.Rows PySem.W
noncomputable abbrev LK:=List Int
noncomputable def kle (a b:LK):Prop:=HT.lexLt b a=false
theorem xX:∀ a:LK,HT.lexLt a a=false
 | []=>rfl
 | x :: r=>by rw[HT.o6,VZ rfl];exact xX r
theorem xY:∀ {a b:LK},HT.lexLt a b=false->HT.lexLt b a=false->a=b
 | [],[],_,_=>rfl
 | [],_ :: _,h,_=>by cases h
 | _ :: _,[],_,h=>by cases h
 | x :: r,y :: s,h,q=>by
  rw[HT.o6] at h q
  by_cases c:x=y
  ·subst c
   rw[VZ rfl] at h q
   rw[xY h q]
  ·rw[My c] at h
   rw[My (fun z=>c z.symm)] at q
   simp at h q;omega
theorem Bu:∀ {a b c:LK},HT.lexLt a b=true->HT.lexLt b c=true->HT.lexLt a c=true
 | [],[],_,h,_=>by cases h
 | [],_ :: _,[],_,q=>by cases q
 | [],_ :: _,_ :: _,_,_=>rfl
 | _ :: _,[],_,h,_=>by cases h
 | _ :: _,_ :: _,[],_,q=>by cases q
 | x :: r,y :: s,z :: t,h,q=>by
  rw[HT.o6] at h q ⊢
  by_cases c1:x=y
  ·subst c1
   rw[VZ rfl] at h
   by_cases c2:x=z
   ·subst c2
    rw[VZ rfl] at q ⊢
    exact Bu h q
   ·rw[My c2] at q ⊢;exact q
  ·rw[My c1] at h
   by_cases c2:y=z
   ·subst c2
    rw[My c1];exact h
   ·rw[My c2] at q
    have h1:x < y:=by simpa using h
    have h2:y < z:=by simpa using q
    rw[My (by omega)]
    simp;omega
theorem kle_refl (a:LK):kle a a:=xX a
theorem xZ {a b:LK} (h:HT.lexLt a b=true):kle a b:=by
 unfold kle
 cases q:HT.lexLt b a with
 | false=>rfl
 | true=>have:=Bu h q;rw[xX] at this;cases this
theorem kle_trans {a b c:LK} (h1:kle a b) (h2:kle b c):kle a c:=by
 unfold kle at *
 cases q:HT.lexLt c a with
 | false=>rfl
 | true =>
  cases q2:HT.lexLt a b with
  | true=>have:=Bu q q2;rw[h2] at this;cases this
  | false =>
   have e:=xY q2 h1
   subst e;rw[h2] at q;cases q
theorem Gy {a b:LK} (h1:kle a b) (h2:kle b a):a=b:=xY h2 h1
section
variable {n:Nat} {k:Nat->LK} {I:Shared->Prop} {cmp:Nat->Nat->(Bool->Shared->Prop)->Shared->Prop}
noncomputable def pM (n:Nat) (k:Nat->LK) (I:Shared->Prop) (cmp:Nat->Nat->(Bool->Shared->Prop)->Shared->Prop):Prop :=
 ∀ (i j:Nat) (C:Bool->Shared->Prop) (s:Shared),i < n->j < n->I s->(∀ s',I s'->C (HT.lexLt (k i) (k j)) s')->cmp i j C s
noncomputable def KA (k:Nat->LK) (p:Array Nat) (i:Nat):LK:=k (p.getD i 0)
structure cS (n:Nat) (p:Array Nat):Prop where
 perm:p.Perm (List.range n).toArray
theorem cS.size {p:Array Nat} (h:cS n p):p.size=n:=by have:=h.perm.size_eq;simpa using this
theorem cS.lt {p:Array Nat} (h:cS n p) {i:Nat} (hi:i < n):p.getD i 0 < n:=by
 have hs:=h.size
 have e:p.getD i 0=p[i]:=by simp[Array.getD,hs,hi]
 rw[e]
 have:p[i]∈(List.range n).toArray:=(h.perm.mem_iff).mp (Array.getElem_mem _)
 simpa using this
theorem vd {p q:Array Nat} {i j:Nat} (h:p[i]? = q[j]?):p.getD i 0=q.getD j 0:=by
 rw[Xr,Xr,h]
theorem x_ {p:Array Nat} {i j:Nat} (hj:j <= p.size) (t:Nat):KA k (kas_rev p i j) t=if i <= t/\t < j then KA k p (i + j - 1 - t) else KA k p t:=by
 have e:=getElem?_mirror_all (xs:=p) (i:=i) hj t
 unfold KA kas_rev
 by_cases c:i <= t/\t < j
 ·rw[VZ c] at e ⊢;rw[vd e]
 ·rw[My c] at e ⊢;rw[vd e]
theorem OR {p:Array Nat} {src d:Nat} (hs:src < p.size) (hd:d <= src) (t:Nat) :
  KA k (bubble p src d) t=if t=src - d then KA k p src else if src - d < t/\t <= src then KA k p (t - 1) else KA k p t:=by
 have e:=getElem?_bubble hs d hd t
 unfold KA
 by_cases c:t=src - d
 ·rw[VZ c] at e ⊢;rw[vd e]
 ·rw[My c] at e ⊢
  by_cases c2:src - d < t/\t <= src
  ·rw[VZ c2] at e ⊢;rw[vd e]
  ·rw[My c2] at e ⊢;rw[vd e]
noncomputable def Up (k:Nat->LK) (p:Array Nat) (m:Nat):Prop:=∀ i j,i <= j->j < m->kle (KA k p i) (KA k p j)
noncomputable def Dn (k:Nat->LK) (p:Array Nat) (m:Nat):Prop:=∀ i j,i <= j->j < m->kle (KA k p j) (KA k p i)
theorem Up.snoc {p:Array Nat} {m:Nat} (h:Up k p m) (hm:1 <= m) (q:kle (KA k p (m - 1)) (KA k p m)):Up k p (m + 1):=fun i j jy hj=>by
 by_cases c:j < m
 ·exact h i j jy c
 ·have e:j=m:=by omega
  subst e
  by_cases c2:i=j
  ·subst c2;exact kle_refl _
  ·exact kle_trans (h i (j - 1) (by omega) (by omega)) q
theorem Dn.snoc {p:Array Nat} {m:Nat} (h:Dn k p m) (hm:1 <= m) (q:kle (KA k p m) (KA k p (m - 1))):Dn k p (m + 1):=fun i j jy hj=>by
 by_cases c:j < m
 ·exact h i j jy c
 ·have e:j=m:=by omega
  subst e
  by_cases c2:i=j
  ·subst c2;exact kle_refl _
  ·exact kle_trans q (h i (j - 1) (by omega) (by omega))
theorem Up.one {p:Array Nat}:Up k p 1:=fun i j jy hj=>by
 have:i=j:=by omega
 subst this;exact kle_refl _
theorem Dn.one {p:Array Nat}:Dn k p 1:=fun i j jy hj=>by
 have:i=j:=by omega
 subst this;exact kle_refl _
theorem cS.rev {p:Array Nat} (h:cS n p) (i j:Nat):cS n (kas_rev p i j):=⟨(mirror_perm _ _ _ _).trans h.perm⟩
theorem cS.OS {p:Array Nat} (h:cS n p) (i j:Nat):cS n (bubble p i j):=⟨(bubble_perm _ _ _).trans h.perm⟩
theorem Gz (hc:pM n k I cmp) {p:Array Nat} (hp:cS n p):∀ (f m:Nat) (s:Shared) (Q:Nat->Shared->Prop),1 <= m->m + f=n->Up k p m->I s →
  (∀ m' s',m <= m'->m' <= n->Up k p m'->I s'->Q m' s')->(kas_asc p f m).kasWp cmp Q s
 | 0,m,s,Q,h1,h2,up,hi,fin=>fin m s (wV _) (by omega) up hi
 | f + 1,m,s,Q,h1,h2,up,hi,fin=>by
  show cmp _ _ _ s
  refine hc _ _ _ s (hp.lt (by omega)) (hp.lt (by omega)) hi fun s' bZ => ?_
  cases q:HT.lexLt (k (p.getD m 0)) (k (p.getD (m - 1) 0)) with
  | true=>dsimp only;rw[VZ rfl];exact fin m s' (wV _) (by omega) up bZ
  | false =>
   dsimp only;rw[My EY]
   exact Gz hc hp f (m + 1) s' Q (by omega) (by omega) (up.snoc h1 q) bZ fun m' jF a b c d=>fin m' jF (by omega) b c d
noncomputable def Bv (k:Nat->LK) (p:Array Nat) (m q:Nat):Prop:=∀ t,m - (q + 1) <= t->t < m->KA k p t=KA k p (m - 1)
theorem GA {p:Array Nat} {m q:Nat} (hs:m <= p.size) (hq:q + 1 <= m) (e:Bv k p m q) (t:Nat):KA k (kas_rev p (m - (q + 1)) m) t=KA k p t:=by
 rw[x_ hs]
 split
 ·rename_i c
  rw[e _ (by omega) (by omega),e t c.1 c.2]
 ·rfl
theorem Dn.congr {p p':Array Nat} {m:Nat} (h:Dn k p m) (e:∀ t,KA k p' t=KA k p t):Dn k p' m:=fun i j a b=>by rw[e,e];exact h i j a b
theorem ya (hc:pM n k I cmp):∀ (f:Nat) (p:Array Nat) (m q:Nat) (s:Shared) (Q:Array Nat × Nat × Nat->Shared->Prop),cS n p->1 <= m->m + f=n->q + 1 <= m->Dn k p m->Bv k p m q->I s →
  (∀ p' m' q' s',cS n p'->m <= m'->m' <= n->q' + 1 <= m'->Dn k p' m'->Bv k p' m' q'->I s'->Q (p',m',q') s')->(kas_desc f p m q).kasWp cmp Q s
 | 0,p,m,q,s,Q,hp,h1,h2,hq,dn,es,hi,fin=>fin p m q s hp (wV _) (by omega) hq dn es hi
 | f + 1,p,m,q,s,Q,hp,h1,h2,hq,dn,es,hi,fin=>by
  show cmp _ _ _ s
  refine hc _ _ _ s (hp.lt (by omega)) (hp.lt (by omega)) hi fun s' bZ => ?_
  have sz:=hp.size
  cases c1:HT.lexLt (k (p.getD m 0)) (k (p.getD (m - 1) 0)) with
  | true =>
   dsimp only;rw[VZ rfl]
   have st:kle (KA k p m) (KA k p (m - 1)):=xZ c1
   by_cases GB:q > 0
   ·rw[VZ GB]
    have e:=GA (k:=k) (p:=p) (m:=m) (q:=q) (by omega) hq es
    refine ya hc f _ (m + 1) 0 s' Q (hp.rev _ _) (by omega) (by omega) (by omega) ((dn.snoc h1 st).congr e) (fun t a b => ?_) bZ fun p' m' q' jF a b c d e g i=>fin p' m' q' jF a (by omega) c d e g i
    have:t=m + 1 - 1:=by omega
    rw[this]
   ·rw[My GB]
    refine ya hc f p (m + 1) 0 s' Q hp (by omega) (by omega) (by omega) (dn.snoc h1 st) (fun t a b => ?_) bZ fun p' m' q' jF a b c d e g i=>fin p' m' q' jF a (by omega) c d e g i
    have:t=m + 1 - 1:=by omega
    rw[this]
  | false =>
   dsimp only;rw[My EY]
   show cmp _ _ _ s'
   refine hc _ _ _ s' (hp.lt (by omega)) (hp.lt (by omega)) bZ fun s2 lC => ?_
   cases c2:HT.lexLt (k (p.getD (m - 1) 0)) (k (p.getD m 0)) with
   | true=>dsimp only;rw[VZ rfl];exact fin p m q s2 hp (wV _) (by omega) hq dn es lC
   | false =>
    dsimp only;rw[My EY]
    have eq:KA k p m=KA k p (m - 1):=xY c1 c2
    refine ya hc f p (m + 1) (q + 1) s2 Q hp (by omega) (by omega) (by omega) (dn.snoc h1 (by rw[eq];exact kle_refl _)) (fun t a b => ?_) lC fun p' m' q' jF a b c d e g i=>fin p' m' q' jF a (by omega) c d e g i
    show KA k p t=KA k p m
    by_cases z:t=m
    ·rw[z]
    ·rw[es t (by omega) (by omega),eq]
theorem Dn.rev {p:Array Nat} {m:Nat} (h:Dn k p m) (hs:m <= p.size):Up k (kas_rev p 0 m) m:=fun i j jy hj=>by
 rw[x_ hs,x_ hs,VZ ⟨W5 _,by omega⟩,VZ ⟨W5 _,hj⟩]
 exact h _ _ (by omega) (by omega)
theorem GC (hc:pM n k I cmp) {p:Array Nat} (hp:cS n p) {m:Nat} {s:Shared} {Q:Nat × Array Nat->Shared->Prop} (h1:1 <= m) (hm:m <= n) (dn:Dn k p m) (hi:I s)
  (fin:∀ p' m' s',cS n p'->1 <= m'->m' <= n->Up k p' m'->I s'->Q (m',p') s'):(kas_tail3 m n p).kasWp cmp Q s:=by
 unfold kas_tail3
 rw[KasT.kasWp_bind]
 have sz:=hp.size
 refine Gz hc (hp.rev 0 m) (n - m) m s _ h1 (by omega) (dn.rev (by omega)) hi fun m' s' a b c d => ?_
 exact fin _ m' s' (hp.rev 0 m) (by omega) b c d
theorem GF (hc:pM n k I cmp) {p:Array Nat} (hp:cS n p) {m:Nat} {s:Shared} {Q:Nat × Array Nat->Shared->Prop} (h1:1 <= m) (hm:m + 1 <= n) (dn:Dn k p (m + 1)) (hi:I s)
  (fin:∀ p' m' s',cS n p'->1 <= m'->m' <= n->Up k p' m'->I s'->Q (m',p') s'):(kas_descPart m n p).kasWp cmp Q s:=by
 unfold kas_descPart
 rw[KasT.kasWp_bind]
 refine ya hc (n - (m + 1)) p (m + 1) 0 s _ hp (by omega) (by omega) (by omega) dn (fun t a b => ?_) hi fun p' m' q' s' a b c d e g i => ?_
 ·have:t=m + 1 - 1:=by omega
  rw[this]
 ·have sz:=a.size
  dsimp only
  by_cases hq:q' > 0
  ·rw[VZ hq]
   exact GC hc (a.rev _ _) (by omega) c (e.congr (GA (by omega) d g)) i fin
  ·rw[My hq]
   exact GC hc a (by omega) c e i fin
theorem OT (hc:pM n k I cmp) {p:Array Nat} (hp:cS n p) {s:Shared} {Q:Nat × Array Nat->Shared->Prop} (h1:1 <= n) (hi:I s)
  (fin:∀ p' m' s',cS n p'->1 <= m'->m' <= n->Up k p' m'->I s'->Q (m',p') s'):(kas_count n p).kasWp cmp Q s:=by
 unfold kas_count
 rw[KasT.kasWp_bind]
 have sz:=hp.size
 have key:∀ (f m:Nat) (s:Shared) (Q':Nat->Shared->Prop),1 <= m->m + f=n->Up k p m->I s →
   (∀ m' s',m <= m'->m' <= n->Up k p m'->(m' < n->HT.lexLt (KA k p m') (KA k p (m' - 1))=true)->I s'->Q' m' s')->(kas_asc p f m).kasWp cmp Q' s:=by
  intro f
  induction f with
  | zero=>intro m s Q' a b up hi fin;exact fin m s (wV _) (by omega) up (fun z=>absurd z (by omega)) hi
  | succ f ih =>
   intro m s Q' a b up hi fin
   show cmp _ _ _ s
   refine hc _ _ _ s (hp.lt (by omega)) (hp.lt (by omega)) hi fun s' bZ => ?_
   cases q:HT.lexLt (k (p.getD m 0)) (k (p.getD (m - 1) 0)) with
   | true=>dsimp only;rw[VZ rfl];exact fin m s' (wV _) (by omega) up (fun _=>q) bZ
   | false =>
    dsimp only;rw[My EY]
    exact ih (m + 1) s' Q' (by omega) (by omega) (up.snoc a q) bZ fun m' jF a b c d e=>fin m' jF (by omega) b c d e
 refine key (n - 1) 1 s _ (wV _) (by omega) Up.one hi fun m s' a b up nx bZ => ?_
 by_cases c1:m=n
 ·subst c1
  rw[VZ (by simp)]
  exact fin p m s' hp a (wV _) up bZ
 ·rw[My (by simpa using c1)]
  have dY:m < n:=by omega
  have nx:=nx dY
  by_cases c2:m > 1
  ·rw[VZ c2]
   show cmp _ _ _ s'
   refine hc _ _ _ s' (hp.lt (by omega)) (hp.lt (by omega)) bZ fun s2 lC => ?_
   cases q:HT.lexLt (k (p.getD 0 0)) (k (p.getD (m - 1) 0)) with
   | true=>dsimp only;rw[VZ rfl];exact fin p m s2 hp a b up lC
   | false =>
    dsimp only;rw[My EY]
    have al:∀ t,t < m->KA k p t=KA k p (m - 1):=fun t ht=>by
     refine Gy (up t (m - 1) (by omega) (by omega)) (kle_trans q (up 0 t (W5 _) ht))
    have e:∀ t,KA k (kas_rev p 0 m) t=KA k p t:=fun t=>by
     rw[x_ (by omega)]
     split
     ·rename_i c;rw[al _ (by omega),al t c.2]
     ·rfl
    refine GF hc (hp.rev 0 m) (by omega) (by omega) (Dn.congr (p:=p) ?_ e) lC fin
    refine Dn.snoc (fun i j jy hj => ?_) (by omega) (xZ nx)
    rw[al i (by omega),al j hj];exact kle_refl _
  ·rw[My c2]
   have:m=1:=by omega
   subst this
   exact GF hc hp (by omega) (by omega) (Dn.one.snoc (wV _) (xZ nx)) bZ fin
theorem Bw (hc:pM n k I cmp) {p:Array Nat} (hp:cS n p) {t:Nat} (ht:t < n) (up:Up k p t):∀ (f l r:Nat) (s:Shared) (Q:Nat->Shared->Prop),l <= r->r <= t->r - l <= f →
  (∀ i,i < l->kle (KA k p i) (KA k p t))->(∀ i,r <= i->i < t->kle (KA k p t) (KA k p i))->I s →
  (∀ l' s',l' <= t->(∀ i,i < l'->kle (KA k p i) (KA k p t))->(∀ i,l' <= i->i < t->kle (KA k p t) (KA k p i))->I s'->Q l' s')->(kas_place p t f l r).kasWp cmp Q s
 | 0,l,r,s,Q,h1,h2,h3,lo,sX,hi,fin=>by
  have:l=r:=by omega
  subst this
  exact fin l s h2 lo sX hi
 | f + 1,l,r,s,Q,h1,h2,h3,lo,sX,hi,fin=>by
  unfold kas_place
  by_cases c:l ≥ r
  ·rw[VZ c]
   have:l=r:=by omega
   subst this
   exact fin l s h2 lo sX hi
  ·rw[My c]
   show cmp _ _ _ s
   refine hc _ _ _ s (hp.lt ht) (hp.lt (by omega)) hi fun s' bZ => ?_
   cases q:HT.lexLt (k (p.getD t 0)) (k (p.getD ((l + r) / 2) 0)) with
   | true =>
    dsimp only;rw[VZ rfl]
    refine Bw hc hp ht up f l ((l + r) / 2) s' Q (by omega) (by omega) (by omega) lo (fun i a b => ?_) bZ fin
    exact kle_trans (xZ q) (up _ _ a b)
   | false =>
    dsimp only;rw[My EY]
    refine Bw hc hp ht up f ((l + r) / 2 + 1) r s' Q (by omega) h2 (by omega) (fun i a => ?_) sX bZ fin
    exact kle_trans (up i ((l + r) / 2) (by omega) (by omega)) q
theorem GG (hc:pM n k I cmp):∀ (f:Nat) (p:Array Nat) (t:Nat) (s:Shared) (Q:Array Nat->Shared->Prop),cS n p->t + f=n->Up k p t->I s →
  (∀ p' s',cS n p'->Up k p' n->I s'->Q p' s')->(kas_bin f p t).kasWp cmp Q s
 | 0,p,t,s,Q,hp,h2,up,hi,fin=>by
  have:t=n:=by omega
  subst this
  exact fin p s hp up hi
 | f + 1,p,t,s,Q,hp,h2,up,hi,fin=>by
  unfold kas_bin
  rw[KasT.kasWp_bind]
  have sz:=hp.size
  refine Bw hc hp (by omega) up t 0 t s _ (W5 _) (wV _) (by omega) (fun i a=>absurd a (by omega)) (fun i a b=>absurd b (by omega)) hi fun l s' hl lo sX bZ => ?_
  refine GG hc f _ (t + 1) s' Q (hp.OS _ _) (by omega) (fun i j jy hj => ?_) bZ fin
  have kb:=fun x=>OR (k:=k) (p:=p) (src:=t) (d:=t - l) (by omega) (by omega) x
  have el:t - (t - l)=l:=by omega
  rw[kb i,kb j,el]
  by_cases c1:i=l
  ·subst c1
   rw[VZ rfl]
   by_cases c2:j=i
   ·rw[VZ c2];exact kle_refl _
   ·rw[My c2,VZ ⟨by omega,by omega⟩]
    exact sX (j - 1) (by omega) (by omega)
  ·rw[My c1]
   by_cases c2:j=l
   ·subst c2
    rw[VZ rfl,My (by omega)]
    exact lo i (by omega)
   ·rw[My c2]
    by_cases c3:l < i/\i <= t
    ·rw[VZ c3,VZ ⟨by omega,by omega⟩]
     exact up _ _ (by omega) (by omega)
    ·rw[My c3]
     by_cases c4:l < j/\j <= t
     ·rw[VZ c4];exact up _ _ (by omega) (by omega)
     ·rw[My c4];exact up _ _ jy (by omega)
theorem GH (hc:pM n k I cmp) {s:Shared} {Q:Array Nat->Shared->Prop} (h1:1 <= n) (hi:I s) (fin:∀ p s',cS n p->Up k p n->I s'->Q p s'):(kas_sort n).kasWp cmp Q s:=by
 unfold kas_sort
 rw[KasT.kasWp_bind]
 refine OT hc ⟨q0z _⟩ h1 hi fun p m s' a b c d e => ?_
 dsimp only
 by_cases q:m < n
 ·rw[VZ q]
  have:max m 1=m:=by omega
  rw[this]
  exact GG hc (n - m) p m s' Q a (by omega) d e fin
 ·rw[My q]
  have:m=n:=by omega
  subst this
  exact fin p s' a d e
end
end L2
namespace L2
open PySem PySem.Spec PyProof.Rows
theorem GI {δ0:aC} {bI:aC->Prop} {g:WG} {b:WS} {K:KS} (I:Nat->aC->Prop):∀ (items:List D) (i:Nat) (δ : aC),I i δ →
  (∀ j d δ (L:aC->Prop),items[j]? = some d->I (i + j) δ -> (∀ δ',I (i + j + 1) δ'->L δ')->bI δ /\ g (.p d) δ fun δ1=>b { nx:=fun δ2=>L (δ0.trim δ2),ct:=fun δ2=>L (δ0.trim δ2),bk:=K.nx,rt:=K.rt } δ1) →
  (∀ δ,I (i + items.length) δ -> bI δ /\ K.nx δ)->mP δ0 bI g b K items δ
 | [],i,δ,h,_,fin=>fin δ h
 | d :: r,i,δ,h,st,fin=>by
  unfold mP
  refine st 0 d δ (fun δ'=>mP δ0 bI g b K r δ') rfl h fun δ' hi => ?_
  refine GI I r (i + 1) _ hi (fun j e δ L hj hI hL => ?_) fun δ hI => ?_
  ·have e:i + 1 + j=i + (j + 1):=by omega
   rw[e] at hI hL
   exact st (j + 1) _ δ L (by simpa using hj) hI hL
  ·exact fin δ (by rw[Mj];have e:i + 1 + r.length=i + (r.length + 1):=by omega
                   rw[e] at hI;exact hI)
theorem sY {δ0:aC} {bI:aC->Prop} {g:WG} {b:WS} {K:KS} {items:List D} {δ : aC} (I:Nat->aC->Prop) (h0:I 0 δ)
  (st:∀ j d δ (L:aC->Prop),items[j]? = some d->I j δ -> (∀ δ',I (j + 1) δ'->L δ')->bI δ /\ g (.p d) δ fun δ1=>b { nx:=fun δ2=>L (δ0.trim δ2),ct:=fun δ2=>L (δ0.trim δ2),bk:=K.nx,rt:=K.rt } δ1)
  (fin:∀ δ,I items.length δ -> bI δ /\ K.nx δ):mP δ0 bI g b K items δ :=
 GI I items 0 δ h0 (fun j d δ L hj hI hL=>by rw[XG] at hI hL;exact st j d δ L hj hI hL) fun δ hI=>by rw[XG] at hI;exact fin δ hI
noncomputable def vf (δ0:aC) (bI:aC->Prop) (g:WG) (t:WT) (f:WE) (d:D) (acc:List D) (δ : aC) (L:List D->aC->Prop):Prop :=
 bI δ /\ g (.p d) δ fun δ1=>t δ1 fun b δ2=>if b=true then f δ2 fun x δ3=>pB x δ3 fun e δ4=>acc.length < 1000/\L (acc ++ [e]) (δ0.trim δ4) else L acc (δ0.trim δ2)
theorem GJ {δ0:aC} {bI:aC->Prop} {g:WG} {t:WT} {f:WE} {K:List D->aC->Prop} (I:Nat->List D->aC->Prop):∀ (items:List D) (i:Nat) (acc:List D) (δ : aC),I i acc δ →
  (∀ j d acc δ (L:List D->aC->Prop),items[j]? = some d->I (i + j) acc δ -> (∀ cH δ',I (i + j + 1) cH δ'->L cH δ')->vf δ0 bI g t f d acc δ L) →
  (∀ acc δ,I (i + items.length) acc δ -> bI δ /\ K acc δ)->ka δ0 bI g t f K items acc δ
 | [],i,acc,δ,h,_,fin=>fin acc δ h
 | d :: r,i,acc,δ,h,st,fin=>by
  unfold ka
  refine st 0 d acc δ (fun cH δ'=>ka δ0 bI g t f K r cH δ') rfl h fun cH δ' hi => ?_
  refine GJ I r (i + 1) cH _ hi (fun j e acc δ L hj hI hL => ?_) fun acc δ hI => ?_
  ·have e:i + 1 + j=i + (j + 1):=by omega
   rw[e] at hI hL
   exact st (j + 1) _ acc δ L (by simpa using hj) hI hL
  ·exact fin acc δ (by rw[Mj];have e:i + 1 + r.length=i + (r.length + 1):=by omega
                       rw[e] at hI;exact hI)
theorem Bx {δ0:aC} {bI:aC->Prop} {g:WG} {t:WT} {f:WE} {K:List D->aC->Prop} {items:List D} {δ : aC} (I:Nat->List D->aC->Prop) (h0:I 0 [] δ)
  (st:∀ j d acc δ (L:List D->aC->Prop),items[j]? = some d->I j acc δ -> (∀ cH δ',I (j + 1) cH δ'->L cH δ')->vf δ0 bI g t f d acc δ L)
  (fin:∀ acc δ,I items.length acc δ -> bI δ /\ K acc δ):ka δ0 bI g t f K items [] δ :=
 GJ I items 0 [] δ h0 (fun j d acc δ L hj hI hL=>by rw[XG] at hI hL;exact st j d acc δ L hj hI hL) fun acc δ hI=>by rw[XG] at hI;exact fin acc δ hI
theorem GK {δ0:aC} {bI:aC->Prop} {g:WG} {t:WT} {f:WE} {K:List D->aC->Prop} {items:List D} (p:D->Bool) (fn:D->D) (hl:items.length <= 1000) (hc:bI δ0)
  (st:∀ d∈items,∀ acc (L:List D->aC->Prop),acc.length < 1000->(p d=true->L (acc ++ [fn d]) δ0)->(p d=false->L acc δ0)->vf δ0 bI g t f d acc δ0 L)
  (fin:K ((items.filter p).map fn) δ0):ka δ0 bI g t f K items [] δ0:=by
 refine Bx (fun i acc δ => δ = δ0/\acc=((items.take i).filter p).map fn) ⟨rfl,rfl⟩ ?_ ?_
 ·rintro j d acc δ L hj ⟨rfl,rfl⟩ hL
  have dY:=(qK.mp hj).1
  have hm:d∈items:=Xi hj
  have hn:(((items.take j).filter p).map fn).length < 1000:=by
   rw[sE]
   have:=List.length_filter_le p (items.take j)
   rw[WW] at this;omega
  have e:items.take (j + 1)=items.take j ++ [d]:=by rw[Zj,hj];rfl
  refine st d hm _ L hn (fun q=>hL _ _ ⟨rfl,?_⟩) (fun q=>hL _ _ ⟨rfl,?_⟩)
  ·rw[e,List.filter_append,Xk];simp[List.filter,q]
  ·rw[e,List.filter_append,Xk];simp[List.filter,q]
 ·rintro acc δ ⟨rfl,rfl⟩
  rw[Xw (wV _)]
  exact⟨hc,fin⟩
theorem mV {δ0:aC} {bI:aC->Prop} {g:WG} {t:WT} {f:WE} {K:List D->aC->Prop} {items:List D} (fn:D->D) (hl:items.length <= 1000) (hc:bI δ0)
  (st:∀ d∈items,∀ acc (L:List D->aC->Prop),acc.length < 1000->L (acc ++ [fn d]) δ0->vf δ0 bI g t f d acc δ0 L)
  (fin:K (items.map fn) δ0):ka δ0 bI g t f K items [] δ0 :=
 GK (fun _=>true) fn hl hc (fun d hd acc L ha h _=>st d hd acc L ha (h rfl)) (by rw[List.filter_eq_self.mpr fun _ _=>rfl];exact fin)
end L2
namespace LJ
open PySem L2
theorem OU:bootBuiltins "range" = some (.type "range"):=by decide +kernel
theorem OW:bootBuiltins "min" = some (.builtin "min"):=by decide +kernel
theorem GL:bootBuiltins "sorted" = some (.builtin "sorted"):=by decide +kernel
structure BT (mg:Str->Option Value):Prop where
 len:mg "len" = none
 range:mg "range" = none
 list:mg "list" = none
 tuple:mg "tuple" = none
 set:mg "set" = none
 sorted:mg "sorted" = none
 min:mg "min" = none
 max:mg "max" = none
 sum:mg "sum" = none
 all:mg "all" = none
 any:mg "any" = none
 enumerate:mg "enumerate" = none
 zip:mg "zip" = none
 isinstance:mg "isinstance" = none
 int:mg "int" = none
 bool:mg "bool" = none
 str:mg "str" = none
end LJ
namespace L2
open PySem PySem.Spec PyProof.Rows
variable [aV]
section
variable {X:Cx} {fa:WA} {pos:Pos}
theorem GP {F H:Hp} {ad:List Addr} {δ : aC} {σ : St} {p:Addr} (S:SR F ad δ σ H):iy F (ad ++ [p]) (.o δ.mu.length) (.ref p) :=
 ⟨p,by rw[<-S.cO,WH (wV _),XJ];rfl,rfl⟩
noncomputable def By (f g:WE):WE:=fun δ K=>f δ fun x δ1=>g δ1 fun y δ2=>jJ x δ2 fun d=>jJ y δ2 fun e=>match d,e with
 | .lst a,.lst b=>a.length + b.length <= 1000/\K (.o δ2.mu.length) ⟨δ2.sl,δ2.mu ++ [some (.lst (a ++ b))]⟩
 | _,_=>False
theorem OX {a b:Expr} {f g:WE} (ha:JE X a (tD f)) (hb:JE X b (tD g)):JE X (.BinOp a .Add b pos) (tD (By f g)) :=
 (qP wR ha hb).weak fun σ H Q h0_ => el7 h0_ fun F ad δ K S q k =>⟨F,ad,δ,_,S,q,fun x δ1 h1 v1 F1 bh H1 E1 S1 V1=>⟨F1,bh,δ1,_,S1,h1,fun y δ2 h2 v2 F2 dA H2 E2 S2 V2=>by
  obtain⟨d,h3,rd⟩:=j7 S2 (V1.ext E2) h2
  obtain⟨e,h4,re⟩:=j7 S2 V2 h3
  split at h4
  ·rename_i as bs
   obtain⟨a,us,rfl,g1,g2⟩:=rd
   obtain⟨b,ws,rfl,g3,g4⟩:=re
   have oi:hJ F2 (.lst (as ++ bs)) (.lst (us ++ ws)):=⟨_,rfl,sV g2 g4⟩
   exact⟨a,b,us,ws,rfl,rfl,g1,g3,lJ (by rw[g2.length,g4.length];exact h4.1),fun p hp=>k _ _ h4.2 _ _ _ _ ((E1.trans E2).trans (Ext.own S2 hp)) (S2.own hp oi) (GP S2)⟩
  ·exact h4.elim⟩⟩
theorem OY {st:Stmt}:JS X st (gs AZ):=⟨fun pins s D σ H I q=>by obtain⟨F,ad,δ,K,S,q,k⟩:=q;exact q.elim⟩
end
end L2
namespace LJS
open PySem PySem.SetTable PyProof.Rows
section
variable {prog:Program} {w:World} {A:Around} {S:Addr} {ks:List Int}
end
end LJS
namespace L2
open PySem PySem.Spec PyProof.Rows
section
variable {X:Cx}
end
end L2
namespace LJS
open PySem PySem.SetTable PyProof.Rows
noncomputable def gX (m:Nat) (p:Probe):Probe :=
 if p.more > 0 then { p with j:=p.j + 1,more:=p.more - 1 } else
 { p with j:=(leap m p.i p.perturb).1,more:=runEnd m (leap m p.i p.perturb).1 - (leap m p.i p.perturb).1,i:=(leap m p.i p.perturb).1,perturb:=(leap m p.i p.perturb).2 }
theorem GQ (t:SetTable) (p:Probe):t.advance p=gX t.mask p:=rfl
noncomputable def b8 (m:Nat):Nat->Probe->Probe
 | 0,p=>p
 | k + 1,p=>b8 m k (gX m p)
theorem yb (m:Nat):∀ (a b:Nat) (p:Probe),b8 m (a + b) p=b8 m b (b8 m a p)
 | 0,b,p=>by rw[XG];rfl
 | a + 1,b,p=>by rw[show a + 1 + b=a + b + 1 by omega];exact yb m a b (gX m p)
noncomputable def stM (m i q:Nat):Probe:=⟨i,runEnd m i - i,i,q,none⟩
noncomputable def startM (m:Nat) (h:Int):Probe:=stM m (bits h % (m + 1)) (bits h)
theorem Bz (m:Nat):∀ (l:Nat) (p:Probe),l <= p.more->b8 m l p={ p with j:=p.j + l,more:=p.more - l }
 | 0,p,_=>rfl
 | l + 1,p,h=>by
  show b8 m l (gX m p)=_
  have e:gX m p={ p with j:=p.j + 1,more:=p.more - 1 }:=by unfold gX;rw[VZ (by omega)]
  rw[e,Bz m l _ (by show l <= p.more - 1;omega)]
  congr 1<;>(dsimp only;omega)
theorem GS (m i q:Nat):b8 m (runEnd m i - i + 1) (stM m i q)=stM m (leap m i q).1 (leap m i q).2:=by
 rw[yb m (runEnd m i - i) 1,Bz m (runEnd m i - i) (stM m i q) (wV _)]
 show gX m _=_
 unfold gX
 rw[My (by show ¬ (runEnd m i - i - (runEnd m i - i) > 0);omega)]
 rfl
theorem GU {m i:Nat} (h:i <= m):runEnd m i <= m/\i <= runEnd m i:=by unfold runEnd;split<;>omega
noncomputable def pN (m:Nat) (p:Probe):Prop:=p.j + p.more <= m
theorem OZ {m:Nat} {p:Probe} (h:pN m p):pN m (gX m p):=by
 unfold gX pN
 split
 ·rename_i c;have:p.j + p.more <= m:=h;dsimp only;omega
 ·have:=GU (DQ m p.i p.perturb)
  dsimp only;omega
theorem GV {m:Nat}:∀ (k:Nat) {p:Probe},pN m p->pN m (b8 m k p)
 | 0,_,h=>h
 | k + 1,_,h=>GV k (OZ h)
theorem O0 (m:Nat) (h:Int):pN m (startM m h):=by
 have h0:bits h % (m + 1) <= m:=YG (Nat.mod_lt _ (Y_ _))
 have:=GU h0
 unfold startM stM pN
 dsimp only;omega
theorem GY (m:Nat) (h:Int) (k:Nat):(b8 m k (startM m h)).j <= m:=by
 have:=GV k (O0 m h)
 unfold pN at this;omega
noncomputable def pO (m:Nat) (yc:Nat->Prop) (h:Int) (j:Nat):Prop:=∃ k,k < 10 * turns m/\(b8 m k (startM m h)).j=j/\∀ l,l < k->yc (b8 m l (startM m h)).j
theorem pO.mono {m:Nat} {yc vg:Nat->Prop} {h:Int} {j:Nat} (r:pO m yc h j) (k:∀ x,x <= m->yc x->vg x):pO m vg h j:=by
 obtain⟨n,h1,h2,h3⟩:=r
 exact⟨n,h1,h2,fun l hl=>k _ (GY m h l) (h3 l hl)⟩
theorem GZ {m:Nat} {owner:Array (Option Nat)}:∀ (F i q j:Nat),layClean.free m owner F i q=some j->∃ k,k < 10 * F/\(b8 m k (stM m i q)).j=j/\∀ l,l < k->(owner.getD (b8 m l (stM m i q)).j (some 0)).isSome=true
 | 0,i,q,j,h=>by unfold layClean.free at h;cases h
 | F + 1,i,q,j,h=>by
  rw[yQ] at h
  have r9:=DU m i
  have ri:i <= runEnd m i:=by unfold runEnd;split<;>omega
  have lW:∀ l,l <= runEnd m i - i->(b8 m l (stM m i q)).j=i + l:=fun l hl=>by rw[Bz m l _ hl];rfl
  split at h
  ·rename_i k0 hk
   cases h
   have h1:=q0t hk
   have h2:=W9.mp (List.mem_of_find?_eq_some hk)
   refine⟨k0,by omega,lW k0 (by omega),fun l hl => ?_⟩
   rw[lW l (by omega)]
   have h3:∀ l,l < k0->¬ (owner.getD (i + l) (some 0)).isNone=true:=by
    intro l hl hn
    obtain⟨as,bs,e,hb⟩:=List.find?_eq_some_iff_append.mp hk |>.2
    have hlen:as.length=k0:=by
     have:=congrArg (fun x=>x[as.length]?) e
     simp at this
     have h5:as.length < runEnd m i + 1 - i:=by
      have:=congrArg List.length e
      simp at this;omega
     rw[XA h5] at this
     exact WR this
    have:l∈as:=by
     have h6:=congrArg (fun x=>x[l]?) e
     simp only[WB (show l < as.length by omega)] at h6
     rw[XA (by omega)] at h6
     exact Xi h6.symm
    have:=hb l this
    rw[hn] at this
    exact absurd this (by decide)
   have:=h3 l hl
   cases q:owner.getD (i + l) (some 0) with
   | none=>rw[q] at this;exact absurd rfl this
   | some _=>rfl
  ·rename_i hk
   have h1:=List.find?_eq_none.mp hk
   obtain⟨k,Wb,O1,O3⟩:=GZ F _ _ j h
   refine⟨runEnd m i - i + 1 + k,by omega,by rw[yb,GS];exact O1,fun l hl => ?_⟩
   by_cases c:l <= runEnd m i - i
   ·rw[lW l c]
    have:=h1 l (W9.mpr (by omega))
    cases q:owner.getD (i + l) (some 0) with
    | none=>rw[q] at this;exact absurd rfl this
    | some _=>rfl
   ·have:=O3 (l - (runEnd m i - i + 1)) (by omega)
    rw[show l=runEnd m i - i + 1 + (l - (runEnd m i - i + 1)) by omega,yb,GS]
    exact this
section
variable {t:SetTable} {f:Nat->Int} {h:Int}
theorem G0 (u:Up t.place) {i:Nat} (hi:i < t.place.size):t.slot t.place[i] = .live i:=by
 obtain⟨h0,h1,h2⟩:=wz u t.place[i]
 have a:¬ i < below t.place t.place[i]:=fun z=>by have:=h1 i hi z;omega
 have b:¬ below t.place t.place[i] < i:=fun z=>by
  have:=h2 (below t.place t.place[i]) (by omega) (wV _)
  have:=u.lt z hi
  omega
 have eb:below t.place t.place[i]=i:=by omega
 unfold slot
 rw[eb]
 have:(t.place[i]? == some t.place[i])=true:=by rw[V0 hi];simp
 simp only[this,Yf]
theorem G1 (hd:t.dummies = #[]):∀ (F:Nat) (p:Probe) (j:Nat) (d:Option Nat),probe.go t f h F p=some (.empty j d)->∃ k,k < F/\(b8 t.mask k p).j=j/\∀ l,l < k->(b8 t.mask l p).j∈t.place.toList
 | 0,p,j,d,e=>by unfold probe.go at e;cases e
 | F + 1,p,j,d,e=>by
  rw[qh] at e
  rcases tO hd p.j with q | ⟨i,q,hi,hm⟩
  ·rw[q] at e
   cases e
   exact⟨0,Y_ _,rfl,fun l hl=>absurd hl (Nat.not_lt_zero _)⟩
  ·rw[q] at e
   dsimp only at e
   split at e
   ·cases e
   ·obtain⟨k,h1,h2,h3⟩:=G1 hd F _ j d e
    rw[GQ] at h2 h3
    refine⟨k + 1,by omega,h2,fun l hl => ?_⟩
    cases l with
    | zero=>exact hm
    | succ l=>exact h3 l (by omega)
theorem G2 (hd:t.dummies = #[]) (u:Up t.place):∀ (k F:Nat) (p:Probe) (i0:Nat),k < F->t.slot (b8 t.mask k p).j = .live i0->f i0=h->(∀ l,l < k->(b8 t.mask l p).j∈t.place.toList)->∃ j i nx,probe.go t f h F p=some (.candidate j i nx)/\f i=h/\i < t.place.size
 | k,0,p,i0,hk,_,_,_=>absurd hk (Nat.not_lt_zero _)
 | 0,F + 1,p,i0,_,hs,hf,_=>by
  rw[qh,show t.slot p.j = .live i0 from hs]
  dsimp only
  rw[VZ (by rw[hf];simp)]
  refine⟨_,_,_,rfl,hf,?_⟩
  rcases tO hd p.j with q | ⟨i,q,hi,_⟩
  ·rw[show t.slot p.j = .live i0 from hs] at q;cases q
  ·rw[show t.slot p.j = .live i0 from hs] at q;cases q;exact hi
 | k + 1,F + 1,p,i0,hk,hs,hf,ho=>by
  have hm:=ho 0 (Y_ _)
  obtain⟨i,hi,ei⟩:=XX.mp hm
  have bZ:i < t.place.size:=by rw[<-Aa];exact hi
  have yW:t.place[i]=p.j:=by simpa [b8] using ei
  have sl:=G0 u bZ
  rw[yW] at sl
  rw[qh,sl]
  dsimp only
  by_cases c:f i=h
  ·rw[VZ (by rw[c];simp)]
   exact⟨_,_,_,rfl,c,bZ⟩
  ·rw[My (by simpa using c),GQ]
   exact G2 hd u k F _ i0 (by omega) hs hf fun l hl=>ho (l + 1) (by omega)
end
noncomputable def rE (owner:Array (Option Nat)) (j:Nat):Prop:=∃ k,owner[j]? = some (some k)
structure sZ (m:Nat) (hs:List Int) (owner:Array (Option Nat)) (k:Nat):Prop where
 ow:Ow m owner k
 s_:∀ (j i:Nat),owner[j]? = some (some i)->∃ h,hs[i]? = some h/\pO m (rE owner) h j
theorem G3 {owner:Array (Option Nat)} {j k x:Nat} (h:rE owner x):rE (owner.setIfInBounds j (some k)) x:=by
 obtain⟨i,e⟩:=h
 have hx:=(Xl.mp e).1
 by_cases c:j=x
 ·subst c
  exact⟨k,by rw[YE];simp[hx]⟩
 ·exact⟨i,by rw[YE];simp[c];exact e⟩
theorem O4 {m:Nat} {hs:List Int} {owner:Array (Option Nat)} {k:Nat} (hm:Mk m) (O:sZ m hs owner k) (hk:k <= m) {h:Int} (hh:hs[k]? = some h) :
  ∃ j,layClean.free m owner (turns m) (bits h % (m + 1)) (bits h)=some j/\sZ m hs (owner.setIfInBounds j (some k)) (k + 1):=by
 obtain⟨j,ej,O'⟩:=JH hm O.ow hk h
 refine⟨j,ej,O',fun x i e => ?_⟩
 rw[YE] at e
 by_cases c:j=x
 ·subst c
  have O5:j < owner.size:=by
   by_cases z:j < owner.size
   ·exact z
   ·simp[z] at e
  simp[O5] at e
  subst e
  refine⟨h,hh,?_⟩
  obtain⟨n,n1,n2,n3⟩:=GZ _ _ _ _ ej
  refine⟨n,n1,n2,fun l hl=>G3 ?_⟩
  have i_:=n3 l hl
  have le:=GY m h l
  have dY:(b8 m l (startM m h)).j < owner.size:=by rw[O.ow.size];omega
  have vh:(owner.getD (b8 m l (startM m h)).j (some 0)).isSome=true:=i_
  rw[show owner.getD (b8 m l (startM m h)).j (some 0)=owner[(b8 m l (startM m h)).j] by simp[Array.getD,dY]] at vh
  obtain⟨v,hv⟩:=Yu.mp vh
  exact⟨v,by rw[V0 dY,hv]⟩
 ·simp[c] at e
  obtain⟨h',e1,e2⟩:=O.s_ x i e
  exact⟨h',e1,e2.mono fun y _ hy=>G3 hy⟩
theorem G4 {m:Nat} (hm:Mk m) {all:List Int}:∀ (hs:List Int) (owner:Array (Option Nat)) (k:Nat),sZ m all owner k->all.drop k=hs->k + hs.length <= m + 1 →
  ∃ aY,(hs.foldl (init:=some (owner,k)) fun acc h=>do
   let (owner,k) <- acc
   let j <- layClean.free m owner (turns m) (bits h % (m + 1)) (bits h)
   pure (owner.setIfInBounds j (some k),k + 1))=some (aY,k + hs.length)/\sZ m all aY (k + hs.length)
 | [],owner,k,O,_,_=>⟨owner,rfl,O⟩
 | h :: hs,owner,k,O,hd,hl=>by
  rw[Mj] at hl ⊢
  have hk:k < all.length:=by
   have:=congrArg List.length hd
   rw[Xz,Mj] at this;omega
  rw[Xu hk] at hd
  have hh:all[k]? = some h:=by rw[qI hk];exact congrArg some (q0a hd).1
  obtain⟨j,ej,O'⟩:=O4 hm O (by omega) hh
  obtain⟨o2,e2,O2⟩:=G4 hm hs _ (k + 1) O' (q0a hd).2 (by omega)
  refine⟨o2,?_,by rw[show k + (hs.length + 1)=k + 1 + hs.length by omega];exact O2⟩
  rw[q0v,show k + (hs.length + 1)=k + 1 + hs.length by omega,<-e2]
  congr 1
  show (do let j <- layClean.free m owner (turns m) (bits h % (m + 1)) (bits h);pure (owner.setIfInBounds j (some k),k + 1))=_
  rw[ej];rfl
theorem O6 (m:Nat) (hs:List Int):sZ m hs (Array.replicate (m + 1) none) 0:=by
 refine⟨DZ m,fun j i e => ?_⟩
 rw[Array.getElem?_replicate] at e
 split at e<;>cases e
theorem O7 {m:Nat} (hm:Mk m) (hs:Array Int) (hz:hs.size <= m + 1):∃ owner,layClean m hs=some owner/\sZ m hs.toList owner hs.size:=by
 obtain⟨o,e,O⟩:=G4 hm hs.toList _ 0 (O6 m hs.toList) rfl (by rw[Aa];omega)
 rw[XG,Aa] at O
 refine⟨o,?_,O⟩
 unfold layClean
 rw[<-Array.foldl_toList,e];rfl
theorem O8 {m:Nat} (hm:Mk m) (t:SetTable) (hs:Array Int) (wanted:Nat) (hw:sizeAbove wanted - 1=m) (hz:hs.size <= m + 1) :
  ∃ t' order,t.relaid hs wanted=some (t',order)/\t'.mask=m/\t'.dummies = #[]/\t'.place.size=hs.size/\Up t'.place/\order.size=hs.size/\order.toList.Perm (List.range hs.size) ∧
   ∀ (i j k:Nat),t'.place[i]? = some j->order[i]? = some k->∃ h,hs[k]? = some h/\pO m (· ∈ t'.place.toList) h j:=by
 obtain⟨owner,e,O⟩:=O7 hm hs hz
 obtain⟨aY,e',_,OP⟩:=JZ hm hs hz
 have:aY=owner:=WR (e'.symm.trans e)
 subst this
 refine⟨{ mask:=m,place:=((jV m aY).map (·.1)).toArray,dummies := #[],finger:=t.finger,led:=t.led,moves:=t.movedTo m,plain:=t.plain },((jV m aY).map (·.2)).toArray,?_,rfl,rfl,?_,JR m aY,?_,?_,fun i j k h1 h2 => ?_⟩
 ·unfold relaid laid
  rw[hw,e];rfl
 ·rw[wU,sE,D0 O.ow]
 ·rw[wU,sE,D0 O.ow]
 ·show ((jV m aY).map (·.2)).Perm _
  rw[J0 O.ow.size]
  exact OP
 ·have h1:((jV m aY).map (·.1))[i]? = some j:=by simpa using h1
  have h2:((jV m aY).map (·.2))[i]? = some k:=by simpa using h2
  rw[VX] at h1 h2
  obtain⟨z,G5,rfl⟩:=WJ.mp h1
  obtain⟨z',G6,rfl⟩:=WJ.mp h2
  rw[G5] at G6;cases G6
  have zm:=Xi G5
  have own:∀ z∈jV m aY,aY[z.1]? = some (some z.2):=fun z hz=>by
   unfold jV at hz
   obtain⟨j',vi,O9⟩:=Yj.mp hz
   obtain⟨k',yd,rfl⟩:=WJ.mp O9
   have:j' < aY.size:=by rw[O.ow.size];exact W9.mp vi
   rw[show aY.getD j' none=aY[j'] by simp[Array.getD,this]] at yd
   rw[V0 this,yd]
  obtain⟨h,e1,e2⟩:=O.s_ _ _ (own z zm)
  refine⟨h,by rw[<-WU];exact e1,e2.mono fun x hx O_ => ?_⟩
  obtain⟨kx,G7⟩:=O_
  show x∈(jV m aY).map (·.1)
  refine WQ.mpr ⟨(x,kx),?_,rfl⟩
  unfold jV
  refine Yj.mpr ⟨x,W9.mpr (by omega),?_⟩
  have Pa:=(Xl.mp G7).1
  rw[show aY.getD x none=aY[x] by simp[Array.getD,Pa],(Xl.mp G7).2];rfl
structure oB (hk:Nat->Int) (ad:Nat->Addr) (t:SetTable) (es:Array (Int × Value)) (js:List Nat):Prop where
 P:gJ t es (js.map hk)
 up:Up t.place
 rF:(js.map hk).Nodup
 el:∀ e∈es.toList,∃ j∈js,e=(hk j,Value.ref (ad j))
 all:∀ j∈js,∃ e∈es.toList,e.1=hk j
 s_:∀ (i:Nat) (e:Int × Value) (j:Nat),es[i]? = some e->t.place[i]? = some j->pO t.mask (· ∈ t.place.toList) e.1 j
noncomputable def iA (hk:Nat->Int) (ad:Nat->Addr) (h:Heap) (S:Addr) (js:List Nat):Prop:=∃ o es ep t,h.get? S=some o/\o.ExactSet/\o.data = .set es ep t/\oB hk ad t es js
theorem G8 {hk:Nat->Int} {ad:Nat->Addr} {h h':Heap} {S:Addr} {js:List Nat} (x:iA hk ad h S js) (k:∀ o,h.get? S=some o->h'.get? S=some o):iA hk ad h' S js:=by
 obtain⟨o,es,ep,t,ho,r⟩:=x
 exact⟨o,es,ep,t,k o ho,r⟩
theorem G9 {α : Type} {xs:Array α} {p:Nat} {x : α} (hp:p <= xs.size) (i:Nat):(insertAt xs p x)[i]? = if i < p then xs[i]? else if i=p then some x else xs[i - 1]? := by
 have e:(insertAt xs p x).toList=xs.toList.take p ++ x :: xs.toList.drop p:=by
  unfold insertAt
  simp only[Array.toList_append,Zb,Array.toList_extract,Z1,ZO,Nat.sub_zero,YH,List.singleton_append]
  rw[Xw (l:=xs.toList.drop p) (by rw[Xz,Aa];exact wV _)]
 rw[<-WU,e]
 have hl:(xs.toList.take p).length=p:=by rw[WW,Aa];omega
 by_cases c:i < p
 ·rw[VZ c,WB (by omega),Xh c,WU]
 ·rw[My c,WH (by omega),hl]
  by_cases c2:i=p
  ·rw[VZ c2,c2,XJ];rfl
  ·rw[My c2]
   obtain⟨d,rfl⟩:∃ d,i=p + 1 + d:=⟨i - p - 1,by omega⟩
   rw[show p + 1 + d - p=d + 1 by omega,Y8,List.getElem?_drop,WU]
   congr 1
   omega
theorem Pb {α : Type} {es:Array α} {order:Array Nat} (h:∀ k∈order.toList,k < es.size) (i:Nat):(order.filterMap (es[·]?))[i]? = (order[i]?).bind fun k=>es[k]? := by
 have:∀ l:List Nat,(∀ k∈l,k < es.size)->∀ i:Nat,(l.filterMap fun k=>es[k]?)[i]? = (l[i]?).bind fun k=>es[k]? := by
  intro l
  induction l with
  | nil=>intro _ i;simp
  | cons k r ih =>
   intro hk i
   have sU:=hk k VV
   rw[X7]
   rw[V0 sU]
   dsimp only
   cases i with
   | zero=>simp[V0 sU]
   | succ i=>simpa using ih (fun k' iL=>hk k' (Mn _ iL)) i
 have e:=this order.toList h i
 rw[<-WU,Yz,e,WU]
section
variable {hk:Nat->Int} {ad:Nat->Addr} {t:SetTable} {es:Array (Int × Value)} {js:List Nat}
theorem oB.found (T:oB hk ad t es js) {h:Int} (hm:h∈js.map hk):∃ j i nx,t.probe (fun i=>(es[i]?.map (·.1)).getD 0) h (t.probeStart h)=some (.candidate j i nx)/\∃ e,es[i]? = some e/\e.1=h:=by
 obtain⟨j,hj,rfl⟩:=WQ.mp hm
 obtain⟨e,he,e1⟩:=T.all j hj
 obtain⟨i,hi,ei⟩:=XX.mp he
 have bZ:i < es.size:=by rw[<-Aa];exact hi
 have ee:es[i]? = some e:=by rw[V0 bZ];exact congrArg some (by simpa using ei)
 have hp:i < t.place.size:=by rw[T.P.oR];exact bZ
 have r:=T.s_ i e _ ee (V0 hp)
 rw[e1] at r
 obtain⟨k,k1,k2,k3⟩:=r
 have sl:=G0 T.up hp
 obtain⟨j',i',nx,h1,h2,h3⟩:=G2 (t:=t) (f:=fun i=>(es[i]?.map (·.1)).getD 0) (h:=hk j) T.P.tQ T.up k (10 * turns t.mask) (startM t.mask (hk j)) i k1 (by rw[k2];exact sl) (by rw[ee];exact e1) k3
 refine⟨j',i',nx,h1,?_⟩
 have dY:i' < es.size:=by rw[<-T.P.oR];exact h3
 exact⟨es[i'],V0 dY,by have:=h2;rw[V0 dY] at this;exact this⟩
end
section
variable {prog:Program} {w:World} {A:Around} {E:Value->Shared->Prop} {s:Shared} {ad:Nat->Addr} {ks:Nat->List Int} {js:List Nat} {S:Addr}
noncomputable abbrev aE (prog:Program) (w:World) (ks:Nat->List Int) (j:Nat):Int:=hT prog w (ks j)
theorem G_ {k:List Int} {a:Addr} {Q:Bool->Shared->Prop} (hk:IsTupleKey (intKind prog w) s.heap k a) (h:Q false s):wpAny (model prog w) A (ofAClassStatement 8 (.ref a)) Q E s:=by
 have hT:=hk.typeIs
 obtain⟨o,ag,n,ho,_,hd,hi⟩:=hk
 show wpAny _ _ (ofAClassStatement (7 + 1) (.ref a)) _ _ _
 unfold ofAClassStatement
 refine nN (ZM hT ?_)
 dsimp only
 refine nN ?_
 refine uq ?_
 simp only[Xd,Ml,Xc]
 refine nN (X0 ho hd ?_)
 dsimp only
 refine nN ?_
 show wpAny _ _ (forIn ag _ _) _ _ s
 rw[<-Y3]
 refine Zo _ (fun rest r s'=>s'=s/\r=(none,PUnit.unit)/\∀ v∈rest,∃ i t,v=Value.int i t) _ ?_ ?_ _ _ ⟨rfl,rfl,D2 hi⟩
 ·rintro v rest r s' ⟨rfl,rfl,gK⟩
  obtain⟨i,t,rfl⟩:=gK v VV
  have e:ofAClassStatement 7 (.int i t)=pure false:=by unfold ofAClassStatement;rfl
  rw[e]
  refine nN (uq ?_)
  simp only[Ml,Xc]
  exact uq ⟨rfl,rfl,fun u hu=>gK u (Mn _ hu)⟩
 ·rintro r s' ⟨rfl,rfl,_⟩
  exact uq h
theorem Pc {k:List Int} {a:Addr} {Q:Bool->Shared->Prop} {stored:List Value} (hx:IsTupleKey (intKind prog w) s.heap k a) (hy:∀ y∈stored,∃ k' b,y=Value.ref b/\IsTupleKey (intKind prog w) s.heap k' b) (h:Q false s):wpAny (model prog w) A (searchCouldBeSeen (.ref a) stored) Q E s:=by
 unfold searchCouldBeSeen
 refine nN ?_
 refine Zo _ (fun rest r s'=>s'=s/\r=(none,PUnit.unit)/\∀ y∈rest,∃ k' b,y=Value.ref b/\IsTupleKey (intKind prog w) s.heap k' b) _ ?_ ?_ _ _ ⟨rfl,rfl,hy⟩
 ·rintro v rest r s' ⟨rfl,rfl,gK⟩
  obtain⟨k',b,rfl,hb⟩:=gK v VV
  have pP:∀ y∈rest,∃ k' b,y=Value.ref b/\IsTupleKey (intKind prog w) s'.heap k' b:=fun u hu=>gK u (Mn _ hu)
  dsimp only
  refine wpAny_ite_split (fun _=>uq ⟨rfl,rfl,pP⟩) (fun _ => ?_)
  refine nN (wpAny_eqIsQuiet_tuple hx ?_)
  simp only[Xd,Ml,Xc]
  refine nN (wpAny_eqIsQuiet_tuple hb ?_)
  simp only[Xd,Ml,Xc]
  refine nN (G_ hx ?_)
  simp only[Ml,Xc]
  refine nN (G_ hb ?_)
  simp only[Ml,Xc]
  exact uq ⟨rfl,rfl,pP⟩
 ·rintro r s' ⟨rfl,rfl,_⟩
  exact uq h
theorem Pd {i:Nat} {o:Obj} {es:Array (Int × Value)} {ep:Nat} {t:SetTable} {Q:SetFound->Shared->Prop} (ho:s.heap.get? S=some o) (hd:o.data = .set es ep t) (T:oB (aE prog w ks) ad t es js) (hu:A.units < cLine)
  (keys:∀ j∈i :: js,IsTupleKey (intKind prog w) s.heap (ks j) (ad j)) (inj:∀ j∈js,aE prog w ks j=aE prog w ks i->ks j=ks i) (hm:aE prog w ks i∈js.map (aE prog w ks))
  (k:Q (.there none) s):wpAny (model prog w) A (setSearch S (.ref (ad i)) (aE prog w ks i) true) Q E s:=by
 unfold setSearch
 show wpAny _ _ (setSearchFrom S (.ref (ad i)) (aE prog w ks i) true (99999 + 1) none) _ _ _
 unfold setSearchFrom
 refine nN (Yt ho hd T.P.fits ?_)
 dsimp only
 rw[T.P.tT]
 simp only[Ml,↓reduceIte]
 obtain⟨j',i',nx,ej,e,ee,eh⟩:=T.found hm
 simp only[Zp]
 generalize hP:t.probe _ (aE prog w ks i) (t.probeStart (aE prog w ks i))=P
 have eP:P=some (.candidate j' i' nx):=hP.symm.trans ej
 rw[eP]
 dsimp only
 have em:e∈es.toList:=Xi (by rw[WU];exact ee)
 obtain⟨j,hj,rfl⟩:=T.el e em
 have ek:=inj j hj eh
 have kx:=keys i VV
 have ky:=keys j (Mn _ hj)
 have tail:wpAny (model prog w) A (do
   let some (_,y):=es[i']? | unsupported "internal:set-entry"
   let equal <- holding [y] (eqBool y (.ref (ad i)))
   let (tX,_,t') <- setState S
   if true && equal then return SetFound.there none
   let some same:=t'.sameMemory t.moves t.mask | unsupported "set.changed-during-lookup:is-the-new-block-at-the-old-address"
   let vj <- match (if same then t'.slot j' else .empty) with
    | .live i'=>match tX[i']? with
     | some (_,y')=>do pure (if <- isSame y' y then some i' else none)
     | none=>pure none
    | _=>pure none
   match vj with
   | none=>rule "set.search.anew";setSearchFrom S (.ref (ad i)) (aE prog w ks i) true 99999 none
   | some i'=>if equal then return SetFound.there (some i') else setSearchFrom S (.ref (ad i)) (aE prog w ks i) true 99999 (some nx)) Q E s:=by
  rw[ee]
  dsimp only
  refine nN (W6 (wpAny_eqBool_tuple hu ky kx ?_))
  refine nN (Yt ho hd T.P.fits ?_)
  dsimp only
  rw[WN ek]
  exact uq k
 refine wpAny_ite_split (fun _ => ?_) (fun _=>tail)
 refine nN (Pc kx (fun y hy => ?_) ?_)
 ·obtain⟨z,hz,rfl⟩:=WQ.mp hy
  have BA:z∈es.toList:=by
   have:=Zu.mp hz
   exact Zu.mpr (Array.mem_filter.mp this).1
  obtain⟨q,hq,rfl⟩:=T.el z BA
  exact⟨_,_,rfl,keys q (Mn _ hq)⟩
 ·exact tail
theorem Pf {i:Nat} {Q:Bool->Shared->Prop} (hS:iA (aE prog w ks) ad s.heap S js) (hl:js.length < 60) (hu:A.units < cLine)
  (keys:∀ j∈i :: js,IsTupleKey (intKind prog w) s.heap (ks j) (ad j)) (inj:∀ j∈js,aE prog w ks j=aE prog w ks i->ks j=ks i)
  (k:∀ (b:Bool) h',Heap.SameBut S s.heap h'->iA (aE prog w ks) ad h' S (if aE prog w ks i∈js.map (aE prog w ks) then js else js ++ [i])->Q b { s with heap:=h' }) :
  wpAny (model prog w) A (setAddHashed S (.ref (ad i)) (aE prog w ks i)) Q E s:=by
 obtain⟨o,es,ep,t,ho,hex,hd,T⟩:=hS
 unfold setAddHashed
 refine W6 ?_
 show wpAny _ _ (setAddHashedIn S (.ref (ad i)) (aE prog w ks i) (99999 + 1)) _ _ _
 unfold setAddHashedIn
 refine nN (Yt ho hd T.P.fits ?_)
 have hb:byScan (.ref (ad i)) es=false:=by unfold byScan;rfl
 dsimp only
 rw[hb]
 simp only[Ml,↓reduceIte]
 by_cases hm:aE prog w ks i∈js.map (aE prog w ks)
 ·refine nN (Pd ho hd T hu keys inj hm ?_)
  dsimp only
  refine uq ?_
  have e:s={ s with heap:=s.heap }:=by cases s;rfl
  rw[e]
  exact k false s.heap (Heap.SameBut.refl S s.heap) (by rw[VZ hm];exact⟨o,es,ep,t,ho,hex,hd,T⟩)
 rw[My hm] at k
 have kx:=keys i VV
 have hz:t.place.size <= t.mask:=by have:=T.P.lt;rw[T.P.oR];omega
 obtain⟨j0,BB⟩:=JD (t:=t) (f:=fun i=>(es[i]?.map (·.1)).getD 0) (h:=aE prog w ks i) T.P.tQ T.P.tR hz (fun i' bZ z=>by
  rw[T.P.oR] at bZ
  rw[V0 bZ] at z
  exact hm (by rw[<-show es[i'].1=aE prog w ks i from z];exact T.P.ins _ (Z6 bZ)))
 have nj:j0∉t.place.toList:=JU T.up (yV BB)
 have rj:pO t.mask (· ∈ t.place.toList) (aE prog w ks i) j0:=G1 T.P.tQ _ _ _ _ BB
 have sf:wpAny (model prog w) A (setSearch S (.ref (ad i)) (aE prog w ks i) true) (fun r s'=>r = .free j0 false/\s'=s) E s:=by
  unfold setSearch
  show wpAny _ _ (setSearchFrom S (.ref (ad i)) (aE prog w ks i) true (99999 + 1) none) _ _ _
  unfold setSearchFrom
  refine nN (Yt ho hd T.P.fits ?_)
  dsimp only
  rw[T.P.tT]
  simp only[Ml,↓reduceIte]
  simp only[Zp]
  generalize hP:t.probe _ (aE prog w ks i) (t.probeStart (aE prog w ks i))=P
  have eP:P=some (.empty j0 none):=hP.symm.trans BB
  rw[eP]
  exact uq ⟨rfl,rfl⟩
 refine nN (XF sf ?_ fun _ _ e=>e)
 rintro r s' ⟨rfl,rfl⟩
 dsimp only
 refine nN (Yt ho hd T.P.fits ?_)
 dsimp only
 obtain⟨p1,p2,p3,p4,p5,p6,p7⟩:=JK t T.P.tQ j0
 have up1:=JP T.up nj
 have pz:(t.put j0).2 <= t.place.size:=(wz T.up j0).1
 have fin:∀ b:Bool,wpAny (model prog w) A (do
   storeSet S (SetTable.insertAt es (t.put j0).2 (aE prog w ks i,.ref (ad i))) (if b=true then (t.put j0).1 else { (t.put j0).1 with plain:=false })
   if (!false && (if b=true then (t.put j0).1 else { (t.put j0).1 with plain:=false }:SetTable).tooFull)=true then do
       setRelay S (SetTable.grown (es.size + 1))
       pure true
    else pure true) Q E s':=by
  intro b
  generalize nQ:(if b=true then (t.put j0).1 else { (t.put j0).1 with plain:=false }:SetTable)=t2
  have q1:t2.dummies = #[]:=by rw[<-nQ];cases b<;>exact p1
  have q2:t2.mask=t.mask:=by rw[<-nQ];cases b<;>exact p2
  have q3:t2.place.size=es.size + 1:=by rw[<-nQ,<-T.P.oR];cases b<;>exact p3
  have q4:t2.place=insertAt t.place (t.put j0).2 j0:=by rw[<-nQ];cases b<;>rfl
  have q5:Up t2.place:=by rw[<-nQ];cases b<;>exact up1
  have oC:=JL es (t.put j0).2 (aE prog w ks i,Value.ref (ad i))
  have ye:(insertAt es (t.put j0).2 (aE prog w ks i,Value.ref (ad i))).toList.Perm (es.toList ++ [(aE prog w ks i,Value.ref (ad i))]):=by
   have:=SetTable.insertAt_perm es (t.put j0).2 (aE prog w ks i,Value.ref (ad i))
   rw[Zb] at this
   exact this
  have Pg:t2.place.toList.Perm (t.place.toList ++ [j0]):=by
   rw[q4]
   have:=SetTable.insertAt_perm t.place (t.put j0).2 j0
   rw[Zb] at this
   exact this
  have vk:∀ (x:Nat) (e:Int × Value) (j:Nat),(insertAt es (t.put j0).2 (aE prog w ks i,Value.ref (ad i)))[x]? = some e->t2.place[x]? = some j->pO t2.mask (· ∈ t2.place.toList) e.1 j:=by
   intro x e j h1 h2
   rw[q4,G9 pz] at h2
   rw[G9 (by rw[<-T.P.oR];exact pz)] at h1
   rw[q2]
   have more:∀ y,y <= t.mask->y∈t.place.toList->y∈t2.place.toList:=fun y _ hy=>Pg.mem_iff.mpr (XO _ hy)
   by_cases c:x < (t.put j0).2
   ·rw[VZ c] at h1 h2
    exact (T.s_ x e j h1 h2).mono more
   ·rw[My c] at h1 h2
    by_cases c2:x=(t.put j0).2
    ·rw[VZ c2] at h1 h2
     cases h1;cases h2
     exact rj.mono more
    ·rw[My c2] at h1 h2
     exact (T.s_ _ e j h1 h2).mono more
  generalize insertAt es (t.put j0).2 (aE prog w ks i,Value.ref (ad i))=gw at oC ye vk
  have BC:∀ e∈gw.toList,∃ j∈js ++ [i],e=(aE prog w ks j,Value.ref (ad j)):=fun e he=>by
   rcases Xo.mp (ye.mem_iff.mp he) with q | q
   ·obtain⟨j,hj,e1⟩:=T.el e q
    exact⟨j,XO _ hj,e1⟩
   ·exact⟨i,WM _ VV,Xq.mp q⟩
  have all2:∀ j∈js ++ [i],∃ e∈gw.toList,e.1=aE prog w ks j:=fun j hj=>by
   rcases Xo.mp hj with q | q
   ·obtain⟨e,he,e1⟩:=T.all j q
    exact⟨e,ye.mem_iff.mpr (XO _ he),e1⟩
   ·rw[Xq.mp q]
    exact⟨_,ye.mem_iff.mpr (WM _ VV),rfl⟩
  have vm:((js ++ [i]).map (aE prog w ks)).Nodup:=by
   rw[Xk]
   exact Ye.mpr ⟨T.rF,by simp,fun a ha b hb z=>hm (by rw[<-Xq.mp hb,<-z];exact ha)⟩
  have vn:∀ e∈gw.toList,e.1∈(js ++ [i]).map (aE prog w ks):=fun e he=>by
   obtain⟨j,hj,rfl⟩:=BC e he
   exact WQ.mpr ⟨j,hj,rfl⟩
  have vo:gw.size=((js ++ [i]).map (aE prog w ks)).length:=by rw[oC,T.P.num,sE,sE,Mm];rfl
  have Wc:es.size < 60:=by rw[T.P.num,sE];exact hl
  refine nN (wpAny_storeSet_of ho hd ?_ (by rw[oC,XB];omega))
  have k6:(s'.heap.update S (Obj.putSet gw t2)).get? S=some { o with data := .set gw (ep + 1) t2 }:=by
   have:=XR (Obj.putSet gw t2) ho (by rw[putSet_of gw t2 hd];rfl)
   rw[putSet_of gw t2 hd] at this;exact this
  have fl:t2.fill=es.size + 1:=by unfold SetTable.fill;rw[q1,q3];rfl
  have lt:=T.P.lt
  have vp:t2.fits gw.size=true:=by
   unfold SetTable.fits
   rw[fl,q3,oC,q2]
   simp
   rcases T.P.tR with e | e | e<;>rw[e] at lt ⊢ <;> omega
  by_cases tf:t2.tooFull=true
  ·rw[VZ (by rw[tf];rfl)]
   have BE:t.mask * 3 <= (es.size + 1) * 5:=by
    unfold tooFull at tf
    rw[fl,q2] at tf
    have:=YI tf
    omega
   obtain⟨m,BF,hw,gm⟩:∃ m,Mk m/\sizeAbove (grown (es.size + 1)) - 1=m/\(es.size + 1) * 5 < m * 3:=by
    rcases T.P.tR with e | e | e
    ·rw[e] at lt BE
     have:es.size + 1=5:=by omega
     rw[this]
     exact⟨31,.inr (.inl rfl),JM,by omega⟩
    ·rw[e] at lt BE
     have:es.size + 1=19:=by omega
     rw[this]
     exact⟨127,.inr (.inr rfl),JN,by omega⟩
    ·rw[e] at BE;omega
   refine nN ?_
   unfold setRelay
   refine nN (Yt k6 rfl vp ?_)
   dsimp only
   have Ph:¬ SetTable.sizeAbove (SetTable.grown (es.size + 1)) > sizeLine:=by
    rw[XB]
    rcases BF with e | e | e<;>omega
   rw[My Ph]
   obtain⟨t3,order,er,r1,r2,r3,r4,r5,r6,r7⟩:=O8 BF t2 (gw.map (·.1)) (grown (es.size + 1)) hw (by rw[q0G,oC];omega)
   rw[er]
   rw[q0G,oC] at r3 r5
   rw[q0G] at r6
   have Ha:∀ k∈order.toList,k < gw.size:=fun k hk=>W9.mp (r6.mem_iff.mp hk)
   obtain⟨o1,o2⟩:=JJ (es:=gw) (order:=order) Ha
   have og:=Pb (es:=gw) (order:=order) Ha
   refine nN ?_
   show wpAny _ _ (do
    if (order.filterMap (gw[·]?)).size != gw.size then
     unsupported "internal:set-table-lost-an-element"
    pure (order.filterMap (gw[·]?),t3)) _ _ _
   rw[My (by rw[o1,r5,oC];simp)]
   refine uq ?_
   dsimp only
   refine wpAny_storeSet_of k6 rfl ?_ (by rw[o1,r5,XB];omega)
   have fV:((s'.heap.update S (Obj.putSet gw t2)).update S (Obj.putSet (order.filterMap (gw[·]?)) t3)).get? S=some { o with data := .set (order.filterMap (gw[·]?)) (ep + 1 + 1) t3 }:=by
    have:=XR (Obj.putSet (order.filterMap (gw[·]?)) t3) k6 (by rw[putSet_of _ t3 rfl];rfl)
    rw[putSet_of _ t3 rfl] at this;exact this
   refine uq (k true _ ((Xn ..).trans (Xn ..)) ⟨_,_,_,_,fV,hex,rfl,⟨r2,by rw[r1];exact BF,by rw[r3,o1,r5],by rw[o1,r5,<-oC];exact vo,?_,fun e he=>vn e (o2 e he)⟩,r4,vm,fun e he=>BC e (o2 e he),fun j hj => ?_,fun x e j h1 h2 => ?_⟩)
   ·unfold tooFull SetTable.fill
    rw[r2,r3,r1]
    simp
    omega
   ·obtain⟨e,he,e1⟩:=all2 j hj
    obtain⟨x,hx,ex⟩:=XX.mp he
    have nP:x < gw.size:=by rw[<-Aa];exact hx
    have:x∈order.toList:=r6.mem_iff.mpr (W9.mpr nP)
    refine⟨e,?_,e1⟩
    rw[Yz]
    exact Yj.mpr ⟨x,this,by rw[V0 nP];exact congrArg some (by simpa using ex)⟩
   ·rw[og] at h1
    cases q:order[x]? with
    | none=>rw[q] at h1;cases h1
    | some Hb =>
     rw[q] at h1
     have h1:gw[Hb]? = some e:=h1
     obtain⟨hh,g1,g2⟩:=r7 x j Hb h2 q
     rw[Array.getElem?_map,h1] at g1
     cases g1
     rw[r1]
     exact g2
  ·have Hc:t2.tooFull=false:=by cases q:t2.tooFull<;>simp_all
   rw[My (by rw[Hc];decide)]
   exact uq (k true _ (Xn ..) ⟨_,_,_,_,k6,hex,rfl,⟨q1,by rw[q2];exact T.P.tR,by rw[q3,oC],vo,Hc,vn⟩,q5,vm,BC,all2,vk⟩)
 by_cases hp:(t.put j0).1.plain=true
 ·rw[VZ hp]
  refine nN (J7 kx fun b => ?_)
  exact fin b
 ·rw[My hp]
  refine nN (uq ?_)
  exact fin true
end
noncomputable def iQ (hk:Nat->Int):Nat->List Nat
 | 0=>[]
 | i + 1=>if hk i∈(iQ hk i).map hk then iQ hk i else iQ hk i ++ [i]
theorem Hd (hk:Nat->Int):∀ i,(iQ hk i).length <= i
 | 0=>wV _
 | i + 1=>by
  have:=Hd hk i
  unfold iQ
  split
  ·omega
  ·rw[Mm,W_];omega
theorem yf (hk:Nat->Int):∀ i,∀ j∈iQ hk i,j < i
 | 0,j,h=>nomatch h
 | i + 1,j,h=>by
  unfold iQ at h
  split at h
  ·have:=yf hk i j h;omega
  ·rcases Xo.mp h with h | h
   ·have:=yf hk i j h;omega
   ·rw[Xq.mp h];omega
theorem Pj {hk:Nat->Int} {ad:Nat->Addr} {h:Heap} {S:Addr} {led:Bool} (e:h.get? S=some (ip led)):iA hk ad h S [] :=
 ⟨_,#[],0,_,e,⟨rfl,rfl,rfl⟩,rfl,⟨rfl,.inl rfl,rfl,rfl,by cases led<;>decide,fun _ h=>nomatch h⟩,List.Pairwise.nil,ZX,(fun _ h=>nomatch h),(fun _ h=>nomatch h),fun i e j h=>by simp at h⟩
section
variable {prog:Program} {w:World} {A:Around} {R:Result->Shared->Prop} {I S:Addr} {fp wr:List Addr} {G:Array GenState->Array GenState->Prop} {n:Nat} {P:Nat->Value->Prop} {St:Nat->Shared->Prop}
theorem Pk (W:WalksS prog w A.in1 I fp wr G n P St) (out:S∉fp) (ad:Nat->Addr) (ks:Nat->List Int) (rG:∀ i v,P i v->v = .ref (ad i)) (apart:∀ i,i < n->ad i∉S :: wr) (room:A.in1.units < cLine)
  (inj:∀ i j,i < n->j < i->hT prog w (ks j)=hT prog w (ks i)->ks j=ks i) (lH:n <= 30) :
  ∀ (left i:Nat) (s:Shared),i + left=n->St i s->(∀ j,j < n->IsTupleKey (intKind prog w) s.heap (ks j) (ad j))->iA (aE prog w ks) ad s.heap S (iQ (aE prog w ks) i) →
   (∀ s',Moved (S :: wr) G s s'->iA (aE prog w ks) ad s'.heap S (iQ (aE prog w ks) n)->R (.ok (.ret .none)) s') →
   codeAny (model prog w) A (.builtin "set.update.loop" ⟨[.ref S,.ref I],[]⟩) R s:=by
 have vq:S∉wr:=fun z=>out (W.sub _ z)
 have more:∀ b,b∈wr->b∈S :: wr:=fun b hb=>Mn _ hb
 intro left
 induction left with
 | zero =>
  intro i s hi st tk se fin
  obtain rfl:i=n:=by omega
  refine Y0 F.entry_set_update_loop ?_
  rw[YK Y9 _]
  show wpAny _ A.in1 (pyNext (.ref I) >>= _) _ _ s
  refine nN (W.done s _ _ st fun s' mv => ?_)
  show wpAny _ A.in1 (ret Value.none) _ _ s'
  exact uq (fin s' (mv.mono more) (G8 se fun o e=>mv.heap S o vq e))
 | succ left ih =>
  intro i s hi st tk se fin
  have dY:i < n:=by omega
  refine Y0 F.entry_set_update_loop ?_
  rw[YK Y9 _]
  show wpAny _ A.in1 (pyNext (.ref I) >>= _) _ _ s
  refine nN (W.item i s _ _ dY st fun v s1 hP kW mv => ?_)
  obtain rfl:=rG i v hP
  have nY:∀ j,j < n->IsTupleKey (intKind prog w) s1.heap (ks j) (ad j):=fun j hj=>yY (tk j hj) fun o e=>mv.heap _ o (fun z=>apart j hj (more _ z)) e
  show wpAny _ A.in1 (holding [Value.ref (ad i)] (setAdd S (.ref (ad i))) >>= _) _ _ s1
  refine nN (W6 ?_)
  unfold setAdd
  refine W6 (nN (wpAny_pyHash_tuple room (nY i dY) ?_))
  have fl:=yf (aE prog w ks) i
  refine Pf (s:={ s1 with toks:=s1.toks + ((ks i).length + 1) }) (i:=i) (js:=iQ (aE prog w ks) i) (G8 se fun o e=>mv.heap S o vq e) (by have:=Hd (aE prog w ks) i;omega) room (fun j hj => ?_) (fun j hj e=>inj i j dY (fl j hj) e) fun bb h2 sb Pl => ?_
  ·rcases EZ.mp hj with rfl | hj
   ·exact nY _ dY
   ·exact nY j (by have:=fl j hj;omega)
  ·have nS:∀ b,b∈fp->b≠S:=fun b hb z=>out (by rw[<-z];exact hb)
   refine uq ⟨plainId_quiet Y9 _,ih (i + 1) _ (by omega) (W.frame _ s1 _ _ kW (XQ _ _) fun b hb o e=>by rw[sb.2 b (nS b hb)];exact e) (fun j hj=>yY (nY j hj) fun o e => ?_) Pl fun s3 Pn Po => ?_⟩
   ·rw[sb.2 _ (fun z=>apart j hj (by rw[z];exact VV))];exact e
   ·refine fin s3 (Moved.trans W.gtrans ((mv.mono more).then_heap (XQ _ _) fun b o hb e => ?_) Pn) Po
    rw[sb.2 b (fun z=>hb (by rw[z];exact VV))];exact e
end
section
variable {prog:Program} {w:World} {A:Around} {E:Value->Shared->Prop} {s:Shared}
set_option maxHeartbeats 3200000 in
theorem Pp {l:Addr} {items:Array Value} {Q:Value->Shared->Prop} (ad:Nat->Addr) (ks:Nat->List Int) (hh:A.handled=none) (room:A.units + 8 < cLine) (Pq:s.heap.IsList l items) (rG:∀ (i:Nat) (v:Value),items[i]? = some v->v = .ref (ad i))
  (tk:∀ i,i < items.size->IsTupleKey (intKind prog w) s.heap (ks i) (ad i)) (inj:∀ i j,i < items.size->j < i->hT prog w (ks j)=hT prog w (ks i)->ks j=ks i) (lH:items.size <= 30)
  (fin:∀ (h':Heap) (tk:Nat),iA (aE prog w ks) ad h' s.heap.objs.size (iQ (aE prog w ks) items.size)->(∀ b o,b < s.heap.objs.size->s.heap.get? b=some o->h'.get? b=some o)->Q (.ref s.heap.objs.size) { s with heap:=h',toks:=tk }) :
  wpAny (model prog w) A (call (.type "set") [.ref l]) Q E s:=by
 obtain⟨c,tl,Pr⟩:=YD.mro
 have m1:=YD.made
 have m2:=YD.sub
 have m3:=YD.notType
 have m4:=YD.canCreate
 have m5:=F.typeCall_set_1 (.ref l)
 refine q0n (codeAny_of_tree ?_)
 show wpAny _ _ (callAny (.type "set") _) _ _ _
 refine uq ⟨Code.quiet_builtin _ (by decide +kernel),Y0 F.entry_type_call ?_⟩
 rw[Around.under_plain (weight_type_call_type "set" [.ref l] []) rfl]
 repeat (any_goals (first | assumption | wp_step))
 refine ZL (code_set_new_1 (.ref l) (E:=E) (Q₁ := fun r s1=>∃ led:Bool,r = .ref s.heap.objs.size/\s1={ s with heap:=s.heap.push (ip led) }) fun led=>⟨led,rfl,rfl⟩) fun r s1 hr => ?_
 cases r with
 | error e=>exact hr
 | ok fl =>
  cases fl with
  | ret obj =>
   obtain⟨led,rfl,rfl⟩:=hr
   have gS:(s.heap.push (ip led)).get? s.heap.objs.size=some (ip led):=VW _ rfl
   have tS:Shared.TypeIs { s with heap:=s.heap.push (ip led) } (.ref s.heap.objs.size) "set" := ⟨_,gS,rfl⟩
   have m6:=YD.init.lookup
   have m7:=YD.init.bind (.ref s.heap.objs.size)
   repeat (any_goals (first | assumption | wp_step))
   refine ZL (codeAny_call_builtin (R:=wants (fun r s2=>r = .none/\∃ h' tk,s2={ s with heap:=h',toks:=tk }/\iA (aE prog w ks) ad h' s.heap.objs.size (iQ (aE prog w ks) items.size) ∧
     ∀ b o,b < s.heap.objs.size->s.heap.get? b=some o->h'.get? b=some o) E) YD.init.plain F.entry_set_init (check_set_init_1 tS ?_)) fun r2 s2 vt => ?_
   ·obtain⟨ol,gl,cl,nl,dl⟩:=Pq
    obtain⟨c0,d0,Wd,Pt⟩:=ol
    simp only at cl dl
    subst cl
    subst dl
    have Pu:(s.heap.push (ip led)).get? l=some { cls := .type "list",dict:=d0,data := .seq items nl,slots:=Pt }:=qJ _ gl
    have x1:=F.sub_list_set
    have x2:=F.sub_list_frozenset
    have x3:(Value.type "list" == Value.type "dict")=false:=by decide
    have vv:(s.heap.push (ip led)).IsList l items:=⟨_,Pu,rfl,nl,rfl⟩
    have ll:l < s.heap.objs.size:=EW gl
    unfold Builtin.«set.__init__» noKeywords Builtin.Frozenset.updateFrom
    generalize Pw:pyIter=PI
    wp_walk
    subst Pw
    refine YJ vv (nN (wpAny_runValue ?_))
    have h3:A.in1.in1.in1.handled=none:=by simp[hh]
    have ez:(s.heap.push (ip led)).objs.size=s.heap.objs.size + 1:=Yk ..
    have nI:l≠(s.heap.push (ip led)).objs.size:=by rw[ez];exact WL (XZ ll)
    have lt:∀ i,i < items.size->ad i < s.heap.objs.size:=fun i hi=>by
     obtain⟨o,_,_,e,_⟩:=tk i hi
     exact EW e
    refine Pk ((Walks.list h3 _ l nI items).toS) (S:=s.heap.objs.size) ?out ad ks (fun i v hv=>rG i v hv) ?apart ?room inj lH items.size 0 _ (XG _)
     ⟨⟨_,VW _ rfl,rfl,rfl⟩,vv.push _⟩ ?tk ?fresh ?fin
    case out =>
     simp only[EZ,WC,Xy,not_or,ez]
     exact⟨WL (Zn _),Ya ll⟩
    case apart =>
     intro i hi
     have:=lt i hi
     simp only[EZ,WC,Xy,not_or,ez]
     exact⟨WL this,WL (XZ this)⟩
    case room =>
     show A.units + 1 + 1 + 1 < cLine
     exact Y2 (Nat.add_le_add_left (by decide:3 <= 8) _) room
    case tk =>
     intro j hj
     exact yY (tk j hj) fun o e=>qJ _ (qJ _ e)
    case fresh =>
     exact Pj (led:=led) (qJ _ gS)
    case fin =>
     intro s' mv se
     obtain⟨h',g',d',He,zD⟩:=s'
     obtain rfl:g'=s.gens:=mv.gens
     obtain rfl:d'=s.drawn:=mv.drawn
     obtain rfl:zD=s.os:=mv.os
     show wpAny _ _ _ _ _ _
     refine uq ?_
     show wpAny _ _ (ret Value.none) _ _ _
     refine uq ⟨rfl,h',He,rfl,se,fun b o hb e => ?_⟩
     refine mv.heap b o ?_ (qJ _ (qJ _ e))
     simp only[EZ,WC,Xy,not_or,ez]
     exact⟨WL hb,WL (XZ hb)⟩
   ·cases r2 with
    | error e=>exact vt
    | ok Px =>
     cases Px with
     | ret r =>
      obtain⟨rfl,h',He,rfl,se,kp⟩:=vt
      repeat (any_goals (first | assumption | wp_step))
      exact fin _ _ se kp
     | next=>exact vt
     | brk=>exact vt
     | cont=>exact vt
  | next=>exact hr
  | brk=>exact hr
  | cont=>exact hr
end
end LJS
namespace L2
open PySem PySem.Spec PyProof.Rows
variable [aV]
noncomputable def pQ:List D->Option (List (Int × Int))
 | []=>some []
 | .tup [.int i,.int j] :: r=>match pQ r with
  | some ps=>some ((i,j) :: ps)
  | none=>none
 | _=>none
theorem Hf:∀ {ds:List D} {ps:List (Int × Int)},pQ ds=some ps->ds=ps.map fun p => .tup [.int p.1,.int p.2]
 | [],ps,h=>by cases h;rfl
 | .tup [.int i,.int j] :: r,ps,h=>by
  unfold pQ at h
  split at h
  ·rename_i qs e
   cases h
   rw[Hf e];rfl
  ·cases h
theorem Hg:∀ ps:List (Int × Int),pQ (ps.map fun p=>D.tup [.int p.1,.int p.2])=some ps
 | []=>rfl
 | p :: r=>by
  show pQ (.tup [.int p.1,.int p.2] :: r.map _)=_
  unfold pQ
  rw[Hg r]
noncomputable def hW (ps:List (Int × Int)):Nat->List (Int × Int)
 | 0=>[]
 | i + 1=>if ps.getD i (0,0)∈hW ps i then hW ps i else hW ps i ++ [ps.getD i (0,0)]
theorem BG (ps:List (Int × Int)):∀ i,(hW ps i).length <= i
 | 0=>wV _
 | i + 1=>by
  have:=BG ps i
  unfold hW
  split
  ·omega
  ·rw[Mm,W_];omega
theorem Hh {ps:List (Int × Int)} (hn:ps.Nodup):∀ i,i <= ps.length->hW ps i=ps.take i
 | 0,_=>rfl
 | i + 1,h=>by
  have hi:i < ps.length:=by omega
  have e:ps.getD i (0,0)=ps[i]:=by rw[EX,qI hi];rfl
  unfold hW
  rw[Hh hn i (by omega),e,My ?_,Zj,qI hi]
  ·rfl
  ·intro hm
   obtain⟨j,hj,ej⟩:=XX.mp hm
   rw[WW] at hj
   rw[List.getElem_take] at ej
   have:=(q0f (h₀ := by omega) (h₁ := hi) hn).mp ej
   omega
theorem Py {ps:List (Int × Int)} (hl:(hW ps ps.length).length=ps.length):ps.Nodup:=by
 have key:∀ i,i <= ps.length->(hW ps i).length=i->(ps.take i).Nodup/\hW ps i=ps.take i:=by
  intro i
  induction i with
  | zero=>intro _ _;exact⟨ZX,rfl⟩
  | succ i ih =>
   intro hi hlen
   have bZ:i < ps.length:=by omega
   have le:=BG ps i
   have e:ps.getD i (0,0)=ps[i]:=by rw[EX,qI bZ];rfl
   unfold hW at hlen ⊢
   split at hlen
   ·omega
   ·rename_i hn
    rw[Mm,W_] at hlen
    obtain⟨h1,h2⟩:=ih (by omega) (by omega)
    rw[My hn,h2,Zj,qI bZ,e]
    refine⟨?_,rfl⟩
    rw[h2,e] at hn
    exact Ye.mpr ⟨h1,by simp,fun a ha b hb z=>hn (by
     have hb:b=ps[i]:=by simpa using hb
     rw[<-hb,<-z];exact ha)⟩
 have:=(key ps.length (wV _) hl).1
 rwa [Xw (wV _)] at this
section
variable {X:Cx} {fa:WA}
theorem Hi {F:Hp}:∀ {ps:List (Int × Int)} {vs:List V},af F (ps.map fun p=>D.tup [.int p.1,.int p.2]) vs->∃ as:List Addr,vs=as.map V.ref/\as.length=ps.length/\∀ (i:Nat) (a:Addr) (k:Int × Int),as[i]? = some a->ps[i]? = some k->F a=some (.tup [.int k.1,.int k.2])
 | [],vs,h=>by
  have h:vs=[]:=by simpa only [YM,af] using h
  subst h
  exact⟨[],rfl,rfl,fun i a k e=>by simp at e⟩
 | p :: r,vs,h=>by
  rw[W8] at h
  simp only[af] at h
  obtain⟨v,r',rfl,h1,h2⟩:=h
  obtain⟨as,rfl,hl,g⟩:=Hi h2
  simp only[Is] at h1
  obtain⟨a,us,rfl,e1,e2⟩:=h1
  simp only[af,Is] at e2
  obtain⟨_,_,rfl,rfl,_,_,rfl,rfl,rfl⟩:=e2
  refine⟨a :: as,rfl,by rw[Mj,Mj,hl],fun i b k eb ek => ?_⟩
  cases i with
  | zero =>
   cases (show some a=some b by simpa using eb)
   cases (show some p=some k by simpa using ek)
   exact e1
  | succ i=>exact g i b k (by simpa using eb) (by simpa using ek)
theorem Pz (hc:X.calm=true) (hu:X.A.units + 64 < cLine):jm X (.type "set") (fun xs H Q=>∃ (l:Addr) (ps:List Addr) (ks:List (Int × Int)),xs=[.ref l]/\bo X.K H l (ps.map V.ref)/\ps.length=ks.length ∧
  (∀ (i:Nat) (a:Addr) (k:Int × Int),ps[i]? = some a->ks[i]? = some k->H a=some (.tup [.int k.1,.int k.2]))/\(∀ k∈ks,0 <= k.1/\k.1 < k.2/\k.2 < 12)/\ks.length <= 30/\∀ p,H p=none->Q (.ref p) (upd H p (lG p (hW ks ks.length).length))):=by
 intro pins s σ H xs us Q I r h
 obtain⟨l,ps,ks,rfl,hq,hl,cX,bd,lH,q⟩:=h
 obtain⟨u,rfl,rx⟩:=vals1 r
 cases rx
 obtain⟨ag,r',pl,_⟩:=I.list hq
 obtain rfl:=FF r'
 have sz:(ps.map Value.ref).toArray.size=ks.length:=by rw[wU,sE,hl]
 have rH:∀ i,i < ks.length->∃ k,ks[i]? = some k/\ks.getD i (0,0)=k:=fun i hi=>⟨ks[i],qI hi,by rw[EX,qI hi];rfl⟩
 have BH:∀ i,i < ks.length->∃ a,ps[i]? = some a/\ps.getD i 0=a:=fun i hi=>⟨ps[i]'(by rw[hl];exact hi),qI (by rw[hl];exact hi),by rw[EX,qI (by rw[hl];exact hi)];rfl⟩
 have same:∀ i j,i < ks.length->j < ks.length->LJS.hT X.prog X.w [(ks.getD j (0,0)).1,(ks.getD j (0,0)).2]=LJS.hT X.prog X.w [(ks.getD i (0,0)).1,(ks.getD i (0,0)).2]->ks.getD j (0,0)=ks.getD i (0,0):=fun i j hi hj z=>by
  obtain⟨k,ek,dk⟩:=rH i hi
  obtain⟨k',yd,Hj⟩:=rH j hj
  rw[dk,Hj,LJS.FD,LJS.FD] at z
  rw[dk,Hj]
  have b1:=bd k (WK.mpr ⟨i,ek⟩)
  have b2:=bd k' (WK.mpr ⟨j,yd⟩)
  exact LJS.NW (k'.1,k'.2) (LJS.FE b2.1 b2.2.1 b2.2.2) (k.1,k.2) (LJS.FE b1.1 b1.2.1 b1.2.2) z
 refine LJS.Pp (fun i=>ps.getD i 0) (fun i=>[(ks.getD i (0,0)).1,(ks.getD i (0,0)).2]) (I.ok.hd hc) (by omega) pl.isList (fun i v hv => ?_) (fun i hi => ?_) (fun i j hi hj z => ?_) (by rw[sz];exact lH) fun h' tk se kp => ?_
 ·rw[Yo,VX] at hv
  obtain⟨a,ea,rfl⟩:=WJ.mp hv
  rw[EX,ea];rfl
 ·rw[sz] at hi
  obtain⟨k,ek,dk⟩:=rH i hi
  obtain⟨a,ea,da⟩:=BH i hi
  show IsTupleKey _ _ [(ks.getD i (0,0)).1,(ks.getD i (0,0)).2] (ps.getD i 0)
  rw[dk,da]
  obtain⟨_,bc,r2,o,ho,pR,n,hd⟩:=I.aO a _ (cX i a k ea ek)
  cases r2 with
  | cons ra rr =>
   cases rr with
   | cons rb rn =>
    cases rn
    obtain⟨t1,rfl⟩:=ra
    obtain⟨t2,rfl⟩:=rb
    exact⟨o,_,n,ho,pR,hd,.cons (intKind_is ..) (.cons (intKind_is ..) .nil)⟩
 ·rw[sz] at hi
  have:=same i j hi (by omega) z
  show [(ks.getD j (0,0)).1,(ks.getD j (0,0)).2]=[(ks.getD i (0,0)).1,(ks.getD i (0,0)).2]
  rw[this]
 ·have key:∀ n,n <= ks.length->(LJS.iQ (LJS.aE X.prog X.w fun i=>[(ks.getD i (0,0)).1,(ks.getD i (0,0)).2]) n).map (fun i=>ks.getD i (0,0))=hW ks n:=by
   intro n
   induction n with
   | zero=>intro _;rfl
   | succ n ih =>
    intro hn
    have ih:=ih (by omega)
    unfold LJS.iQ hW
    rw[<-ih]
    by_cases c:ks.getD n (0,0)∈(LJS.iQ (LJS.aE X.prog X.w fun i=>[(ks.getD i (0,0)).1,(ks.getD i (0,0)).2]) n).map (fun i=>ks.getD i (0,0))
    ·obtain⟨j,hj,ej⟩:=WQ.mp c
     have:LJS.aE X.prog X.w (fun i=>[(ks.getD i (0,0)).1,(ks.getD i (0,0)).2]) n∈(LJS.iQ (LJS.aE X.prog X.w fun i=>[(ks.getD i (0,0)).1,(ks.getD i (0,0)).2]) n).map (LJS.aE X.prog X.w fun i=>[(ks.getD i (0,0)).1,(ks.getD i (0,0)).2]):=by
      refine WQ.mpr ⟨j,hj,?_⟩
      have ej:ks.getD j (0,0)=ks.getD n (0,0):=ej
      show LJS.hT _ _ [(ks.getD j (0,0)).1,(ks.getD j (0,0)).2]=LJS.hT _ _ [(ks.getD n (0,0)).1,(ks.getD n (0,0)).2]
      rw[ej]
     rw[VZ c,VZ this]
    ·have:LJS.aE X.prog X.w (fun i=>[(ks.getD i (0,0)).1,(ks.getD i (0,0)).2]) n∉(LJS.iQ (LJS.aE X.prog X.w fun i=>[(ks.getD i (0,0)).1,(ks.getD i (0,0)).2]) n).map (LJS.aE X.prog X.w fun i=>[(ks.getD i (0,0)).1,(ks.getD i (0,0)).2]):=fun z=>by
      obtain⟨j,hj,ej⟩:=WQ.mp z
      have BI:=LJS.yf _ n j hj
      exact c (WQ.mpr ⟨j,hj,same n j (by omega) (by omega) ej⟩)
     rw[My c,My this,Xk];rfl
  obtain⟨o,es,ep,t,ho,hex,hd,T⟩:=se
  have hlen:((LJS.iQ (LJS.aE X.prog X.w fun i=>[(ks.getD i (0,0)).1,(ks.getD i (0,0)).2]) ks.length).map (LJS.aE X.prog X.w fun i=>[(ks.getD i (0,0)).1,(ks.getD i (0,0)).2])).length=(hW ks ks.length).length:=by
   rw[<-key ks.length (wV _),sE,sE]
  have T':=T.P
  rw[sz] at T'
  have PB:LJS.lb h' s.heap.objs.size _:=⟨o,es,ep,t,ho,hex,hd,T'⟩
  exact⟨.ref s.heap.objs.size,upd H s.heap.objs.size (lG s.heap.objs.size (hW ks ks.length).length),I.laid (t':=tk) (fun b o e=>kp b o (EW e) e) (wV _) (NX PB hlen),rfl,q _ (I.aO.fresh (wV _))⟩
end
end L2
namespace HT
open PySem PySem.Spec PyProof.Rows
section
variable {prog:Program} {w:World} {A:Around} {E:Value->Shared->Prop} {s:Shared}
theorem PD {t b:Addr} {ws:List Value} {Q:Value->Shared->Prop} (ht:IsTup s.heap t #[]) (hb:IsTup s.heap b ws.toArray) (h:Q (.ref b) s):wpAny (model prog w) A (binaryOp .Add (.ref t) (.ref b)) Q E s:=by
 obtain⟨⟨cls,dd,data,sl⟩,ho,hc,n,hd⟩:=id ht
 obtain⟨⟨ui,o7,data2,o8⟩,fV,jZ,n2,hd2⟩:=id hb
 simp only at hc hd jZ hd2
 subst hc hd jZ hd2
 exact concat_meets ⟨_,ho,rfl⟩ ⟨_,fV,rfl⟩ noFill_tuple_add seq_tuple_add Zf Y6 (YS _ _)
  (tuple_addW0 t b #[] ws.toArray n n2 dd o7 sl o8 rfl) ⟨ho,fV,h⟩
theorem PH {t sl:Addr} {items:Array Value} {vl vu:Value} {lo hi:Option Int} {Q:Value->Shared->Prop} (ht:IsTup s.heap t items) (hs:s.heap.IsSliceOf sl vl vu .none) (pl:IsPart vl lo) (pu:IsPart vu hi)
  (hw:bj items.size 0 lo=0/\bj items.size items.size hi=items.size) (h:Q (.ref t) s):wpAny (model prog w) A (getItem (.ref t) (.ref sl)) Q E s:=by
 obtain⟨os,km,nH,mG⟩:=id hs
 have uk:s.TypeIs (.ref sl) "slice" := ⟨os,km,nH⟩
 unfold getItem
 try with_reducible refine W6 ?_
 first | refine nN (uq ?_) | skip
 refine nN (Z3 ht.typeIs (by decide) ?_)
 refine nN (XM (name:=Str.ofString "__getitem__") ht.typeIs W0
  (X8 W0 ht.typeIs ZK ?_ (args_tuple_getitem _ _)))
 show wpAny _ _ (Builtin.Tuple.tupleItemsOf (.ref t) >>= _) _ _ s
 refine nN (tupleItemsOf_ ht ?_)
 refine nN (ZM uk ?_)
 rw[VZ (by decide)]
 refine nN (EG hs pl pu ?_)
 show wpAny _ _ (if (((bj items.size 0 lo:Nat):Int) == 0 && (1:Int) == 1 && (bj items.size items.size hi - bj items.size 0 lo) == items.size)=true then _ else _) _ _ s
 rw[VZ (by rw[hw.1,hw.2];simp)]
 unfold Builtin.Tuple.tupleIsExact
 refine nN (nN (ZM ht.typeIs (uq ?_)))
 rw[VZ (by decide)]
 refine nN (q0q ?_)
 exact uq ⟨_,rfl,uq h⟩
theorem PJ {sl:Addr} {n:Nat} {t:Tok} {Q:Int × Int × Nat->Shared->Prop} (hs:s.heap.IsSliceOf sl .none .none (.int (-1) t))
  (h:Q ((n:Int) - 1,-1,n) s):wpAny (model prog w) A (Builtin.Slice.sliceApplied (.ref sl) (pure (n:Int))) Q E s:=by
 obtain⟨os,km,nH,mG⟩:=id hs
 unfold Builtin.Slice.sliceApplied Builtin.Slice.sliceFields
 refine nN (nN (Xp km mG (x := .none) rfl (nN (Xp km mG (x := .none) rfl (nN (Xp km mG (x := .int (-1) t) rfl (uq ?_)))))))
 refine nN (uj (.int (-1) t) ?_)
 show wpAny _ _ (if ((-1:Int) == 0)=true then _ else _) _ _ s
 rw[My (by decide)]
 refine nN (uj .none (nN (uj .none (nN (uq ?_)))))
 refine uq ?_
 have e:Builtin.Slice.slicePlaces ((n:Int) - 1) (-1) (-1)=n:=by
  unfold Builtin.Slice.slicePlaces
  rw[My (by decide)]
  split
  ·rename_i c
   rw[show -(-1:Int)=1 by decide,Int.ediv_one];omega
  ·omega
 show Q ((n:Int) - 1,-1,Builtin.Slice.slicePlaces ((n:Int) - 1) (-1) (-1)) s
 rw[e];exact h
theorem PK {t sl:Addr} {ag:List Value} {tk:Tok} {Q:Value->Shared->Prop} (ht:IsTup s.heap t ag.toArray) (hs:s.heap.IsSliceOf sl .none .none (.int (-1) tk))
  (h:Q (.ref s.heap.objs.size) { s with heap:=s.heap.push { cls := .type "tuple",data := .seq ag.reverse.toArray } }) (gm:ag.length <= sizeLine):wpAny (model prog w) A (getItem (.ref t) (.ref sl)) Q E s:=by
 have eE:sizeOk (.seq ag.reverse.toArray):=by
  show ag.reverse.toArray.size <= sizeLine
  rw[wU,Yv];exact gm
 obtain⟨os,km,nH,mG⟩:=id hs
 have uk:s.TypeIs (.ref sl) "slice" := ⟨os,km,nH⟩
 unfold getItem
 try with_reducible refine W6 ?_
 first | refine nN (uq ?_) | skip
 refine nN (Z3 ht.typeIs (by decide) ?_)
 refine nN (XM (name:=Str.ofString "__getitem__") ht.typeIs W0
  (X8 W0 ht.typeIs ZK ?_ (args_tuple_getitem _ _)))
 show wpAny _ _ (Builtin.Tuple.tupleItemsOf (.ref t) >>= _) _ _ s
 refine nN (tupleItemsOf_ ht ?_)
 refine nN (ZM uk ?_)
 rw[VZ (by decide)]
 refine nN (PJ hs ?_)
 show wpAny _ _ (if ((((ag.toArray.size:Int) - 1)) == 0 && (-1:Int) == 1 && ag.toArray.size == ag.toArray.size)=true then _ else _) _ _ s
 rw[My (by simp)]
 have e:((List.range ag.toArray.size).filterMap fun (k:Nat)=>ag.toArray[((ag.toArray.size:Int) - 1 + (k:Int) * -1).toNat]?).toArray=ag.reverse.toArray:=by
  congr 1
  rw[wU]
  refine Yr fun i => ?_
  have all:∀ k∈List.range ag.length,((ag.toArray[((ag.length:Int) - 1 + (k:Int) * -1).toNat]?)).isSome=true:=fun k hk=>by
   have:=W9.mp hk
   rw[Yo,qI (by omega)];rfl
  have fm:∀ l:List Nat,(∀ k∈l,((ag.toArray[((ag.length:Int) - 1 + (k:Int) * -1).toNat]?)).isSome=true)->∀ i:Nat,(l.filterMap fun (k:Nat)=>ag.toArray[((ag.length:Int) - 1 + (k:Int) * -1).toNat]?)[i]? = (l[i]?).bind fun k=>ag.toArray[((ag.length:Int) - 1 + (k:Int) * -1).toNat]? := by
   intro l
   induction l with
   | nil=>intro _ i;simp
   | cons k r ih =>
    intro hk i
    obtain⟨v,hv⟩:=Yu.mp (hk k VV)
    rw[X7,hv]
    dsimp only
    cases i with
    | zero=>exact hv.symm
    | succ i=>simpa using ih (fun k' iL=>hk k' (Mn _ iL)) i
  rw[fm _ all]
  by_cases c:i < ag.length
  ·rw[XA c,List.getElem?_reverse c]
   show ag.toArray[((ag.length:Int) - 1 + (i:Int) * -1).toNat]? = _
   rw[Yo]
   congr 1
   omega
  ·rw[Xm (by rw[Xs];omega),Xm (by rw[Yv];omega)];rfl
 rw[e]
 first
  | exact nN (m:=Builtin.Tuple.tupleExact _) (Xj (uq ⟨_,rfl,uq h⟩) eE)
  | exact nN (m:=Builtin.Tuple.tupleExact _) (Xj (nN (uq (uq ⟨_,rfl,uq h⟩))) eE)
  | exact nN (nN (m:=Builtin.Tuple.tupleExact _) (Xj (uq (uq ⟨_,rfl,uq h⟩)) eE))
  | exact nN (nN (m:=Builtin.Tuple.tupleExact _) (Xj (uq ⟨_,rfl,uq h⟩) eE))
end
end HT
namespace L2
open PySem PySem.Spec PyProof.Rows
variable [aV]
section
variable {X:Cx} {e:Expr} {te:TE} {pos p2 p3 p4:Pos}
noncomputable def PL (K:PySem.W.Frag):V->Option Int->Option Int->Hp->VK->Prop:=fun x lo hi H Q=>∃ a xs,x = .ref a/\bT K H a xs ∧
 (HT.bj xs.length 0 lo=0/\HT.bj xs.length xs.length hi=xs.length->Q (.ref a) H)/\(¬ (HT.bj xs.length 0 lo=0/\HT.bj xs.length xs.length hi=xs.length)->∀ p,H p=none->Q (.ref p) (upd H p (.tup (df xs lo hi))))
theorem PM:nJ X (PL X.K):=by
 intro pins s σ H x v vl vu lo hi sl Q I rx hs pl pu h
 obtain⟨a,xs,rfl,hx,q1,q2⟩:=h
 by_cases hw:HT.bj xs.length 0 lo=0/\HT.bj xs.length xs.length hi=xs.length
 ·cases rx
  obtain⟨ag,r,ht,hz⟩:=I.tuple hx
  have hlen:ag.toArray.size=xs.length:=by rw[wU];exact r.length.symm
  refine⟨"tuple",_,W0.lookup,ht.typeIs,?_⟩
  exact HT.PH ht hs pl pu (by rw[hlen];exact hw) ⟨.ref a,H,I,rfl,q1 hw⟩
 ·exact LY pins s σ H _ v vl vu lo hi sl Q I rx hs pl pu ⟨a,xs,rfl,hx,hw,q2 hw⟩
noncomputable def PN (K:PySem.W.Frag) (te:TE):TE:=fun σ H Q=>te σ H fun x H1=>(∃ a xs,x = .ref a/\bo K H1 a xs/\∀ p,H1 p=none->Q (.ref p) (upd H1 p (.lst xs.reverse)))\/∃ a xs,x = .ref a/\bT K H1 a xs/\∀ p,H1 p=none->Q (.ref p) (upd H1 p (.tup xs.reverse))
theorem PQ {j1} (he:JE X e te):JE X (.Subscript e (.Slice none none (some (.UnaryOp .USub (.Constant (.int 1) j1 p3) p4)) p2) pos) (PN X.K te):=by
 refine⟨?_⟩
 intro pins s σ H Q I h
 refine Subscript_ (bt (he.out pins s σ H _ I h) fun v s1 h0_ => el5 h0_ fun x H1 I1 r1 q1 => ?_)
 refine wpAny_Slice ?_
 rw[evalPart_none]
 refine uq ?_
 refine uq ?_
 rw[evalPart_some]
 have h1:=Eo (X:=X) Er (Ea (X:=X) (i:=1) (j:=j1) (pos:=p3)) (pos:=p4) pins s1 σ H1 (fun v H2=>v = .int (-1)/\H2=H1) I1 ⟨1,rfl,rfl,rfl⟩
 refine bt h1 fun u s3 ⟨y,H3,I3,ry,ey,eH⟩ => ?_
 subst ey eH
 obtain⟨t,rfl⟩:=ry
 have I4:Inv X pins σ H3 { s3 with heap:=s3.heap.push { cls := .type "slice",data := .fields #[.none,.none,.int (-1) t] } }:=I3.kept (t':=s3.toks) fun b ob q=>qJ _ q
 rcases q1 with⟨a,xs,rfl,hx,q⟩ | ⟨a,xs,rfl,hx,q⟩
 ·cases r1
  obtain⟨ag,r,ht,hz⟩:=I4.list hx
  have hlen:=r.length
  refine tail_any (ops:=[.ref a,.ref s3.heap.objs.size]) ht.isList.typeIs Z4.lookup ?_ (by with_unfolding_all rfl)
  refine wpAny_getItem_list_slice ht.isList (ZW ..) .none .none (.int (-1) t) (by decide) ?_ (by rw[wU]<;>omega)
  rw[Oa]
  refine⟨.ref _,_,I4.laid (t':=s3.toks) (o := .lst xs.reverse) (fun b ob q=>qJ _ q) (wV _) ?_,rfl,q _ (I4.aO.fresh (wV _))⟩
  exact⟨by rw[Yv];exact hz,_,0,AR r,VW _ rfl⟩
 ·cases r1
  obtain⟨ag,r,ht,hz⟩:=I4.tuple hx
  have hlen:=r.length
  refine tail_any (ops:=[.ref a,.ref s3.heap.objs.size]) ht.typeIs W0.lookup ?_ (by with_unfolding_all rfl)
  refine HT.PK ht (ZW ..) ?_ (by omega)
  refine⟨.ref _,_,I4.laid (t':=s3.toks) (o := .tup xs.reverse) (fun b ob q=>qJ _ q) (wV _) ?_,rfl,q _ (I4.aO.fresh (wV _))⟩
  exact⟨by rw[Yv];exact hz,_,AR r,IsTup.new _ _⟩
theorem PR:c_ X (binaryOp .Add) (fun x y H Q=>∃ a b ys,x = .ref a/\y = .ref b/\bT X.K H a []/\bT X.K H b ys/\Q (.ref b) H):=by
 intro pins s σ H x y v u Q I rx ry h
 obtain⟨a,b,ys,rfl,rfl,ha,hb,q⟩:=h
 cases rx
 cases ry
 obtain⟨ag,r1,p1,_⟩:=I.tuple ha
 obtain⟨bc,r2,p2,_⟩:=I.tuple hb
 have:ag=[]:=r1.fX.mpr rfl
 subst this
 exact HT.PD p1 p2 ⟨.ref b,H,I,rfl,q⟩
theorem PU:c_ X (compareOp .Is) (fun x y H Q=>∃ a b,x = .bl a/\y = .bl b/\Q (.bl (a == b)) H):=by
 intro pins s σ H x y v u Q I rx ry h
 obtain⟨a,b,rfl,rfl,q⟩:=h
 cases rx
 cases ry
 exact uq ⟨.bl (a == b),H,I,by cases a<;>cases b<;>rfl,q⟩
noncomputable def dP:D->D->(D->Prop)->Prop
 | .int i,.int j,K=>K (.int (i + j))
 | .lst a,.lst b,K=>a.length + b.length <= 1000/\K (.lst (a ++ b))
 | .tup a,.tup b,K=>a.length + b.length <= 1000/\K (.tup (a ++ b))
 | .str a,.str b,K=>a.length + b.length <= 1000/\K (.str (a ++ b))
 | _,_,_=>False
theorem eg:fZ X (binaryOp .Add) dP:=by
 rintro pins s σ H x y v u Q I rx ry ⟨F,d,e,K,sub,rd,re,q,md⟩
 unfold dP at q
 split at q
 ·exact xM pins s σ H x y v u Q I rx ry ⟨F,_,_,K,sub,rd,re,q,md⟩
 ·exact xM pins s σ H x y v u Q I rx ry ⟨F,_,_,K,sub,rd,re,q,md⟩
 ·rename_i as bs
  by_cases c:as=[]
  ·subst c
   have dj:Is F (.tup []) x:=rd
   have ja:Is F (.tup bs) y:=re
   have PV:=ja
   simp only[Is] at dj ja
   obtain⟨a,us,rfl,h1,h2⟩:=dj
   obtain⟨b,ws,rfl,h3,h4⟩:=ja
   have:us=[]:=by simpa only [af] using h2
   subst this
   exact PR pins s σ H _ _ v u Q I rx ry ⟨a,b,ws,rfl,rfl,bT.of (sub _ _ h1),bT.of (sub _ _ h3),md _ _ _ q.2 (fun _ _ e=>e) (u_ sub PV)⟩
  ·exact xM pins s σ H x y v u Q I rx ry ⟨F,_,_,K,sub,rd,re,⟨⟨c,q.1⟩,q.2⟩,md⟩
 ·exact xM pins s σ H x y v u Q I rx ry ⟨F,_,_,K,sub,rd,re,q,md⟩
 ·exact q.elim
noncomputable def rJ:D->Option Int->Option Int->(D->Prop)->Prop
 | .lst ds,lo,hi,K=>K (.lst (cutD ds lo hi))
 | .tup ds,lo,hi,K=>K (.tup (cutD ds lo hi))
 | _,_,_,_=>False
noncomputable def gY (f:WE) (l h:WO):WE:=fun δ K=>f δ fun x δ1=>l δ1 fun lo δ2=>h δ2 fun hi δ3=>jJ x δ3 fun d=>rJ d lo hi fun z=>K (.p z) δ3
theorem PX {ds:List D} {lo hi:Option Int} (h:HT.bj ds.length 0 lo=0/\HT.bj ds.length ds.length hi=ds.length):cutD ds lo hi=ds:=by
 unfold cutD
 rw[h.1,h.2,ZO,Nat.sub_zero,Xw (wV _)]
theorem pS {e:Expr} {f:WE} {lo hi:Option Expr} {l h:WO} {pos p2:Pos} (he:JE X e (tD f)) (hl:PO X lo (xP l)) (hh:PO X hi (xP h)):JE X (.Subscript e (.Slice lo hi none p2) pos) (tD (gY f l h)) :=
 (AI (iu.or PM) he hl hh).weak fun σ H Q h0_ => el7 h0_ fun F ad δ K S q k =>⟨F,ad,δ,_,S,q,fun x δ1 h1 v F1 bh H1 E1 S1 V1=>⟨F1,bh,δ1,_,S1,h1,fun lo δ2 h2 F2 dA H2 E2 S2=>⟨F2,dA,δ2,_,S2,h2,fun hi δ3 h3 F3 u2 H3 E3 S3=>by
  obtain⟨d,h4,rd⟩:=j7 S3 ((V1.ext E2).ext E3) h3
  have BJ:=(E1.trans E2).trans E3
  unfold rJ at h4
  split at h4
  ·rename_i ds
   obtain⟨a,vs,rfl,g1,g2⟩:=rd
   refine .inl ⟨a,vs,rfl,bo.of g1,fun p hp => ?_⟩
   exact k _ _ h4 _ _ _ _ (BJ.trans (Ext.al S3 (dG hp))) (S3.al (dG hp)) (pI S3.sub hp (Gq g2 _ _))
  ·rename_i ds
   have dj:Is F3 (.tup ds) v:=rd
   have PY:=dj
   simp only[Is] at dj
   obtain⟨a,vs,rfl,g1,g2⟩:=dj
   refine .inr ⟨a,vs,rfl,bT.of (S3.sub _ _ g1),fun hw => ?_,fun _ p hp => ?_⟩
   ·rw[g2.length] at hw
    rw[PX hw] at h4
    exact k _ _ h4 _ _ _ _ BJ S3 PY
   ·exact k _ _ h4 _ _ _ _ (BJ.trans (Ext.al S3 (dG hp))) (S3.al (dG hp)) (xJ S3.sub hp (Gq g2 _ _))
  ·exact h4.elim⟩⟩⟩
noncomputable def yg:D->(D->Prop)->Prop
 | .lst ds,K=>K (.lst ds.reverse)
 | .tup ds,K=>K (.tup ds.reverse)
 | _,_=>False
theorem PZ {e:Expr} {f:WE} {j1} {pos p2 p3 p4:Pos} (he:JE X e (tD f)):JE X (.Subscript e (.Slice none none (some (.UnaryOp .USub (.Constant (.int 1) j1 p3) p4)) p2) pos) (tD (d1 f yg)) :=
 (PQ he).weak fun σ H Q h0_ => el7 h0_ fun F ad δ K S q k =>⟨F,ad,δ,_,S,q,fun x δ1 h1 v F1 bh H1 E1 S1 V1=>by
  obtain⟨d,h4,rd⟩:=j7 S1 V1 h1
  unfold yg at h4
  split at h4
  ·rename_i ds
   obtain⟨a,vs,rfl,g1,g2⟩:=rd
   refine .inl ⟨a,vs,rfl,bo.of g1,fun p hp => ?_⟩
   exact k _ _ h4 _ _ _ _ (E1.trans (Ext.al S1 (dG hp))) (S1.al (dG hp)) (pI S1.sub hp (Bp g2))
  ·rename_i ds
   have dj:Is F1 (.tup ds) v:=rd
   simp only[Is] at dj
   obtain⟨a,vs,rfl,g1,g2⟩:=dj
   refine .inr ⟨a,vs,rfl,bT.of (S1.sub _ _ g1),fun p hp => ?_⟩
   exact k _ _ h4 _ _ _ _ (E1.trans (Ext.al S1 (dG hp))) (S1.al (dG hp)) (xJ S1.sub hp (Bp g2))
  ·exact h4.elim⟩
noncomputable def jL:D->D->(D->Prop)->Prop
 | .bl a,.bl b,K=>K (.bl (a == b))
 | d,e,K=>lS d e K
theorem yh:fZ X (compareOp .Is) jL:=by
 rintro pins s σ H x y v u Q I rx ry ⟨F,d,e,K,sub,rd,re,q,md⟩
 unfold jL at q
 split at q
 ·rename_i a b
  exact PU pins s σ H x y v u Q I rx ry ⟨a,b,rd,re,md _ _ _ q (fun _ _ e=>e) rfl⟩
 ·exact OD pins s σ H x y v u Q I rx ry ⟨F,_,_,K,sub,rd,re,q,md⟩
end
end L2
open L2
open Lean in
local macro_rules
 | `(tactic| simp? only [$ls,*] $[$loc:location]?) => do
  let a ← ("List.take_length dep bg W5 Nat.max_self Nat.max_zero Nat.zero_max Nat.reduceLeDiff az bu dN aj ai d1 d2 dC ae nZ jJ pB kD aC.fix FT cQ fQ uW dT sQ i9 j8 dH AX iN xp cR qV aI br dB qX kX sR oo iz kE qZ gu gR rh mR Bb rk u4 dI ay u3 passes mQ gC q_ rf bS rp dP rJ gY yg jL AZ oA gT oI dS oEq lR oLt lS pJ cx xR xS xT lT bw By gU mT rD gW lV rC Bt xQ cC vf aC.trim hU A0 Option.join_some Option.join_none W8 YM q0l q0x XD List.replicate_zero List.getElem?_cons_zero Y8 List.getElem?_nil XU XW Mj ZD List.take_succ_cons ZY List.take_nil List.any_nil Z_ Yb Xd Bool.and_true Bool.and_self Bool.or_false Ml Bool.true_eq_false Yf Xc true_and and_true and_self reduceCtorEq beq_self_eq_true XG Nat.reduceAdd Nat.reduceLT Nat.reduceEqDiff Nat.reduceSub sE Mm".splitOn " ").toArray.mapM fun s => `(Parser.Tactic.simpLemma| $(mkIdent s.toName):ident)
  let r ← `(Parser.Tactic.simpLemma| ↓reduceIte)
  let a : Syntax.TSepArray [`Lean.Parser.Tactic.simpStar, `Lean.Parser.Tactic.simpErase, `Lean.Parser.Tactic.simpLemma] "," := ⟨(Syntax.SepArray.ofElems (sep := ",") ((a.push r).map (·.raw) ++ ls.getElems.map (·.raw))).elemsAndSeps⟩
  `(tactic| simp only [$a,*] $[$loc]?)
set_option maxHeartbeats 8000000
namespace LJ
open PySem L2
variable [aV]
theorem Hk {ns:List Int} {k:Int} (h0:0 <= k) (h1:k < (ns.length:Int)):∃ n,fY (ns.map D.int) k=some (.int n):=by
 obtain⟨i,rfl⟩:∃ i:Nat,k=i:=⟨k.toNat,by omega⟩
 have hi:i < ns.length:=by omega
 refine⟨ns[i],mH ?_⟩
 rw[VX,qI hi];rfl
theorem kF {α : Type} {x : α} {r:List α}:fY (x :: r) 0=some x:=mH (j:=0) rfl
theorem jz {α : Type} {x y : α} {r:List α}:fY (x :: y :: r) 1=some y:=mH (j:=1) rfl
theorem at2 {α : Type} {x y z : α} {r:List α}:fY (x :: y :: z :: r) 2=some z:=mH (j:=2) rfl
theorem vw {a b A B:Int} (h0:0 <= a) (h1:a <= A) (h2:0 <= b) (h3:b <= B):0 <= a * b/\a * b <= A * B :=
 ⟨Int.mul_nonneg h0 h2,Int.mul_le_mul h1 h3 h2 (Int.le_trans h0 h1)⟩
noncomputable def jc:List Int:=[2147483629,2147483587,2147483579,2147483563,2147483549,2147483543,2147483497,2147483489,2147483477,2147483423,2147483399,2147483353,2147483323]
theorem BK (n:Int):∃ q:Int,fY (jc.map D.int) (n % 13)=some (.int q)/\0 < q/\q < 2147483648:=by
 have h0:0 <= n % 13:=XS _ (by decide)
 have h1:n % 13 < 13:=Xv _ (by decide)
 generalize n % 13=j at h0 h1
 obtain⟨i,rfl⟩:∃ i:Nat,j=i:=⟨j.toNat,by omega⟩
 have hi:i < 13:=by omega
 have hl:(jc.map D.int)[i]? = some (.int (jc[i]'(by show i < 13;exact hi))):=by
  rw[VX,qI (by show i < 13;exact hi)];rfl
 refine⟨_,mH hl,?_⟩
 have all:∀ q∈jc,0 < q/\q < 2147483648:=by decide
 exact all _ (Yh _)
theorem P0:kn 3 1=some 1:=rfl
theorem Hl:kn 3 2=some 2:=rfl
theorem aX {A B:WS} {K:KS} {δ : aC} (h:∀ N:aC->Prop,N=B K->A { K with nx:=N } δ):az A B K δ := h _ rfl
theorem tj {t:WT} {G G':WS} {K:KS} {δ : aC} (h:∀ A B:aC->Prop,A=G K->B=G' K->t δ fun b δ1=>if b=true then A δ1 else B δ1):br t G G' K δ := h _ _ rfl rfl
theorem Hm {w:WI} {g:WG} {b:WS} {K:KS} {δ : aC} (h:∀ g' b' K',g'=g->b'=b->K'=K->w δ fun it δ1=>mP δ1 it.bI g' b' K' it.items δ1):iz w g b K δ := h _ _ _ rfl rfl rfl
theorem yi {f:WE} {g:WA} {δ : aC} {K:List DV->aC->Prop} (h:∀ K',K'=(fun x δ1=>g δ1 fun xs δ2=>K (x :: xs) δ2)->f δ K'):aj f g δ K:=h _ rfl
noncomputable def vx:GD:=fun ys ao K=>∃ cell at_:Int,ys=[.p (.int cell),.p (.int at_)]/\ao=[]/\0 <= at_/\at_ < 2 ^ 30/\∀ z:Int,K (.p (.int z)) []
noncomputable def BL:WS:=(az (br (dT (d2 (ae 0) (d2 (dC (.int 10)) (dC (.int 18)) (dS ft fun i j => .int (i ^ j.toNat))) (oI fun i j => .bl (decide (j <= i))))) (aI (ae 0)) cR) (az (bu 2 (fQ (aj (dC (.int 2147483629)) (aj (dC (.int 2147483587)) (aj (dC (.int 2147483579)) (aj (dC (.int 2147483563)) (aj (dC (.int 2147483549)) (aj (dC (.int 2147483543)) (aj (dC (.int 2147483497)) (aj (dC (.int 2147483489)) ai)))))))))) (az (bu 2 (d2 (ae 2) (fQ (aj (dC (.int 2147483477)) (aj (dC (.int 2147483423)) (aj (dC (.int 2147483399)) (aj (dC (.int 2147483353)) (aj (dC (.int 2147483323)) ai)))))) dP)) (az (bu 3 (d2 (d2 (d2 (d2 (d2 (d2 (ae 0) (dC (.int 1000000007)) (dS (fun _ j=>0 < j) fun i j => .int (i % j))) (d2 (d2 (dC (.int 2)) (ae 1) gT) (dC (.int 69069)) dP) gT) (d2 (ae 1) (dC (.int 40503)) gT) dP) (dC (.int 977)) dP) (dC (.int 3)) (dS ft fun i j => .int (i ^ j.toNat))) (d2 (ae 2) (d2 (ae 1) (dC (.int 13)) (dS (fun _ j=>0 < j) fun i j => .int (i % j))) bS) (dS (fun _ j=>0 < j) fun i j => .int (i % j)))) (az (bu 4 (d2 (d2 (d2 (d2 (d2 (ae 3) (d2 (ae 1) (dC (.int 3)) dP) gT) (d2 (ae 0) (dC (.int 65537)) (dS (fun _ j=>0 < j) fun i j => .int (i % j))) dP) (dC (.int 5)) dP) (dC (.int 5)) (dS ft fun i j => .int (i ^ j.toNat))) (d2 (ae 2) (d2 (d2 (ae 1) (dC (.int 5)) dP) (dC (.int 13)) (dS (fun _ j=>0 < j) fun i j => .int (i % j))) bS) (dS (fun _ j=>0 < j) fun i j => .int (i % j)))) (az (bu 5 (d2 (d2 (d2 (d2 (ae 4) (d2 (ae 3) (dC (.int 1009)) (dS (fun _ j=>0 < j) fun i j => .int (i % j))) dP) (ae 1) dP) (dC (.int 3)) (dS ft fun i j => .int (i ^ j.toNat))) (d2 (ae 2) (d2 (d2 (ae 1) (dC (.int 7)) dP) (dC (.int 13)) (dS (fun _ j=>0 < j) fun i j => .int (i % j))) bS) (dS (fun _ j=>0 < j) fun i j => .int (i % j)))) (aI (d2 (d2 (d2 (d2 (ae 3) (dC (.int 2147483647)) gT) (ae 4) dP) (dC (.int 2147483647)) gT) (ae 5) dP))))))))
theorem P6:∀ ys ao K',ys.length=2->vx ys ao K'->BL (cC ao.length K') ⟨ys.map some ++ List.replicate 4 none,ao.map some⟩:=by
 rintro ys ao K' - ⟨cell,k,rfl,rfl,h0,h1,fin⟩
 unfold BL
 have lX:∀ (z:Int) (sl:List (Option DV)),gQ 0 K' (.p (.int z)) ⟨sl,[]⟩:=fun z sl=>⟨[],rfl,rfl,fin z⟩
 simp? only []
 refine⟨⟨by decide,by decide,by decide⟩,?_⟩
 split
 ·exact lX _ _
 obtain⟨q1,e1,p1,b1⟩:=BK k
 obtain⟨q2,e2,p2,b2⟩:=BK (k + 5)
 obtain⟨q3,e3,p3,b3⟩:=BK (k + 7)
 simp only[jc,W8,YM] at e1 e2 e3
 simp only[e1,e2,e3]
 have c0:0 <= cell % 1000000007:=XS _ (by decide)
 have c1:cell % 1000000007 < 1000000007:=Xv _ (by decide)
 have m1:=vw c0 (Int.le_of_lt c1) (show (0:Int) <= 2 * k + 69069 by omega) (show 2 * k + 69069 <= 2147552717 by omega)
 refine⟨by decide,.inl ⟨by decide,by decide⟩,.inl ⟨by omega,by omega⟩,.inr ⟨by decide,by decide⟩,⟨by decide,by decide,?cp1⟩,by decide,p1,?_⟩
 case cp1 =>
  generalize cell % 1000000007 * (2 * k + 69069)=m at m1 ⊢
  omega
 generalize (cell % 1000000007 * (2 * k + 69069) + k * 40503 + 977) ^ (3:Int).toNat=x1
 have o0:0 <= x1 % q1:=XS _ (by omega)
 have o1:x1 % q1 < q1:=Xv _ p1
 have d0:0 <= cell % 65537:=XS _ (by decide)
 have d1:cell % 65537 < 65537:=Xv _ (by decide)
 have m2:=vw o0 (show x1 % q1 <= 2147483648 by omega) (show (0:Int) <= k + 3 by omega) (show k + 3 <= 1073741827 by omega)
 refine⟨.inl ⟨by omega,by omega⟩,by decide,⟨by decide,by decide,?cp2⟩,by decide,p2,?_⟩
 case cp2 =>
  generalize x1 % q1 * (k + 3)=m at m2 ⊢
  omega
 have t0:0 <= (x1 % q1 * (k + 3) + cell % 65537 + 5) ^ (5:Int).toNat % q2:=XS _ (by omega)
 have t1:(x1 % q1 * (k + 3) + cell % 65537 + 5) ^ (5:Int).toNat % q2 < q2:=Xv _ p2
 have u0:0 <= x1 % q1 % 1009:=XS _ (by decide)
 have u1:x1 % q1 % 1009 < 1009:=Xv _ (by decide)
 generalize (x1 % q1 * (k + 3) + cell % 65537 + 5) ^ (5:Int).toNat % q2=m at t0 t1 ⊢
 exact⟨by decide,⟨by decide,by decide,by omega⟩,by decide,p3,.inr ⟨by decide,by decide⟩,.inr ⟨by decide,by decide⟩,lX _ _⟩
noncomputable def jM (ns:List Int) (k z:Int):OV := .lst [.lst (ns.map D.int),.int k,.int z]
structure bp (n:Int) (o:OV):Prop where
 out:∃ ns k z,o=jM ns k z/\ns.length <= 63/\0 <= k/\k <= n
theorem bp.mono {n m:Int} {o:OV} (h:bp n o) (l:n <= m):bp m o:=by
 obtain⟨ns,k,z,e,h1,h2,h3⟩:=h.out
 exact⟨ns,k,z,e,h1,h2,by omega⟩
noncomputable def vy:GD:=fun ys ao K=>∃ n o,ys=[.o 0]/\ao=[o]/\bp n o/\∀ o',bp n o'->K (.a 0) [o']
noncomputable def BM:WS:=(az (rD (dC (.int 0)) (ae 0) (dC (.int 2))) (aI (ae 0)))
theorem P7:∀ ys ao K',ys.length=1->vy ys ao K'->BM (cC ao.length K') ⟨ys.map some ++ List.replicate 0 none,ao.map some⟩:=by
 rintro ys ao K' - ⟨n,o,rfl,rfl,P,fin⟩
 obtain⟨ns,k,z,rfl,h1,h2,h3⟩:=P.out
 unfold BM jM
 simp? only []
 exact⟨[jM ns k 0],rfl,rfl,fin _ ⟨ns,k,0,rfl,h1,h2,h3⟩⟩
noncomputable def gx:GD:=fun ys ao K=>∃ (n m:Int) (o:OV),ys=[.o 0,.p (.int m)]/\ao=[o]/\bp n o/\n < 2 ^ 30/\0 < m/\m < 1073741824/\∀ r o',0 <= r->r < m->bp (n + 1) o'->K (.p (.int r)) [o']
noncomputable def BN:WS:=(az (br (dT (d2 (d2 (ae 0) (dC (.int 2)) bS) (ae 1) oLt)) (az (bu 2 (d2 (ae 0) (dC (.int 1)) bS)) (az (bu 3 (dC (.int 0))) (az (br (dT (d2 (ae 2) (dN (aj (d2 (ae 0) (dC (.int 0)) bS) ai) cx) oLt)) (bu 3 (d2 (d2 (ae 0) (dC (.int 0)) bS) (ae 2) bS)) (br (dT (d2 (dN (aj (d2 (ae 0) (dC (.int 0)) bS) ai) cx) (dC (.int 0)) (oI fun i j => .bl (decide (j < i))))) (bu 3 (d2 (d2 (d2 (ae 0) (dC (.int 0)) bS) (d2 (d2 (d2 (ae 2) (dC (.int 5)) gT) (dC (.int 3)) dP) (dN (aj (d2 (ae 0) (dC (.int 0)) bS) ai) cx) (dS (fun _ j=>0 < j) fun i j => .int (i % j))) bS) (d2 (d2 (dC (.int 10)) (dC (.int 17)) (dS ft fun i j => .int (i ^ j.toNat))) (ae 2) dP) (dS (fun _ j=>0 < j) fun i j => .int (i % j)))) cR)) (az (rD (d2 (ae 2) (dC (.int 1)) dP) (ae 0) (dC (.int 1))) (rD (ay 2 vx (aj (ae 3) (aj (ae 2) ai))) (ae 0) (dC (.int 2))))))) cR) (az (bu 4 (d2 (d2 (ae 0) (dC (.int 2)) bS) (ae 1) (dS (fun _ j=>0 < j) fun i j => .int (i % j)))) (az (rD (d2 (d2 (ae 0) (dC (.int 2)) bS) (ae 1) (dS ub fun i j => .int (i.fdiv j))) (ae 0) (dC (.int 2))) (aI (ae 4)))))
theorem P8:∀ ys ao K',ys.length=2->gx ys ao K'->BN (cC ao.length K') ⟨ys.map some ++ List.replicate 3 none,ao.map some⟩:=by
 rintro ys ao K' - ⟨n,m,o,rfl,rfl,P,hn,Hn,We,fin⟩
 obtain⟨ns,k,z,rfl,h1,h2,h3⟩:=P.out
 unfold BN jM
 have last:∀ (k' z':Int) (sl:List (Option DV)),0 <= k'->k' <= n + 1->gQ 1 K' (.p (.int (z' % m))) ⟨sl,[some (.lst [.lst (ns.map D.int),.int k',.int (z'.fdiv m)])]⟩:=fun k' z' sl a b =>
  ⟨[jM ns k' (z'.fdiv m)],rfl,rfl,fin _ _ (XS _ (by omega)) (Xv _ Hn) ⟨ns,k',_,rfl,h1,a,b⟩⟩
 have P9:∀ z,ub z m:=fun z=>⟨by omega,by omega⟩
 have rest:∀ (k' z':Int) (s2 s3 s4:Option DV),0 <= k'->k' <= n + 1->(az (bu 4 (d2 (d2 (ae 0) (dC (.int 2)) bS) (ae 1) (dS (fun _ j=>0 < j) fun i j => .int (i % j)))) (az (rD (d2 (d2 (ae 0) (dC (.int 2)) bS) (ae 1) (dS ub fun i j => .int (i.fdiv j))) (ae 0) (dC (.int 2))) (aI (ae 4)))) (cC 1 K') ⟨[some (.o 0),some (.p (.int m)),s2,s3,s4],[some (.lst [.lst (ns.map D.int),.int k',.int z'])]⟩:=fun k' z' s2 s3 s4 a b=>by
  simp? only [at2,Hl]
  exact⟨Hn,P9 _,last _ _ _ a b⟩
 refine aX fun N hN => ?_
 refine tj fun A B hA hB => ?_
 simp? only [at2]
 split
 ·subst hA
  refine aX fun N2 kG => ?_
  simp? only [jz]
  subst kG
  refine aX fun N2 kG => ?_
  simp? only []
  subst kG
  refine aX fun N2 kG => ?_
  have go:∀ (c:Int) (s4:Option DV),N2 ⟨[some (.o 0),some (.p (.int m)),some (.p (.int k)),some (.p (.int c)),s4],[some (.lst [.lst (ns.map D.int),.int k,.int z])]⟩:=fun c s4=>by
   subst kG
   simp? only [P0]
   refine⟨c,k,rfl,rfl,h2,by omega,fun z' => ?_⟩
   simp? only [Hl]
   subst hN
   exact rest _ _ _ _ _ (by omega) (by omega)
  refine tj fun A B hA hB => ?_
  simp? only [kF]
  split
  ·rename_i dY
   obtain⟨c,ec⟩:=Hk h2 (YI dY)
   subst hA
   simp? only [kF]
   rw[ec]
   exact go _ _
  ·subst hB
   refine tj fun A B hA hB => ?_
   simp? only [kF]
   split
   ·rename_i oD
    have oD:=YI oD
    obtain⟨c,ec⟩:=Hk (ns:=ns) (k:=(k * 5 + 3) % (ns.length:Int)) (XS _ (by omega)) (Xv _ oD)
    subst hA
    simp? only [kF]
    refine⟨.inr ⟨by decide,by decide⟩,oD,?_⟩
    rw[ec]
    exact⟨⟨by decide,by decide,by decide⟩,by show (0:Int) < 10 ^ 17 + k;omega,go _ _⟩
   ·subst hB
    exact go _ _
 ·subst hB hN
  exact rest _ _ _ _ _ (by omega) (by omega)
noncomputable def b9 (p:Int × Int):D := .tup [.int p.1,.int p.2]
structure dU (many:Int) (ps:List (Int × Int)):Prop where
 ends:∀ p∈ps,0 <= p.1/\p.1 < p.2/\p.2 < many
 rF:ps.Nodup
 jA:ps.length <= 66
theorem dU.sub {many:Int} {ps qs:List (Int × Int)} (h:dU many ps) (s:qs.Sublist ps):dU many qs :=
 ⟨fun p hp=>h.ends p (s.subset hp),h.rF.sublist s,W7 s.length_le h.jA⟩
noncomputable def vz:GD:=fun ys ao K=>∃ (n kind many:Int) (o:OV),ys=[.o 0,.p (.int kind),.p (.int many)]/\ao=[o]/\bp n o/\n + 100 < 2 ^ 30/\1 <= many/\many <= 12/\∀ ps o',dU many ps->bp (n + 67) o'->K (.n (ps.map b9)) [o']
noncomputable def BO:WS:=(az (bu 3 (uW ai)) (az (iz (mR (aj (ae 2) ai)) (dB 4) (qV (rC (ae 3) (aj (kE (mR (aj (ae 4) ai)) [none,some 4] (dB 0) gu (cQ (aj (ae 0) (aj (ae 1) ai)))) ai)))) (az (br (dT (d2 (ae 1) (dC (.int 1)) oEq)) (aI (qZ (Bb (aj (dC (.int 1)) (aj (ae 2) ai))) [none,some 0] (dB 0) gu (cQ (aj (ay 2 gx (aj (ae 1) (aj (ae 0) ai))) (aj (ae 0) ai))))) cR) (az (br (dT (d2 (ae 1) (dC (.int 2)) oEq)) (az (bu 5 (kE (mR (aj (d2 (ae 2) (dC (.int 1)) (oI fun i j => .int (i - j))) ai)) [none] (dB 0) gu (cQ (aj (ae 0) (aj (d2 (ae 0) (dC (.int 1)) dP) ai))))) (aI (By (ae 5) (kE (gR (ae 3)) [none,some 2] (dB 0) (i9 (dT (d2 (ae 0) (cQ (aj (dC (.int 0)) (aj (d2 (ae 1) (dC (.int 1)) (oI fun i j => .int (i - j))) ai))) oEq)) (dT (d2 (ae 1) (dC (.int 2)) (oI fun i j => .bl (decide (j < i)))))) (ae 0))))) cR) (az (br (dT (d2 (ae 1) (dC (.int 3)) oEq)) (aI (ae 3)) cR) (az (br (dT (d2 (ae 1) (dC (.int 4)) oEq)) (aI (qZ (gR (ae 3)) [none,some 0] (dB 0) (dT (d2 (ay 2 gx (aj (ae 1) (aj (dC (.int 4)) ai))) (dC (.int 0)) oEq)) (ae 0))) cR) (az (br (dT (d2 (ae 1) (dC (.int 5)) oEq)) (az (bu 6 (ay 2 gx (aj (ae 0) (aj (d2 (ae 2) (dC (.int 1)) dP) ai)))) (aI (qZ (gR (ae 3)) [none,some 6,some 0] (dB 0) (i9 (dT (d2 (d2 (d2 (ae 0) (dC (.int 0)) bS) (ae 1) oLt) (d2 (d2 (ae 0) (dC (.int 1)) bS) (ae 1) oLt) oEq)) (dT (d2 (ay 2 gx (aj (ae 2) (aj (dC (.int 3)) ai))) (dC (.int 0)) (oI fun i j => .bl (decide (j < i)))))) (ae 0)))) cR) (aI (qZ (gR (ae 3)) [none,some 0] (dB 0) (dT (d2 (ay 2 gx (aj (ae 1) (aj (dC (.int 2)) ai))) (dC (.int 0)) oEq)) (ae 0))))))))))
theorem sub_snoc {α : Type} {zs ps:List α} {i:Nat} {x : α} (h:zs.Sublist (ps.take i)) (e:ps[i]? = some x):(zs ++ [x]).Sublist (ps.take (i + 1))/\zs.Sublist (ps.take (i + 1)):=by
 have:ps.take (i + 1)=ps.take i ++ [x]:=by rw[Zj,e];rfl
 rw[this]
 exact⟨h.append (List.Sublist.refl _),h.trans (List.sublist_append_left _ _)⟩
theorem P_ {α : Type} {l:List α} {c : α} (h:l.Nodup) (hc:∀ x∈l,x=c):l.length <= 1:=by
 match l,h,hc with
 | [],_,_=>exact W5 _
 | [_],_,_=>exact wV _
 | x :: y :: r,h,hc =>
  have:=(ZP.mp h).1 y (VV)
  exact absurd ((hc x VV).trans (hc y (Mn _ VV)).symm) this
theorem BP {n:Int} {o:OV} {ps:List (Int × Int)} {t:WT} {K:List D->aC->Prop} {rest:List (Option DV)} {ev:Option OV} {bI:aC->Prop} (hc:∀ sl o',bI ⟨sl,[some o',ev]⟩) (hw:ps.length <= 66) (P:bp n o) (hn:n + 70 < 2 ^ 30)
  (ht:∀ (p:Int × Int) (i:Nat) (o':OV) (Q:Bool->aC->Prop),p∈ps->i <= 66->bp (n + i) o'->(∀ b kg,bp (n + i + 1) kg->Q b ⟨some (.p (b9 p)) :: rest,[some kg,ev]⟩)->t ⟨some (.p (b9 p)) :: rest,[some o',ev]⟩ Q)
  (hr:hU 2 rest rest=rest)
  (fin:∀ (zs:List (Int × Int)) o',zs.Sublist ps->bp (n + ps.length) o'->K (zs.map b9) ⟨none :: rest,[some o',ev]⟩) :
  ka ⟨none :: rest,[some o,ev]⟩ bI (dB 0) t (ae 0) K (ps.map b9) [] ⟨none :: rest,[some o,ev]⟩:=by
 refine Bx (fun i acc δ => ∃ (zs:List (Int × Int)) (o':OV),zs.Sublist (ps.take i)/\acc=zs.map b9/\bp (n + i) o' /\ δ = ⟨none :: rest,[some o',ev]⟩) ⟨[],o,List.Sublist.refl _,rfl,P.mono (by omega),rfl⟩ ?_ ?_
 ·rintro j d acc δ L hj ⟨zs,o',hz,rfl,P',rfl⟩ hL
  rw[VX] at hj
  obtain⟨p,hp,rfl⟩:=WJ.mp hj
  have BI:j < ps.length:=(qK.mp hp).1
  refine⟨hc _ _,?_⟩
  show t ⟨some (.p (b9 p)) :: rest,[some o',ev]⟩ _
  refine ht p j o' _ (Xi hp) (by omega) P' fun b kg lY => ?_
  have hlen:(zs.map b9).length < 1000:=by
   rw[sE]
   have:=hz.length_le
   rw[WW] at this;omega
  have P3:bp (n + ((j + 1:Nat):Int)) kg:=lY.mono (by omega)
  cases b with
  | true =>
   rw[VZ rfl]
   refine⟨hlen,hL _ _ ⟨zs ++ [p],kg,(sub_snoc hz hp).1,by rw[Xk];rfl,P3,?_⟩⟩
   show (⟨none :: hU 2 rest rest,_⟩:aC)=_
   rw[hr];rfl
  | false =>
   rw[My (by decide)]
   refine hL _ _ ⟨zs,kg,(sub_snoc hz hp).2,rfl,P3,?_⟩
   show (⟨none :: hU 2 rest rest,_⟩:aC)=_
   rw[hr];rfl
 ·rintro acc δ ⟨zs,o',hz,rfl,P',rfl⟩
  rw[sE] at P' hz
  rw[Xw (wV _)] at hz
  exact⟨hc _ _,fin zs o' hz P'⟩
theorem Qa:∀ ys ao K',ys.length=3->vz ys ao K'->BO (cC ao.length K') ⟨ys.map some ++ List.replicate 4 none,ao.map some⟩:=by
 rintro ys ao K' - ⟨n,kind,many,o,rfl,rfl,P,hn,m1,xk,fin⟩
 obtain⟨mm,rfl⟩:∃ mm:Nat,many=mm:=⟨many.toNat,by omega⟩
 have BQ:mm <= 12:=by omega
 unfold BO
 have cm:dU mm (j5 mm):=⟨fun p hp=>AM hp,FH mm,FI mm BQ⟩
 refine aX fun N hN => ?_
 simp? only []
 subst hN
 refine aX fun N hN => ?_
 simp? only []
 refine⟨by omega,?_⟩
 refine sY (fun i δ => δ = ⟨[some (.o 0),some (.p (.int kind)),some (.p (.int mm)),some (.o 1),none,none,none],[some o,some (.lst ((j5 i).map b9))]⟩) rfl ?_ ?_
 ·rintro j d δ L hj rfl hL
  obtain⟨hj,rfl⟩:=oy hj
  simp? only []
  have e:(0 + (j:Int))=j:=by omega
  rw[e]
  refine⟨by omega,?_⟩
  refine mV (fun d=>match d with
   | .int a=>b9 (a,j)
   | _ => .non) (by rw[mS];omega) trivial ?_ ?_
  ·intro d hd acc L' ha h
   obtain⟨i,hi⟩:=WK.mp hd
   obtain⟨hi,rfl⟩:=oy hi
   simp? only []
   exact⟨ha,h⟩
  ·have e2:(j5 j).map b9 ++ (di 0 (j:Int).toNat).map (fun d=>match d with
    | .int a=>b9 (a,j)
    | _ => .non)=(j5 (j + 1)).map b9:=by
    show _=(j5 j ++ _).map b9
    unfold di
    rw[Xk,Xf,Xf]
    congr 1
    refine XE fun a _ => ?_
    simp[Function.comp]
   simp? only []
   have Wf:=FI j (by omega)
   refine⟨by rw[mS];omega,?_⟩
   rw[e2]
   exact hL _ rfl
 ·rintro δ rfl
  refine⟨trivial,?_⟩
  subst hN
  have eL:((mm:Int)).toNat=mm:=by omega
  rw[mS,eL]
  dsimp only
  have back:∀ (ps:List (Int × Int)) (o':OV) (sl:List (Option DV)) (m:List (Option OV)),dU mm ps->bp (n + 67) o'->gQ 1 K' (.o (m.length + 1)) ⟨sl,some o' :: (m ++ [some (.lst (ps.map b9))])⟩:=fun ps o' sl m h1 h2=>by
   refine⟨[o'],rfl,rfl,?_⟩
   show if m.length + 1 < 1 then _ else _
   rw[My (by omega)]
   have:(some o' :: (m ++ [some (OV.lst (ps.map b9))]))[m.length + 1]? = some (some (.lst (ps.map b9))):=by
    rw[Y8,WH (wV _),XJ];rfl
   dsimp only
   rw[this]
   exact .inl (fin ps o' h1 h2)
  refine aX fun N hN => ?_
  simp? only [aB]
  split
  ·refine⟨by omega,?_⟩
   refine Bx (fun i acc δ => ∃ (zs:List (Int × Int)) (o':OV),zs.length=i/\(∀ (q:Nat) (p:Int × Int),zs[q]? = some p->p.2=q + 1/\0 <= p.1/\p.1 < p.2)/\acc=zs.map b9/\bp (n + i) o' /\ δ = ⟨[none,some (.o 0)],[some o',some (.lst ((j5 mm).map b9))]⟩) ⟨[],o,rfl,fun q p e=>by simp at e,rfl,P.mono (by omega),rfl⟩ ?_ ?_
   ·rintro j d acc δ L hj ⟨zs,o',hz,hq,rfl,P',rfl⟩ hL
    obtain⟨hj,rfl⟩:=oy hj
    simp? only []
    refine⟨n + j,1 + j,o',rfl,rfl,P',by omega,by omega,by omega,fun r kg r0 r1 lY => ?_⟩
    simp? only []
    refine⟨by omega,hL _ _ ⟨zs ++ [(r,1 + (j:Int))],kg,by rw[Mm,hz];rfl,fun q p e => ?_,by rw[Xk];rfl,lY.mono (by omega),rfl⟩⟩
    by_cases c:q < zs.length
    ·rw[WB c] at e
     exact hq q p e
    ·have hl:=(qK.mp e).1
     rw[Mm,W_] at hl
     have:q=zs.length:=by omega
     subst this
     rw[WH (wV _),XJ] at e
     cases (show some (r,1 + (j:Int))=some p by simpa using e)
     exact⟨by show 1 + (j:Int)=_;omega,r0,r1⟩
   ·rintro acc δ ⟨zs,o',hz,hq,rfl,P',rfl⟩
    rw[mS] at hz P'
    refine⟨trivial,?_⟩
    refine back zs o' _ [_] ⟨fun p hp => ?_,?_,by omega⟩ (P'.mono (by omega))
    ·obtain⟨q,Ho⟩:=WK.mp hp
     have:=hq q p Ho
     have hl:=(qK.mp Ho).1
     omega
    ·refine Yp.mpr fun i j hi hj jy e => ?_
     have q1:=hq i _ (qI hi)
     have q2:=hq j _ (qI hj)
     rw[e] at q1
     omega
  subst hN
  refine aX fun N hN => ?_
  simp? only [aB]
  split
  ·clear hN
   refine⟨by omega,?_⟩
   refine mV (fun d=>match d with
    | .int a=>b9 (a,a + 1)
    | _ => .non) (by rw[mS];omega) trivial ?_ ?_
   ·intro d hd acc L' ha h
    obtain⟨i,hi⟩:=WK.mp hd
    obtain⟨hi,rfl⟩:=oy hi
    simp? only []
    exact⟨ha,h⟩
   ·simp? only []
    refine GK (fun d=>aB d (b9 (0,mm - 1)) && decide ((2:Int) < mm)) id (by rw[sE];have:=cm.jA;omega) rfl ?_ ?_
    ·intro d hd acc L' ha h h'
     obtain⟨p,hp,rfl⟩:=WQ.mp hd
     simp only[b9] at h h'
     simp? only [b9]
     split
     ·rename_i q1
      split
      ·rename_i q2
       exact⟨ha,h (by rw[q1,q2];rfl)⟩
      ·rename_i q2
       exact h' (by rw[q1,YN _ |>.mp q2];rfl)
     ·rename_i q1
      exact h' (by rw[YN _ |>.mp q1];rfl)
    ·simp? only []
     have er:(di 0 ((mm:Int) - 1).toNat).map (fun d=>match d with
       | D.int a=>b9 (a,a + 1)
       | x=>D.non)=((List.range (mm - 1)).map fun i:Nat=>((i:Int),(i:Int) + 1)).map b9:=by
      unfold di
      rw[Xf,Xf]
      have:((mm:Int) - 1).toNat=mm - 1:=by omega
      rw[this]
      refine XE fun a _ => ?_
      simp[Function.comp]
     have ef:(((j5 mm).map b9).filter fun d=>aB d (b9 (0,mm - 1)) && decide ((2:Int) < mm))=((j5 mm).filter fun p=>aB (b9 p) (b9 (0,mm - 1)) && decide ((2:Int) < mm)).map b9:=by
      rw[List.filter_map];rfl
     rw[er,Zv,ef,<-Xk]
     have hf:∀ p∈(j5 mm).filter (fun p=>aB (b9 p) (b9 (0,mm - 1)) && decide ((2:Int) < mm)),p=(0,(mm:Int) - 1)/\(2:Int) < mm:=fun p hp=>by
      have:=(Zy.mp hp).2
      simp[b9,aB,dJ] at this
      obtain⟨a,b⟩:=p
      simp at this ⊢
      omega
     have h1:((j5 mm).filter (fun p=>aB (b9 p) (b9 (0,mm - 1)) && decide ((2:Int) < mm))).length <= 1:=P_ (cm.rF.sublist List.filter_sublist) fun p hp=>(hf p hp).1
     refine⟨by rw[mS,sE];omega,back _ o _ [_] ⟨fun p hp => ?_,?_,?_⟩ (P.mono (by omega))⟩
     ·rcases Xo.mp hp with hp | hp
      ·obtain⟨i,hi,rfl⟩:=WQ.mp hp
       have:=W9.mp hi
       exact⟨by omega,by omega,by show (i:Int) + 1 < mm;omega⟩
      ·exact cm.ends p (Zy.mp hp).1
     ·refine Ye.mpr ⟨?_,cm.rF.sublist List.filter_sublist,fun a ha b hb e => ?_⟩
      ·refine Zc.mpr (q0c.imp fun {a b} ne e=>ne ?_)
       have:=congrArg Prod.fst e
       exact Int.ofNat.inj this
      ·subst e
       obtain⟨i,hi,rfl⟩:=WQ.mp ha
       have:=hf _ hb
       have h2:=congrArg Prod.fst this.1
       have h3:=congrArg Prod.snd this.1
       simp at h2 h3
       omega
     ·rw[Mm,sE,Xs];omega
  subst hN
  refine aX fun N hN => ?_
  simp? only [aB]
  split
  ·exact⟨[o],rfl,rfl,.inl (fin _ _ cm (P.mono (by omega)))⟩
  subst hN
  refine aX fun N hN => ?_
  simp? only [aB]
  split
  ·refine BP (fun _ _=>rfl) cm.jA P (by omega) (fun p i o' Q hp hi P' hQ => ?_) rfl fun zs o' hz P' => ?_
   ·simp? only [aB]
    refine⟨n + i,4,o',rfl,rfl,P',by omega,by omega,by omega,fun r kg r0 r1 lY => ?_⟩
    simp? only []
    exact hQ _ _ lY
   ·exact back zs o' _ [_] (cm.sub hz) (P'.mono (by have:=cm.jA;omega))
  subst hN
  refine aX fun N hN => ?_
  simp? only [aB]
  split
  ·refine⟨n,mm + 1,o,rfl,rfl,P,by omega,by omega,by omega,fun half o1 r0 r1 P1 => ?_⟩
   simp? only []
   refine BP (n:=n + 1) (fun _ _=>rfl) cm.jA P1 (by omega) (fun p i o' Q hp hi P' hQ => ?_) rfl fun zs o' hz P' => ?_
   ·simp? only [aB,b9,kF,jz]
    split
    ·refine⟨n + 1 + i,3,o',rfl,rfl,P',by omega,by omega,by omega,fun r kg r0 r1 lY => ?_⟩
     simp? only []
     exact hQ _ _ lY
    ·exact hQ _ _ (P'.mono (by omega))
   ·exact back zs o' _ [_] (cm.sub hz) (P'.mono (by have:=cm.jA;omega))
  subst hN
  simp? only [aB]
  refine BP (fun _ _=>rfl) cm.jA P (by omega) (fun p i o' Q hp hi P' hQ => ?_) rfl fun zs o' hz P' => ?_
  ·simp? only [aB]
   refine⟨n + i,2,o',rfl,rfl,P',by omega,by omega,by omega,fun r kg r0 r1 lY => ?_⟩
   simp? only []
   exact hQ _ _ lY
  ·exact back zs o' _ [_] (cm.sub hz) (P'.mono (by have:=cm.jA;omega))
theorem Hq {α : Type}:∀ {l:List α} {j:Nat} (h:j < l.length),List.Perm (l[j] :: l.eraseIdx j) l
 | x :: r,0,h=>q0D _
 | x :: r,j + 1,h=>by
  have hj:j < r.length:=by simpa using h
  show List.Perm (r[j] :: x :: r.eraseIdx j) (x :: r)
  exact (List.Perm.swap x r[j] _).trans ((Hq hj).cons x)
theorem Hr {α β : Type} (f : α -> β):∀ (l:List α) (j:Nat),(l.map f).eraseIdx j=(l.eraseIdx j).map f
 | [],_=>rfl
 | _ :: _,0=>rfl
 | x :: r,j + 1=>by
  show f x :: (r.map f).eraseIdx j=f x :: (r.eraseIdx j).map f
  rw[Hr f r j]
noncomputable def cU (y:Int × Int × Int):D := .tup [.int y.1,.int y.2.1,.int y.2.2]
noncomputable def cy (m:Int) (ys:List (Int × Int × Int)):D := .tup [.int m,.tup (ys.map cU)]
noncomputable def rK (y:Int × Int × Int):Int × Int:=(y.1,y.2.1)
theorem dU.perm {many:Int} {ps qs:List (Int × Int)} (h:dU many ps) (p:qs.Perm ps):dU many qs :=
 ⟨fun x hx=>h.ends x (p.mem_iff.mp hx),p.nodup_iff.mpr h.rF,by rw[p.length_eq];exact h.jA⟩
noncomputable def vA:GD:=fun ys ao K=>∃ (n d8 most:Int) (o:OV),ys=[.o 0,.p (.int d8),.p (.int most)]/\ao=[o]/\bp n o/\n + 400 < 2 ^ 30/\1 <= d8/\d8 <= 12/\0 <= most/\most <= 30 ∧
 ∀ m ws o',kB m ws->m <= d8->(ws.length:Int) <= most->bp (n + 300) o'->K (.p (cy m ws)) [o']
noncomputable def BR:WS:=(az (bu 3 (ay 2 gx (aj (ae 0) (aj (dC (.int 8)) ai)))) (az (bu 4 (ay 2 gx (aj (ae 0) (aj (dC (.int 4)) ai)))) (az (bu 5 (d2 (dC (.int 1)) (ay 2 gx (aj (ae 0) (aj (ae 1) ai))) dP)) (az (bu 6 (u3 3 vz (aj (ae 0) (aj (ae 3) (aj (ae 5) ai))))) (az (bu 7 (uW ai)) (az (iz (mR (aj (dN (aj (ae 2) (aj (dN (aj (ae 6) ai) cx) ai)) xT) ai)) (dB 8) (az (oo (Bt (ae 6) (aj (ay 2 gx (aj (ae 0) (aj (dN (aj (ae 6) ai) cx) ai))) ai)) (sR 2 (kX (dB 9) (kX (dB 10) qX)))) (az (bu 11 (d2 (fQ (aj (dC (.int 7)) (aj (ay 2 gx (aj (ae 0) (aj (dC (.int 3)) ai))) (aj (d2 (d2 (dC (.int 10)) (dC (.int 9)) (dS ft fun i j => .int (i ^ j.toNat))) (ay 2 gx (aj (ae 0) (aj (dC (.int 2)) ai))) (oI fun i j => .int (i - j))) (aj (ay 2 gx (aj (ae 0) (aj (d2 (d2 (dC (.int 10)) (dC (.int 9)) (dS ft fun i j => .int (i ^ j.toNat))) (dC (.int 1)) dP) ai))) ai))))) (ae 4) bS)) (qV (lV (ae 7) (aj (cQ (aj (ae 9) (aj (ae 10) (aj (ae 11) ai)))) ai)))))) (aI (cQ (aj (ae 5) (aj (dN (aj (ae 7) ai) xS) ai))))))))))
theorem Qb:∀ ys ao K',ys.length=3->vA ys ao K'->BR (cC ao.length K') ⟨ys.map some ++ List.replicate 9 none,ao.map some⟩:=by
 rintro ys ao K' - ⟨n,d8,most,o,rfl,rfl,P,hn,h1,Wg,s0,Wh,fin⟩
 unfold BR
 refine aX fun N hN => ?_
 simp? only []
 refine⟨n,8,o,rfl,rfl,P,by omega,by omega,by omega,fun kind o1 _ _ P1 => ?_⟩
 simp? only []
 subst hN
 refine aX fun N hN => ?_
 simp? only []
 refine⟨n + 1,4,o1,rfl,rfl,P1,by omega,by omega,by omega,fun fu o2 p0 p4 P2 => ?_⟩
 simp? only []
 subst hN
 refine aX fun N hN => ?_
 simp? only []
 refine⟨n + 1 + 1,d8,o2,rfl,rfl,P2,by omega,by omega,by omega,fun mm o3 m0 mh P3 => ?_⟩
 simp? only []
 subst hN
 refine aX fun N hN => ?_
 simp? only []
 refine⟨n + 1 + 1 + 1,kind,1 + mm,o3,rfl,rfl,P3,by omega,by omega,by omega,fun ps o4 Hs P4 => ?_⟩
 simp? only []
 subst hN
 refine aX fun N hN => ?_
 simp? only []
 subst hN
 refine aX fun N hN => ?_
 have Wi:=Hs.jA
 simp? only []
 refine⟨by omega,?_⟩
 have ek:(min most (ps.length:Int)).toNat=min most.toNat ps.length:=by omega
 rw[ek]
 generalize hk:min most.toNat ps.length=k
 refine sY (fun i δ => ∃ (qs:List (Int × Int)) (ws:List (Int × Int × Int)) (o':OV),qs.length + i=ps.length/\ws.length=i/\dU (1 + mm) (ws.map rK ++ qs)/\(∀ y∈ws,0 <= y.2.2/\y.2.2 <= 1000000000)/\bp (n + 70 + 4 * i) o' ∧
  δ = ⟨[some (.o 0),some (.p (.int d8)),some (.p (.int most)),some (.p (.int kind)),some (.p (.int fu)),some (.p (.int (1 + mm))),some (.o 1),some (.o 2),none,none,none,none],[some o',some (.lst (qs.map b9)),some (.lst (ws.map cU))]⟩)
  ⟨ps,[],o4,by omega,rfl,Hs,fun y hy=>absurd hy WC,P4.mono (by omega),rfl⟩ ?_ ?_
 ·rintro j d δ L hj ⟨qs,ws,o',hq,hw,hp,hy,P',rfl⟩ hL
  obtain⟨hj,rfl⟩:=oy hj
  have q0:0 < qs.length:=by omega
  have Qc:=hp.jA
  rw[Mm,sE] at Qc
  refine⟨trivial,?_⟩
  simp only[dB,XU,XW]
  refine aX fun N2 kG => ?_
  simp? only []
  refine⟨n + 70 + 4 * j,qs.length,o',rfl,rfl,P',by omega,by omega,by omega,fun r o1 r0 r1 P1 => ?_⟩
  obtain⟨rn,rfl⟩:∃ rn:Nat,r=rn:=⟨r.toNat,by omega⟩
  have hr:rn < qs.length:=by omega
  have ix:seqIndex? (rn:Int) qs.length=some rn:=N6 hr
  have eq:(qs.map b9)[rn]? = some (.tup [.int qs[rn].1,.int qs[rn].2]):=by rw[VX,qI hr];rfl
  simp? only [ix,eq]
  refine⟨⟨by omega,by omega⟩,?_⟩
  subst kG
  refine aX fun N2 kG => ?_
  simp only[bu,d2,fQ]
  refine yi fun K3 rL => ?_
  simp? only []
  subst rL
  refine yi fun K3 rL => ?_
  simp? only []
  refine⟨n + 70 + 4 * j + 1,3,o1,rfl,rfl,P1,by omega,by omega,by omega,fun a1 o2 Wj Wk P2 => ?_⟩
  simp? only []
  subst rL
  refine yi fun K3 rL => ?_
  simp? only []
  refine⟨⟨by decide,by decide,by decide⟩,n + 70 + 4 * j + 1 + 1,2,o2,rfl,rfl,P2,by omega,by omega,by omega,fun a2 o3 Wl Wm P3 => ?_⟩
  simp? only []
  subst rL
  refine yi fun K3 rL => ?_
  simp? only []
  refine⟨⟨by decide,by decide,by decide⟩,n + 70 + 4 * j + 1 + 1 + 1,10 ^ Int.toNat 9 + 1,o3,rfl,rfl,P3,by omega,by decide,by decide,fun a3 o4 Wn Qd P4 => ?_⟩
  simp? only []
  subst rL
  simp? only []
  have e9:(10:Int) ^ Int.toNat 9=1000000000:=by decide
  rw[e9] at Qd ⊢
  obtain⟨pr,Qe,Qf,Qg⟩:∃ pr:Int,fY [D.int 7,D.int a1,D.int (1000000000 - a2),D.int a3] fu=some (.int pr)/\0 <= pr/\pr <= 1000000000:=by
   have:fu=0\/fu=1\/fu=2\/fu=3:=by omega
   rcases this with rfl | rfl | rfl | rfl
   ·exact⟨7,rfl,by omega,by omega⟩
   ·exact⟨a1,rfl,by omega,by omega⟩
   ·exact⟨1000000000 - a2,rfl,by omega,by omega⟩
   ·exact⟨a3,rfl,by omega,by omega⟩
  rw[Qe]
  show N2 _
  subst kG
  simp? only []
  refine⟨by omega,hL _ ⟨qs.eraseIdx rn,ws ++ [(qs[rn].1,qs[rn].2,pr)],o4,?_,?_,?_,?_,P4.mono (by omega),?_⟩⟩
  ·rw[List.length_eraseIdx_of_lt hr];omega
  ·rw[Mm,hw];rfl
  ·refine hp.perm ?_
   rw[Xk,YH]
   refine List.Perm.append_left _ ?_
   exact Hq hr
  ·intro y pd
   rcases Xo.mp pd with h | h
   ·exact hy y h
   ·rw[Xq.mp h];exact⟨Qf,Qg⟩
  ·rw[Xk,Hr];rfl
 ·rintro δ ⟨qs,ws,o',hq,hw,hp,hy,P',rfl⟩
  refine⟨trivial,?_⟩
  subst hN
  simp? only []
  rw[mS] at hw P'
  refine⟨[o'],rfl,rfl,?_⟩
  refine fin (1 + mm) ws o' ⟨by omega,by omega,by omega,fun y pd => ?_,?_⟩ (by omega) (by omega) (P'.mono (by omega))
  ·have:=hp.ends (rK y) (XO _ (WQ.mpr ⟨y,pd,rfl⟩))
   have h2:=hy y pd
   simp only[rK] at this
   omega
  ·exact (Ye.mp hp.rF).1
end LJ
namespace L2
open PySem PySem.Spec PyProof.Rows
variable [aV]
noncomputable def yj:List D->(D->Prop)->Prop
 | [.lst ds],K=>match pQ ds with
  | some ps=>(ps.length <= 30/\∀ p∈ps,0 <= p.1/\p.1 < p.2/\p.2 < 12)/\K (.int (hW ps ps.length).length)
  | none=>False
 | _,_=>False
section
variable {X:Cx} {fa:WA}
theorem Qh {a:Expr} {p1 p2 q1 q2:Pos} (hc:X.calm=true) (hu:X.A.units + 64 < cLine) (Qi:Gl X "len") (hl:X.mg "len" = none) (Qj:bootBuiltins "len" = some (.builtin "len")) (vB:Gl X "set") (hr:X.mg "set" = none) (vC:bootBuiltins "set" = some (.type "set")) (ha:JA X [a] (cP fa))
  (he:starEach [a] X.env=[(false,eval a X.env)]:=by rfl) (Qk:starEach [.Call (.Name "set" p2) [a] [] q2] X.env=[(false,eval (.Call (.Name "set" p2) [a] [] q2) X.env)]:=by rfl):JE X (.Call (.Name "len" p1) [.Call (.Name "set" p2) [a] [] q2] [] q1) (tD (dN fa yj)) :=
 (xb (NY) Qi hl Qj (kA (sM (Pz hc hu) vB hr vC ha (he:=he)) aU) (he:=Qk)).weak fun σ H Q h0_ => el7 h0_ fun F ad δ K S q k =>⟨F,ad,δ,_,S,q,fun xs δ1 h1 vs F1 bh H1 E1 S1 V1=>by
  obtain⟨ds,h2,uS⟩:=AS S1 V1 h1
  unfold yj at h2
  split at h2
  ·split at h2
   ·rename_i es ps e
    obtain⟨v,rfl,a,vs,rfl,g1,g2⟩:=dj uS
    rw[Hf e] at g2
    obtain⟨as,rfl,hl,g⟩:=Hi g2
    refine⟨a,as,ps,rfl,bo.of g1,hl,fun i b k' e1 e2=>S1.sub _ _ (g i b k' e1 e2),h2.1.2,h2.1.1,fun p hp=>⟨p,(hW ps ps.length).length,rfl,bH,by have:=h2.1.1;have:=BG ps ps.length;omega,?_⟩⟩
    have s1:aA H1 (upd H1 p (lG p (hW ps ps.length).length)):=dG hp
    exact k _ _ h2.2 _ _ _ _ (E1.trans (Ext.al S1 s1)) (S1.al s1) rfl
   ·exact h2.elim
  ·exact h2.elim⟩
end
end L2
namespace LJ
open PySem L2
variable [aV]
noncomputable def yk:D->Bool
 | .int _=>true
 | _=>false
noncomputable def f6:D->Int->Int->Bool
 | .int i,lo,hi=>decide (lo <= i) && decide (i <= hi)
 | _,_,_=>false
noncomputable def k9:D->Int->Bool
 | .tup ds,n=>(ds.length:Int) == n
 | _,_=>false
theorem dq {K:RV->List OV->Prop} {d:D} {sl:List (Option DV)} (h:K (.p d) []):gQ 0 K (.p d) ⟨sl,[]⟩:=⟨[],rfl,rfl,h⟩
noncomputable def tu:GD:=fun ys ao K=>∃ d,ys=[.p d]/\ao=[]/\K (.p (.bl (yk d))) []
noncomputable def BS:WS:=(aI (iN (d1 (ae 0) (bw "int")) (xp (d1 (ae 0) (bw "bool")))))
theorem Ht:∀ ys ao K',ys.length=1->tu ys ao K'->BS (cC ao.length K') ⟨ys.map some ++ List.replicate 0 none,ao.map some⟩:=by
 rintro ys ao K' - ⟨d,rfl,rfl,k⟩
 unfold BS
 simp? only []
 cases d<;>simp only[bB,aP]<;>exact dq k
noncomputable def lZ:GD:=fun ys ao K=>∃ d lo hi,ys=[.p d,.p (.int lo),.p (.int hi)]/\ao=[]/\K (.p (.bl (f6 d lo hi))) []
noncomputable def BU:WS:=(aI (iN (ay 1 tu (aj (ae 0) ai)) (xQ (ae 1) (ae 0) (ae 2) (oI fun i j => .bl (decide (i <= j))) (oI fun i j => .bl (decide (i <= j))))))
theorem Hu:∀ ys ao K',ys.length=3->lZ ys ao K'->BU (cC ao.length K') ⟨ys.map some ++ List.replicate 0 none,ao.map some⟩:=by
 rintro ys ao K' - ⟨d,lo,hi,rfl,rfl,k⟩
 unfold BU
 simp? only []
 refine⟨d,rfl,rfl,?_⟩
 cases d<;>simp? only [yk,f6] at k ⊢ <;> first | exact dq k | skip
 rename_i i
 by_cases c:lo <= i
 ·rw[WN c] at k ⊢
  simp only[YT] at k
  exact dq k
 ·rw[WZ c] at k ⊢
  simp only[q0E] at k
  exact dq k
noncomputable def rM:GD:=fun ys ao K=>∃ d n,ys=[.p d,.p (.int n)]/\ao=[]/\K (.p (.bl (k9 d n))) []
noncomputable def BV:WS:=(aI (iN (d1 (ae 0) (bw "tuple")) (d2 (dN (aj (ae 0) ai) cx) (ae 1) oEq)))
theorem Ql:∀ ys ao K',ys.length=2->rM ys ao K'->BV (cC ao.length K') ⟨ys.map some ++ List.replicate 0 none,ao.map some⟩:=by
 rintro ys ao K' - ⟨d,n,rfl,rfl,k⟩
 unfold BV
 simp? only []
 cases d<;>simp? only [bB,aP,k9,aB] at k ⊢ <;> exact dq k
noncomputable def Hv (m:Int):D->D->Bool
 | .int i,b=>f6 b (i + 1) (m - 1)
 | _,_=>false
noncomputable def pT (m:Int) (a b:D):Bool:=f6 a 0 (m - 1) && Hv m a b
theorem pU {d:D} {lo hi:Int} (h:f6 d lo hi=true):∃ i,d = .int i/\lo <= i/\i <= hi:=by
 cases d with
 | int i =>
  have h:(decide (lo <= i) && decide (i <= hi))=true:=h
  rw[VY,Xt,Xt] at h
  exact⟨i,rfl,h⟩
 | _=>cases h
noncomputable def vD:GD:=fun ys ao K=>∃ m a b,ys=[.p (.int m),.p a,.p b]/\ao=[]/\K (.p (.bl (pT m a b))) []
noncomputable def BW:WS:=(aI (iN (ay 3 lZ (aj (ae 1) (aj (dC (.int 0)) (aj (d2 (ae 0) (dC (.int 1)) (oI fun i j => .int (i - j))) ai)))) (ay 3 lZ (aj (ae 2) (aj (d2 (ae 1) (dC (.int 1)) dP) (aj (d2 (ae 0) (dC (.int 1)) (oI fun i j => .int (i - j))) ai))))))
theorem Qm:∀ ys ao K',ys.length=3->vD ys ao K'->BW (cC ao.length K') ⟨ys.map some ++ List.replicate 0 none,ao.map some⟩:=by
 rintro ys ao K' - ⟨m,a,b,rfl,rfl,k⟩
 unfold BW
 simp? only []
 refine⟨a,0,m - 1,rfl,rfl,?_⟩
 simp? only []
 unfold pT at k
 cases q:f6 a 0 (m - 1)
 ·rw[q] at k
  exact dq k
 ·rw[q] at k
  obtain⟨i,rfl,_,_⟩:=pU q
  simp? only [YT,Hv] at k ⊢
  refine⟨b,i + 1,m - 1,rfl,rfl,?_⟩
  simp? only []
  exact dq k
noncomputable def bN (m:Int):D->Bool
 | .tup [a,b,p]=>pT m a b && f6 p 0 1000000000
 | _=>false
noncomputable def vE:GD:=fun ys ao K=>∃ m d,ys=[.p (.int m),.p d]/\ao=[]/\K (.p (.bl (bN m d))) []
noncomputable def BX:WS:=(az (br (dH (dT (ay 2 rM (aj (ae 1) (aj (dC (.int 3)) ai))))) (aI (dC (.bl false))) cR) (aI (iN (ay 3 vD (aj (ae 0) (aj (d2 (ae 1) (dC (.int 0)) bS) (aj (d2 (ae 1) (dC (.int 1)) bS) ai)))) (ay 3 lZ (aj (d2 (ae 1) (dC (.int 2)) bS) (aj (dC (.int 0)) (aj (dC (.int 1000000000)) ai)))))))
theorem Hw {m:Int} {d:D} (h:k9 d 3=false):bN m d=false:=by
 unfold bN
 split
 ·exact absurd h (by simp[k9])
 ·rfl
theorem vF {d:D} (h:k9 d 3=true):∃ a b c,d = .tup [a,b,c]:=by
 cases d with
 | tup ds =>
  have h:((ds.length:Int) == 3)=true:=h
  have h:=WV h
  match ds,h with
  | [a,b,c],_=>exact⟨a,b,c,rfl⟩
  | [],h=>simp at h
  | [_],h=>simp at h
  | [_,_],h=>simp at h
  | _ :: _ :: _ :: _ :: r,h=>simp at h;omega
 | _=>cases h
theorem vG {d:D} (h:k9 d 2=true):∃ a b,d = .tup [a,b]:=by
 cases d with
 | tup ds =>
  have h:((ds.length:Int) == 2)=true:=h
  have h:=WV h
  match ds,h with
  | [a,b],_=>exact⟨a,b,rfl⟩
  | [],h=>simp at h
  | [_],h=>simp at h
  | _ :: _ :: _ :: r,h=>simp at h;omega
 | _=>cases h
theorem Qn:∀ ys ao K',ys.length=2->vE ys ao K'->BX (cC ao.length K') ⟨ys.map some ++ List.replicate 0 none,ao.map some⟩:=by
 rintro ys ao K' - ⟨m,d,rfl,rfl,k⟩
 unfold BX
 refine aX fun N hN => ?_
 simp? only []
 refine⟨d,3,rfl,rfl,?_⟩
 simp? only []
 cases q:k9 d 3
 ·rw[Hw q] at k
  simp only[Yb,Yf]
  exact dq k
 ·simp only[Xd,Ml,Xc]
  subst hN
  obtain⟨a,b,c,rfl⟩:=vF q
  simp? only [kF,jz,at2]
  refine⟨m,a,b,rfl,rfl,?_⟩
  simp? only [bN] at k ⊢
  cases q2:pT m a b
  ·rw[q2] at k
   exact dq k
  ·rw[q2] at k
   refine⟨c,0,1000000000,rfl,rfl,?_⟩
   simp? only [YT] at k ⊢
   exact dq k
noncomputable def pairOf:D->Int × Int
 | .tup [.int i,.int j,_]=>(i,j)
 | _=>(0,0)
theorem vH {m:Int} {d:D} (h:bN m d=true):∃ i j p,d = .tup [.int i,.int j,.int p]/\0 <= i/\i < j/\j < m/\0 <= p/\p <= 1000000000:=by
 unfold bN at h
 split at h
 ·rename_i a b p
  rw[VY] at h
  obtain⟨h1,h2⟩:=h
  unfold pT at h1
  rw[VY] at h1
  obtain⟨i,rfl,i0,i1⟩:=pU h1.1
  have h3:f6 b (i + 1) (m - 1)=true:=h1.2
  obtain⟨j,rfl,j0,j1⟩:=pU h3
  obtain⟨p',rfl,p0,p1⟩:=pU h2
  exact⟨i,j,p',rfl,i0,by omega,by omega,p0,p1⟩
 ·cases h
noncomputable def mW (m:Int):D->Bool
 | .tup ws=>decide (ws.length <= 30) && (ws.all (bN m) && decide ((ws.map pairOf).Nodup))
 | _=>false
noncomputable def vI:GD:=fun ys ao K=>∃ m d,ys=[.p (.int m),.p d]/\ao=[]/\m <= 12/\K (.p (.bl (mW m d))) []
noncomputable def BY:WS:=(az (br (j8 (dH (dT (d1 (ae 1) (bw "tuple")))) (dT (d2 (dN (aj (ae 1) ai) cx) (dC (.int 30)) (oI fun i j => .bl (decide (j < i)))))) (aI (dC (.bl false))) cR) (az (br (dH (dT (dN (aj (kE (gR (ae 1)) [none,some 0] (dB 0) gu (ay 2 vE (aj (ae 1) (aj (ae 0) ai)))) ai) oA))) (aI (dC (.bl false))) cR) (aI (d2 (dN (aj (kE (gR (ae 1)) [none] (dB 0) gu (gY (ae 0) gU (mT (dC (.int 2))))) ai) yj) (dN (aj (ae 1) ai) cx) oEq))))
theorem Qo:∀ ys ao K',ys.length=2->vI ys ao K'->BY (cC ao.length K') ⟨ys.map some ++ List.replicate 0 none,ao.map some⟩:=by
 rintro ys ao K' - ⟨m,d,rfl,rfl,hm,k⟩
 unfold BY
 refine aX fun N hN => ?_
 by_cases ht:∃ ws,d = .tup ws
 ·obtain⟨ws,rfl⟩:=ht
  simp? only [bB,show aP "tuple" "tuple" = true from rfl]
  by_cases vJ:(30:Int) < ws.length
  ·rw[VZ (WN vJ)]
   have:mW m (.tup ws)=false:=by
    show (decide (ws.length <= 30) && _)=false
    rw[WZ (by omega)];rfl
   rw[this] at k
   exact dq k
  ·rw[My (by rw[WZ vJ];decide)]
   subst hN
   have oE:ws.length <= 30:=by omega
   refine aX fun N hN => ?_
   simp? only []
   refine mV (fun d => .bl (bN m d)) (by omega) trivial ?_ ?_
   ·intro d hd acc L ha h
    simp? only []
    refine⟨m,d,rfl,rfl,?_⟩
    simp? only []
    exact⟨ha,h⟩
   ·have e:rA (ws.map fun d=>D.bl (bN m d))=some (ws.map (bN m)):=by
     have:=Gu (ws.map (bN m))
     rw[Xf] at this
     exact this
    simp? only [e]
    have ea:(ws.map (bN m)).all id=ws.all (bN m):=by rw[List.all_map];rfl
    rw[ea]
    cases q:ws.all (bN m)
    ·have:mW m (.tup ws)=false:=by
      show (decide (ws.length <= 30) && (ws.all (bN m) && _))=false
      rw[q];simp
     rw[this] at k
     exact dq k
    ·simp only[Xd,Ml,Xc]
     subst hN
     have hw:∀ w∈ws,bN m w=true:=Xb.mp q
     simp? only []
     refine mV (fun d => .tup [.int (pairOf d).1,.int (pairOf d).2]) (by omega) trivial ?_ ?_
     ·intro d hd acc L ha h
      obtain⟨i,j,p,rfl,_⟩:=vH (hw d hd)
      have ec:cutD [D.int i,D.int j,D.int p] none (some 2)=[D.int i,D.int j]:=by
       unfold cutD;rfl
      simp? only [ec]
      exact⟨ha,h⟩
     ·have ep:pQ (ws.map fun d=>D.tup [.int (pairOf d).1,.int (pairOf d).2])=some (ws.map pairOf):=by
       have:=Hg (ws.map pairOf)
       rw[Xf] at this
       exact this
      have kk:mW m (.tup ws)=decide ((ws.map pairOf).Nodup):=by
       show (decide (ws.length <= 30) && (ws.all (bN m) && _))=_
       rw[q,WN oE];rfl
      rw[kk] at k
      simp? only [yj,ep,aB]
      refine⟨⟨oE,fun p hp => ?_⟩,dq ?_⟩
      ·obtain⟨w,Qp,rfl⟩:=WQ.mp hp
       obtain⟨i,j,p,rfl,a1,a2,a3,_⟩:=vH (hw w Qp)
       exact⟨a1,a2,by show j < 12;omega⟩
      ·have:(((hW (ws.map pairOf) ws.length).length:Int) == (ws.length:Int))=decide ((ws.map pairOf).Nodup):=by
        by_cases c:(ws.map pairOf).Nodup
        ·have e2:=Hh c (ws.map pairOf).length (wV _)
         rw[sE] at e2
         rw[WN c,e2,WW,sE,Nat.min_self]
         simp
        ·rw[WZ c]
         refine beq_false_of_ne fun z=>c (Py ?_)
         rw[sE];omega
       rw[this];exact k
 ·have:mW m d=false:=by
   cases d with
   | tup ws=>exact absurd ⟨ws,rfl⟩ ht
   | _=>rfl
  rw[this] at k
  cases d with
  | tup ws=>exact absurd ⟨ws,rfl⟩ ht
  | _=>simp? only [bB];exact dq k
noncomputable def eM:D->Bool
 | .tup [m,ws]=>f6 m 1 12 && (match m with
  | .int i=>mW i ws
  | _=>false)
 | _=>false
noncomputable def pV:GD:=fun ys ao K=>∃ d,ys=[.p d]/\ao=[]/\K (.p (.bl (eM d))) []
noncomputable def BZ:WS:=(az (br (dH (dT (ay 2 rM (aj (ae 0) (aj (dC (.int 2)) ai))))) (aI (dC (.bl false))) cR) (aI (iN (ay 3 lZ (aj (d2 (ae 0) (dC (.int 0)) bS) (aj (dC (.int 1)) (aj (dC (.int 12)) ai)))) (ay 2 vI (aj (d2 (ae 0) (dC (.int 0)) bS) (aj (d2 (ae 0) (dC (.int 1)) bS) ai))))))
theorem Qq:∀ ys ao K',ys.length=1->pV ys ao K'->BZ (cC ao.length K') ⟨ys.map some ++ List.replicate 0 none,ao.map some⟩:=by
 rintro ys ao K' - ⟨d,rfl,rfl,k⟩
 unfold BZ
 refine aX fun N hN => ?_
 simp? only []
 refine⟨d,2,rfl,rfl,?_⟩
 simp? only []
 cases q:k9 d 2
 ·have:eM d=false:=by
   unfold eM
   split
   ·exact absurd q (by simp[k9])
   ·rfl
  rw[this] at k
  simp only[Yb,Yf]
  exact dq k
 ·simp only[Xd,Ml,Xc]
  subst hN
  obtain⟨a,b,rfl⟩:=vG q
  simp? only [kF,jz]
  refine⟨a,1,12,rfl,rfl,?_⟩
  simp? only [eM] at k ⊢
  cases q2:f6 a 1 12
  ·rw[q2] at k
   exact dq k
  ·rw[q2] at k
   obtain⟨i,rfl,_,hi⟩:=pU q2
   refine⟨i,b,rfl,rfl,hi,?_⟩
   simp? only [YT] at k ⊢
   exact dq k
theorem b_ {K:RV->List OV->Prop} {d:D} {sl:List (Option DV)} {mu:List (Option OV)} (h:K (.p d) []):gQ 0 K (.p d) ⟨sl,mu⟩:=⟨[],rfl,rfl,h⟩
noncomputable def pW:GD:=tu
noncomputable def Hx:WS:=(aI (iN (d1 (ae 0) (bw "int")) (xp (d1 (ae 0) (bw "bool")))))
theorem Qr:∀ ys ao K',ys.length=1->pW ys ao K'->Hx (cC ao.length K') ⟨ys.map some ++ List.replicate 0 none,ao.map some⟩:=Ht
noncomputable def pX:GD:=lZ
noncomputable def Hy:WS:=(aI (iN (ay 1 pW (aj (ae 0) ai)) (xQ (ae 1) (ae 0) (ae 2) (oI fun i j => .bl (decide (i <= j))) (oI fun i j => .bl (decide (i <= j))))))
theorem Qs:∀ ys ao K',ys.length=3->pX ys ao K'->Hy (cC ao.length K') ⟨ys.map some ++ List.replicate 0 none,ao.map some⟩:=Hu
theorem Qt (p q:Int × Int):aB (b9 p) (b9 q)=decide (p=q):=by
 obtain⟨a,b⟩:=p
 obtain⟨c,d⟩:=q
 simp only[b9,aB,dJ,Bool.and_true]
 by_cases h1:a=c<;>by_cases h2:b=d<;>simp[h1,h2]
theorem Hz:∀ ps:List (Int × Int),bg (ps.map b9) <= 1
 | []=>W5 _
 | p :: r=>by
  rw[W8]
  have:=Hz r
  simp only[bg,b9,dep]
  omega
theorem HA:∀ (ps:List (Int × Int)) (q:Int × Int),((ps.map b9).any fun e=>aB e (.tup [.int q.1,.int q.2]))=decide (q∈ps)
 | [],q=>by simp
 | p :: r,q=>by
  rw[W8,Z_,HA r q,show aB (b9 p) (.tup [.int q.1,.int q.2])=decide (p=q) from Qt p q]
  by_cases c:p=q
  ·subst c;simp
  ·have c':¬ q=p:=fun z=>c z.symm
   simp[c,c']
noncomputable def vK:GD:=pV
noncomputable def B0:WS:=(az (br (j8 (dH (dT (d1 (ae 0) (bw "tuple")))) (j8 (dT (d2 (dN (aj (ae 0) ai) cx) (dC (.int 2)) lR)) (dH (dT (ay 3 pX (aj (d2 (ae 0) (dC (.int 0)) bS) (aj (dC (.int 1)) (aj (dC (.int 12)) ai)))))))) (aI (dC (.bl false))) cR) (az (br (j8 (dH (dT (d1 (d2 (ae 0) (dC (.int 1)) bS) (bw "tuple")))) (dT (d2 (dN (aj (d2 (ae 0) (dC (.int 1)) bS) ai) cx) (dC (.int 30)) (oI fun i j => .bl (decide (j < i)))))) (aI (dC (.bl false))) cR) (az (bu 1 (uW ai)) (az (iz (gR (d2 (ae 0) (dC (.int 1)) bS)) (dB 2) (az (br (j8 (dH (dT (d1 (ae 2) (bw "tuple")))) (j8 (dT (d2 (dN (aj (ae 2) ai) cx) (dC (.int 3)) lR)) (dH (dT (ay 3 pX (aj (d2 (ae 2) (dC (.int 2)) bS) (aj (dC (.int 0)) (aj (d2 (dC (.int 10)) (dC (.int 9)) (dS ft fun i j => .int (i ^ j.toNat))) ai)))))))) (aI (dC (.bl false))) cR) (az (br (j8 (dH (dT (ay 3 pX (aj (d2 (ae 2) (dC (.int 0)) bS) (aj (dC (.int 0)) (aj (d2 (d2 (ae 0) (dC (.int 0)) bS) (dC (.int 1)) (oI fun i j => .int (i - j))) ai)))))) (dH (dT (ay 3 pX (aj (d2 (ae 2) (dC (.int 1)) bS) (aj (d2 (d2 (ae 2) (dC (.int 0)) bS) (dC (.int 1)) dP) (aj (d2 (d2 (ae 0) (dC (.int 0)) bS) (dC (.int 1)) (oI fun i j => .int (i - j))) ai))))))) (aI (dC (.bl false))) cR) (az (br (dT (d2 (gY (ae 2) gU (mT (dC (.int 2)))) (ae 1) (pJ false))) (aI (dC (.bl false))) cR) (qV (lV (ae 1) (aj (gY (ae 2) gU (mT (dC (.int 2)))) ai))))))) (aI (dC (.bl true)))))))
theorem Qu:∀ ys ao K',ys.length=1->vK ys ao K'->B0 (cC ao.length K') ⟨ys.map some ++ List.replicate 2 none,ao.map some⟩:=by
 rintro ys ao K' - ⟨d,rfl,rfl,k⟩
 unfold B0
 refine aX fun N hN => ?_
 by_cases ht:k9 d 2=true
 ·obtain⟨a,b,rfl⟩:=vG ht
  simp? only [bB,show aP "tuple" "tuple" = true from rfl,kF,jz,aB]
  simp only[show (((1 + 1:Nat):Int) == 2)=true from rfl,Xd,Ml,Xc]
  refine⟨a,1,12,rfl,rfl,?_⟩
  simp? only []
  simp only[eM] at k
  cases q2:f6 a 1 12
  ·rw[q2] at k
   simp only[Yb,Yf]
   exact b_ k
  ·rw[q2] at k
   obtain⟨i,rfl,_,hi⟩:=pU q2
   simp only[Xd,Ml,Xc,YT] at k ⊢
   subst hN
   refine aX fun N hN => ?_
   by_cases hb:∃ ws,b = .tup ws
   ·obtain⟨ws,rfl⟩:=hb
    simp? only [bB,show aP "tuple" "tuple" = true from rfl,kF,jz,aB]
    by_cases vJ:(30:Int) < ws.length
    ·rw[VZ (WN vJ)]
     have:mW i (.tup ws)=false:=by
      show (decide (ws.length <= 30) && _)=false
      rw[WZ (by omega)];rfl
     rw[this] at k
     exact b_ k
    ·rw[My (by rw[WZ vJ];decide)]
     have oE:ws.length <= 30:=by omega
     subst hN
     have kk:mW i (.tup ws)=(ws.all (bN i) && decide ((ws.map pairOf).Nodup)):=by
      show (decide (ws.length <= 30) && _)=_
      rw[WN oE];rfl
     rw[kk] at k
     refine aX fun N hN => ?_
     simp? only []
     subst hN
     refine aX fun N hN => ?_
     simp? only [jz]
     refine sY (fun j δ => (∀ w∈ws.take j,bN i w=true)/\((ws.take j).map pairOf).Nodup /\ δ = ⟨[some (.p (.tup [.int i,.tup ws])),some (.o 0),none],[some (.lst (((ws.take j).map pairOf).map b9))]⟩) ⟨fun w hw=>by simp at hw,ZX,rfl⟩ ?_ ?_
     ·rintro j w δ L hj ⟨h1,h2,rfl⟩ hL
      refine⟨trivial,?_⟩
      have BI:j < ws.length:=(qK.mp hj).1
      have hm:w∈ws:=Xi hj
      have et:ws.take (j + 1)=ws.take j ++ [w]:=by rw[Zj,hj];rfl
      have bad:bN i w=false->K' (.p (.bl false)) []:=fun z=>by
       have:ws.all (bN i)=false:=List.all_eq_false.mpr ⟨w,hm,by rw[z];decide⟩
       rw[this] at k;exact k
      simp only[dB,XU,XW]
      refine aX fun N hN => ?_
      by_cases h3:k9 w 3=true
      ·obtain⟨x,y,z,rfl⟩:=vF h3
       simp? only [bB,show aP "tuple" "tuple" = true from rfl,kF,jz,at2,aB]
       simp only[show (((2 + 1:Nat):Int) == 3)=true from rfl,Xd,Ml,Xc]
       have e9:(10:Int) ^ Int.toNat 9=1000000000:=by decide
       rw[e9]
       refine⟨⟨by decide,by decide,by decide⟩,z,0,1000000000,rfl,rfl,?_⟩
       simp? only []
       cases qz:f6 z 0 1000000000
       ·simp only[Yb,Yf]
        exact b_ (bad (by show (pT i x y && f6 z 0 1000000000)=false;rw[qz,Zg]))
       ·simp only[Xd,Ml,Xc]
        subst hN
        refine aX fun N hN => ?_
        simp? only [kF,jz]
        refine⟨x,0,i - 1,rfl,rfl,?_⟩
        simp? only []
        cases qx:f6 x 0 (i - 1)
        ·simp only[Yb,Yf]
         exact b_ (bad (by show (pT i x y && f6 z 0 1000000000)=false;unfold pT;rw[qx];rfl))
        ·obtain⟨u,rfl,_,_⟩:=pU qx
         simp? only [kF,jz]
         refine⟨y,u + 1,i - 1,rfl,rfl,?_⟩
         simp? only []
         cases qy:f6 y (u + 1) (i - 1)
         ·simp only[Yb,Yf]
          exact b_ (bad (by show ((f6 (.int u) 0 (i - 1) && f6 y (u + 1) (i - 1)) && f6 z 0 1000000000)=false;rw[qy,Zg];rfl))
         ·simp only[Xd,Ml,Xc]
          obtain⟨v,rfl,_,_⟩:=pU qy
          have good:bN i (.tup [.int u,.int v,z])=true:=by
           show ((f6 (.int u) 0 (i - 1) && f6 (.int v) (u + 1) (i - 1)) && f6 z 0 1000000000)=true
           rw[qx,qy,qz];rfl
          subst hN
          have ec:cutD [D.int u,D.int v,z] none (some 2)=[D.int u,D.int v]:=rfl
          refine aX fun N hN => ?_
          simp? only [ec]
          refine⟨W7 (Hz _) (by decide),?_⟩
          have ea:((((ws.take j).map pairOf).map b9).any fun e=>aB e (.tup [.int u,.int v]))=decide ((u,v)∈(ws.take j).map pairOf):=HA _ (u,v)
          rw[ea]
          by_cases c:(u,v)∈(ws.take j).map pairOf
          ·rw[WN c]
           refine b_ ?_
           have nn:¬ (ws.map pairOf).Nodup:=fun nd=>by
            have e2:ws.map pairOf=(ws.take j).map pairOf ++ (ws.drop j).map pairOf:=by rw[<-Xk,List.take_append_drop]
            rw[e2] at nd
            refine (Ye.mp nd).2.2 (u,v) c (u,v) ?_ rfl
            rw[Xu BI]
            have:ws[j] = .tup [.int u,.int v,z]:=(qK.mp hj).2
            rw[this]
            exact VV
           rw[WZ nn,Zg] at k
           exact k
          ·rw[WZ c]
           simp only[Ml,Xc]
           subst hN
           simp? only [ec]
           have hl:(ws.take j).length <= 30:=by rw[WW];omega
           refine⟨by omega,hL _ ⟨fun w hw => ?_,?_,?_⟩⟩
           ·rw[et] at hw
            rcases Xo.mp hw with hw | hw
            ·exact h1 w hw
            ·rw[Xq.mp hw];exact good
           ·rw[et,Xk]
            refine Ye.mpr ⟨h2,by simp,fun a ha b hb e=>c ?_⟩
            have hb:b=(u,v):=by simpa [pairOf] using hb
            rw[<-hb,<-e];exact ha
           ·rw[et,Xk,Xk];rfl
      ·have:bN i w=false:=Hw (YN _ |>.mp h3)
       cases w with
       | tup ds =>
        simp? only [bB,show aP "tuple" "tuple" = true from rfl,aB]
        have:((ds.length:Int) == 3)=false:=YN _ |>.mp h3
        rw[this]
        exact b_ (bad (by assumption))
       | _=>simp? only [bB];exact b_ (bad (by assumption))
     ·rintro δ ⟨h1,h2,rfl⟩
      refine⟨trivial,?_⟩
      subst hN
      simp? only []
      rw[Xw (wV _)] at h1 h2
      rw[Xb.mpr h1,WN h2] at k
      exact b_ k
   ·have:mW i b=false:=by
     cases b with
     | tup ws=>exact absurd ⟨ws,rfl⟩ hb
     | _=>rfl
    rw[this] at k
    cases b with
    | tup ws=>exact absurd ⟨ws,rfl⟩ hb
    | _=>simp? only [jz,bB];exact b_ k
 ·have:eM d=false:=by
   unfold eM
   split
   ·exact absurd (by simp[k9]) ht
   ·rfl
  rw[this] at k
  cases d with
  | tup ds =>
   simp? only [bB,show aP "tuple" "tuple" = true from rfl,aB]
   have:((ds.length:Int) == 2)=false:=YN _ |>.mp ht
   rw[this]
   exact b_ k
  | _=>simp? only [bB];exact b_ k
mutual
noncomputable def kH:D->Nat
 | .tup ds=>max ds.length (gy ds)
 | .lst ds=>max ds.length (gy ds)
 | _=>0
noncomputable def gy:List D->Nat
 | []=>0
 | d :: ds=>max (kH d) (gy ds)
end
theorem eN {l:Nat}:∀ {ds:List D},gy ds <= l↔∀ d∈ds,kH d <= l
 | []=>by simp[gy]
 | d :: r=>by
  simp only[gy,EZ,forall_eq_or_imp,<-eN (ds:=r)]
  omega
theorem eO {l:Nat}:∀ {ds:List D},bg ds <= l↔∀ d∈ds,dep d <= l
 | []=>by simp[bg]
 | d :: r=>by
  simp only[bg,EZ,forall_eq_or_imp,<-eO (ds:=r)]
  omega
noncomputable def Bd (l m:Nat) (d:D):Prop:=kH d <= l/\dep d <= m
theorem Bd.mono {l l' m m':Nat} {d:D} (h:Bd l m d) (h1:l <= l') (h2:m <= m'):Bd l' m' d:=⟨W7 h.1 h1,W7 h.2 h2⟩
theorem cb {l m:Nat} {ds:List D}:Bd l (m + 1) (.tup ds)↔ds.length <= l/\∀ d∈ds,Bd l m d:=by
 unfold Bd
 simp only[kH,dep]
 constructor
 ·rintro ⟨h1,h2⟩
  have a:gy ds <= l:=by omega
  have b:bg ds <= m:=by omega
  exact⟨by omega,fun d hd=>⟨eN.mp a d hd,eO.mp b d hd⟩⟩
 ·rintro ⟨h1,h2⟩
  have a:gy ds <= l:=eN.mpr fun d hd=>(h2 d hd).1
  have b:bg ds <= m:=eO.mpr fun d hd=>(h2 d hd).2
  omega
theorem rN {l m:Nat} {ds:List D}:Bd l (m + 1) (.lst ds)↔ds.length <= l/\∀ d∈ds,Bd l m d:=by
 unfold Bd
 simp only[kH,dep]
 constructor
 ·rintro ⟨h1,h2⟩
  have a:gy ds <= l:=by omega
  have b:bg ds <= m:=by omega
  exact⟨by omega,fun d hd=>⟨eN.mp a d hd,eO.mp b d hd⟩⟩
 ·rintro ⟨h1,h2⟩
  have a:gy ds <= l:=eN.mpr fun d hd=>(h2 d hd).1
  have b:bg ds <= m:=eO.mpr fun d hd=>(h2 d hd).2
  omega
theorem ym {α : Type} {xs:List α} {k:Int} (h0:0 <= k) (h1:k < (xs.length:Int)):∃ x∈xs,fY xs k=some x:=by
 obtain⟨i,rfl⟩:∃ i:Nat,k=i:=⟨k.toNat,by omega⟩
 have hi:i < xs.length:=by omega
 exact⟨xs[i],Yh hi,mH (qI hi)⟩
theorem vL {ds:List D} {lo hi:Option Int} {d:D} (h:d∈cutD ds lo hi):d∈ds:=List.mem_of_mem_drop (List.mem_of_mem_take h)
theorem vM (ds:List D) (lo hi:Option Int):(cutD ds lo hi).length <= ds.length:=by
 unfold cutD
 rw[WW,Xz];omega
noncomputable def l6 (n:Nat):GD:=fun ys ao K=>∃ (N deep:Int) (l m:Nat) (d:D) (o:OV),ys=[.o 0,.p d,.p (.int deep)]/\ao=[o]/\bp N o/\N + 10 * (n + 1) < 2 ^ 30/\deep <= n/\n <= 3/\Bd l m d/\l <= 400/\1 <= l/\m <= 40 ∧
 ∀ d' o',Bd (l + 1) (m + 1) d'->bp (N + 4 * (n + 1)) o'->K (.p d') [o']
noncomputable def rO:List D:=[.non,.bl true,.bl false,.str "",.str "0",.tup [],.lst [],.int (10 ^ Int.toNat 20),.int (-1),.int 0,.int 1,.int (10 ^ Int.toNat 9),.int (10 ^ Int.toNat 9 + 1),.tup [.int 0],.lst [.int 0],.int 12]
theorem Qv:∀ x∈rO,Bd 1 1 x:=by
 intro x hx
 simp only[rO,EZ,WC,Xy] at hx
 rcases hx with rfl | rfl | rfl | rfl | rfl | rfl | rfl | rfl | rfl | rfl | rfl | rfl | rfl | rfl | rfl | rfl<;>exact⟨by simp[kH,gy],by simp[dep,bg]⟩
noncomputable def B1 (l6:GD):WS:=(az (bu 3 (ay 2 gx (aj (ae 0) (aj (dC (.int 8)) ai)))) (az (bu 4 (ay 2 gx (aj (ae 0) (aj (dC (.int 16)) ai)))) (az (bu 5 (d2 (ay 2 gx (aj (ae 0) (aj (dC (.int 9)) ai))) (dC (.int 2)) (oI fun i j => .int (i - j)))) (az (br (i9 (dT (d1 (ae 1) (bw "tuple"))) (i9 (dT (d2 (ae 1) (cQ ai) lR)) (i9 (dT (d2 (ae 2) (dC (.int 0)) (oI fun i j => .bl (decide (j < i))))) (dT (d2 (ae 4) (dC (.int 3)) (oI fun i j => .bl (decide (j < i)))))))) (az (bu 6 (ay 2 gx (aj (ae 0) (aj (dN (aj (ae 1) ai) cx) ai)))) (aI (d2 (d2 (gY (ae 1) gU (mT (ae 6))) (cQ (aj (ay 3 l6 (aj (ae 0) (aj (d2 (ae 1) (ae 6) bS) (aj (d2 (ae 2) (dC (.int 1)) (oI fun i j => .int (i - j))) ai)))) ai)) dP) (gY (ae 1) (mT (d2 (ae 6) (dC (.int 1)) dP)) gU) dP))) cR) (az (bu 7 (fQ (aj (dC .non) (aj (dC (.bl true)) (aj (dC (.bl false)) (aj (dC (.str "")) (aj (dC (.str "0")) (aj (cQ ai) (aj (fQ ai) (aj (d2 (dC (.int 10)) (dC (.int 20)) (dS ft fun i j => .int (i ^ j.toNat))) (aj (d1 (dC (.int 1)) lT) (aj (dC (.int 0)) (aj (dC (.int 1)) (aj (d2 (dC (.int 10)) (dC (.int 9)) (dS ft fun i j => .int (i ^ j.toNat))) (aj (d2 (d2 (dC (.int 10)) (dC (.int 9)) (dS ft fun i j => .int (i ^ j.toNat))) (dC (.int 1)) dP) (aj (cQ (aj (dC (.int 0)) ai)) (aj (fQ (aj (dC (.int 0)) ai)) (aj (dC (.int 12)) ai)))))))))))))))))) (az (br (dT (d1 (ae 1) (bw "tuple"))) (az (bu 8 (fQ (aj (dN (aj (ae 1) ai) xR) (aj (d2 (ae 1) (gY (ae 1) gU (mT (dC (.int 1)))) dP) (aj (gY (ae 1) gU (mT (d1 (dC (.int 1)) lT))) (aj (d1 (ae 1) yg) (aj (d2 (ae 1) (cQ (aj (ae 5) ai)) dP) (aj (gY (ae 1) (mT (dC (.int 1))) gU) (aj (cQ (aj (ae 1) ai)) ai))))))))) (aI (d2 (d2 (ae 8) (fQ (aj (d2 (ae 7) (ae 4) bS) ai)) dP) (ae 3) bS))) cR) (az (br (dT (ay 1 pW (aj (ae 1) ai))) (aI (d2 (fQ (aj (d2 (ae 1) (dC (.int 1)) dP) (aj (d2 (ae 1) (dC (.int 1)) (oI fun i j => .int (i - j))) (aj (d2 (dC (.int 0)) (ae 1) (oI fun i j => .int (i - j))) (aj (ae 5) (aj (ae 5) (aj (d2 (ae 1) (dC (.int 1)) oEq) (aj (d2 (dC (.int 13)) (ae 1) (oI fun i j => .int (i - j))) (aj (d2 (ae 7) (ae 4) bS) ai))))))))) (ae 3) bS)) cR) (aI (d2 (ae 7) (ae 4) bS)))))))))
noncomputable def B2 (g:Nat->GD):Nat->GD
 | 0=>fun _ _ _=>False
 | n + 1=>g n
theorem Qw (n:Nat):∀ ys ao K',ys.length=3->l6 n ys ao K'->B1 (B2 l6 n) (cC ao.length K') ⟨ys.map some ++ List.replicate 6 none,ao.map some⟩:=by
 rintro ys ao K' - ⟨N,deep,l,m,d,o,rfl,rfl,P,Wo,HB,Wq,bd,hl,Qx,hm,fin⟩
 unfold B1
 have back:∀ (d':D) (o':OV) (sl:List (Option DV)) (mu:List (Option OV)),Bd (l + 1) (m + 1) d'->bp (N + 4 * (n + 1)) o'->gQ 1 K' (.p d') ⟨sl,some o' :: mu⟩:=fun d' o' sl mu h1 h2=>⟨[o'],rfl,rfl,fin d' o' h1 h2⟩
 refine aX fun N' hN => ?_
 simp? only []
 refine⟨N,8,o,rfl,rfl,P,by omega,by omega,by omega,fun kind o1 k0 k8 P1 => ?_⟩
 simp? only []
 subst hN
 refine aX fun N' hN => ?_
 simp? only []
 refine⟨N + 1,16,o1,rfl,rfl,P1,by omega,by omega,by omega,fun pick o2 p0 Wr P2 => ?_⟩
 simp? only []
 subst hN
 refine aX fun N' hN => ?_
 simp? only []
 refine⟨N + 1 + 1,9,o2,rfl,rfl,P2,by omega,by omega,by omega,fun nr o3 n0 n9 P3 => ?_⟩
 simp? only []
 subst hN
 have Pe:bp (N + 4 * (n + 1)) o3:=P3.mono (by omega)
 obtain⟨od,Qy,HC⟩:=ym (xs:=rO) (k:=pick) p0 (by show pick < 16;omega)
 have B3:Bd (l + 1) (m + 1) od:=(Qv od Qy).mono (by omega) (by omega)
 have tail:∀ N':aC->Prop,True:=fun _=>trivial
 refine aX fun N' hN => ?_
 by_cases ht:∃ ds,d = .tup ds
 ·obtain⟨ds,rfl⟩:=ht
  obtain⟨mm,rfl⟩:∃ mm,m=mm + 1:=⟨m - 1,by have:=bd.2;simp only[dep] at this;omega⟩
  obtain⟨b1,b2⟩:=cb.mp bd
  have rest:N' ⟨[some (.o 0),some (.p (.tup ds)),some (.p (.int deep)),some (.p (.int kind)),some (.p (.int pick)),some (.p (.int (nr - 2))),none,none,none],[some o3]⟩:=by
   subst hN
   refine aX fun N' hN => ?_
   simp? only []
   refine⟨⟨by decide,by decide,by decide⟩,⟨by decide,by decide,by decide⟩,⟨by decide,by decide,by decide⟩,?_⟩
   subst hN
   refine aX fun N' hN => ?_
   have c1:=vM ds none (some 1)
   have oF:fY [D.non,D.bl true,D.bl false,D.str (Str.ofString ""),D.str (Str.ofString "0"),D.tup [],D.lst [],D.int (10 ^ Int.toNat 20),D.int (-1),D.int 0,D.int 1,D.int (10 ^ Int.toNat 9),D.int (10 ^ Int.toNat 9 + 1),D.tup [D.int 0],D.lst [D.int 0],D.int 12] pick=some od:=HC
   simp? only [bB,show aP "tuple" "tuple" = true from rfl,oF]
   obtain⟨r,hr,er⟩:=ym (xs:=[D.lst ds,D.tup (ds ++ cutD ds none (some 1)),D.tup (cutD ds none (some (-1))),D.tup ds.reverse,D.tup (ds ++ [D.int (nr - 2)]),D.tup (cutD ds (some 1) none),D.tup [D.tup ds],od]) (k:=kind) k0 (by show kind < 8;omega)
   rw[er]
   refine⟨by omega,by omega,back _ _ _ _ ?_ Pe⟩
   simp only[EZ,WC,Xy] at hr
   have up:∀ y∈ds,Bd (l + 1) (mm + 1) y:=fun y hy=>(b2 y hy).mono (by omega) (by omega)
   have ib:Bd (l + 1) (mm + 1) (.int (nr - 2)):=⟨W5 _,W5 _⟩
   rcases hr with rfl | rfl | rfl | rfl | rfl | rfl | rfl | rfl
   ·exact rN.mpr ⟨by omega,up⟩
   ·refine cb.mpr ⟨?_,fun y hy => ?_⟩
    ·rw[Mm]
     have:(cutD ds none (some 1)).length <= 1:=by
      unfold cutD
      rw[WW]
      have:HT.bj ds.length ds.length (some 1)=min 1 ds.length:=HT.sC ds.length ds.length 1
      rw[this];omega
     omega
    ·rcases Xo.mp hy with hy | hy
     ·exact up y hy
     ·exact up y (vL hy)
   ·exact cb.mpr ⟨by have:=vM ds none (some (-1));omega,fun y hy=>up y (vL hy)⟩
   ·exact cb.mpr ⟨by rw[Yv];omega,fun y hy=>up y (List.mem_reverse.mp hy)⟩
   ·refine cb.mpr ⟨by rw[Mm,W_];omega,fun y hy => ?_⟩
    rcases Xo.mp hy with hy | hy
    ·exact up y hy
    ·rw[Xq.mp hy];exact ib
   ·exact cb.mpr ⟨by have:=vM ds (some 1) none;omega,fun y hy=>up y (vL hy)⟩
   ·refine cb.mpr ⟨by show 1 <= l + 1;omega,fun y hy => ?_⟩
    rw[Xq.mp hy]
    exact bd.mono (by omega) (by omega)
   ·exact B3
  simp? only [bB,show aP "tuple" "tuple" = true from rfl,aB]
  refine⟨by have:=bd.2;simp only[dep] at this;omega,?_⟩
  cases q:dJ ds []
  ·simp only[Yb,Yf]
   by_cases hd:0 < deep
   ·rw[VZ (WN hd)]
    by_cases hp:3 < pick
    ·rw[VZ (WN hp)]
     have dn:0 < ds.length:=by
      cases ds with
      | nil=>cases q
      | cons _ _=>exact Y_ _
     refine⟨N + 1 + 1 + 1,ds.length,o3,rfl,rfl,P3,by omega,by omega,by omega,fun at_ o4 a0 a1 P4 => ?_⟩
     obtain⟨x,hx,ex⟩:=ym (xs:=ds) (k:=at_) a0 a1
     obtain⟨nn,rfl⟩:∃ nn:Nat,n=nn + 1:=⟨n - 1,by omega⟩
     simp? only [ex]
     refine⟨N + 1 + 1 + 1 + 1,deep - 1,l,mm,x,o4,rfl,rfl,P4,by omega,by omega,by omega,b2 x hx,hl,Qx,by omega,fun d' o5 b5 P5 => ?_⟩
     have c1:=vM ds none (some at_)
     have c2:=vM ds (some (at_ + 1)) none
     simp? only []
     refine⟨by omega,by omega,back _ _ _ _ (cb.mpr ⟨?_,fun y hy => ?_⟩) (P5.mono (by omega))⟩
     ·have e1:(cutD ds none (some at_)).length=at_.toNat:=by
       unfold cutD
       rw[WW,Xz]
       have:HT.bj ds.length 0 none=0:=rfl
       have h2:HT.bj ds.length ds.length (some at_)=min at_.toNat ds.length:=by
        obtain⟨ii,rfl⟩:∃ ii:Nat,at_=ii:=⟨at_.toNat,by omega⟩
        exact HT.sC ds.length ds.length ii
       rw[this,h2];omega
      have e2:(cutD ds (some (at_ + 1)) none).length=ds.length - (at_.toNat + 1):=by
       unfold cutD
       rw[WW,Xz]
       have:HT.bj ds.length ds.length none=ds.length:=rfl
       have h2:HT.bj ds.length 0 (some (at_ + 1))=min (at_.toNat + 1) ds.length:=by
        obtain⟨ii,rfl⟩:∃ ii:Nat,at_=ii:=⟨at_.toNat,by omega⟩
        exact HT.sC ds.length 0 (ii + 1)
       rw[this,h2];omega
      rw[Mm,Mm,e1,e2,W_];omega
     ·rcases Xo.mp hy with hy | hy
      ·rcases Xo.mp hy with hy | hy
       ·exact (b2 y (vL hy)).mono (by omega) (by omega)
       ·rw[Xq.mp hy];exact b5
      ·exact (b2 y (vL hy)).mono (by omega) (by omega)
    ·rw[My (by rw[WZ hp];decide)]
     exact rest
   ·rw[My (by rw[WZ hd];decide)]
    exact rest
  ·simp only[Xd,Ml,Xc]
   exact rest
 ·have nt:∀ K2:KS,True:=fun _=>trivial
  have oF:fY [D.non,D.bl true,D.bl false,D.str (Str.ofString ""),D.str (Str.ofString "0"),D.tup [],D.lst [],D.int (10 ^ Int.toNat 20),D.int (-1),D.int 0,D.int 1,D.int (10 ^ Int.toNat 9),D.int (10 ^ Int.toNat 9 + 1),D.tup [D.int 0],D.lst [D.int 0],D.int 12] pick=some od:=HC
  have HD:aP (bB d) "tuple" = false:=by
   cases d with
   | tup ds=>exact absurd ⟨ds,rfl⟩ ht
   | _=>rfl
  simp? only [HD]
  subst hN
  refine aX fun N' hN => ?_
  simp? only []
  refine⟨⟨by decide,by decide,by decide⟩,⟨by decide,by decide,by decide⟩,⟨by decide,by decide,by decide⟩,?_⟩
  subst hN
  refine aX fun N' hN => ?_
  simp? only [HD]
  subst hN
  refine aX fun N' hN => ?_
  simp? only []
  refine⟨d,rfl,rfl,?_⟩
  simp? only []
  by_cases hi:∃ i,d = .int i
  ·obtain⟨i,rfl⟩:=hi
   simp? only [yk,oF,aB]
   obtain⟨r,hr,er⟩:=ym (xs:=[D.int (i + 1),D.int (i - 1),D.int (0 - i),D.int (nr - 2),D.int (nr - 2),D.bl (i == 1),D.int (13 - i),od]) (k:=kind) k0 (by show kind < 8;omega)
   rw[er]
   refine back _ _ _ _ ?_ Pe
   simp only[EZ,WC,Xy] at hr
   rcases hr with rfl | rfl | rfl | rfl | rfl | rfl | rfl | rfl
   all_goals first | exact B3 | exact⟨W5 _,W5 _⟩
  ·have hw:yk d=false:=by
    cases d with
    | int i=>exact absurd ⟨i,rfl⟩ hi
    | _=>rfl
   rw[hw]
   simp only[Ml,Xc]
   subst hN
   simp? only [oF]
   exact back _ _ _ _ B3 Pe
theorem B4:∀ {ds:List D},ph ds=true->∀ d∈ds,kQ d=true
 | [],_,d,h=>nomatch h
 | a :: r,hn,d,h=>by
  simp only[ph,VY] at hn
  rcases EZ.mp h with rfl | h
  ·exact hn.1
  ·exact B4 hn.2 d h
theorem vN:∀ {ds:List D} {d:D},d∈ds->dep d <= bg ds
 | a :: r,d,h=>by
  simp only[bg]
  rcases EZ.mp h with rfl | h
  ·omega
  ·have:=vN h;omega
theorem iR:aP "NoneType" "bool" = false:=rfl
theorem iS:aP "NoneType" "int" = false:=rfl
theorem iT:aP "NoneType" "str" = false:=rfl
theorem iU:aP "NoneType" "tuple" = false:=rfl
theorem iV:aP "NoneType" "list" = false:=rfl
theorem hX:aP "bool" "bool" = true:=rfl
theorem hZ:aP "bool" "int" = true:=rfl
theorem h9:aP "bool" "str" = false:=rfl
theorem h_:aP "bool" "tuple" = false:=rfl
theorem ic:aP "bool" "list" = false:=rfl
theorem gD:aP "int" "bool" = false:=rfl
theorem gE:aP "int" "int" = true:=rfl
theorem gF:aP "int" "str" = false:=rfl
theorem gG:aP "int" "tuple" = false:=rfl
theorem gH:aP "int" "list" = false:=rfl
theorem f7:aP "str" "bool" = false:=rfl
theorem f9:aP "str" "int" = false:=rfl
theorem f_:aP "str" "str" = true:=rfl
theorem gb:aP "str" "tuple" = false:=rfl
theorem gf:aP "str" "list" = false:=rfl
theorem jd:aP "tuple" "bool" = false:=rfl
theorem je:aP "tuple" "int" = false:=rfl
theorem jf:aP "tuple" "str" = false:=rfl
theorem jg:aP "tuple" "tuple" = true:=rfl
theorem jh:aP "tuple" "list" = false:=rfl
theorem iB:aP "list" "bool" = false:=rfl
theorem iC:aP "list" "int" = false:=rfl
theorem iD:aP "list" "str" = false:=rfl
theorem iE:aP "list" "tuple" = false:=rfl
theorem iF:aP "list" "list" = true:=rfl
theorem vO:∀ {as:List D} {d:D},d∈bR as as->∃ a,d = .tup [a,a]/\a∈as
 | [],d,h=>nomatch h
 | x :: r,d,h=>by
  simp only[bR] at h
  rcases EZ.mp h with rfl | h
  ·exact⟨x,rfl,VV⟩
  ·obtain⟨a,e,m⟩:=vO h
   exact⟨a,e,Mn _ m⟩
theorem vP:∀ l:List D,bg (l.map fun _=>D.bl true) <= 55
 | []=>W5 _
 | _ :: r=>by
  rw[W8]
  have:=vP r
  simp only[bg,dep]
  omega
noncomputable def ak (n:Nat):GD:=fun ys ao K=>∃ d,dep d <= n/\n <= 50/\kQ d=true/\((ys=[.p d,.p d]/\ao=[]/\K (.p (.bl true)) [])\/(∃ ds,d = .lst ds/\ys=[.o 0,.p d]/\ao=[.lst ds]/\K (.p (.bl true)) [.lst ds]))
noncomputable def ah (tw:GD):WS:=(az (br (dT (d2 (ae 1) (dC .non) jL)) (aI (d2 (ae 0) (dC .non) jL)) cR) (az (br (j8 (dT (d1 (ae 1) (bw "bool"))) (dT (d1 (ae 0) (bw "bool")))) (aI (iN (d1 (ae 1) (bw "bool")) (iN (d1 (ae 0) (bw "bool")) (d2 (ae 0) (ae 1) oEq)))) cR) (az (br (dT (d1 (ae 1) (bw "int"))) (aI (iN (d1 (ae 0) (bw "int")) (d2 (ae 0) (ae 1) oEq))) cR) (az (br (dT (d1 (ae 1) (bw "str"))) (aI (iN (d1 (ae 0) (bw "str")) (d2 (ae 0) (ae 1) oEq))) cR) (az (br (j8 (dT (d2 (d1 (ae 1) (bw "tuple")) (d1 (ae 0) (bw "tuple")) lR)) (dT (d2 (d1 (ae 1) (bw "list")) (d1 (ae 0) (bw "list")) lR))) (aI (dC (.bl false))) cR) (az (br (dT (d2 (dN (aj (ae 0) ai) cx) (dN (aj (ae 1) ai) cx) lR)) (aI (dC (.bl false))) cR) (aI (d2 (dC (.bl false)) (kE (rk (aj (ae 0) (aj (ae 1) ai))) [none,none] (sR 2 (kX (dB 0) (kX (dB 1) qX))) gu (ay 2 tw (aj (ae 0) (aj (ae 1) ai)))) (pJ true)))))))))
noncomputable def dr (g:Nat->GD):Nat->GD
 | 0=>fun _ _ _=>False
 | n + 1=>g n
theorem B5 (g:GD) {K':RV->List OV->Prop} (k:K' (.p (.bl true)) []):ah g (cC 0 K') ⟨[some (.p .non),some (.p .non)],[]⟩:=by
 unfold ah
 refine aX fun N hN => ?_
 simp? only [bB,iR,iS,iT,iU,iV,aB]
 exact b_ k
theorem B6 (g:GD) {K':RV->List OV->Prop} (b:Bool) (k:K' (.p (.bl true)) []):ah g (cC 0 K') ⟨[some (.p (.bl b)),some (.p (.bl b))],[]⟩:=by
 unfold ah
 refine aX fun N hN => ?_
 simp? only [bB,hX,hZ,h9,h_,ic,eK]
 subst hN
 refine aX fun N hN => ?_
 simp? only [bB,hX,hZ,h9,h_,ic,eK]
 exact b_ k
theorem same_int (g:GD) {K':RV->List OV->Prop} (b:Int) (k:K' (.p (.bl true)) []):ah g (cC 0 K') ⟨[some (.p (.int b)),some (.p (.int b))],[]⟩:=by
 unfold ah
 refine aX fun N hN => ?_
 simp? only [bB,gD,gE,gF,gG,gH,eK]
 subst hN
 refine aX fun N hN => ?_
 simp? only [bB,gD,gE,gF,gG,gH,eK]
 subst hN
 refine aX fun N hN => ?_
 simp? only [bB,gD,gE,gF,gG,gH,eK]
 exact b_ k
theorem same_str (g:GD) {K':RV->List OV->Prop} (b:Str) (k:K' (.p (.bl true)) []):ah g (cC 0 K') ⟨[some (.p (.str b)),some (.p (.str b))],[]⟩:=by
 unfold ah
 refine aX fun N hN => ?_
 simp? only [bB,f7,f9,f_,gb,gf,eK]
 subst hN
 refine aX fun N hN => ?_
 simp? only [bB,f7,f9,f_,gb,gf,eK]
 subst hN
 refine aX fun N hN => ?_
 simp? only [bB,f7,f9,f_,gb,gf,eK]
 subst hN
 refine aX fun N hN => ?_
 simp? only [bB,f7,f9,f_,gb,gf,eK]
 exact b_ k
theorem B7 {n:Nat} {K':RV->List OV->Prop} {ds:List D} (hd:dep (.lst ds) <= n) (hn:n <= 50) (nd:kQ (.lst ds)=true) (k:K' (.p (.bl true)) []):ah (dr ak n) (cC 0 K') ⟨[some (.p (.lst ds)),some (.p (.lst ds))],[]⟩:=by
 unfold ah
 refine aX fun N hN => ?_
 simp? only [bB,iR,iS,iT,iU,iV,hX,hZ,h9,h_,ic,gD,gE,gF,gG,gH,f7,f9,f_,gb,gf,jd,je,jf,jg,jh,iB,iC,iD,iE,iF]
 subst hN
 refine aX fun N hN => ?_
 simp? only [bB,iR,iS,iT,iU,iV,hX,hZ,h9,h_,ic,gD,gE,gF,gG,gH,f7,f9,f_,gb,gf,jd,je,jf,jg,jh,iB,iC,iD,iE,iF]
 subst hN
 refine aX fun N hN => ?_
 simp? only [bB,iR,iS,iT,iU,iV,hX,hZ,h9,h_,ic,gD,gE,gF,gG,gH,f7,f9,f_,gb,gf,jd,je,jf,jg,jh,iB,iC,iD,iE,iF]
 subst hN
 refine aX fun N hN => ?_
 simp? only [bB,iR,iS,iT,iU,iV,hX,hZ,h9,h_,ic,gD,gE,gF,gG,gH,f7,f9,f_,gb,gf,jd,je,jf,jg,jh,iB,iC,iD,iE,iF]
 subst hN
 refine aX fun N hN => ?_
 simp? only [bB,iB,iC,iD,iE,iF]
 subst hN
 simp only[eK,Xd,Ml,Xc]
 refine aX fun N hN => ?_
 simp? only [eK]
 subst hN
 obtain⟨m,rfl⟩:∃ m,n=m + 1:=⟨n - 1,by simp only[dep] at hd;omega⟩
 have rP:bg ds <= m:=by simp only[dep] at hd;omega
 have rQ:ph ds=true:=by simp only[kQ,VY] at nd;exact nd.2
 have l7:ds.length <= 1000:=by simp only[kQ,VY,Xt] at nd;exact nd.1
 have zl:(bR ds ds).length <= 1000:=by rw[rl];omega
 simp? only []
 refine L2.mV (fun d => .bl true) zl trivial ?_ ?_
 ·intro d ni acc L ha h
  obtain⟨a,rfl,ma⟩:=vO ni
  simp? only []
  refine⟨a,W7 (vN ma) rP,by omega,B4 rQ a ma,.inl ⟨rfl,rfl,?_⟩⟩
  simp? only []
  exact⟨ha,h⟩
 ·simp? only []
  have e1:((bR ds ds).map fun _=>D.bl true).any (fun e=>aB e (.bl false))=false:=by
   rw[Yd]
   intro x hx
   obtain⟨_,_,rfl⟩:=WQ.mp hx
   simp[aB]
  have e2:bg ((bR ds ds).map fun _=>D.bl true) <= 55:=vP _
  exact⟨e2,by rw[e1];exact b_ k⟩
theorem Qz {n:Nat} {K':RV->List OV->Prop} {ds:List D} (hd:dep (.lst ds) <= n) (hn:n <= 50) (nd:kQ (.lst ds)=true) (k:K' (.p (.bl true)) [.lst ds]):ah (dr ak n) (cC 1 K') ⟨[some (.o 0),some (.p (.lst ds))],[some (.lst ds)]⟩:=by
 unfold ah
 refine aX fun N hN => ?_
 simp? only [bB,iR,iS,iT,iU,iV,hX,hZ,h9,h_,ic,gD,gE,gF,gG,gH,f7,f9,f_,gb,gf,jd,je,jf,jg,jh,iB,iC,iD,iE,iF]
 subst hN
 refine aX fun N hN => ?_
 simp? only [bB,iR,iS,iT,iU,iV,hX,hZ,h9,h_,ic,gD,gE,gF,gG,gH,f7,f9,f_,gb,gf,jd,je,jf,jg,jh,iB,iC,iD,iE,iF]
 subst hN
 refine aX fun N hN => ?_
 simp? only [bB,iR,iS,iT,iU,iV,hX,hZ,h9,h_,ic,gD,gE,gF,gG,gH,f7,f9,f_,gb,gf,jd,je,jf,jg,jh,iB,iC,iD,iE,iF]
 subst hN
 refine aX fun N hN => ?_
 simp? only [bB,iR,iS,iT,iU,iV,hX,hZ,h9,h_,ic,gD,gE,gF,gG,gH,f7,f9,f_,gb,gf,jd,je,jf,jg,jh,iB,iC,iD,iE,iF]
 subst hN
 refine aX fun N hN => ?_
 simp? only [bB,iB,iC,iD,iE,iF]
 subst hN
 simp only[eK,Xd,Ml,Xc]
 refine aX fun N hN => ?_
 simp? only [eK]
 subst hN
 obtain⟨m,rfl⟩:∃ m,n=m + 1:=⟨n - 1,by simp only[dep] at hd;omega⟩
 have rP:bg ds <= m:=by simp only[dep] at hd;omega
 have rQ:ph ds=true:=by simp only[kQ,VY] at nd;exact nd.2
 have l7:ds.length <= 1000:=by simp only[kQ,VY,Xt] at nd;exact nd.1
 have zl:(bR ds ds).length <= 1000:=by rw[rl];omega
 simp? only []
 refine L2.mV (fun d => .bl true) zl rfl ?_ ?_
 ·intro d ni acc L ha h
  obtain⟨a,rfl,ma⟩:=vO ni
  simp? only []
  refine⟨a,W7 (vN ma) rP,by omega,B4 rQ a ma,.inl ⟨rfl,rfl,?_⟩⟩
  simp? only []
  exact⟨ha,h⟩
 ·simp? only []
  have e1:((bR ds ds).map fun _=>D.bl true).any (fun e=>aB e (.bl false))=false:=by
   rw[Yd]
   intro x hx
   obtain⟨_,_,rfl⟩:=WQ.mp hx
   simp[aB]
  have e2:bg ((bR ds ds).map fun _=>D.bl true) <= 55:=vP _
  exact⟨e2,by rw[e1];exact⟨[.lst ds],rfl,rfl,k⟩⟩
theorem cf (n:Nat):∀ ys ao K',ys.length=2->ak n ys ao K'->ah (dr ak n) (cC ao.length K') ⟨ys.map some ++ List.replicate 0 none,ao.map some⟩:=by
 rintro ys ao K' - ⟨d,hd,hn,nd,⟨rfl,rfl,k⟩ | ⟨ds,rfl,rfl,rfl,k⟩⟩
 ·cases d with
  | tup ds=>cases nd
  | non=>exact B5 _ k
  | bl b=>exact B6 _ b k
  | int b=>exact same_int _ b k
  | str b=>exact same_str _ b k
  | lst ds=>exact B7 hd hn nd k
 ·exact Qz hd hn nd k
noncomputable def B8 (ns:List Int):D := .lst (ns.map D.int)
theorem oG {K:RV->List OV->Prop} {d:D} {sl:List (Option DV)} {mu:List (Option OV)} (h:K (.p d) []):gQ 0 K (.p d) ⟨sl,mu⟩:=⟨[],rfl,rfl,h⟩
noncomputable def Nums (ws:List (Int × Int × Int)) (ns:List Int):Prop:=∀ n∈ns,0 <= n/\n < (ws.length:Int)
theorem HE {m:Int} {ws:List (Int × Int × Int)} (W:kB m ws) {n:Int} (h0:0 <= n) (h1:n < (ws.length:Int)):∃ y,ws.getD n.toNat (0,0,0)=y/\y∈ws/\fY (ws.map cU) n=some (cU y)/\∃ i j:Nat,y.1=i/\y.2.1=j/\i < m.toNat/\j < m.toNat/\i < j:=by
 obtain⟨k,rfl⟩:∃ k:Nat,n=k:=⟨n.toNat,by omega⟩
 have hk:k < ws.length:=by omega
 refine⟨ws[k],?_,Yh hk,mH ?_,?_⟩
 ·rw[XI,EX,qI hk];rfl
 ·rw[VX,qI hk];rfl
 ·obtain⟨a,b,c,_,_⟩:=W.ends _ (Yh hk)
  exact⟨ws[k].1.toNat,ws[k].2.1.toNat,by omega,by omega,by omega,by omega,by omega⟩
theorem HF {n:Nat} {z:Int} (h:z∈jr n):0 <= z/\z < (n:Int):=by
 unfold jr at h
 obtain⟨i,hi,rfl⟩:=WQ.mp h
 have:=W9.mp hi
 simp;omega
theorem tE {H:Hp} {a:Addr} {o:HO} (h:H a=none):aA H (upd H a o):=fun b u e=>by rw[aH (cz e h)];exact e
structure yn (H:Hp) (p c:Addr) (at_ z:Int):Prop where
 lst:H p=some (.lst [.ref c,.int at_,.int z])
 cells:∃ ns:List Int,H c=some (.lst (ns.map V.int))/\ns.length <= 63
 pos:0 <= at_
theorem yn.ne {H:Hp} {p c:Addr} {k z:Int} (P:yn H p c k z):c≠p:=by
 obtain⟨ns,h,_⟩:=P.cells
 intro e
 subst e
 rw[P.lst] at h
 have h':=WR h
 injection h' with sP
 cases ns with
 | nil=>cases sP
 | cons n r=>injection sP with h1 _;cases h1
theorem QA {ns:List Int} {k:Int} (h0:0 <= k) (h1:k < (ns.length:Int)):∃ n,fY (ns.map V.int) k=some (.int n):=by
 obtain⟨i,rfl⟩:∃ i:Nat,k=i:=⟨k.toNat,by omega⟩
 have hi:i < ns.length:=by omega
 refine⟨ns[i],mH ?_⟩
 rw[VX,qI hi];rfl
noncomputable def B9 (K:PySem.W.Frag):Sp:=fun vs H Q _=>∃ (a:Addr) (ns:List Int),vs=[.ref a]/\bo K H a (ns.map V.int)/\ns.length <= 63/\∀ (p c:Addr) (H':Hp),aA H H'->H p=none->yn H' p c 0 0->Q (.ref p) H'
noncomputable def yo (K:PySem.W.Frag):Sp:=fun vs H Q _=>∃ (a:Addr) (ns:List Int),vs=[.ref a]/\bo K H a (ns.map V.int)/\ns.length <= 63/\aV.ok H/\∀ H',Q (.bl true) H'
theorem B_ (ns:List Int) (lo hi:Option Int):df (ns.map V.int) lo hi=((ns.drop (HT.bj ns.length 0 lo)).take (HT.bj ns.length ns.length hi - HT.bj ns.length 0 lo)).map V.int:=by
 unfold df
 rw[sE,List.map_take,List.map_drop]
theorem QB {H:Hp} {p c a:Addr} {n:Nat} (hT:aV.ok H) (N:yn H p c 0 0):∃ (F:Hp) (ns:List Int),ns.length <= 63/\SR F [p] ⟨none :: some (.o 0) :: List.replicate n none,[some (.lst [.lst (ns.map D.int),.int 0,.int 0])]⟩ (some (.ref a) :: some (.ref p) :: List.replicate n none) H:=by
 obtain⟨ns,hc,hn⟩:=N.cells
 have ne:=N.ne
 refine⟨upd (fun _=>none) c (.lst (ns.map V.int)),ns,hn,⟨fun b o e => ?_,fun b ⟨k,ov,e1,e2⟩ => ?_,rfl,fun k l a ov ow e1 e2 _ _ => ?_,fun k ov e => ?_,fun i x e => ?_,by simp,hT,fun b hb=>by
  obtain⟨ps,q⟩:=aV.tb hT hb
  rw[aH fun z=>by subst z;rw[hc] at q;cases q]⟩⟩
 ·by_cases z:b=c
  ·subst z;rw[bH] at e;cases e;exact hc
  ·rw[aH z] at e;cases e
 ·cases k with
  | zero=>cases (show some p=some b by simpa using e1);rw[aH (Yg ne)]
  | succ k=>simp at e1
 ·cases k with
  | zero =>
   cases l with
   | zero=>rfl
   | succ l=>simp at e2
  | succ k=>simp at e1
 ·cases k with
  | zero =>
   cases (show OV.lst [.lst (ns.map D.int),.int 0,.int 0]=ov by simpa using e)
   refine⟨p,_,rfl,N.lst,_,rfl,?_⟩
   refine .cons ?_ (.cons rfl (.cons rfl .nil))
   simp only[Is]
   exact⟨c,_,rfl,bH,Bo⟩
  | succ k=>simp at e
 ·cases i with
  | zero=>simp at e
  | succ i =>
   cases i with
   | zero =>
    cases (show DV.o 0=x by simpa using e)
    exact⟨_,rfl,p,rfl,rfl⟩
   | succ i =>
    exfalso
    have e:(List.replicate n (none:Option DV))[i]? = some (some x):=by simpa using e
    rw[Yx] at e
    split at e<;>cases e
theorem QC {B:WS} {F:Hp} {ad:List Addr} {δ : aC} {σ : St} {H:Hp} {Q:VK} (S:SR F ad δ σ H) (h:B ⟨fun _=>False,fun x _=>x = .p (.bl true),fun _=>False,fun _=>False⟩ δ) (q:∀ H',Q (.bl true) H'):gs B { nx:=fun _ H'=>Q .non H',rt:=Q } σ H :=
 ⟨F,ad,δ,_,S,h,⟨fun δ' h=>h.elim,fun δ' h=>h.elim,fun δ' h=>h.elim,fun x δ' h v F' aD σ' H' E' S' V=>by
  have h:x = .p (.bl true):=h
  subst h
  have V:v = .bl true:=V
  subst V
  exact q H'⟩⟩
end LJ
namespace L2
open PySem PySem.Spec PyProof.Rows
noncomputable def Ca (Ts:List (Addr × Array Value)) (H:Hp):Prop:=∀ b,(∃ ps,Ts.lookup b=some ps/\H b=some (.tbl ps))\/(Ts.lookup b=none/\(H b=none\/∃ o xs,H b=some (.frz o (.lst xs))))
theorem QD {P:Program} {w:World} {K:PySem.W.Frag} {mg mb:Str->Option Value} {CX:jY} {k:Nat} {fa a:Addr} {fd:FuncData} {x:Str} {sp:Sp} {s₁ : Shared} {vs:List Value} {ns:List Int} (Ts:List (Addr × Array Value))
  (hT:∀ b ps,Ts.lookup b=some ps->s₁.heap.get? b=some { cls := .none,data := .fields ps }/\isCodeTable s₁.heap b/\K.lookup b=none)
  (KX:K.In s₁.heap) (vQ:s₁.heap.Ns mainGlobals mg) (hb:s₁.heap.Ns builtinsNs mb) (QE:∀ x:Str,x ≠ "__name__" -> mb x=bootBuiltins x) (Cb:s₁.heap.NoLimit) (hg:s₁.gens = #[])
  (ha:s₁.heap.get? a=some { cls := .type "list",data := .seq vs.toArray }) (hi:IntsAre vs ns) (hl:ns.length <= sizeLine) (hr:bC k callerA)
  (hB:∃ bm ob,mg "__builtins__" = some (.ref bm)/\bm≠builtinsNs/\s₁.heap.get? bm=some ob/\ob.cls = .type "module" /\ ob.dict=some builtinsNs/\ob.data = .plain)
  (F:∀ base:Heap,K.In base->base.Ns mainGlobals mg->(∀ b ps,Ts.lookup b=some ps->base.BuiltinsAt mg b)->aF P w K mg base CX k fa fd [x] sp) (vR:∀ (s:Shared) (u:Value),BindsTo s fd ⟨[u],[]⟩ [(x,u)])
  (mF:∀ H:Hp,Ca Ts H->bo K H a (ns.map V.int)->sp [.ref a] H (fun v _=>v = .bl true) fun _ _ _=>False)
  (Cc:∀ H e s',CX [] H s₁ (fun _ _ _=>False) e s'->False) :
  codeAny (model P w) callerA (.call (.ref fa) ⟨[.ref a],[]⟩) (fun r s'=>r = .ok (.ret (.bool true))/\OldK s₁.heap s'.heap/\s'.os=s₁.os/\AllBare s'.gens) s₁ := by
 have rv:=EV hi
 have Cd:=hi.length
 have aT:Ts.lookup a=none:=by
  cases q:Ts.lookup a with
  | none=>rfl
  | some ps =>
   have:=(hT a ps q).1
   rw[ha] at this
   have z:=congrArg Obj.cls (WR this)
   cases (show Value.type "list" = Value.none from z)
 have core:∀ H:Hp,Ca Ts H->bo K H a (ns.map V.int)->dQ P w H s₁.heap->(∀ b,Ts.lookup b=none->H b≠none->b=a)->(H a≠none->K.lookup a=none) →
   codeAny (model P w) callerA (.call (.ref fa) ⟨[.ref a],[]⟩) (fun r s'=>r = .ok (.ret (.bool true))/\OldK s₁.heap s'.heap/\s'.os=s₁.os/\AllBare s'.gens) s₁ := by
  intro H hO hS aO hA hK
  have iG:∀ {b:Addr} {o:Obj},s₁.heap.get? b=some o->H b=none->(gL s₁.heap H).get? b=some o:=fun e n=>Kg e n
  have nG:∀ {b:Addr} {o:Obj} {es:Array DictEntry} {ep:Nat},s₁.heap.get? b=some o->o.data = .dict es ep->H b=none:=fun {b o es ep} e d=>by
   cases q:H b with
   | none=>rfl
   | some u =>
    cases t:Ts.lookup b with
    | some ps =>
     have:=(hT b ps t).1
     rw[e] at this;cases this
     cases d
    | none =>
     have e':b=a:=hA b t (by rw[q];simp)
     subst e'
     rw[ha] at e;cases e
     have d':Data.seq vs.toArray _=Data.dict es ep:=d
     cases d'
  have yp:∀ {b:Addr} {m:Str->Option Value},s₁.heap.Ns b m->(gL s₁.heap H).Ns b m:=fun {b m} ⟨o,es,ep,e,d,r⟩=>⟨o,es,ep,iG e (nG e d),d,r⟩
  have HG:K.In (gL s₁.heap H):=fun b o e=>iG (KX b o e) (by
   cases q:H b with
   | none=>rfl
   | some u =>
    cases t:Ts.lookup b with
    | some ps=>rw[(hT b ps t).2.2] at e;cases e
    | none =>
     have e':b=a:=hA b t (by rw[q];simp)
     subst e'
     rw[hK (by rw[q];simp)] at e;cases e)
  have QF:∀ b ps,Ts.lookup b=some ps->(gL s₁.heap H).BuiltinsAt mg b:=fun b ps t=>by
   obtain⟨bm,ob,b1,b2,b3,b4,b5,b6⟩:=hB
   refine⟨bm,ob,b1,b2,fun z => ?_,fun z => ?_,iG b3 ?_,b4,b5,b6⟩
   ·obtain⟨o,es,ep,e1,e2,_⟩:=vQ
    rw[z,e1] at b3;cases b3
    rw[e2] at b6;cases b6
   ·have:=(hT b ps t).1
    rw[z,this] at b3;cases b3
    cases b6
   ·cases q:H bm with
    | none=>rfl
    | some u =>
     cases t':Ts.lookup bm with
     | some QG =>
      have:=(hT bm QG t').1
      rw[b3] at this;cases this
      cases b6
     | none =>
      have e':bm=a:=hA bm t' (by rw[q];simp)
      rw[e',ha] at b3;cases b3
      cases b6
  have hM:Mod K mg (gL s₁.heap H):=⟨HG,yp vQ,⟨mb,yp hb,QE⟩,let ⟨mc,h1,h2⟩:=Cb; ⟨mc,yp h1,h2⟩⟩
  have e0:nE P w K mg (gL s₁.heap H) callerA [] s₁ H:=⟨rfl,hM,fun b o e=>Kh e,q0s (Ke _ _),trivial,fun b hb=>absurd (show b∈([]:List Addr) from hb) (by simp),aO,.of_eq hg⟩
  refine ZL ((F _ HG (yp vQ) QF).run callerA [] s₁ H ⟨[.ref a],[]⟩ [.ref a] [.ref a] _ _ hr e0 (vR s₁ (.ref a)) (.cons rfl .nil) (mF H hO hS)) fun r s' h => ?_
  cases r with
  | error e=>exact (Cc H e s' h).elim
  | ok fl =>
   cases fl with
   | next=>exact False.elim h
   | brk=>exact False.elim h
   | cont=>exact False.elim h
   | ret u =>
    obtain⟨v,H',os,bare,un,vS,r',q⟩:=h
    have q':v = .bl true:=q
    subst q'
    obtain rfl:u=Value.bool true:=r'
    have all:∀ b o,s₁.heap.get? b=some o->asItWas s₁.heap s'.heap b o/\∃ o',s'.heap.get? b=some o':=fun b o e=>by
     rcases hO b with⟨ps,t,z⟩ | ⟨t,z | ⟨ob,xs,z⟩⟩
     ·obtain⟨more,z2⟩:=un.dZ b ps z
      have e2:s'.heap.get? b=some { cls := .none,data := .fields (ps ++ more) }:=vS b _ z2
      have e1:=(hT b ps t).1
      rw[e] at e1;cases e1
      exact⟨.inr (.inl ⟨(hT b ps t).2.1,rfl,ps,more,rfl,e2⟩),_,e2⟩
     ·have e2:=un.keep b o e z (by intro z;exact absurd (show b∈([]:List Addr) from z) (by simp)) (by simp)
      exact⟨.inl e2,_,e2⟩
     ·have z2:=un.dE b ob _ z
      obtain⟨e1,_⟩:=aO b _ z
      obtain⟨e2,_⟩:=vS b _ z2
      rw[e] at e1;cases e1
      exact⟨.inl e2,_,e2⟩
    exact⟨rfl,⟨fun b o e=>(all b o e).1,fun b o e=>(all b o e).2⟩,os,bare⟩
 have pY:∀ (H:Hp) b ps,Ts.lookup b=some ps->aN P w H s₁.heap b (.tbl ps):=fun H b ps t=>(hT b ps t).1
 cases hk:K.lookup a with
 | some o =>
  have e:=KX a o hk
  rw[ha] at e
  cases e
  have hv:∀ b,(fun b=>(Ts.lookup b).map HO.tbl:Hp) b=(Ts.lookup b).map HO.tbl:=fun _=>rfl
  refine core (fun b=>(Ts.lookup b).map HO.tbl) (fun b => ?_) (.inr ⟨_,vs.toArray,_,hk,rfl,rfl,rfl,by rw[wU,Cd];exact hl,by simpa using rv⟩) (fun b u z => ?_) (fun b t z => ?_) fun z => ?_
  ·cases t:Ts.lookup b with
   | some ps=>exact .inl ⟨ps,rfl,by show (Ts.lookup b).map HO.tbl=_;rw[t];rfl⟩
   | none=>exact .inr ⟨rfl,.inl (by show (Ts.lookup b).map HO.tbl=_;rw[t];rfl)⟩
  ·obtain⟨ps,t,rfl⟩:=WJ.mp (show (Ts.lookup b).map HO.tbl=some u from z)
   exact pY _ b ps t
  ·exact absurd (show (Ts.lookup b).map HO.tbl=none by rw[t];rfl) z
  ·exact absurd (show (Ts.lookup a).map HO.tbl=none by rw[aT];rfl) z
 | none =>
  refine core (fun b=>if b=a then some (.frz { cls := .type "list",data := .seq vs.toArray } (.lst (ns.map V.int))) else (Ts.lookup b).map HO.tbl) (fun b => ?_) (.inl (.inr ⟨{ cls := .type "list",data := .seq vs.toArray },VZ rfl⟩)) (fun b u z => ?_) (fun b t z => ?_) fun _=>hk
  ·by_cases hb:b=a
   ·subst hb
    exact .inr ⟨aT,.inr ⟨_,_,VZ rfl⟩⟩
   ·cases t:Ts.lookup b with
    | some ps=>exact .inl ⟨ps,rfl,(My hb).trans (by rw[t];rfl)⟩
    | none=>exact .inr ⟨rfl,.inl ((My hb).trans (by rw[t];rfl))⟩
  ·by_cases hb:b=a
   ·have z':=(VZ hb).symm.trans z
    cases z'
    subst hb
    exact⟨ha,by rw[sE];exact hl,vs,_,rv,ha⟩
   ·have z':=(My hb).symm.trans z
    obtain⟨ps,t,rfl⟩:=WJ.mp z'
    exact pY _ b ps t
  ·by_cases hb:b=a
   ·exact hb
   ·exact absurd ((My hb).trans (by rw[t];rfl)) z
theorem QH {l:PySem.W.OpenLaw} {n k:Nat} {q:Program} {loose:List Str} {XP:(Str->Option Value)->Heap->Prop} {YP:World->Heap->Prop} {d:DefRec} {K:World->PySem.W.Frag} {CX:World->jY} {sp:World->Sp} {x:Str} {Ts:World->List (Addr × Array Value)}
  (hn:l.most=some n) (Ce:n <= sizeLine) (uu:d.params.defaults=[]) (hr:bC k callerA)
  (hY:∀ (w:World) (h:Heap),YP w h->(K w).In h)
  (hT:∀ (w:World) (h:Heap),YP w h->∀ b ps,(Ts w).lookup b=some ps->h.get? b=some { cls := .none,data := .fields ps }/\isCodeTable h b/\(K w).lookup b=none)
  (F:∀ (w:World) (mg:Str->Option Value) (fa:Addr) (h:Heap),(K w).In h->h.Ns mainGlobals mg->mg d.name=some (.ref fa) →
   ∃ fd:FuncData,(∀ (s:Shared) (u:Value),BindsTo s fd ⟨[u],[]⟩ [(x,u)]) ∧
    ∀ base:Heap,(K w).In base->base.Ns mainGlobals mg->(∀ b ps,(Ts w).lookup b=some ps->base.BuiltinsAt mg b)->aF l.prog w (K w) mg base (CX w) k fa fd [x] (sp w))
  (mF:∀ (w:World) (H:Hp) (a:Addr) (ns:List Int),ns.length <= n->Ca (Ts w) H->bo (K w) H a (ns.map V.int)->sp w [.ref a] H (fun v _=>v = .bl true) fun _ _ _=>False)
  (Cc:∀ (w:World) (H:Hp) (s:Shared) (e:Value) (s':Shared),CX w [] H s (fun _ _ _=>False) e s'->False) :
  PySem.W.WalkO q loose XP YP l.row.toRowW d [] (fun f vs=>PySem.call f vs):=by
 refine Att.iY hn uu fun w s₀ s₁ mg mb fa o pm cd doc a vs ns G Y ho hd fq nM qH hints hlen hg => ?_
 have KX:=hY w _ Y
 obtain⟨fd,hb,hF⟩:=F w mg fa _ KX G.T.g nM
 exact QD (Ts w) (hT w _ Y) KX G.T.g G.T.b G.T.builtins G.T.nolimit hg qH hints (W7 hlen Ce) hr G.T.bmain hF hb (fun H hO hS=>mF w H a ns hlen hO hS) fun H e s'=>Cc w H s₁ e s'
section
variable {X:Cx} {pins:List (Addr × Obj)} {σ : St} {H:Hp} {s:Shared} {h':Heap}
theorem Inv.grow {T c f:Addr} {ps more:Array Value} {oc of:HO} {t':Nat} (I:Inv X pins σ H s) (hT:H T=some (.tbl ps)) (k:∀ b u,b≠T->s.heap.get? b=some u->h'.get? b=some u) (HH:h'.get? T=some { cls := .none,data := .fields (ps ++ more) })
  (hc:s.heap.objs.size <= c) (hf:s.heap.objs.size <= f) (Cf:c≠f) (QI:∀ H2,aN X.prog X.w H2 h' c oc) (QJ:∀ H2,aN X.prog X.w H2 h' f of) :
  Inv X pins σ (upd (upd (upd H T (.tbl (ps ++ more))) c oc) f of) { s with heap:=h',toks:=t' }:=by
 have tl:T < s.heap.objs.size:=(I.aO T _ hT).lt
 have cT:c≠T:=Ya (WD tl hc)
 have fT:f≠T:=Ya (WD tl hf)
 have Ws:H c=none:=I.aO.fresh hc
 have QK:H f=none:=I.aO.fresh hf
 have old:∀ b,b < s.heap.objs.size->b≠T->upd (upd (upd H T (.tbl (ps ++ more))) c oc) f of b=H b:=fun b hb nT=>by
  rw[aH (WL (WD hb hf)),aH (WL (WD hb hc)),aH nT]
 have atT:upd (upd (upd H T (.tbl (ps ++ more))) c oc) f of T=some (.tbl (ps ++ more)):=by
  rw[aH (Yg fT),aH (Yg cT),bH]
 have lt:∀ b u,H b=some u->b < s.heap.objs.size:=fun b u e=>(I.aO b u e).lt
 have eQ:∀ b u,H b=some u->(∀ qs,u ≠ .tbl qs)->upd (upd (upd H T (.tbl (ps ++ more))) c oc) f of b=some u:=fun b u e n=>by
  rw[old b (lt b u e) (fun z=>by subst z;rw[hT] at e;cases e;exact n _ rfl)];exact e
 refine I.un (t':=t') ⟨fun b o e n _ _=>k b o (fun z=>by subst z;rw[hT] at n;cases n) e,fun b o e n _ _=>⟨o.slots,k b o (fun z=>by subst z;rw[hT] at n;cases n) e⟩,fun b o e n _ => ?_,fun b o e _ => ?_,fun b xs e=>eQ b _ e (fun _ z=>by cases z),fun b o u e=>eQ b _ e (fun _ z=>by cases z),fun b qs e => ?_⟩ fun b u e => ?_
 ·rw[old b (EW e) (fun z=>by subst z;rw[hT] at n;cases n)];exact n
 ·by_cases z:b=T
  ·subst z;exact⟨_,HH⟩
  ·exact⟨o,k b o z e⟩
 ·by_cases z:b=T
  ·subst z;rw[hT] at e;cases e;exact⟨more,atT⟩
  ·exact⟨#[],by rw[old b (lt b _ e) z,e];simp⟩
 ·by_cases z1:b=f
  ·subst z1;rw[bH] at e;cases e;exact QJ _
  ·rw[aH z1] at e
   by_cases z2:b=c
   ·subst z2;rw[bH] at e;cases e;exact QI _
   ·rw[aH z2] at e
    by_cases z3:b=T
    ·subst z3;rw[bH] at e;cases e;exact HH
    ·rw[aH z3] at e
     refine aN.eA (I.aO b u e) (fun d v hd q => ?_) (fun d q=>eQ d _ q (fun _ z=>by cases z)) (fun d xs q=>eQ d _ q (fun _ z=>by cases z))
     ·refine k d v (fun y => ?_) q
      subst y
      rcases hd with y | y
      ·exact z3 y.symm
      ·rw[hT] at y;cases y
noncomputable def mX (c:Addr) (q:Str):HO := .ext fun h=>∃ o vs tq,h.get? c=some o/\o.data = .fields vs/\vs[1]? = some (.str q tq)
theorem QL {P:Program} {w:World} {H:Hp} {h:Heap} {c:Addr} {q:Str} (e:h.CodeRec (.ref c) q):aN P w H h c (mX c q):=by
 obtain⟨c',o,vs,tq,z,ho,hd,hq⟩:=e
 cases z
 exact⟨⟨o,vs,tq,ho,hd,hq⟩,⟨o,ho⟩,fun h1 h2 ⟨o,vs,tq,e1,e2,e3⟩ k=>⟨o,vs,tq,k o e1,e2,e3⟩⟩
theorem QM {P:Program} {w:World} {H:Hp} {h:Heap} {c:Addr} {q:Str} (x:aN P w H h c (mX c q)):h.CodeRec (.ref c) q:=by
 obtain⟨⟨o,vs,tq,ho,hd,hq⟩,_⟩:=x
 exact⟨c,o,vs,tq,rfl,ho,hd,hq⟩
end
end L2
namespace L2
open PySem PySem.Spec PyProof.Rows PySem.W
section
variable {X:Cx} {pins:List (Addr × Obj)} {σ : St} {H:Hp} {s:Shared} {params:Arguments} {body:Expr} {scope:Scope} {pos:Pos} {ji:List (Str × Addr)} {cc T:Addr} {ps:Array Value} {E:Value->Shared->Prop} {Q:Value->Shared->Prop}
noncomputable def jN (f:Addr) (name qual:Str) (params:Arguments) (body:Expr) (scope:Scope) (ji:List (Str × Addr)) (pm cd:Value):HO := .ext fun h=>∃ vT,h.get? f=some { cls := .type "function",data := .func (kla_fn name qual params body scope ji pm cd vT) }
noncomputable def eR (H:Hp) (T:Addr) (pos:Pos) (qual:Str):Prop:=∃ ps,H T=some (.tbl ps)/\TriplesOk ps.toList/\(codeAmong pos ps.toList=none\/∃ c,codeAmong pos ps.toList=some (.ref c)/\H c=some (mX c qual))
theorem QN (I:Inv X pins σ H s) (hT:eR H T pos (X.env.qual ++ "<lambda>")) (Cg:defaultsOf params X.env=([],[])) (pR:closureFor scope X.env=pure ji) (kh:X.env.code = .ref cc) (C:CodeHd s.heap cc T) (QO:mainGlobals≠T) (hg:s.heap.Ns mainGlobals X.mg) (hb:s.heap.BuiltinsAt X.mg T)
  (h:∀ f H' s' c,Inv X pins σ H' s'->eR H' T pos (X.env.qual ++ "<lambda>")->(∀ b o,H b=some o->b≠T->H' b=some o)->H f=none->H' f=some (jN f "<lambda>" (X.env.qual ++ "<lambda>") params body scope ji ((X.mg "__name__").getD .none) (.ref c))->H' c=some (mX c (X.env.qual ++ "<lambda>"))->Q (.ref f) s') :
  wpAny (model X.prog X.w) X.A (eval (.Lambda params body scope pos) X.env) Q E s:=by
 obtain⟨ps,hP,ht,hf⟩:=hT
 have Ci:s.heap.get? T=some { cls := .none,data := .fields ps }:=I.aO T _ hP
 refine kla_eval Cg ?_
 rcases hf with HI | ⟨c,hf,yq⟩
 ·refine kla_makeFunction pR I.ok.glob hg kh C Ci ht HI QO hb fun c' vT h' tk hx tF dY Cj QP => ?_
  have gm:s.heap.objs.size <= h'.objs.size:=X9 (Y2 tF dY)
  have tl:T < s.heap.objs.size:=EW Ci
  have QQ:T≠h'.objs.size:=WL (WD tl gm)
  have QR:T≠c':=WL (WD tl tF)
  have Cf:c'≠h'.objs.size:=WL dY
  have HJ:(ps ++ #[rawInt pos.line,rawInt pos.col,Value.ref c']).toList=ps.toList ++ [rawInt pos.line,rawInt pos.col,Value.ref c']:=by simp
  have atT:upd (upd (upd H T (.tbl (ps ++ #[rawInt pos.line,rawInt pos.col,.ref c']))) c' (mX c' (X.env.qual ++ "<lambda>"))) h'.objs.size (jN h'.objs.size "<lambda>" (X.env.qual ++ "<lambda>") params body scope ji ((X.mg "__name__").getD .none) (.ref c')) T=some (.tbl (ps ++ #[rawInt pos.line,rawInt pos.col,.ref c'])):=by
   rw[aH QQ,aH QR,bH]
  have atC:upd (upd (upd H T (.tbl (ps ++ #[rawInt pos.line,rawInt pos.col,.ref c']))) c' (mX c' (X.env.qual ++ "<lambda>"))) h'.objs.size (jN h'.objs.size "<lambda>" (X.env.qual ++ "<lambda>") params body scope ji ((X.mg "__name__").getD .none) (.ref c')) c'=some (mX c' (X.env.qual ++ "<lambda>")):=by
   rw[aH Cf,bH]
  refine h h'.objs.size _ _ c' (I.grow (t':=tk) (oc:=mX c' (X.env.qual ++ "<lambda>")) (of:=jN h'.objs.size "<lambda>" (X.env.qual ++ "<lambda>") params body scope ji ((X.mg "__name__").getD .none) (.ref c')) hP (fun b u nb e=>qJ _ (hx b u nb e)) (qJ _ QP) tF gm Cf (fun _=>QL (Cj.push _)) fun _ => ?_) ⟨_,atT,?_,.inr ⟨c',?_,atC⟩⟩ (fun b o e nb => ?_) (I.aO.fresh gm) bH atC
  ·exact⟨⟨vT,VW _ rfl⟩,⟨_,VW _ rfl⟩,fun h1 h2 ⟨v,e⟩ k=>⟨v,k _ e⟩⟩
  ·rw[HJ];exact TriplesOk_snoc _ _ _ _ ht
  ·rw[HJ];exact codeAmong_snoc _ ht HI
  ·have bl:b < s.heap.objs.size:=(I.aO b o e).lt
   rw[aH (WL (WD bl gm)),aH (WL (WD bl tF)),aH nb];exact e
 ·refine kla_makeFunctionHit pR I.ok.glob hg kh C Ci ht hf hb fun vT h' tk hk gm => ?_
  have hn:H h'.objs.size=none:=I.aO.fresh gm
  refine h h'.objs.size _ _ c (I.laid (a:=h'.objs.size) (o:=jN h'.objs.size "<lambda>" (X.env.qual ++ "<lambda>") params body scope ji ((X.mg "__name__").getD .none) (.ref c)) (t':=tk) (fun b u e=>qJ _ (hk b u e)) gm ?_) ⟨ps,?_,ht,.inr ⟨c,hf,?_⟩⟩ (fun b o e _ => ?_) hn bH ?_
  ·exact⟨⟨vT,VW _ rfl⟩,⟨_,VW _ rfl⟩,fun h1 h2 ⟨v,e⟩ k=>⟨v,k _ e⟩⟩
  ·rw[aH (cz hP hn)];exact hP
  ·rw[aH (cz yq hn)];exact yq
  ·rw[aH (cz e hn)];exact e
  ·rw[aH (cz yq hn)];exact yq
end
structure LD where
 A:Around
 cl:List (Str × Addr)
 f:Addr
 cd:Value
 s:Shared
 H:Hp
@[reducible] noncomputable def oH (X:Cx) (qual:Str) (scope:Scope) (Nb:List Str) (d:LD):Cx where
 prog:=X.prog
 w:=X.w
 K:=X.K
 mg:=X.mg
 base:=X.base
 A:=d.A.deeper (envX qual scope d.s.heap.objs.size d.f d.cd d.cl)
 N:=Nb
 s₀ := d.s
 H₀ := d.H
 env:=envX qual scope d.s.heap.objs.size d.f d.cd d.cl
 outer:=X.stack
 stack:=envX qual scope d.s.heap.objs.size d.f d.cd d.cl :: X.stack
 ex:=[]
 fn:=fun _=>false
 calm:=true
 pn:=[]
 xe:=fun _ _=>False
noncomputable def yr (N:List Str) (wX scope:Scope) (x:Str) (Nb:List Str) (cp:List (Option Nat)):Bool :=
 mI N wX scope (x :: Nb) (none :: cp) && (scope.names.all fun y=>decide (y.2 ≠ .cell)) && decide (scope.names.lookup x=some .local) && cp.all (·.isSome)
section
variable {X:Cx} {pins:List (Addr × Obj)} {σ : St} {H:Hp} {s:Shared} {params:Arguments} {body:Expr} {scope:Scope} {cl:List (Str × Addr)} {E:Value->Shared->Prop} {Q:VK} {name qual x:Str} {f c:Addr} {pm:Value} {A:Around} {v:V} {u:Value} {Nb:List Str} {cp:List (Option Nat)} {t:TE}
theorem QS (I:Inv X pins σ H s) (hf:H f=some (jN f name qual params body scope cl pm (.ref c))) (hc:H c=some (mX c qual)) (hA:A.frames=some X.stack) (hh:A.handled=none) (hd:A.depth < recursionLimit)
  (hk:scope.kind = .function) (ho:yr X.N X.env.scope scope x Nb cp=true) (QT:scope.isCoroutine=false) (Ck:scope.isGenerator=false)
  (rR:∀ y c,cl.lookup y=some c->X.env.cells.lookup y=some c) (yt:∀ y∈scope.names,y.2 = .free->∃ c,cl.lookup y.1=some c)
  (hb:∀ (ct:Value),bindArgs (kla_fn name qual params body scope cl pm (.ref c) ct) ⟨[u],[]⟩=pure [(x,u)]) (r:RelV v u)
  (J:JE (oH X qual scope (x :: Nb) ⟨A,cl,f,.ref c,s,H⟩) body t) (h:t (some v :: jo cp σ) H Q):wpAny (model X.prog X.w) A (call (.ref f) [u]) (EP X pins σ Q) E s:=by
 unfold yr at ho
 simp only[VY,Xb,Xt] at ho
 obtain⟨⟨⟨ho,HK⟩,hx⟩,cps⟩:=ho
 have S:=x0P hk ho
 obtain⟨⟨ct,QU⟩,_⟩:=I.aO f _ hf
 have fq:=QM (I.aO c _ hc)
 refine q0n (kla_callFunE hd QU rfl QT Ck rfl fq ?_)
 rw[hb ct]
 refine uq (wpAny_newFunctionEnv (fun y hy=>HK y hy) (fun y hy=>by rw[Xq.mp hy];exact hx) (fun h₁ vQ uz => ?_) hk)
 have vU:∀ b o,s.heap.get? b=some o->h₁.get? b=some o:=fun b o e=>uz.extBut b o (WL (EW e)) (qJ _ e)
 refine⟨I.nolimit.keeps vU,?_⟩
 have e0:=I.ue
 show codeAny _ _ (.expr body (envX qual scope s.heap.objs.size f (.ref c) cl)) _ _
 have nG:∀ b:Addr,b∉(oH X qual scope (x :: Nb) ⟨A,cl,f,.ref c,s,H⟩).ex:=fun b z=>absurd (show b∈([]:List Addr) from z) (by simp)
 have mem:∀ {y:Str} {k:NameKind},scope.names.lookup y=some k->(y,k)∈scope.names:=fun e=>XC e
 have I1:Inv (oH X qual scope (x :: Nb) ⟨A,cl,f,.ref c,s,H⟩) [] (some v :: jo cp σ) H { s with heap:=h₁,toks:=s.toks + [(x,u)].length }:=by
  refine⟨⟨e0.mod,hk,rfl,rfl,wV _,fun y z d h1 h2=>I.ok.inj y z d (rR y d h1) (rR z d h2),fun y hy => ?_,fun y d z _=>(by cases z),fun _=>hh,Around.frames_deeper hA,.inr ⟨rfl,rfl⟩,fun b z=>absurd z (nG b),e0.bs,e0.lg,fun b _ _=>nG b,fun b z=>absurd z (nG b),e0.d3,e0.my⟩,
   rfl,e0.bare,Un.kept vU,⟨_,vQ,fun i y w h1 h2 h3 => ?_⟩,fun y d hy => ?_,e0.aO.fresh (wV _),fun y d hy=>I.bK y d (rR y d hy),fun p hp=>absurd (show p∈([]:List (Addr × Obj)) from hp) (by simp),e0.aO.kept vU,?_⟩
  ·have hy:scope.names.lookup y=some .cell\/scope.names.lookup y=some .free:=hy
   rcases hy with hy | hy
   ·exact absurd rfl (HK _ (mem hy))
   ·exact yt _ (mem hy) rfl
  ·cases i with
   | zero =>
    cases (show some x=some y by simpa using h1)
    cases (show v=w by simpa using h2)
    exact⟨u,r,.inl ⟨hx,by simp⟩⟩
   | succ j =>
    have h1:Nb[j]? = some y:=by simpa using h1
    have h2:(jo cp σ)[j]? = some (some w):=by simpa using h2
    unfold jo at h2
    rw[VX] at h2
    obtain⟨o,q1,q2⟩:=WJ.mp h2
    match o,q2 with
    | none,q2=>cases q2
    | some i',q2 =>
     have q2:(σ[i']?).join=some w:=q2
     obtain⟨n1,n2⟩:=S.uv (j + 1) i' y (by simpa using q1) (by simpa using h1)
     have hs : σ[i']? = some (some w):=by
      cases q : σ[i']? with
      | none=>rw[q] at q2;cases q2
      | some z=>rw[q] at q2;cases (show z=some w from q2);rfl
     have kd:=S.free _ (mem n2) rfl
     obtain⟨m,hn,hl⟩:=I.loc
     obtain⟨u',rv,lk⟩:=hl i' y w n1 hs (by rcases kd with z | z;exact .inr (.inl z);exact .inr (.inr z))
     refine⟨u',rv,?_⟩
     rcases lk with⟨z,_⟩ | ⟨_,d,e1,o,e2,e3⟩
     ·rcases kd with k | k<;>(rw[show X.env.kindOf y=some .local from z] at k;cases k)
     ·obtain⟨d',e4⟩:=yt _ (mem n2) rfl
      have:=rR _ _ e4
      rw[e1] at this;cases this
      exact .inr ⟨.inr n2,d,e4,o,vU _ _ e2,e3⟩
  ·obtain⟨z,o,e2,e3⟩:=I.cell y d (rR y d hy)
   exact⟨z,o,vU _ _ e2,e3⟩
  ·have:=S.len
   show (some v :: jo cp σ).length=(x :: Nb).length
   unfold jo
   rw[Mj,sE]
   simpa using this
 refine kla_codeExpr (XF (J.out [] _ _ H Q I1 h) (fun u' s' hs => ?_) fun e s' hs=>hs.elim)
 obtain⟨w,H',J',rv,q⟩:=hs
 exact I.after ⟨w,H',J'.os,J'.bare,J'.base,J'.aO,rv,q⟩
end
noncomputable def jO (h:Heap) (k:LK) (v:Value):Prop:=∃ a o xs n,v = .ref a/\h.get? a=some o/\o.cls = .type "tuple" /\ o.data = .seq xs n/\IntsAre xs.toList k
section
variable {prog:Program} {w:World} {A:Around} {E:Value->Shared->Prop} {s:Shared} {Q:Bool->Shared->Prop}
theorem HL {fin:Bool}:∀ {us ws:List Value} {ks ls:LK} (i:Nat),IntsAre us ks->IntsAre ws ls->fin=decide (us.length < ws.length)->Q (HT.lexLt ks ls) s->KatLex prog w A true fin Q (us.zip ws) i s
 | _,_,_,_,i,.nil,.nil,hf,h=>by
  rw[Ze]
  subst hf
  exact h
 | _,_,_,_,i,.nil,.cons m u r,hf,h=>by
  rw[Ze]
  have:fin=true:=by rw[hf];simp
  subst this
  exact h
 | _,_,_,_,i,.cons n t r,.nil,hf,h=>by
  rw[List.zip_nil_right]
  have:fin=false:=by rw[hf];simp
  subst this
  exact h
 | _,_,_,_,i,.cons n t r,.cons m u r',hf,h=>by
  rw[YB]
  refine kat_cons (wpAny_eqBool_int (kat_go (fun e => ?_) fun e => ?_))
  ·have e:n=m:=WV e
   subst e
   rw[HT.o6,VZ rfl] at h
   exact kat_yes (HL (i + 1) r r' (by rw[hf];simp) h)
  ·have e:¬ n=m:=fun z=>by subst z;simp at e
   rw[HT.o6,My e] at h
   refine kat_no ?_
   cases q:(true && i == 0) with
   | true=>exact oneLt_int h
   | false=>exact kat_one _ _ (ZJ h)
theorem HM {k l:LK} {x y:Value} (hx:jO s.heap k x) (hy:jO s.heap l y) (h:Q (HT.lexLt k l) s):wpAny (model prog w) A (keyLt' (tuples' true) x y) Q E s:=by
 obtain⟨a,o,xs,n,rfl,h1,_,h2,h3⟩:=hx
 obtain⟨b,o',ys,n',rfl,g1,_,g2,g3⟩:=hy
 exact kat_lt h1 h2 g1 g2 (HL 0 h3 g3 (by rw[Aa,Aa]) h)
theorem HN {h:Heap}:∀ {keys:List Value} {ks:List LK},(∀ k∈ks,k≠[])->keys.length=ks.length->(∀ (i:Nat) (k:LK) (v:Value),ks[i]? = some k->keys[i]? = some v->jO h k v)->∃ fs,KatTups h keys fs/\fs.length=keys.length/\∀ v∈fs,∃ n t,v=Value.int n t
 | [],[],_,_,_=>⟨[],.nil,rfl,fun v hv=>nomatch hv⟩
 | [],_ :: _,_,hl,_=>by simp at hl
 | _ :: _,[],_,hl,_=>by simp at hl
 | v :: keys,k :: ks,j2,hl,ht=>by
  obtain⟨fs,t,hf,hi⟩:=HN (h:=h) (keys:=keys) (ks:=ks) (fun k hk=>j2 k (Mn _ hk)) (by simpa using hl) fun i k v e1 e2=>ht (i + 1) k v (by simpa using e1) (by simpa using e2)
  obtain⟨a,o,xs,n,rfl,h1,hc,h2,h3⟩:=ht 0 k v rfl rfl
  have hk:=j2 k VV
  generalize hx:xs.toList=xl at h3
  cases h3 with
  | nil=>exact absurd rfl hk
  | cons m t' r =>
   have h0:xs[0]? = some (.int m t'):=by rw[<-WU,hx];rfl
   refine⟨.int m t' :: fs,.cons h1 hc h2 h0 t,by rw[Mj,Mj,hf],fun v hv => ?_⟩
   rcases EZ.mp hv with rfl | hv
   ·exact⟨m,t',rfl⟩
   ·exact hi v hv
theorem HP {M:Model} {keys:List Value} {ks:List LK} {Q:SortKind->Shared->Prop} (h0:0 < keys.length) (j2:∀ k∈ks,k≠[]) (hl:keys.length=ks.length) (ht:∀ (i:Nat) (k:LK) (v:Value),ks[i]? = some k->keys[i]? = some v->jO s.heap k v) (h:Q (tuples' true) s) :
  wpAny M A (keyKind' keys.toArray) Q E s:=by
 obtain⟨fs,t,hf,hi⟩:=HN j2 hl ht
 refine kat_kind (T := .type "int") t (by omega) (fun v hv => ?_) (by decide) ?_
 ·obtain⟨n,t',rfl⟩:=hi v hv
  exact .now
 ·exact h
theorem getD_some {α : Type} {l:List α} {i:Nat} {d : α} (h:i < l.length):l[i]? = some (l.getD i d):=by
 rw[qI h,EX,qI h];rfl
theorem QV {a kS:Addr} {e1:Nat} {vs keys:List Value} {ks:List LK} {P:PySem.Fin->Shared->Prop} (hv:keys.length=vs.length) (jP:vs.length < 64) (j2:∀ k∈ks,k≠[]) (hl:keys.length=ks.length) (ht:∀ (i:Nat) (k:LK) (v:Value),ks[i]? = some k->keys[i]? = some v->jO s.heap k v)
  (fin:∀ st (p:Array Nat),(arrOf st).map (·.2)=List.toArray (p.toList.map fun i=>vs.getD i Value.none)->failedOf st=none->cS vs.length p->Up (fun i=>ks.getD i []) p vs.length->wpAny (model prog w) A (ksk_tail a false e1 (.ref kS) st) P E s) :
  wpAny (model prog w) A (ksk_end a false vs.toArray e1 (.ref kS) (List.toArray keys)) P E s:=by
 unfold ksk_end
 try dsimp only
 simp only[Ml,Xc]
 by_cases h2:vs.toArray.size < 2
 ·rw[VZ h2,VZ h2]
  refine nN (uq ?_)
  rw[StateT.run_pure]
  refine nN (uq ?_)
  try dsimp only
  rw[wU] at h2
  refine fin _ (List.range vs.length).toArray ?_ rfl ⟨q0z _⟩ fun i j jy hj => ?_
  ·have Cm:arrOf (SortSt.mk' general' (keys.toArray.zip vs.toArray) #[] 7 none)=(List.toArray (List.range vs.length)).map (kas_item (keys.toArray.zip vs.toArray)):=by
    have e:=kas_range (keys.toArray.zip vs.toArray)
    rw[show (keys.toArray.zip vs.toArray).size=vs.length by simp[hv]] at e
    rw[e]
   exact kat_snds hv Cm
  ·have:i=j:=by omega
   subst this
   exact kle_refl _
 ·rw[My h2,My h2]
  rw[wU] at h2
  refine nN (HP (by omega) j2 hl ht ?_)
  refine nN (XF (kat_run (κ := tuples' true) (E:=E) (Q:=fun fh s'=>s'=s/\∃ p:Array Nat,arrOf fh=p.map (kas_item (keys.toArray.zip vs.toArray))/\failedOf fh=none/\cS vs.length p/\Up (fun i=>ks.getD i []) p vs.length)
   (G:=fun p s'=>s'=s/\cS vs.length p/\Up (fun i=>ks.getD i []) p vs.length) hv (by omega) jP (fun p fh s' a1 a2 a3 a4=>⟨a4.1,p,a2,a3,a4.2.1,a4.2.2⟩) ?_) ?_ fun _ _ x=>x)
  ·refine GH (k:=fun i=>ks.getD i []) (I:=fun s'=>s'=s) (fun i j C s' hi hj e hC => ?_) (by omega) rfl fun p s' a1 a2 a3=>⟨a3,a1,a2⟩
   subst e
   exact HM (ht i _ _ (getD_some (by omega)) (getD_some (by omega))) (ht j _ _ (getD_some (by omega)) (getD_some (by omega))) (hC _ rfl)
  ·rintro ⟨⟨⟩,fh⟩ s' ⟨rfl,p,a1,a2,a3,a4⟩
   try dsimp only
   exact fin fh p (kat_snds hv a1) a2 a3 a4
end
theorem bF.at {X:Cx} {pins:List (Addr × Obj)} {H H':Hp} {b:Addr} (f:bF X pins H b) (h:H' b=none):bF X pins H' b:=⟨h,f.2⟩
section
variable {X:Cx} {pins:List (Addr × Obj)} {σ : St} {H:Hp} {s:Shared} {A:Around} {E:Value->Shared->Prop} {a:Addr} {vs:List Value} {f:Value}
theorem Inv.ie {h':Heap} {t':Nat} {b:Addr} (I:Inv X pins σ H s) (fb:bF X pins H b) (k:∀ c o,c≠b->s.heap.get? c=some o->h'.get? c=some o):Inv X pins σ H { s with heap:=h',toks:=t' } :=
 I.turned k fb.1 fb.2.1 fb.2.2.2.1 fb.2.2.2.2.1 fb.2.2.2.2.2
theorem Inv.oJ {b:Addr} {o:Obj} (I:Inv X pins σ H s) (fb:bF X pins H b) (e:s.heap.get? b=some o) (hc:∀ v,o.data ≠ .cell v):Inv X ((b,o) :: pins) σ H s :=
 I.fU fun p hp=>by
  rcases EZ.mp hp with rfl | hp
  ·exact⟨e,fb.1,fb.2.1,fb.2.2.1,hc⟩
  ·exact I.pin p (WM _ hp)
theorem Inv.iH {p:Addr × Obj} (I:Inv X (p :: pins) σ H s):Inv X pins σ H s:=I.fU fun q hq=>I.pin q (WM _ (Mn _ hq))
theorem bF.cons {b:Addr} {p:Addr × Obj} (f:bF X pins H b) (n:p.1≠b):bF X (p :: pins) H b :=
 ⟨f.1,f.2.1,f.2.2.1,f.2.2.2.1,f.2.2.2.2.1,fun q hq=>by
  rcases Xo.mp hq with z | z
  ·exact f.2.2.2.2.2 q (XO _ z)
  ·rcases EZ.mp z with rfl | z
   ·exact n
   ·exact f.2.2.2.2.2 q (WM _ z)⟩
theorem yu {c:String} {xs:Array Value} {n:Nat}:∀ v,(seqObj c xs n).data ≠ .cell v:=fun v z=>by cases z
theorem QW {P:List V->Hp->Prop} {n0:Nat} {R:PySem.Fin->Shared->Prop} (I:Inv X pins σ H s) (fa:bF X pins H a) (ha:s.heap.get? a=some (seqObj "list" vs.toArray n0)) (jP:vs.length < 64) (p0:P [] H)
  (rS:∀ (cj:List (Addr × Obj)) (v:Value) (bx:List V) (H':Hp) (s':Shared),vs[bx.length]? = some v->Inv X cj σ H' s'->P bx H'->wpAny (model X.prog X.w) A (call f [v]) (EP X cj σ fun k lI=>P (bx ++ [k]) lI) (fun _ _=>False) s')
  (fin:∀ bx H',bx.length=vs.length->P bx H'->∃ ks:List LK,ks.length=vs.length/\(∀ k∈ks,k≠[])/\(∀ (i:Nat) (k:LK),ks[i]? = some k->∃ t,bx[i]? = some (.ref t)/\H' t=some (.tup (k.map V.int))) ∧
   ∀ (p:Array Nat) (s':Shared) (c:Nat),cS vs.length p->Up (fun i=>ks.getD i []) p vs.length->Inv X pins σ H' s'->bF X pins H' a->s'.heap.get? a=some (seqObj "list" (List.toArray (p.toList.map fun i=>vs.getD i Value.none)) c)->R (.done (.ret .none)) s') :
  wpAny (model X.prog X.w) A (ksk_tree a f false) R E s:=by
 unfold ksk_tree
 refine nN (listItems_at ha rfl ?_)
 refine nN (YU ha rfl ?_ (by rw[wU,XB];omega) (W5 _))
 have sb:=Xn s.heap a (Obj.mapSeq fun _=>(#[]:Array Value))
 obtain⟨e1,k6⟩:∃ e1,(s.heap.update a (Obj.mapSeq fun _=>(#[]:Array Value))).get? a=some (seqObj "list" #[] e1):=⟨_,Y1 ha fun _ => #[]⟩
 have I1:Inv X pins σ H { s with heap:=s.heap.update a (Obj.mapSeq fun _=>(#[]:Array Value)) }:=I.ie (t':=s.toks) fa fun c o n e=>(sb.2 c n).trans e
 refine nN (seqEpoch_at k6 rfl ?_)
 refine nN (wpAny_newTuple ?_ (by show vs.length <= _;rw[XB];omega))
 refine nN (q0b ?_ (W5 _))
 refine W6 ?_
 generalize QX:s.heap.update a (Obj.mapSeq fun _=>(#[]:Array Value))=g0 at k6 I1
 show wpAny _ _ (ksk_rest a f false vs.toArray e1 (.ref (g0.push (seqObj "tuple" vs.toArray 0)).objs.size)) R E { s with heap:=(g0.push (seqObj "tuple" vs.toArray 0)).push (seqObj "list" #[] 0) }
 have I2:Inv X pins σ H { s with heap:=(g0.push (seqObj "tuple" vs.toArray 0)) }:=I1.kept (h':=g0.push (seqObj "tuple" vs.toArray 0)) (t':=s.toks) fun b u e=>qJ _ e
 have fV:(g0.push (seqObj "tuple" vs.toArray 0)).get? a=some (seqObj "list" #[] e1):=qJ _ k6
 generalize g0.push (seqObj "tuple" vs.toArray 0)=g1 at I2 fV
 have fk:bF X pins H g1.objs.size:=I2.ir (wV _) (I2.aO.fresh (wV _))
 have I3:Inv X pins σ H { s with heap:=g1.push (seqObj "list" #[] 0) }:=I2.kept (h':=g1.push (seqObj "list" #[] 0)) (t':=s.toks) fun b u e=>qJ _ e
 have vV:g1.objs.size≠a:=Ya (EW fV)
 have I4:=(I3.oJ fk (VW _ rfl) yu).oJ (fa.cons (p:=(g1.objs.size,seqObj "list" #[] 0)) vV) (qJ _ fV) yu
 generalize g1.objs.size=kS at I4 vV fk
 unfold ksk_rest
 refine nN (q0q ?_)
 first
  | rw[List.forIn_toArray]
  | (rw[<-Y3];simp only[List.toList_toArray])
  | rw[<-Y3]
 refine nN (ksk_fold (fun i s'=>∃ H' bx ks e,Inv X ((a,seqObj "list" #[] e1) :: (kS,seqObj "list" (List.toArray ks) e) :: pins) σ H' s'/\P bx H'/\Vals bx ks/\bx.length=i) vs 0 _ ⟨H,[],[],0,I4,p0,.nil,rfl⟩ ?step ?done)
 case step =>
  rintro j x s' hx ⟨H',bx,ks,e,J,pk,rv,hl⟩
  rw[XG] at hl
  have hj:j < vs.length:=(qK.mp hx).1
  refine nN (Zs (XF (rS _ x bx H' s' (by rw[hl];exact hx) J pk) (fun u s2 hs => ?_) fun _ _ z=>z.elim))
  obtain⟨k,H2,J2,r2,p2⟩:=hs
  try dsimp only
  have pa:=J2.pin (a,seqObj "list" #[] e1) (WM _ (.head _))
  have pZ:=J2.pin (kS,seqObj "list" (List.toArray ks) e) (WM _ (.tail _ (.head _)))
  have lk:ks.length=j:=by rw[<-rv.length];exact hl
  refine nN (YU pZ.1 rfl ?_ (by rw[wU,XB];omega) (W7 (q0s (q0u ..)) (by rw[wU,XB];omega)))
  have s1:=Xn s2.heap kS (Obj.mapSeq (·.push u))
  have ea:(List.toArray ks).push u=List.toArray (ks ++ [u]):=by simp
  obtain⟨c2,jZ⟩:∃ c2,(s2.heap.update kS (Obj.mapSeq (·.push u))).get? kS=some (seqObj "list" (List.toArray (ks ++ [u])) c2):=⟨_,by rw[<-ea];exact Y1 pZ.1 (·.push u)⟩
  have J3:=J2.iH.iH
  have J4:Inv X pins σ H2 { s2 with heap:=s2.heap.update kS (Obj.mapSeq (·.push u)) }:=J3.ie (t':=s2.toks) (fk.at pZ.2.1) fun c o n e=>(s1.2 c n).trans e
  refine uq ⟨rfl,H2,bx ++ [k],ks ++ [u],c2,?_,p2,rv.append (.cons r2 .nil),by rw[Mm,hl,XG];rfl⟩
  exact (J4.oJ (fk.at pZ.2.1) jZ yu).oJ ((fa.at pa.2.1).cons vV) ((s1.2 a vV.symm).trans pa.1) yu
 case done =>
  rintro s' ⟨H',bx,ks,e,J,pk,rv,hl⟩
  rw[XG] at hl
  have pa:=J.pin (a,seqObj "list" #[] e1) (WM _ (.head _))
  have pZ:=J.pin (kS,seqObj "list" (List.toArray ks) e) (WM _ (.tail _ (.head _)))
  have lk:ks.length=vs.length:=by rw[<-rv.length];exact hl
  obtain⟨kk,k1,k2,k3,k4⟩:=fin bx H' hl pk
  try dsimp only
  refine nN (listItems_at pZ.1 rfl ?_)
  refine QV (ks:=kk) lk jP k2 (by rw[lk,k1]) (fun i k v e1 e2 => ?_) fun st p rT hf hp up => ?_
  ·obtain⟨t,e3,e4⟩:=k3 i k e1
   obtain⟨u,e5,e6⟩:=rv.get e3
   rw[e2] at e5;cases e5
   cases e6
   obtain⟨ag,r',it,_⟩:=J.tuple (bT.of e4)
   obtain⟨o,o1,o2,n,o3⟩:=it
   exact⟨t,o,_,n,rfl,o1,o2,o3,by simpa using intsAre_of r'⟩
  ·have hz:(p.toList.map fun i=>vs.getD i Value.none).length=vs.length:=by rw[sE,Aa,hp.size]
   unfold ksk_tail
   try dsimp only
   rw[rT]
   refine nN (YU pZ.1 rfl ?_ (by rw[wU,XB];omega) (W5 _))
   refine nN (wpAny_letGo ?_)
   have s1:=Xn s'.heap kS (Obj.mapSeq fun _=>(#[]:Array Value))
   have na:(s'.heap.update kS (Obj.mapSeq fun _=>(#[]:Array Value))).get? a=some (seqObj "list" #[] e1):=(s1.2 a vV.symm).trans pa.1
   refine nN (seqEpoch_at na rfl ?_)
   simp only[Ml,Xc]
   refine nN (YU na rfl ?_ (W5 _) (W7 (q0s (by rw[wU,hz])) (by rw[XB];omega)))
   rw[hf]
   simp only[bne_self_eq_false,Ml,Xc]
   have J1:Inv X pins σ H' { s' with heap:=s'.heap.update kS (Obj.mapSeq fun _=>(#[]:Array Value)) }:=J.iH.iH.ie (t':=s'.toks) (fk.at pZ.2.1) fun c o n e=>(s1.2 c n).trans e
   have s2:=Xn (s'.heap.update kS (Obj.mapSeq fun _=>(#[]:Array Value))) a (Obj.mapSeq fun _=>List.toArray (p.toList.map fun i=>vs.getD i Value.none))
   have J2:Inv X pins σ H' { s' with heap:=(s'.heap.update kS (Obj.mapSeq fun _=>(#[]:Array Value))).update a (Obj.mapSeq fun _=>List.toArray (p.toList.map fun i=>vs.getD i Value.none)) }:=J1.ie (t':=s'.toks) (fa.at pa.2.1) fun c o n e=>(s2.2 c n).trans e
   obtain⟨c2,jZ⟩:∃ c2,((s'.heap.update kS (Obj.mapSeq fun _=>(#[]:Array Value))).update a (Obj.mapSeq fun _=>List.toArray (p.toList.map fun i=>vs.getD i Value.none))).get? a=some (seqObj "list" (List.toArray (p.toList.map fun i=>vs.getD i Value.none)) c2):=⟨_,Y1 na fun _=>List.toArray (p.toList.map fun i=>vs.getD i Value.none)⟩
   exact uq (k4 p _ c2 hp up J2 (fa.at pa.2.1) jZ)
end
section
variable {prog:Program} {w:World} {A:Around} {E:Value->Shared->Prop} {s:Shared}
theorem QY {Q:List Value->Shared->Prop} {r:Addr} {a b c:Int} {t u v:Tok} {n:Nat} (hh:A.handled=none) (hr:IsRange s.heap r a b c t u v) (rV:Builtin.Range.small a b c=true)
  (hn:Builtin.Range.rangeSize a b c=n) (hlen:n <= 2 ^ 24)
  (hQ:∀ h' tk cH,(∀ b o,s.heap.get? b=some o->h'.get? b=some o)->ItemsOf (fun i v=>∃ t,v = .int (a + i * c) t) cH n->Q cH.toList { s with heap:=h',toks:=tk }):wpAny (model prog w) A (collect (.ref r)) Q E s:=by
 have key:∀ R:Result->Shared->Prop,(∀ h' tk cH c',(∀ b o,s.heap.get? b=some o->h'.get? b=some o)->h'.get? s.heap.objs.size=some { cls := .type "list",dict:=none,data := .seq cH c',slots := #[] }->ItemsOf (fun i v=>∃ t,v = .int (a + i * c) t) cH n->R (.ok (.ret (.ref s.heap.objs.size))) { s with heap:=h',toks:=tk })->codeAny (model prog w) A (.builtin "proto.collect" ⟨[.ref r],[]⟩) R s:=by
  intro R hR
  refine Y0 F.entry_proto_collect ?_
  rw[YK F.plain_proto_collect _]
  show wpAny _ A.in1 (newList [] >>= fun l=>again (.builtin "list.__iadd__" ⟨[l,.ref r],[]⟩)) _ _ s
  refine nN (Xj ?_)
  refine uq ⟨plainId_quiet F.plain_list_iadd _,Y0 F.entry_list_iadd ?_⟩
  rw[YK F.plain_list_iadd _]
  show wpAny _ A.in1 (Builtin.List.listExtendWith (.ref s.heap.objs.size) (.ref r) (.ref s.heap.objs.size)) _ _ _
  have QZ:(s.heap.push { cls := .type "list",data := .seq ([]:List Value).toArray }).get? s.heap.objs.size=some { cls := .type "list",data := .seq #[] 0 }:=VW _ rfl
  refine wpAny_extend_range (R:=R) (s:={ s with heap:=s.heap.push { cls := .type "list",data := .seq ([]:List Value).toArray } }) hh (qJ _ hr) rV hn hlen s.heap.objs.size (.ref s.heap.objs.size) 0 QZ fun h' tk cH c' hk Co rW => ?_
  exact hR h' tk cH c' (fun b o e=>hk b o (WL (EW e)) (qJ _ e)) Co rW
 unfold collect
 refine nN (wpAny_runValue (key _ fun h' tk cH c' hk Co rW => ?_))
 show wpAny _ A (load s.heap.objs.size >>= _) _ _ _
 refine nN (wpAny_load Co ?_)
 exact uq (hQ h' tk cH hk rW)
end
section
variable {X:Cx} {pins:List (Addr × Obj)} {σ : St} {H:Hp} {s:Shared} {E:Value->Shared->Prop}
theorem Inv.p9 {a:Addr} {o:HO} (I:Inv X pins σ H s) (fa:bF X pins H a) (ha:X.s₀.heap.objs.size <= a) (new:aN X.prog X.w (upd H a o) s.heap a o):Inv X pins σ (upd H a o) s:=by
 obtain⟨f0,f1,f2,_,f4,f5⟩:=fa
 have ne:∀ {b u},H b=some u->b≠a:=fun e z=>by rw[z,f0] at e;cases e
 refine⟨I.ok,I.os,I.bare,⟨I.base.keep,I.base.slot,fun b u e n hx => ?_,I.base.there,fun b xs e => ?_,fun b u v e => ?_,fun b ps e => ?_⟩,I.loc,I.cell,?_,fun x c e => ?_,fun p hp => ?_,fun b u e => ?_,I.len⟩
 ·rw[aH (WL (WD (EW e) ha))];exact I.base.free b u e n hx
 ·have:=I.base.cX b xs e
  rw[aH (ne this)];exact this
 ·have:=I.base.dE b u v e
  rw[aH (ne this)];exact this
 ·obtain⟨more,this⟩:=I.base.dZ b ps e
  exact⟨more,by rw[aH (ne this)];exact this⟩
 ·rw[aH (Yg f1)];exact I.free
 ·rw[aH (f4 x c e)];exact I.bK x c e
 ·obtain⟨e1,e2,e3⟩:=I.pin p hp
  exact⟨e1,by rw[aH (f5 p hp)];exact e2,e3⟩
 ·by_cases z:b=a
  ·subst z;rw[bH] at e;cases e;exact new
  ·rw[aH z] at e
   refine (I.aO b u e).eA (fun c v _ q=>q) (fun c q => ?_) fun c xs q => ?_
   ·rw[aH (ne q)];exact q
   ·rw[aH (ne q)];exact q
theorem HQ {xs:List V} {vs:List Value} (r:Vals xs vs) {p:List Nat} (hp:∀ i∈p,i < vs.length):Vals (p.map fun i=>xs.getD i .non) (p.map fun i=>vs.getD i Value.none):=by
 induction p with
 | nil=>exact .nil
 | cons i q ih =>
  refine .cons ?_ (ih fun j hj=>hp j (Mn _ hj))
  have hi:=hp i VV
  obtain⟨u,e1,e2⟩:=r.get (getD_some (l:=xs) (d:=V.non) (by rw[r.length];exact hi))
  have:=getD_some (l:=vs) (d:=Value.none) hi
  rw[this] at e1;cases e1
  exact e2
theorem cS.mem {n:Nat} {p:Array Nat} (h:cS n p) {i:Nat} (hi:i∈p.toList):i < n:=by
 have:=(YL.mp h.perm).mem_iff.mp hi
 simpa using this
theorem Q0 {l q:Addr} {P:List V->Hp->Prop} {xs:List V} {Q:Value->Shared->Prop} (I:Inv X pins σ H s)
  (col:∀ Q':List Value->Shared->Prop,(∀ h' tk vs,(∀ b o,s.heap.get? b=some o->h'.get? b=some o)->Vals xs vs->Q' vs { s with heap:=h',toks:=tk })->wpAny (model X.prog X.w) X.A.in1 (collect (.ref l)) Q' E s)
  (jP:xs.length < 64) (p0:P [] H)
  (rS:∀ (cj:List (Addr × Obj)) (x:V) (u:Value) (bx:List V) (H':Hp) (s':Shared),xs[bx.length]? = some x->RelV x u->Inv X cj σ H' s'->P bx H'->wpAny (model X.prog X.w) X.A.in1.in1 (call (.ref q) [u]) (EP X cj σ fun k lI=>P (bx ++ [k]) lI) (fun _ _=>False) s')
  (fin:∀ bx H',bx.length=xs.length->P bx H'->∃ ks:List LK,ks.length=xs.length/\(∀ k∈ks,k≠[])/\(∀ (i:Nat) (k:LK),ks[i]? = some k->∃ t,bx[i]? = some (.ref t)/\H' t=some (.tup (k.map V.int))) ∧
   ∀ (p:Array Nat) (s':Shared) (a:Addr),cS xs.length p->Up (fun i=>ks.getD i []) p xs.length->H' a=none->Inv X pins σ (upd H' a (.lst (p.toList.map fun i=>xs.getD i .non))) s'->Q (.ref a) s') :
  wpAny (model X.prog X.w) X.A (call (.builtin "sorted") [.ref l] [(Str.ofString "key",.ref q)]) Q E s:=by
 refine call_function_entry_kw kind_sorted plain_sorted entry_sorted (ksk_s1 _ _) ?_
 unfold Builtin.«sorted»
 refine nN (m:=checkCount "sorted" 1 1 _) (uq ?_)
 refine nN (col _ fun h' tk vs kp rv => ?_)
 have lv:vs.length=xs.length:=rv.length.symm
 refine nN (q0b ?_ (by rw[XB];omega))
 have I1:Inv X pins σ H { s with heap:=h',toks:=tk }:=I.kept kp
 have fa:bF X pins H h'.objs.size:=I1.ir (wV _) (I1.aO.fresh (wV _))
 have vW:X.s₀.heap.objs.size <= h'.objs.size:=I1.sz
 have I2:Inv X pins σ H { s with heap:=h'.push (seqObj "list" vs.toArray 0),toks:=tk }:=I1.kept (h':=h'.push (seqObj "list" vs.toArray 0)) (t':=tk) fun b u e=>qJ _ e
 have oX:(h'.push (seqObj "list" vs.toArray 0)).get? h'.objs.size=some (seqObj "list" vs.toArray 0):=VW _ rfl
 refine nN (W6 (wpAny_call_entry_kw slot_list_sort ⟨_,oX,rfl⟩ entry_list_sort ?body (ksk_l1 _ _)))
 case body =>
  show wpAny (model X.prog X.w) X.A.in1.in1 (Builtin.«list.sort» ⟨[.ref h'.objs.size],[(Str.ofString "key",.ref q)]⟩) _ _ _
  rw[ksk_t1]
  refine QW (P:=P) I2 fa oX (by omega) p0 (fun cj v bx H' s' hv J pk => ?_) fun bx H' hl pk => ?_
  ·have hi:bx.length < xs.length:=by rw[<-lv];exact (qK.mp hv).1
   obtain⟨u,e1,e2⟩:=rv.get (qI hi)
   rw[hv] at e1;cases e1
   exact rS cj _ v bx H' s' (qI hi) e2 J pk
  ·obtain⟨ks,k1,k2,k3,k4⟩:=fin bx H' (by omega) pk
   refine⟨ks,by omega,k2,k3,fun p s' c hp up J fj e=>⟨_,rfl,?_⟩⟩
   rw[lv] at hp up
   refine uq ⟨_,rfl,k4 p s' h'.objs.size hp up fj.1 (J.p9 fj vW ?_)⟩
   have hz:(p.toList.map fun i=>xs.getD i V.non).length=xs.length:=by rw[sE,Aa,hp.size]
   exact⟨by rw[hz,XB];omega,_,c,HQ rv fun i hi=>by rw[lv];exact hp.mem hi,e⟩
end
theorem af.at {H:Hp} {ds:List D} {vs:List V} {i:Nat} {d:D} {v:V} (h:af H ds vs) (e1:ds[i]? = some d) (e2:vs[i]? = some v):Is H d v:=by
 obtain⟨d',e3,h'⟩:=h.get e2
 rw[e1] at e3;cases e3
 exact h'
theorem af.rX {H:Hp}:∀ {ds:List D} {vs:List V},vs.length=ds.length->(∀ (i:Nat) (d:D),ds[i]? = some d->∃ v,vs[i]? = some v/\Is H d v)->af H ds vs
 | [],[],_,_ => .nil
 | [],_ :: _,h,_=>by simp at h
 | _ :: _,[],h,_=>by simp at h
 | d :: ds,v :: vs,h,g=>by
  obtain⟨v',e,h1⟩:=g 0 d rfl
  cases (show some v=some v' from e)
  exact .cons h1 (af.rX (by simpa using h) fun i d e=>by simpa using g (i + 1) d (by simpa using e))
structure p_ where
 T:Addr
 pos:Pos
 qual:Str
theorem eR.same {H H':Hp} {T:Addr} {pos:Pos} {q:Str} (h:eR H T pos q) (s:aA H H'):eR H' T pos q:=by
 obtain⟨ps,e,t,c⟩:=h
 exact⟨ps,s _ _ e,t,c.imp id fun ⟨c,e1,e2⟩=>⟨c,e1,s _ _ e2⟩⟩
theorem eR.keep {H H':Hp} {T T':Addr} {pos:Pos} {q:Str} (h:eR H T pos q) (ne:T≠T') (hT:∃ ps,H T'=some (.tbl ps)) (s:∀ b o,H b=some o->b≠T'->H' b=some o):eR H' T pos q:=by
 obtain⟨ps,e,t,c⟩:=h
 refine⟨ps,s _ _ e ne,t,c.imp id fun ⟨c,e1,e2⟩=>⟨c,e1,s _ _ e2 fun z => ?_⟩⟩
 obtain⟨qs,hT⟩:=hT
 rw[z,hT] at e2;cases e2
theorem eR.put {H:Hp} {T a:Addr} {pos:Pos} {q:Str} {o o':HO} (h:eR H T pos q) (ha:H a=some o) (hk:(∃ vs,o = .lst vs)\/∃ ws,o = .dK ws):eR (upd H a o') T pos q:=by
 obtain⟨ps,e,t,c⟩:=h
 have ne:∀ {b u},H b=some u->(∀ vs,u ≠ .lst vs)->(∀ ws,u ≠ .dK ws)->b≠a:=fun {b u} e n1 n2 z=>by
  subst z
  rw[ha] at e;cases e
  rcases hk with⟨_,z⟩ | ⟨_,z⟩
  ·exact n1 _ z
  ·exact n2 _ z
 refine⟨ps,by rw[aH (ne e (fun _ z=>by cases z) fun _ z=>by cases z)];exact e,t,c.imp id fun ⟨c,e1,e2⟩=>⟨c,e1,?_⟩⟩
 rw[aH (ne e2 (fun _ z=>by cases z) fun _ z=>by cases z)];exact e2
@[reducible] noncomputable def rY (ls:List p_):aV where
 ad:=ls.map (·.T)
 ok:=fun H=>∀ l∈ls,eR H l.T l.pos l.qual
 same:=fun h s l hl=>(h l hl).same s
 put:=fun h ha hk l hl=>(h l hl).put ha hk
 tb:=fun h ha=>by
  obtain⟨l,hl,rfl⟩:=WQ.mp ha
  obtain⟨ps,e,_⟩:=h l hl
  exact⟨ps,e⟩
variable [aV]
structure Cp (T:Addr) (pos:Pos) (q:Str):Prop where
 mem:T∈aV.ad
 get:∀ H:Hp,aV.ok H->eR H T pos q
 put:∀ H H':Hp,aV.ok H->eR H' T pos q->(∀ b o,H b=some o->b≠T->H' b=some o)->aV.ok H'
omit [aV] in
theorem Q1 {ls:List p_} {l:p_} (hl:l∈ls) (nd:∀ a∈ls,∀ b∈ls,a.T=b.T->a=b):@Cp (rY ls) l.T l.pos l.qual:=by
 letI:aV:=rY ls
 refine⟨YQ hl,fun H h=>h l hl,fun H H' h t k l' i_ => ?_⟩
 by_cases z:l'.T=l.T
 ·rw[nd _ i_ _ hl z];exact t
 ·obtain⟨ps,e,_⟩:=h l hl
  exact (h l' i_).keep z ⟨ps,e⟩ k
structure Q2 (X:Cx) (T:Addr):Prop where
 code:∃ cc,X.env.code = .ref cc/\CodeHd X.base cc T
 ng:mainGlobals≠T
 blt:X.base.BuiltinsAt X.mg T
section
variable {F H H':Hp} {ad:List Addr} {δ : aC} {σ : St}
theorem SR.Cq (S:SR F ad δ σ H) (k:∀ b o,H b=some o->b∉aV.ad->H' b=some o) (tk:aV.ok H'):SR (Nw F H H') ad δ σ H':=by
 have sm:=Nw.same (H':=H') S.sub
 have nF:∀ {a o},F a=some o->a∉aV.ad:=fun {a o} e t=>by rw[S.nt a t] at e;cases e
 have nO:∀ {i a ov},ad[i]? = some a -> δ.mu[i]? = some (some ov)->a∉aV.ad:=fun {i a ov} e1 e2 t=>by
  obtain⟨a',o,e3,e4,h⟩:=S.mu i ov e2
  rw[e1] at e3;cases e3
  obtain⟨ps,q⟩:=aV.tb S.tab t
  rw[e4] at q;cases q
  rcases h.kind with⟨_,z⟩ | ⟨_,z⟩<;>cases z
 refine⟨fun a o e => ?_,fun a l => ?_,S.cO,S.inj,fun i ov e => ?_,fun i x e => ?_,S.len,tk,fun a ha => ?_⟩
 ·unfold Nw at e
  cases q:H a with
  | none=>rw[q] at e;exact e
  | some u=>rw[q] at e;exact k a o (S.sub a o e) (nF e)
 ·obtain⟨i,ov,e1,e2⟩:=l
  obtain⟨a',o,e3,e4,_⟩:=S.mu i ov e2
  rw[e1] at e3;cases e3
  unfold Nw;rw[e4];exact S.off a ⟨i,ov,e1,e2⟩
 ·obtain⟨a,o,e1,e2,h⟩:=S.mu i ov e
  exact⟨a,o,e1,k a o e2 (nO e1 e),h.same sm⟩
 ·obtain⟨v,e1,h⟩:=S.sl i x e
  refine⟨v,e1,?_⟩
  cases x with
  | p d=>exact Is.same sm h
  | o k=>exact h
 ·obtain⟨ps,q⟩:=aV.tb S.tab ha
  unfold Nw;rw[q];exact S.nt a ha
theorem Ext.Cq (S:SR F ad δ σ H) (k:∀ b o,H b=some o->b∉aV.ad->H' b=some o) (tk:aV.ok H'):Ext F ad δ.mu H (Nw F H H') ad δ.mu H' where
 same:=Nw.same S.sub
 new:=fun a o e=>by
  unfold Nw at e
  cases q:H a with
  | none=>exact .inr (.inl rfl)
  | some u=>rw[q] at e;exact .inl e
 keep:=fun a o e _ t=>k a o e t
 pre:=fun _ _ e=>e
 cB:=fun _ l => .inl l
 j6:=fun a o e=>by
  by_cases t:a∈aV.ad
  ·obtain⟨ps,q⟩:=aV.tb tk t
   exact⟨_,q⟩
  ·exact⟨o,k a o e t⟩
theorem SR.vX {sl:List (Option DV)} {mu:List (Option OV)} {τ : St} {d:D} {v:V} (S:SR F ad ⟨sl,mu⟩ τ H) (h:Is F d v):SR F ad ⟨some (.p d) :: sl,mu⟩ (some v :: τ) H:=by
 refine⟨S.sub,S.off,S.cO,S.inj,S.mu,fun i x e => ?_,by have:=S.len;simp only[Mj];exact congrArg (· + 1) this,S.tab,S.nt⟩
 cases i with
 | zero=>cases (show some (some (DV.p d))=some (some x) from e);exact⟨v,rfl,h⟩
 | succ i=>exact S.sl i x e
theorem Ext.qa {F' H':Hp} {aD:List Addr} {d5:List (Option OV)} {a:Addr} {o:HO} (S:SR F ad δ σ H) (e:Ext F ad δ.mu H F' aD d5 H') (h:H a=some o) (n1:∀ vs,o ≠ .lst vs) (n2:∀ ws,o ≠ .dK ws) (n3:∀ ps,o ≠ .tbl ps):H' a=some o:=by
 refine e.keep a o h (fun ⟨i,ov,e1,e2⟩ => ?_) fun t => ?_
 ·obtain⟨a',u,e3,e4,q⟩:=S.mu i ov e2
  rw[e1] at e3;cases e3
  rw[h] at e4;cases e4
  rcases q.kind with⟨_,z⟩ | ⟨_,z⟩
  ·exact n1 _ z
  ·exact n2 _ z
 ·obtain⟨ps,q⟩:=aV.tb S.tab t
  rw[h] at q;exact n3 _ (WR q)
end
noncomputable def Q3 (cp:List (Option Nat)) (fb:WE) (δ : aC) (ds:List D) (key:D->LK):Prop :=
 ∀ d∈ds,key d≠[]/\fb ⟨some (.p d) :: dI cp δ.sl,δ.mu⟩ fun y δ'=>y = .p (.tup ((key d).map D.int)) /\ δ'.mu = δ.mu
noncomputable def sortBy (cp:List (Option Nat)) (fb:WE) (δ : aC) (ds:List D) (K:List D->Prop):Prop :=
 ds.length < 64/\∃ key:D->LK,Q3 cp fb δ ds key/\∀ out:List D,out.Perm ds->(out.map key).Pairwise kle->K out
section
variable {X:Cx} {params:Arguments} {body:Expr} {scope:Scope} {gz:Pos} {x:Str} {Nb:List Str} {cp:List (Option Nat)} {fb:WE} {T:Addr}
structure ki (X:Cx) (params:Arguments) (body:Expr) (scope:Scope) (gz:Pos) (T:Addr) (x:Str) (Nb:List Str) (cp:List (Option Nat)) (fb:WE):Prop where
 env:Q2 X T
 tbl:Cp T gz (X.env.qual ++ "<lambda>")
 Q4:defaultsOf params X.env=([],[])
 kind:scope.kind = .function
 names:yr X.N X.env.scope scope x Nb cp=true
 co:scope.isCoroutine=false
 gen:scope.isGenerator=false
 bind:∀ (cl:List (Str × Addr)) (pm cd ct u:Value),bindArgs (kla_fn "<lambda>" (X.env.qual ++ "<lambda>") params body scope cl pm cd ct) ⟨[u],[]⟩=pure [(x,u)]
 room:∃ k,bC (k + 3) X.A/\∀ d:LD,bC k (d.A.deeper (envX (X.env.qual ++ "<lambda>") scope d.s.heap.objs.size d.f d.cd d.cl))->JE (oH X (X.env.qual ++ "<lambda>") scope (x :: Nb) d) body (tD fb)
theorem Q5 {pins:List (Addr × Obj)} {σ : St} {H:Hp} {s:Shared} {E:Value->Shared->Prop} {l:Addr} {F:Hp} {ad:List Addr} {δ : aC} {ds:List D} {xs:List V} {kj pos:Pos} {Q:VK} (L:ki X params body scope gz T x Nb cp fb)
  (I:Inv X pins σ H s) (S:SR F ad δ σ H) (hx:af F ds xs)
  (col:∀ (s:Shared) (H':Hp),Inv X pins σ H' s->(∀ b o,H b=some o->b∉aV.ad->H' b=some o)->∀ Q':List Value->Shared->Prop,(∀ h' tk vs,(∀ b o,s.heap.get? b=some o->h'.get? b=some o)->Vals xs vs->Q' vs { s with heap:=h',toks:=tk })->wpAny (model X.prog X.w) X.A.in1 (collect (.ref l)) Q' E s)
  (hs:sortBy cp fb δ ds fun out=>∀ a F' H' us,Ext F ad δ.mu H F' ad δ.mu H'->SR F' ad δ σ H'->H' a=none->af F' out us->Q (.ref a) (upd H' a (.lst us))) :
  wpAny (model X.prog X.w) X.A (evalAll ((backToKw pos (keywordEach [⟨some "key",.Lambda params body scope gz,kj⟩] X.env)).map (·.2))) (fun bx s₂ => wpAny (model X.prog X.w) X.A (call (.builtin "sorted") [.ref l] (((backToKw pos (keywordEach [⟨some "key",.Lambda params body scope gz,kj⟩] X.env)).filterMap (·.1)).zip bx)) (EP X pins σ Q) E s₂) E s:=by
 obtain⟨jP,key,hk,K⟩:=hs
 obtain⟨k,vY,J⟩:=L.room
 obtain⟨cc,kh,hC⟩:=L.env.code
 show wpAny _ _ (evalAll [do let v <- eval (.Lambda params body scope gz) X.env;standAt pos;pure v]) _ _ _
 refine evalAll_cons (nN ?_)
 have Cr:=L.names
 unfold yr at Cr
 simp only[VY,Xb,Xt] at Cr
 have SC:=x0P L.kind Cr.1.1.1
 obtain⟨cl,pR,rR,yt⟩:=E5 (scope:=scope) (env:=X.env) fun y hy e=>I.ok.has y.1 (SC.free y hy e)
 refine QN I (L.tbl.get H S.tab) L.Q4 pR kh (hC.keeps I.bk) L.env.ng (I.mod.glob.keeps I.bk) (L.env.blt.keeps I.bk) fun f H1 s1 c I1 t1 k1 QK hf hc => ?_
 refine nN (YF (uq ?_))
 refine evalAll_nil ?_
 show wpAny _ _ (call (.builtin "sorted") [.ref l] [(Str.ofString "key",.ref f)]) _ _ _
 have kT:∀ b o,H b=some o->b∉aV.ad->H1 b=some o:=fun b o e t=>k1 b o e fun z=>t (by rw[z];exact L.tbl.mem)
 have nY:=L.tbl.put H H1 S.tab t1 k1
 have S1:=S.Cq kT nY
 have E1:=Ext.Cq S kT nY
 have lx:=hx.length
 refine Q0 (xs:=xs) (P:=fun bx H'=>∃ F',Ext F ad δ.mu H F' ad δ.mu H'/\SR F' ad δ σ H'/\H' f=some (jN f "<lambda>" (X.env.qual ++ "<lambda>") params body scope cl ((X.mg "__name__").getD .none) (.ref c))/\H' c=some (mX c (X.env.qual ++ "<lambda>"))/\∀ (i:Nat) (d:D) (kv:V),ds[i]? = some d->bx[i]? = some kv->Is F' (.tup ((key d).map D.int)) kv)
  I1 (col s1 H1 I1 kT) (by omega) ⟨_,E1,S1,hf,hc,fun i d kv _ e=>by simp at e⟩ (fun cj v u bx H' s' hv rv I' ⟨F',E',S',Ct,kO,Cu⟩ => ?_) fun bx H' hl ⟨F',E',S',Ct,kO,Cu⟩ => ?_
 ·have hi:bx.length < ds.length:=by rw[<-lx];exact (qK.mp hv).1
  have hd:=qI hi
  have Q6:Is F' ds[bx.length] v:=af.at (hx.same E'.same) hd hv
  obtain⟨Wt,Q7⟩:=hk _ (Yh hi)
  have r2:bC (k + 1) X.A.in1.in1:=(bC.in1 (bC.in1 (k:=k + 2) vY))
  refine QS I' Ct kO (by rw[show X.A.in1.in1.frames=X.A.frames from rfl];exact I'.ok.frames) r2.hd r2.depth L.kind L.names L.co L.gen rR yt (fun ct=>L.bind cl _ _ ct u) rv (J ⟨X.A.in1.in1,cl,f,.ref c,s',H'⟩ (r2.deeper _)) ?_
  refine⟨F',ad,_,_,(S'.uZ (cp:=cp)).vX Q6,Q7,fun y δ' ⟨ey,em⟩ w F2 dA H2 E2 S2 V2 => ?_⟩
  subst ey
  have ea:dA=ad:=by
   have l2:dA.length=ad.length:=by rw[S2.cO,em,S'.cO]
   refine Yr fun i => ?_
   by_cases hi:i < ad.length
   ·rw[qI hi];exact E2.pre i _ (qI hi)
   ·rw[Xm (by omega),Xm (by omega)]
  subst ea
  obtain⟨mB,d5⟩ := δ'
  have em:d5 = δ.mu:=em
  subst em
  refine⟨F2,E'.trans E2,SR.back S' E2 S2,E2.qa S' Ct (fun _ z=>by cases z) (fun _ z=>by cases z) (fun _ z=>by cases z),E2.qa S' kO (fun _ z=>by cases z) (fun _ z=>by cases z) (fun _ z=>by cases z),fun i d kv e1 e2 => ?_⟩
  by_cases lC:i < bx.length
  ·rw[WB lC] at e2
   exact Is.same E2.same (Cu i d kv e1 e2)
  ·have:i=bx.length:=by
    have:=(qK.mp e2).1
    rw[Mm,W_] at this
    omega
   subst this
   rw[WH (wV _),XJ] at e2
   cases (show some w=some kv from e2)
   rw[hd] at e1;cases e1
   exact V2
 ·refine⟨ds.map key,by rw[sE];omega,fun k iL => ?_,fun i k' e => ?_,fun p s' a hp up ha I' => ?_⟩
  ·obtain⟨d,hd,rfl⟩:=WQ.mp iL
   exact (hk d hd).1
  ·rw[VX] at e
   obtain⟨d,hd,rfl⟩:=WJ.mp e
   have hi:i < bx.length:=by rw[hl,lx];exact (qK.mp hd).1
   have is:=Cu i d _ hd (qI hi)
   simp only[Is] at is
   obtain⟨t,us,e1,e2,e3⟩:=is
   refine⟨t,by rw[qI hi,e1],?_⟩
   rw[<-u9 e3];exact S'.sub _ _ e2
  ·have pm:(p.toList.map fun i=>ds.getD i .non).Perm ds:=by
    have h1:=(YL.mp hp.perm).map fun i=>ds.getD i .non
    have h2:(List.range xs.length).map (fun i=>ds.getD i D.non)=ds:=by
     refine Yr fun i => ?_
     rw[VX]
     by_cases hi:i < ds.length
     ·rw[XA (by omega),Zx,qI hi,EX,qI hi];rfl
     ·rw[Xm (by rw[Xs];omega),Xm (by omega)];rfl
    rw[show (List.range xs.length).toArray.toList=List.range xs.length from rfl,h2] at h1
    exact h1
   refine⟨.ref a,_,I',rfl,K _ pm ?_ a _ _ _ E' S' ha ?_⟩
   ·rw[Xf,Yp]
    intro i j hi hj jy
    rw[sE,Aa,hp.size] at hi hj
    have:=up i j (X9 jy) hj
    unfold KA at this
    rw[Yi,Yi]
    have gp:∀ {i:Nat} (h:i < p.toList.length),p.getD i 0=p.toList[i]:=fun {i} h=>by
     have h':i < p.size:=by rw[<-Aa];exact h
     simp[Array.getD,h']
    have gk:∀ {i:Nat},i < ds.length->(ds.map key).getD i []=key (ds.getD i .non):=fun {i} h=>by
     rw[EX,VX,qI h,EX,qI h];rfl
    have pi:=hp.lt hi
    have pj:=hp.lt hj
    dsimp only at this
    rw[gk (by omega),gk (by omega),gp (by rw[Aa,hp.size];exact hi),gp (by rw[Aa,hp.size];exact hj)] at this
    exact this
   ·refine af.rX ?_ fun i d e => ?_
    ·rw[sE,sE]
    ·rw[VX] at e ⊢
     obtain⟨z,e1,rfl⟩:=WJ.mp e
     rw[e1]
     have hz:=hp.mem (Xi e1)
     refine⟨_,rfl,af.at (hx.same E'.same) (getD_some (by omega)) (getD_some (by omega))⟩
end
structure Q8 (mg:Str->Option Value) (base:Heap) (fd:FuncData) (T:Addr) (pos:Pos) (q:Str):Prop where
 code:∃ cc,fd.code = .ref cc/\CodeHd base cc T
 ng:mainGlobals≠T
 blt:base.BuiltinsAt mg T
 tbl:Cp T pos q
theorem b7.Cv {P:Program} {w:World} {K:PySem.W.Frag} {mg:Str->Option Value} {base:Heap} {x qual:Str} {st:Stmt} {f:Addr} {fd:FuncData} {N ps:List Str} {k:Nat} {G:GD} (F:b7 K x qual st f fd) (S:dF N ps (bf st))
  (de:∀ (aK:Value) (A:Around) (outer:List Env) (s:Shared) (H:Hp) (E:XK),fd.code=aK->bC k (A.deeper (envOfC qual (bf st) s.heap.objs.size f aK)) →
   ∃ B:WS,cV (aS aW P w K mg base N qual (bf st) f aK A outer s H E).cg (dR st) (gs B)/\∀ ys ao K',ys.length=ps.length->G ys ao K'->B (cC ao.length K') ⟨ys.map some ++ List.replicate (N.length - ps.length) none,ao.map some⟩) :
  aF P w K mg base aW (k + 1) f fd ps (aR G ps.length):=by
 obtain⟨oc,od,kV,doc,pm,an,aK,ct,mE,rfl,lk,fq⟩:=F.ex
 refine zE lk fq S (fun vs H Q E h=>h.1) fun A outer s H vs Q E hr h => ?_
 obtain⟨hl,Fz,ad,ys,ao,K',S0,g,kk⟩:=h
 obtain⟨B,jb,hb⟩:=de aK A outer s H E rfl hr
 have hy:ys.length=ps.length:=by
  have:=S0.len
  rw[sE] at this
  rw[<-hl,this];show _=(ys.map some).length;rw[sE]
 refine⟨_,jb.out.cg,Fz,ad,⟨ys.map some ++ List.replicate (N.length - ps.length) none,ao.map some⟩,cC ao.length K',by rw[<-hl];exact S0.start,hb ys ao K' hy g,⟨fun δ' h F' aD σ' H' E' S' => ?_,fun δ' h=>h.elim,fun δ' h=>h.elim,fun y δ' h v F' aD σ' H' E' S' V => ?_⟩⟩
 ·exact xC (σ' := σ') S0 E' S' (x := .p .non) (v := .non) rfl h kk
 ·exact xC (σ' := σ') S0 E' S' V h kk
section
variable {X:Cx} {params:Arguments} {body a e:Expr} {scope:Scope} {gz p1 p2 q1 q2 kj:Pos} {x:Str} {Nb:List Str} {cp:List (Option Nat)} {fb f:WE} {fa:WA} {T:Addr}
noncomputable def Cw (fa:WA) (cp:List (Option Nat)) (fb:WE):WE:=fun δ K=>fa δ fun xs δ1=>match xs with
 | [.p (.int j)]=>(0 <= j/\j <= 60)/\sortBy cp fb δ1 (di 0 j.toNat) fun out=>K (.o δ1.mu.length) ⟨δ1.sl,δ1.mu ++ [some (.lst out)]⟩
 | _=>False
theorem Q9 (L:ki X params body scope gz T x Nb cp fb) (hc:X.calm=true) (Cy:Gl X "sorted") (hs:X.mg "sorted" = none) (Cz:bootBuiltins "sorted" = some (.builtin "sorted")) (vB:Gl X "range") (hr:X.mg "range" = none) (vC:bootBuiltins "range" = some (.type "range")) (ha:JA X [a] (cP fa))
  (he:starEach [a] X.env=[(false,eval a X.env)]) (M:aC->List D->Prop)
  {pins:List (Addr × Obj)} {s:Shared} {σ : St} {H:Hp} {Q:VK} {F:Hp} {ad:List Addr} {δ : aC} (I:Inv X pins σ H s) (S:SR F ad δ σ H)
  (q:fa δ fun xs δ1=>match xs with
   | [.p (.int j)]=>(0 <= j/\j <= 60)/\sortBy cp fb δ1 (di 0 j.toNat) (M δ1)
   | _=>False)
  (fin:∀ δ1 out,M δ1 out->∀ a F' aD H' us,Ext F ad δ.mu H F' aD δ1.mu H'->SR F' aD δ1 σ H'->H' a=none->af F' out us->Q (.ref a) (upd H' a (.lst us))) :
  wpAny (model X.prog X.w) X.A (eval (.Call (.Name "sorted" p1) [.Call (.Name "range" p2) [a] [] q2] [⟨some "key",.Lambda params body scope gz,kj⟩] q1) X.env) (EP X pins σ Q) X.xe s:=by
 refine YA (nq I Cy hs Cz ?_)
 refine callWith_kw ?_
 refine bt ((kA (sM N7 vB hr vC ha (he:=he)) aU).out q1 pins s σ H (fun vs H2=>∃ (r:Addr) (j:Int) (F1:Hp) (bh:List Addr) (δ1:aC) (H1:Hp),vs=[.ref r]/\H2=upd H1 r (.rng 0 j)/\H1 r=none/\Ext F ad δ.mu H F1 bh δ1.mu H1/\SR F1 bh δ1 σ H1/\(0 <= j/\j <= 60)/\sortBy cp fb δ1 (di 0 j.toNat) (M δ1)) I ?_) fun us s1 Q_ => ?_
 ·refine⟨F,ad,δ,_,S,q,fun xs δ1 h1 vs F1 bh H1 E1 S1 V1 => ?_⟩
  split at h1
  ·rename_i j
   obtain⟨v,r,e,W1,W2⟩:=V1
   have W2:r=[]:=W2
   have W1:v = .int j:=W1
   subst W2 W1 e
   exact⟨j,rfl,fun rr Ra=>⟨rr,j,F1,bh,δ1,H1,rfl,rfl,Ra,E1,S1,h1.1,h1.2⟩⟩
  ·exact h1.elim
 ·obtain⟨vs,H2,I2,r2,r,j,F1,bh,δ1,H1,ev,eH,Rb,E1,S1,hj,HR⟩:=Q_
  subst ev eH
  obtain⟨u,rfl,rx⟩:=vals1 r2
  cases rx
  have sm:aA H1 (upd H1 r (.rng 0 j)):=dG Rb
  have S2:=S1.al sm
  have E2:=Ext.al S1 sm
  obtain⟨n,rfl⟩:∃ n:Nat,j=n:=⟨j.toNat,by omega⟩
  rw[XI,Br] at HR
  refine Q5 L I2 S2 (ds:=(jr n).map D.int) (xs:=(jr n).map V.int) Bo (fun s' H' I' kp Q' hQ => ?_) ?_
  ·have Rc:H' r=some (.rng 0 (n:Int)):=kp r _ bH fun t=>by
    obtain⟨ps,z⟩:=aV.tb S2.tab t
    rw[bH] at z;cases z
   obtain⟨t,u,v,e⟩:=(show ∃ t u v,s'.heap.get? r=some { cls := .type "range",data := .fields #[.int 0 t,.int (n:Int) u,.int 1 v] } from I'.aO r _ Rc)
   have gm:Builtin.Range.rangeSize 0 (n:Int) 1=n:=by rw[rangeSize_one];split<;>omega
   refine QY (n:=n) (by rw[Y5];exact I'.ok.hd hc) e (small_one (by omega) (by omega) (by omega) (by omega)) gm (by omega) fun h' tk acc Rf it=>hQ h' tk _ Rf ?_
   refine FJ ?_ fun i u e => ?_
   ·rw[Aa,it.1,jr,sE,Xs]
   ·rw[WU] at e
    obtain⟨t',e2⟩:=it.2 i u e
    have hi:i < n:=by rw[<-it.1];exact (Xl.mp e).1
    refine⟨t',e2.trans ?_⟩
    rw[jr,EX,VX,XA hi]
    show Value.int (0 + (i:Int) * 1) t'=Value.int (i:Int) t'
    rw[Int.zero_add,Int.mul_one]
  ·obtain⟨jP,key,hk,hK⟩:=HR
   exact⟨jP,key,hk,fun out pm pw a F' H' us E' S' hn is=>fin δ1 out (hK out pm pw) a F' bh H' us ((E1.trans E2).trans E') S' hn is⟩
theorem Rg (L:ki X params body scope gz T x Nb cp fb) (hc:X.calm=true) (Cy:Gl X "sorted") (hs:X.mg "sorted" = none) (Cz:bootBuiltins "sorted" = some (.builtin "sorted")) (vB:Gl X "range") (hr:X.mg "range" = none) (vC:bootBuiltins "range" = some (.type "range")) (ha:JA X [a] (cP fa))
  (he:starEach [a] X.env=[(false,eval a X.env)]:=by rfl):JE X (.Call (.Name "sorted" p1) [.Call (.Name "range" p2) [a] [] q2] [⟨some "key",.Lambda params body scope gz,kj⟩] q1) (tD (Cw fa cp fb)) :=
 ⟨fun pins s σ H Q I h0_ => el7 h0_ fun F ad δ K S q k =>Q9 L hc Cy hs Cz vB hr vC ha he (fun δ1 out=>K (.o δ1.mu.length) ⟨δ1.sl,δ1.mu ++ [some (OV.lst out)]⟩) I S q fun δ1 out hM a F' aD H' us E' S' hn is=>by
  have oi:hJ F' (.lst out) (.lst us):=⟨us,rfl,is⟩
  exact k _ _ hM _ _ _ _ (E'.trans (Ext.own S' hn)) (S'.own hn oi) (GP S')⟩
end
end L2
namespace L2
open PySem PySem.Spec PyProof.Rows PySem.W
theorem CA:∀ {k l:LK} (n m:Int),k.length=l.length->HT.lexLt (k ++ [n]) (l ++ [m])=if k=l then decide (n < m) else HT.lexLt k l
 | [],[],n,m,_=>by
  show (if n=m then HT.lexLt [] [] else decide (n < m))=_
  rw[VZ rfl]
  by_cases h:n=m
  ·rw[VZ h];subst h;simp[HT.lexLt]
  ·rw[My h]
 | [],_ :: _,_,_,h=>by simp at h
 | _ :: _,[],_,_,h=>by simp at h
 | a :: k,b :: l,n,m,h=>by
  rw[q0l,q0l,HT.o6,HT.o6,CA n m (by simpa using h)]
  by_cases e:a=b
  ·subst e
   rw[VZ rfl,VZ rfl]
   by_cases e2:k=l
   ·subst e2;rw[VZ rfl,VZ rfl]
   ·rw[My e2,My fun z=>e2 (q0a z).2]
  ·rw[My e,My e,My fun z=>e (q0a z).1]
noncomputable def l8 (h:Heap) (L:Nat) (k:LK) (v:Value):Prop:=∃ a o xs n b kb m t,v = .ref a/\h.get? a=some o/\o.cls = .type "tuple" /\ o.data = .seq xs n/\xs.toList=[.ref b,.int m t]/\jO h kb (.ref b)/\kb.length=L/\k=kb ++ [m]
section
variable {prog:Program} {w:World} {A:Around} {E:Value->Shared->Prop} {s:Shared} {Q:Bool->Shared->Prop}
theorem CB:∀ {us:List Value} {ns:List Int},IntsAre us ns->ItemsAre (intKind prog w) ns us
 | _,_,.nil => .nil
 | _,_,.cons n t r => .cons (intKind_is ..) (CB r)
theorem Rh {L:Nat} {k l:LK} {x y:Value} (hu:A.units < cLine) (hx:l8 s.heap L k x) (hy:l8 s.heap L l y) (h:Q (HT.lexLt k l) s):wpAny (model prog w) A (keyLt' (tuples' false) x y) Q E s:=by
 obtain⟨a,o,xs,n,b,kb,m,t,rfl,h1,_,h2,h3,⟨b',ob,bs,nb,eb,g1,gc,g2,g3⟩,hL,rfl⟩:=hx
 obtain⟨a',o',Ri,n',c,kc,m',t',rfl,sG,_,iZ,HS,⟨c',oc,cs,nc,ec,f1,fc,f2,f3⟩,Rj,rfl⟩:=hy
 cases eb
 cases ec
 have hz:xs.size=2:=by rw[<-Aa,h3];rfl
 have BA:Ri.size=2:=by rw[<-Aa,HS];rfl
 rw[CA m m' (by rw[hL,Rj])] at h
 have k1:IsTupleKey (intKind prog w) s.heap kb b:=⟨ob,bs,nb,g1,gc,g2,CB g3⟩
 have k2:IsTupleKey (intKind prog w) s.heap kc c:=⟨oc,cs,nc,f1,fc,f2,CB f3⟩
 refine kat_lt h1 h2 sG iZ ?_
 rw[h3,HS,hz,BA,YB,YB,Ze]
 refine kat_cons (wpAny_eqBool_tuple hu k1 k2 (kat_go (fun e => ?_) fun e => ?_))
 ·have e:kb=kc:=by simpa using e
  rw[VZ e] at h
  refine kat_yes (kat_cons (wpAny_eqBool_int (kat_go (fun e2 => ?_) fun e2 => ?_)))
  ·have e2:m=m':=WV e2
   subst e2
   refine kat_yes (kat_nil ?_)
   simpa using h
  ·exact kat_no (kat_one _ _ (ZJ h))
 ·have e:¬ kb=kc:=by simpa using e
  rw[My e] at h
  exact kat_no (kat_one _ _ (HT.EE ⟨ob,g1,gc,nb,g2⟩ ⟨oc,f1,fc,nc,f2⟩ g3 f3 hu h))
theorem Rk {M:Model} {L:Nat} {vs:List Value} {ks:List LK} {Q:SortKind->Shared->Prop} (h0:0 < vs.length) (hl:vs.length=ks.length) (ht:∀ (i:Nat) (k:LK) (v:Value),ks[i]? = some k->vs[i]? = some v->l8 s.heap L k v) (h:Q (tuples' false) s) :
  wpAny M A (keyKind' vs.toArray) Q E s:=by
 have key:∀ (vs:List Value) (ks:List LK),vs.length=ks.length->(∀ (i:Nat) (k:LK) (v:Value),ks[i]? = some k->vs[i]? = some v->l8 s.heap L k v)->∃ fs,KatTups s.heap vs fs/\fs.length=vs.length/\∀ v∈fs,Looks M s.heap (typeOf v) (.type "tuple"):=by
  intro vs
  induction vs with
  | nil=>exact fun ks _ _=>⟨[],.nil,rfl,fun v hv=>nomatch hv⟩
  | cons v vs ih =>
   intro ks hl ht
   match ks,hl,ht with
   | k :: ks,hl,ht =>
    obtain⟨fs,t,hf,hi⟩:=ih ks (by simpa using hl) fun i k v e1 e2=>ht (i + 1) k v (by simpa using e1) (by simpa using e2)
    obtain⟨a,o,xs,n,b,kb,m,t',rfl,h1,hc,h2,h3,⟨b',ob,bs,nb,eb,g1,gc,g2,g3⟩,_⟩:=ht 0 k v rfl rfl
    cases eb
    have h0:xs[0]? = some (.ref b):=by rw[<-WU,h3];rfl
    refine⟨.ref b :: fs,.cons h1 hc h2 h0 t,by rw[Mj,Mj,hf],fun v hv => ?_⟩
    rcases EZ.mp hv with rfl | hv
    ·rw[<-gc];exact (Looks.ld g1).andThen .now
    ·exact hi v hv
 obtain⟨fs,t,hf,hi⟩:=key vs ks hl ht
 exact kat_kind (T := .type "tuple") t (by omega) hi (by decide) h
end
section
variable {X:Cx} {pins:List (Addr × Obj)} {σ : St} {H:Hp} {s:Shared} {A:Around} {E:Value->Shared->Prop} {a:Addr} {vs:List Value} {ks:List LK} {κ : SortKind}
theorem Rl {n0:Nat} {R:PySem.Fin->Shared->Prop} (I:Inv X pins σ H s) (fa:bF X pins H a) (ha:s.heap.get? a=some (seqObj "list" vs.toArray n0)) (jP:vs.length < 64)
  (kind:∀ s':Shared,Inv X pins σ H s'->2 <= vs.length->∀ Q:SortKind->Shared->Prop,Q κ s'->wpAny (model X.prog X.w) A (keyKind' vs.toArray) Q E s')
  (ask:∀ s':Shared,Inv X pins σ H s'->∀ (i j:Nat) (C:Bool->Shared->Prop),i < vs.length->j < vs.length->C (HT.lexLt (ks.getD i []) (ks.getD j [])) s'->wpAny (model X.prog X.w) A (keyLt' κ (vs.getD i Value.none) (vs.getD j Value.none)) C (fun _ _=>False) s')
  (fin:∀ (p:Array Nat) (s':Shared) (c:Nat),cS vs.length p->Up (fun i=>ks.getD i []) p vs.length->Inv X pins σ H s'->s'.heap.get? a=some (seqObj "list" (List.toArray (p.toList.map fun i=>vs.getD i Value.none)) c)->R (.done (.ret .none)) s') :
  wpAny (model X.prog X.w) A (Builtin.«list.sort» ⟨[.ref a],[]⟩) R E s:=by
 have sb:=Xn s.heap a (Obj.mapSeq fun _=>(#[]:Array Value))
 obtain⟨e1,k6⟩:∃ e1,(s.heap.update a (Obj.mapSeq fun _=>(#[]:Array Value))).get? a=some (seqObj "list" #[] e1):=⟨_,Y1 ha fun _ => #[]⟩
 have I1:Inv X pins σ H { s with heap:=s.heap.update a (Obj.mapSeq fun _=>(#[]:Array Value)) }:=I.ie (t':=s.toks) fa fun c o n e=>(sb.2 c n).trans e
 rw[list_sort_plain]
 refine nN (listItems_at ha rfl ?_)
 refine nN (YU ha rfl ?_ (by rw[wU,XB];omega) (W5 _))
 refine nN (seqEpoch_at k6 rfl ?_)
 refine nN (wpAny_newTuple ?_ (by show vs.length <= _;rw[XB];omega))
 refine nN (q0b ?_ (W5 _))
 refine W6 ?_
 generalize QX:s.heap.update a (Obj.mapSeq fun _=>(#[]:Array Value))=g0 at k6 I1 sb
 show wpAny (model X.prog X.w) A _ R E { s with heap:=(g0.push (seqObj "tuple" vs.toArray 0)).push (seqObj "list" #[] 0) }
 have I2:Inv X pins σ H { s with heap:=(g0.push (seqObj "tuple" vs.toArray 0)).push (seqObj "list" #[] 0) }:=I1.kept (h':=(g0.push (seqObj "tuple" vs.toArray 0)).push (seqObj "list" #[] 0)) (t':=s.toks) fun b u e=>qJ _ (qJ _ e)
 have fV:((g0.push (seqObj "tuple" vs.toArray 0)).push (seqObj "list" #[] 0)).get? a=some (seqObj "list" #[] e1):=qJ _ (qJ _ k6)
 have kp:∀ b o,b≠a->s.heap.get? b=some o->((g0.push (seqObj "tuple" vs.toArray 0)).push (seqObj "list" #[] 0)).get? b=some o:=fun b o n e=>qJ _ (qJ _ ((sb.2 b n).trans e))
 generalize (g0.push (seqObj "tuple" vs.toArray 0)).push (seqObj "list" #[] 0)=g1 at I2 fV kp
 dsimp only
 have tail:∀ (st:SortSt) (p:Array Nat),(arrOf st).map (·.2)=List.toArray (p.toList.map fun i=>vs.getD i Value.none)->failedOf st=none->cS vs.length p->Up (fun i=>ks.getD i []) p vs.length->wpAny (model X.prog X.w) A (do
   let touched:=(<- seqEpoch a) != e1
   Builtin.List.listUpdate (.ref a) fun _=>(arrOf st).map (·.2)
   if let some e:=failedOf st then rule "list.sort.comparison-raised";throw e
   if touched then rule "list.sort.modified";raiseError "ValueError" "list modified during sort"
   ret .none) R E { s with heap:=g1 }:=by
  intro st p rT hf hp up
  have hz:(p.toList.map fun i=>vs.getD i Value.none).length=vs.length:=by rw[sE,Aa,hp.size]
  rw[rT]
  have s2:=Xn g1 a (Obj.mapSeq fun _=>List.toArray (p.toList.map fun i=>vs.getD i Value.none))
  obtain⟨c2,jZ⟩:∃ c2,(g1.update a (Obj.mapSeq fun _=>List.toArray (p.toList.map fun i=>vs.getD i Value.none))).get? a=some (seqObj "list" (List.toArray (p.toList.map fun i=>vs.getD i Value.none)) c2):=⟨_,Y1 fV fun _=>List.toArray (p.toList.map fun i=>vs.getD i Value.none)⟩
  have J:Inv X pins σ H { s with heap:=g1.update a (Obj.mapSeq fun _=>List.toArray (p.toList.map fun i=>vs.getD i Value.none)) }:=I2.ie (h':=g1.update a (Obj.mapSeq fun _=>List.toArray (p.toList.map fun i=>vs.getD i Value.none))) (t':=s.toks) fa fun c o n e=>(s2.2 c n).trans e
  refine nN (seqEpoch_at fV rfl ?_)
  refine nN (YU fV rfl ?_ (W5 _) (W7 (q0s (by rw[wU,hz])) (by rw[XB];omega)))
  rw[hf]
  simp only[bne_self_eq_false,Ml,Xc]
  exact uq (fin p _ c2 hp up J jZ)
 by_cases h2:vs.toArray.size < 2
 ·rw[VZ h2,VZ h2]
  refine nN (uq ?_)
  rw[StateT.run_pure]
  refine nN (uq ?_)
  rw[wU] at h2
  refine tail (SortSt.mk' general' (vs.toArray.zip vs.toArray) #[] 7 none) (List.range vs.length).toArray ?_ rfl ⟨q0z _⟩ fun i j jy hj => ?_
  ·have Cm:arrOf (SortSt.mk' general' (vs.toArray.zip vs.toArray) #[] 7 none)=(List.toArray (List.range vs.length)).map (kas_item (vs.toArray.zip vs.toArray)):=by
    have e:=kas_range (vs.toArray.zip vs.toArray)
    rw[show (vs.toArray.zip vs.toArray).size=vs.length by simp] at e
    rw[e]
   exact kat_snds rfl Cm
  ·have:i=j:=by omega
   subst this
   exact kle_refl _
 ·rw[My h2,My h2]
  rw[wU] at h2
  refine nN (kind _ I2 (by omega) _ ?_)
  refine nN (XF (kat_run (κ := κ) (E:=E) (Q:=fun fh s'=>s'={ s with heap:=g1 }/\∃ p:Array Nat,arrOf fh=p.map (kas_item (vs.toArray.zip vs.toArray))/\failedOf fh=none/\cS vs.length p/\Up (fun i=>ks.getD i []) p vs.length)
   (G:=fun p s'=>s'={ s with heap:=g1 }/\cS vs.length p/\Up (fun i=>ks.getD i []) p vs.length) rfl (by omega) jP (fun p fh s' a1 a2 a3 a4=>⟨a4.1,p,a2,a3,a4.2.1,a4.2.2⟩) ?_) ?_ fun _ _ x=>x)
  ·refine GH (k:=fun i=>ks.getD i []) (I:=fun s'=>s'={ s with heap:=g1 }) (fun i j C s' hi hj e hC => ?_) (by omega) rfl fun p s' a1 a2 a3=>⟨a3,a1,a2⟩
   subst e
   exact ask _ I2 i j C hi hj (hC _ rfl)
  ·rintro ⟨⟨⟩,fh⟩ s' ⟨rfl,p,a1,a2,a3,a4⟩
   exact tail fh p (kat_snds rfl a1) a2 a3 a4
theorem HU {l:Addr} {xs:List V} {Q:Value->Shared->Prop} (I:Inv X pins σ H s)
  (col:∀ Q':List Value->Shared->Prop,(∀ h' tk vs,(∀ b o,s.heap.get? b=some o->h'.get? b=some o)->Vals xs vs->Q' vs { s with heap:=h',toks:=tk })->wpAny (model X.prog X.w) X.A.in1 (collect (.ref l)) Q' E s) (jP:xs.length < 64)
  (kind:∀ (s':Shared) (vs:List Value),Vals xs vs->Inv X pins σ H s'->2 <= vs.length->∀ Q:SortKind->Shared->Prop,Q κ s'->wpAny (model X.prog X.w) X.A.in1.in1 (keyKind' vs.toArray) Q E s')
  (ask:∀ (s':Shared) (vs:List Value),Vals xs vs->Inv X pins σ H s'->∀ (i j:Nat) (C:Bool->Shared->Prop),i < vs.length->j < vs.length->C (HT.lexLt (ks.getD i []) (ks.getD j [])) s'->wpAny (model X.prog X.w) X.A.in1.in1 (keyLt' κ (vs.getD i Value.none) (vs.getD j Value.none)) C (fun _ _=>False) s')
  (fin:∀ (p:Array Nat) (s':Shared) (a:Addr),cS xs.length p->Up (fun i=>ks.getD i []) p xs.length->H a=none->Inv X pins σ (upd H a (.lst (p.toList.map fun i=>xs.getD i .non))) s'->Q (.ref a) s') :
  wpAny (model X.prog X.w) X.A (call (.builtin "sorted") [.ref l]) Q E s:=by
 refine Calls.call_function_entry kind_sorted plain_sorted entry_sorted (args_sorted1 _) ?_
 unfold Builtin.«sorted»
 refine nN (m:=checkCount "sorted" 1 1 _) (uq ?_)
 refine nN (col _ fun h' tk ag kp rv => ?_)
 have lv:ag.length=xs.length:=rv.length.symm
 refine nN (q0b ?_ (by rw[XB];omega))
 have I1:Inv X pins σ H { s with heap:=h',toks:=tk }:=I.kept kp
 have fa:bF X pins H h'.objs.size:=I1.ir (wV _) (I1.aO.fresh (wV _))
 have vW:X.s₀.heap.objs.size <= h'.objs.size:=I1.sz
 have I2:Inv X pins σ H { s with heap:=h'.push (seqObj "list" ag.toArray 0),toks:=tk }:=I1.kept (h':=h'.push (seqObj "list" ag.toArray 0)) (t':=tk) fun b u e=>qJ _ e
 have oX:(h'.push (seqObj "list" ag.toArray 0)).get? h'.objs.size=some (seqObj "list" ag.toArray 0):=VW _ rfl
 refine nN (W6 (X8 slot_list_sort ⟨_,oX,rfl⟩ entry_list_sort ?body (args_list_sort _)))
 case body =>
  refine Rl (κ := κ) (ks:=ks) I2 fa oX (by omega) (fun s' J h2 Q' hq=>kind s' ag rv J h2 Q' hq) (fun s' J i j C hi hj hC=>ask s' ag rv J i j C hi hj hC) fun p s' c hp up J e=>⟨_,rfl,?_⟩
  rw[lv] at hp up
  refine uq ⟨_,rfl,fin p s' h'.objs.size hp up fa.1 (J.p9 fa vW ?_)⟩
  have hz:(p.toList.map fun i=>xs.getD i V.non).length=xs.length:=by rw[sE,Aa,hp.size]
  exact⟨by rw[hz,XB];omega,_,c,HQ rv fun i hi=>by rw[lv];exact hp.mem hi,e⟩
end
noncomputable def CC (ds:List D) (key:D->LK):Prop :=
 (∀ d∈ds,key d≠[]/\d = .tup ((key d).map D.int))\/∃ L:Nat,∀ d∈ds,∃ (k:LK) (n:Int),k.length=L/\d = .tup [.tup (k.map D.int),.int n]/\key d=k ++ [n]
noncomputable def yw:List D->(D->Prop)->Prop
 | [.lst ds],K=>ds.length < 64/\∃ key:D->LK,CC ds key/\∀ out:List D,out.Perm ds->(out.map key).Pairwise kle->K (.lst out)
 | [.tup ds],K=>ds.length < 64/\∃ key:D->LK,CC ds key/\∀ out:List D,out.Perm ds->(out.map key).Pairwise kle->K (.lst out)
 | _,_=>False
theorem Rm {ds:List D} {key:D->LK} {p:Array Nat} {n:Nat} (hn:ds.length=n) (hp:cS n p) (up:Up (fun i=>(ds.map key).getD i []) p n):(p.toList.map fun i=>ds.getD i .non).Perm ds/\((p.toList.map fun i=>ds.getD i .non).map key).Pairwise kle:=by
 subst hn
 constructor
 ·have h1:=(YL.mp hp.perm).map fun i=>ds.getD i D.non
  have h2:(List.range ds.length).map (fun i=>ds.getD i D.non)=ds:=by
   refine Yr fun i => ?_
   rw[VX]
   by_cases hi:i < ds.length
   ·rw[XA hi,Zx,qI hi,EX,qI hi];rfl
   ·rw[Xm (by rw[Xs];omega),Xm (by omega)];rfl
  rw[show (List.range ds.length).toArray.toList=List.range ds.length from rfl,h2] at h1
  exact h1
 ·rw[Xf,Yp]
  intro i j hi hj jy
  rw[sE,Aa,hp.size] at hi hj
  have:=up i j (X9 jy) hj
  unfold KA at this
  rw[Yi,Yi]
  have gp:∀ {i:Nat} (h:i < p.toList.length),p.getD i 0=p.toList[i]:=fun {i} h=>by
   have h':i < p.size:=by rw[<-Aa];exact h
   simp[Array.getD,h']
  have gk:∀ {i:Nat},i < ds.length->(ds.map key).getD i []=key (ds.getD i .non):=fun {i} h=>by
   rw[EX,VX,qI h,EX,qI h];rfl
  have pi:=hp.lt hi
  have pj:=hp.lt hj
  dsimp only at this
  rw[gk pi,gk pj,gp (by rw[Aa,hp.size];exact hi),gp (by rw[Aa,hp.size];exact hj)] at this
  exact this
theorem Rn {F:Hp} {ds:List D} {xs:List V} {p:List Nat} (h:af F ds xs) (hp:∀ i∈p,i < ds.length):af F (p.map fun i=>ds.getD i .non) (p.map fun i=>xs.getD i .non):=by
 refine af.rX (by rw[sE,sE]) fun i d e => ?_
 rw[VX] at e ⊢
 obtain⟨z,e1,rfl⟩:=WJ.mp e
 rw[e1]
 have hz:=hp z (Xi e1)
 exact⟨_,rfl,af.at h (getD_some hz) (getD_some (by rw[h.length];exact hz))⟩
section
variable [aV] {X:Cx}
theorem yx {pins:List (Addr × Obj)} {σ : St} {H F:Hp} {s:Shared} {k:LK} {v:V} {u:Value} (I:Inv X pins σ H s) (sub:aA F H) (h:Is F (.tup (k.map D.int)) v) (r:RelV v u):jO s.heap k u:=by
 simp only[Is] at h
 obtain⟨a,us,rfl,e,i⟩:=h
 cases r
 rw[u9 i] at e
 obtain⟨ag,rv,⟨o,o1,o2,n,o3⟩,_⟩:=I.tuple (bT.of (sub _ _ e))
 exact⟨a,o,_,n,rfl,o1,o2,o3,by simpa using intsAre_of rv⟩
theorem CD {pins:List (Addr × Obj)} {σ : St} {H F:Hp} {s:Shared} {k:LK} {m:Int} {v:V} {u:Value} (I:Inv X pins σ H s) (sub:aA F H) (h:Is F (.tup [.tup (k.map D.int),.int m]) v) (r:RelV v u):l8 s.heap k.length (k ++ [m]) u:=by
 simp only[Is,af] at h
 obtain⟨a,us,rfl,e,v1,r1,rfl,h1,v2,r2,rfl,h2,rfl⟩:=h
 cases r
 obtain⟨ag,rv,⟨o,o1,o2,n,o3⟩,_⟩:=I.tuple (bT.of (sub _ _ e))
 have h2:v2 = .int m:=h2
 subst h2
 have sG:Is F (.tup (k.map D.int)) v1:=by simp only[Is];exact h1
 cases rv with
 | cons q1 rv =>
  cases rv with
  | cons q2 rv =>
   cases rv
   have t1:=yx I sub sG q1
   obtain⟨b,_,_,_,rfl,_⟩:=id t1
   obtain⟨t,rfl⟩:=q2
   exact⟨a,o,_,n,b,k,m,t,rfl,o1,o2,o3,rfl,t1,rfl,rfl⟩
theorem HV {pins:List (Addr × Obj)} {σ : St} {H F:Hp} {s:Shared} {E:Value->Shared->Prop} {l:Addr} {ds:List D} {us:List V} {key:D->LK} {Q:Value->Shared->Prop} (hu:X.A.units + 64 < cLine) (I:Inv X pins σ H s) (sub:aA F H) (hl:H l=some (.lst us)\/H l=some (.tup us)) (hi:af F ds us) (jP:ds.length < 64) (sh:CC ds key)
  (fin:∀ (out:List D) (ws:List V) (a:Addr) (s':Shared),out.Perm ds->(out.map key).Pairwise kle->af F out ws->H a=none->Inv X pins σ (upd H a (.lst ws)) s'->Q (.ref a) s'):wpAny (model X.prog X.w) X.A (call (.builtin "sorted") [.ref l]) Q E s:=by
 have col:∀ Q':List Value->Shared->Prop,(∀ h' tk vs,(∀ b o,s.heap.get? b=some o->h'.get? b=some o)->Vals us vs->Q' vs { s with heap:=h',toks:=tk })->wpAny (model X.prog X.w) X.A.in1 (collect (.ref l)) Q' E s:=fun Q' hQ=>by
  rcases hl with hl | hl
  ·obtain⟨ag,rv,pl,hz⟩:=I.list (bo.of hl)
   obtain⟨o,o1,o2,n,o3⟩:=pl.isList
   exact wpAny_collect_seq l (.inl rfl) o1 o2 o3 (fun h' kp=>hQ h' s.toks _ kp (by simpa using rv)) (by rw[wU,<-rv.length];exact hz)
  ·obtain⟨ag,rv,⟨o,o1,o2,n,o3⟩,hz⟩:=I.tuple (bT.of hl)
   exact wpAny_collect_seq l (.inr rfl) o1 o2 o3 (fun h' kp=>hQ h' s.toks _ kp (by simpa using rv)) (by rw[wU,<-rv.length];exact hz)
 have lu:=hi.length
 have Ro:X.A.in1.in1.units < cLine:=by show X.A.units + 1 + 1 < cLine;omega
 have gk:∀ {i:Nat},i < ds.length->(ds.map key).getD i []=key (ds.getD i .non):=fun {i} h=>by
  rw[EX,VX,qI h,EX,qI h];rfl
 have isAt:∀ {i:Nat},i < ds.length->∀ {vs:List Value},Vals us vs->∃ v,Is F (ds.getD i .non) v/\RelV v (vs.getD i Value.none):=fun {i} h {vs} rv=>by
  obtain⟨u,e1,e2⟩:=rv.get (getD_some (l:=us) (d:=V.non) (i:=i) (by omega))
  have:=getD_some (l:=vs) (d:=Value.none) (i:=i) (by rw[<-rv.length];omega)
  rw[this] at e1;cases e1
  exact⟨_,af.at hi (getD_some h) (getD_some (by omega)),e2⟩
 have mem:∀ {i:Nat},i < ds.length->ds.getD i .non∈ds:=fun {i} h=>Xi (getD_some h)
 have ke:∀ {i:Nat} {k:LK},(ds.map key)[i]? = some k->i < ds.length/\k=key (ds.getD i .non):=fun {i k} e=>by
  have h:i < ds.length:=by have:=(qK.mp e).1;rwa [sE] at this
  refine⟨h,?_⟩
  have:=getD_some (l:=ds.map key) (d:=[]) (i:=i) (by rw[sE];exact h)
  rw[e,gk h] at this
  exact WR this
 have ve:∀ {i:Nat} {v:Value} {vs:List Value},vs[i]? = some v->v=vs.getD i Value.none:=fun {i v vs} e=>by
  rw[EX,e];rfl
 have lX:∀ (p:Array Nat) (s':Shared) (a:Addr),cS us.length p->Up (fun i=>(ds.map key).getD i []) p us.length->H a=none->Inv X pins σ (upd H a (.lst (p.toList.map fun i=>us.getD i .non))) s'->Q (.ref a) s':=fun p s' a hp up ha J=>by
  obtain⟨o1,o2⟩:=Rm lu.symm hp up
  exact fin _ _ a s' o1 o2 (Rn hi fun i bZ=>by rw[<-lu];exact hp.mem bZ) ha J
 rcases sh with sh | ⟨L,sh⟩
 ·refine HU (κ := tuples' true) (ks:=ds.map key) I col (by omega) (fun s' vs rv J h2 Q' hq => ?_) (fun s' vs rv J i j C bZ vi hC => ?_) lX
  ·refine HP (ks:=ds.map key) (by omega) (fun k hk => ?_) (by rw[sE,<-rv.length];omega) (fun i k v e1 e2 => ?_) hq
   ·obtain⟨d,hd,rfl⟩:=WQ.mp hk
    exact (sh d hd).1
   ·obtain⟨h,rfl⟩:=ke e1
    obtain⟨w,i1,r1⟩:=isAt h rv
    rw[(sh _ (mem h)).2] at i1
    rw[<-ve e2] at r1
    exact yx J sub i1 r1
  ·rw[<-rv.length] at bZ vi
   rw[gk (by omega),gk (by omega)] at hC
   obtain⟨w,i1,r1⟩:=isAt (i:=i) (by omega) rv
   obtain⟨w',i2,r2⟩:=isAt (i:=j) (by omega) rv
   rw[(sh _ (mem (by omega))).2] at i1 i2
   exact HM (yx J sub i1 r1) (yx J sub i2 r2) hC
 ·refine HU (κ := tuples' false) (ks:=ds.map key) I col (by omega) (fun s' vs rv J h2 Q' hq => ?_) (fun s' vs rv J i j C bZ vi hC => ?_) lX
  ·refine Rk (L:=L) (ks:=ds.map key) (by omega) (by rw[sE,<-rv.length];omega) (fun i k v e1 e2 => ?_) hq
   obtain⟨h,rfl⟩:=ke e1
   obtain⟨w,i1,r1⟩:=isAt h rv
   obtain⟨k,n,hk,e3,e4⟩:=sh _ (mem h)
   rw[e3] at i1
   rw[<-ve e2] at r1
   rw[e4,<-hk]
   exact CD J sub i1 r1
  ·rw[<-rv.length] at bZ vi
   rw[gk (by omega),gk (by omega)] at hC
   obtain⟨w,i1,r1⟩:=isAt (i:=i) (by omega) rv
   obtain⟨w',i2,r2⟩:=isAt (i:=j) (by omega) rv
   obtain⟨k,n,hk,e3,e4⟩:=sh _ (mem (i:=i) (by omega))
   obtain⟨k',n',iL,Rp,Rq⟩:=sh _ (mem (i:=j) (by omega))
   rw[e3] at i1
   rw[Rp] at i2
   rw[e4,Rq] at hC
   have t1:=CD J sub i1 r1
   have t2:=CD J sub i2 r2
   rw[hk] at t1
   rw[iL] at t2
   exact Rh Ro t1 t2 hC
theorem Rr (hu:X.A.units + 64 < cLine):fA X (.builtin "sorted") yw:=by
 rintro pins s σ H xs us Q I r ⟨F,ds,K,sub,rd,q,md⟩
 unfold yw at q
 split at q
 ·rename_i es
  obtain⟨jP,key,sh,hK⟩:=q
  obtain⟨v,rfl,a,vs,rfl,h1,h2⟩:=dj rd
  obtain⟨u,rfl,rx⟩:=vals1 r
  cases rx
  exact HV hu I sub (.inl h1) h2 jP sh fun out ws b s' o1 o2 o3 hb J=>⟨.ref b,_,J,rfl,md _ _ _ (hK out o1 o2) (dG hb) (pI sub hb o3)⟩
 ·rename_i es
  obtain⟨jP,key,sh,hK⟩:=q
  obtain⟨v,rfl,h⟩:=dj rd
  have h:Is F (.tup es) v:=h
  simp only[Is] at h
  obtain⟨a,vs,rfl,h1,h2⟩:=h
  obtain⟨u,rfl,rx⟩:=vals1 r
  cases rx
  exact HV hu I sub (.inr (sub _ _ h1)) h2 jP sh fun out ws b s' o1 o2 o3 hb J=>⟨.ref b,_,J,rfl,md _ _ _ (hK out o1 o2) (dG hb) (pI sub hb o3)⟩
 ·exact q.elim
end
end L2
namespace LJ
open PySem L2 PySem.W
theorem Rt {ls:List p_} {b:Addr} {ps:Array Value}:(ls.map fun l=>(l.T,(#[]:Array Value))).lookup b=some ps->(∃ l∈ls,l.T=b)/\ps = #[]:=by
 induction ls with
 | nil=>intro h;cases h
 | cons l ls ih =>
  intro h
  rw[W8,WX] at h
  cases q:b == l.T with
  | true =>
   rw[q] at h
   exact⟨⟨l,VV,(WV q).symm⟩,(WR h).symm⟩
  | false =>
   rw[q] at h
   obtain⟨⟨l',h1,h2⟩,h3⟩:=ih h
   exact⟨⟨l',Mn _ h1,h2⟩,h3⟩
theorem CF {ls:List p_} {l:p_} (h:l∈ls):(ls.map fun l=>(l.T,(#[]:Array Value))).lookup l.T=some #[]:=by
 induction ls with
 | nil=>cases h
 | cons l' ls ih =>
  rw[W8,WX]
  cases q:l.T == l'.T with
  | true=>rfl
  | false =>
   rcases EZ.mp h with rfl | h
   ·simp at q
   ·exact ih h
theorem Ru {l:OpenLaw} {q:Program} {loose:List Str} {XP:(Str->Option Value)->Heap->Prop} {d:DefRec} {K:Params->Frag} {as:List Addr} {e:∀ P,as=(K P).map (·.1)} {ts:List Addr} {kk:Nat} (ls:List p_) (Rv:ls.map (·.T)=ts) (hn:l.most=some 63) (uu:d.params.defaults=[]) (hr:bC kk callerA)
  (fq:∀ (w:World) (h:Heap),(K w.params).In h->∀ t∈ls,∃ cc,CodeHd h cc t.T) (Rw:∀ P,noTabs (K P)=true)
  (F:∀ (w:World) (mg:Str->Option Value) (fa:Addr) (h:Heap),(K w.params).In h->h.Ns mainGlobals mg->mg d.name=some (.ref fa) →
   ∃ fd:FuncData,(∀ (s:Shared) (u:Value),BindsTo s fd ⟨[u],[]⟩ [("script",u)])/\∀ base:Heap,(K w.params).In base->base.Ns mainGlobals mg->(∀ t∈ls,base.BuiltinsAt mg t.T)->aF l.prog w (K w.params) mg base aW kk fa fd ["script"] (@yo (rY ls) (K w.params))) :
  WalkO q loose XP (kmHook K as e ts).says l.row.toRowW d [] (fun f vs=>PySem.call f vs) :=
 L2.QH (n:=63) (k:=kk) (x := "script") (K:=fun w=>K w.params) (CX:=fun _=>aW) (sp:=fun w=>@yo (rY ls) (K w.params)) (Ts:=fun _=>ls.map fun l=>(l.T,#[])) hn (by decide) uu hr (fun w h Y=>km_in_of Y)
  (fun w h Y b ps hl=>by
   obtain⟨⟨t,ht,rfl⟩,rfl⟩:=Rt hl
   have e1:h.get? t.T=some (tabObj #[]):=km_tabs_of Y t.T (by rw[<-Rv];exact YQ ht)
   refine⟨e1,?_,?_⟩
   ·obtain⟨cc,o,vs,_,_,_,_,_,_,_,c1,c2,c3,c4,_⟩:=fq w h (km_in_of Y) t ht
    exact⟨cc,o,vs,c1,c2,c3,c4⟩
   ·cases z:(K w.params).lookup t.T with
    | none=>rfl
    | some o =>
     have e2:=km_in_of Y t.T o z
     rw[e1] at e2;cases e2
     have h2:=Xb.mp (Rw w.params) (t.T,tabObj #[]) (mem_of_lookupK z)
     exact absurd (show false=true from h2) EY)
  (fun w mg fa h KX G nM=>by
   obtain⟨fd,hb,hF⟩:=F w mg fa h KX G nM
   exact⟨fd,hb,fun base k1 k2 k3=>hF base k1 k2 fun t ht=>k3 t.T #[] (CF ht)⟩)
  (fun w H a ns hl hO hS=>by
   letI:aV:=rY ls
   refine⟨a,ns,rfl,hS,hl,fun t ht => ?_,fun _=>rfl⟩
   rcases hO t.T with⟨ps,z1,z2⟩ | ⟨z1,_⟩
   ·rw[CF ht] at z1;cases z1
    exact⟨#[],z2,trivial,.inl rfl⟩
   ·rw[CF ht] at z1;cases z1)
  fun _ _ _ _ _ z=>z
end LJ
namespace LJ
open PySem L2
variable [aV]
omit [aV] in
theorem yy {m:Int} {ws:List (Int × Int × Int)} (h:kB m ws):eM (cy m ws)=true:=by
 show (f6 (.int m) 1 12 && mW m (.tup (ws.map cU)))=true
 have h1:f6 (.int m) 1 12=true:=by
  show (decide (1 <= m) && decide (m <= 12))=true
  rw[WN h.m1,WN h.xk];rfl
 rw[h1,YT]
 show (decide ((ws.map cU).length <= 30) && ((ws.map cU).all (bN m) && decide (((ws.map cU).map pairOf).Nodup)))=true
 have h2:(ws.map cU).all (bN m)=true:=by
  refine Xb.mpr fun d hd => ?_
  obtain⟨y,hy,rfl⟩:=WQ.mp hd
  obtain⟨a,b,c,d,e⟩:=h.ends y hy
  show (((decide (0 <= y.1) && decide (y.1 <= m - 1)) && (decide (y.1 + 1 <= y.2.1) && decide (y.2.1 <= m - 1))) && (decide (0 <= y.2.2) && decide (y.2.2 <= 1000000000)))=true
  rw[WN a,WN (by omega:y.1 <= m - 1),WN (by omega:y.1 + 1 <= y.2.1),WN (by omega:y.2.1 <= m - 1),WN d,WN e];rfl
 have h3:(ws.map cU).map pairOf=ws.map fun y=>(y.1,y.2.1):=by rw[Xf];rfl
 rw[h2,h3,WN h.unlike,sE,WN h.lH];rfl
noncomputable def tG:GD:=fun ys ao K=>∃ (m:Int) (ws:List (Int × Int × Int)),kB m ws/\ys=[.p (cy m ws)]/\ao=[]/\K (.p .non) []
noncomputable def CG:WS:=(br (dH (dT (ay 1 pV (aj (ae 0) ai)))) AZ cR)
theorem Rx:∀ ys ao K',ys.length=1->tG ys ao K'->CG (cC ao.length K') ⟨ys.map some ++ List.replicate 0 none,ao.map some⟩:=by
 rintro ys ao K' - ⟨m,ws,W,rfl,rfl,k⟩
 unfold CG
 simp? only []
 refine⟨cy m ws,rfl,rfl,?_⟩
 rw[yy W]
 simp? only []
 exact oG k
noncomputable def vZ:GD:=fun ys ao K=>∃ y:Int × Int × Int,ys=[.p (cU y)]/\ao=[]/\K (.p (.tup [.int y.2.2,.int y.1,.int y.2.1])) []
noncomputable def CH:WS:=(aI (cQ (aj (d2 (ae 0) (dC (.int 2)) bS) (aj (d2 (ae 0) (dC (.int 0)) bS) (aj (d2 (ae 0) (dC (.int 1)) bS) ai)))))
theorem Ry:∀ ys ao K',ys.length=1->vZ ys ao K'->CH (cC ao.length K') ⟨ys.map some ++ List.replicate 0 none,ao.map some⟩:=by
 rintro ys ao K' - ⟨y,rfl,rfl,k⟩
 unfold CH
 simp? only [cU,kF,jz,at2]
 exact oG k
noncomputable def jQ (ws:List (Int × Int × Int)) (n:Int):LK:=[(ws.getD n.toNat (0,0,0)).2.2,(ws.getD n.toNat (0,0,0)).1,(ws.getD n.toNat (0,0,0)).2.1]
structure bJ (ws:List (Int × Int × Int)) (ns:List Int):Prop where
 perm:ns.Perm (jr ws.length)
 up:(ns.map (jQ ws)).Pairwise kle
theorem bJ.nums {ws:List (Int × Int × Int)} {ns:List Int} (h:bJ ws ns):Nums ws ns:=fun n hn=>HF (h.perm.mem_iff.mp hn)
theorem bJ.len {ws:List (Int × Int × Int)} {ns:List Int} (h:bJ ws ns):ns.length=ws.length:=by rw[h.perm.length_eq];unfold jr;simp
theorem Rz {m:Int} {ws:List (Int × Int × Int)} (W:kB m ws) {a b:Int} (ha:0 <= a/\a < (ws.length:Int)) (hb:0 <= b/\b < (ws.length:Int)) (e:jQ ws a=jQ ws b):a=b:=by
 obtain⟨i,rfl⟩:∃ i:Nat,a=i:=⟨a.toNat,by omega⟩
 obtain⟨j,rfl⟩:∃ j:Nat,b=j:=⟨b.toNat,by omega⟩
 have hi:i < ws.length:=by omega
 have hj:j < ws.length:=by omega
 unfold jQ at e
 rw[XI,XI,EX,qI hi,EX,qI hj] at e
 simp only[Option.getD_some,List.cons.injEq,and_true] at e
 have q:(ws.map fun y=>(y.1,y.2.1))[i]'(by rw[sE];exact hi)=(ws.map fun y=>(y.1,y.2.1))[j]'(by rw[sE];exact hj):=by
  rw[Yi,Yi,e.2.1,e.2.2]
 have:=(q0f W.unlike).mp q
 rw[this]
theorem HW {m:Int} {ws:List (Int × Int × Int)} (W:kB m ws):∀ {as bs:List Int},as.Perm bs->(∀ x∈as,0 <= x/\x < (ws.length:Int))->(as.map (jQ ws)).Pairwise kle->(bs.map (jQ ws)).Pairwise kle->as=bs
 | [],bs,p,_,_,_=>(List.nil_perm.mp p).symm
 | a :: as,[],p,_,_,_=>absurd p.length_eq (by simp)
 | a :: as,b :: bs,p,hm,h1,h2=>by
  rw[W8,ZP] at h1 h2
  have e:a=b:=by
   rcases EZ.mp (p.mem_iff.mp VV) with z | z
   ·exact z
   ·rcases EZ.mp (p.mem_iff.mpr (VV (a:=b) (l:=bs))) with y | y
    ·exact y.symm
    ·have q1:=h1.1 _ (YQ y)
     have q2:=h2.1 _ (YQ z)
     exact Rz W (hm a VV) (hm b (Mn _ y)) (Gy q1 q2)
  subst e
  rw[HW W (p.cons_inv) (fun x hx=>hm x (Mn _ hx)) h1.2 h2.2]
theorem bJ.one {m:Int} {ws:List (Int × Int × Int)} {as bs:List Int} (W:kB m ws) (a:bJ ws as) (b:bJ ws bs):as=bs:=HW W (a.perm.trans b.perm.symm) a.nums a.up b.up
theorem RA {out:List D} {l:List Int} (h:out.Perm (l.map D.int)):∃ ns:List Int,out=ns.map D.int/\ns.Perm l:=by
 refine⟨out.map fun d=>match d with
  | .int n=>n
  | _=>0,?_,?_⟩
 ·rw[Xf]
  refine (Zv out).symm.trans (XE fun d hd => ?_)
  obtain⟨n,_,rfl⟩:=WQ.mp (h.mem_iff.mp hd)
  rfl
 ·have:=h.map fun d=>match d with
   | .int n=>n
   | _=>0
  rw[Xf] at this
  exact this.trans (List.Perm.of_eq ((XE fun n _=>rfl).trans (Zv l)))
noncomputable def yz:GD:=fun ys ao K=>∃ (m:Int) (ws:List (Int × Int × Int)),kB m ws/\ys=[.p (cy m ws)]/\ao=[]/\∀ ns,bJ ws ns->K (.n (ns.map D.int)) []
noncomputable def CI:WS:=(az (qV (ay 1 tG (aj (ae 0) ai))) (az (bu 1 (d2 (ae 0) (dC (.int 1)) bS)) (aI (Cw (aj (dN (aj (ae 1) ai) cx) ai) [some 1] (ay 1 vZ (aj (d2 (ae 1) (ae 0) bS) ai))))))
theorem RB:∀ ys ao K',ys.length=1->yz ys ao K'->CI (cC ao.length K') ⟨ys.map some ++ List.replicate 1 none,ao.map some⟩:=by
 rintro ys ao K' - ⟨m,ws,W,rfl,rfl,k⟩
 have RC:=W.lH
 unfold CI
 refine aX fun N hN => ?_
 simp? only []
 refine⟨m,ws,W,rfl,rfl,?_⟩
 simp? only []
 subst hN
 refine aX fun N hN => ?_
 simp? only [jz,cy]
 subst hN
 simp? only [Cw]
 refine⟨⟨by omega,by omega⟩,by rw[mS];omega,fun d=>match d with
  | .int n=>jQ ws n
  | _=>[],fun d hd => ?_,fun out pm pw => ?_⟩
 ·obtain⟨i,hi⟩:=WK.mp hd
  obtain⟨hi,rfl⟩:=oy hi
  have e0:(0 + (i:Int))=i:=by omega
  rw[e0]
  obtain⟨y,ey,hy,ea,_⟩:=HE W (n:=(i:Int)) (by omega) (by omega)
  refine⟨(by intro z;cases z),?_⟩
  simp? only [ea]
  refine⟨y,rfl,rfl,?_⟩
  simp? only []
  unfold jQ
  rw[ey]
  rfl
 ·rw[XI,Br] at pm
  obtain⟨ns,rfl,pn⟩:=RA pm
  refine⟨[],rfl,rfl,.inl (k ns ⟨pn,?_⟩)⟩
  rw[Xf] at pw
  exact pw
noncomputable def v3:GD:=fun ys ao K=>∃ (m:Int) (ws:List (Int × Int × Int)) (n:Int),kB m ws/\(0 <= n/\n < (ws.length:Int))/\ys=[.p (cy m ws),.p (.int n)]/\ao=[]/\K (.p (.tup ((jQ ws n).map D.int))) []
noncomputable def CJ:WS:=(az (oo (d2 (d2 (ae 0) (dC (.int 1)) bS) (ae 1) bS) (sR 3 (kX (dB 2) (kX (dB 3) (kX (dB 4) qX))))) (aI (cQ (aj (ae 4) (aj (ae 2) (aj (ae 3) ai))))))
theorem RD:∀ ys ao K',ys.length=2->v3 ys ao K'->CJ (cC ao.length K') ⟨ys.map some ++ List.replicate 3 none,ao.map some⟩:=by
 rintro ys ao K' - ⟨m,ws,n,W,⟨n0,n1⟩,rfl,rfl,k⟩
 obtain⟨y,ey,hy,ea,_⟩:=HE W n0 n1
 unfold CJ
 simp? only [jz,cy,ea,cU]
 unfold jQ at k
 rw[ey] at k
 exact oG k
noncomputable def tH:GD:=fun ys ao K=>∃ (m:Int) (ws:List (Int × Int × Int)),kB m ws/\ys=[.p (cy m ws)]/\ao=[]/\∀ ns,bJ ws ns->K (.p (B8 ns)) []
noncomputable def CK:WS:=(aI (kE (gR (dN (aj (kE (mR (aj (dN (aj (d2 (ae 0) (dC (.int 1)) bS) ai) cx) ai)) [none,some 0] (dB 0) gu (cQ (aj (ay 2 v3 (aj (ae 1) (aj (ae 0) ai))) (aj (ae 0) ai)))) ai) yw)) [none] (dB 0) gu (d2 (ae 0) (dC (.int 1)) bS)))
noncomputable def kI (ws:List (Int × Int × Int)) (n:Int):D := .tup [.tup ((jQ ws n).map D.int),.int n]
theorem RE {a b:LK} {n m:Int} (hl:a.length=b.length) (h:kle (a ++ [n]) (b ++ [m])):kle a b:=by
 unfold kle at h ⊢
 rw[CA _ _ hl.symm] at h
 by_cases e:b=a
 ·rw[e];exact xX a
 ·rw[My e] at h;exact h
theorem RF:∀ ys ao K',ys.length=1->tH ys ao K'->CK (cC ao.length K') ⟨ys.map some ++ List.replicate 0 none,ao.map some⟩:=by
 rintro ys ao K' - ⟨m,ws,W,rfl,rfl,k⟩
 have RC:=W.lH
 unfold CK
 simp? only [jz,cy]
 refine⟨by omega,?_⟩
 rw[XI,Br]
 refine L2.mV (fun d=>match d with
  | .int n=>kI ws n
  | _ => .non) (by rw[sE];unfold jr;rw[sE,Xs];omega) trivial ?_ ?_
 ·intro d hd acc L ha h
  obtain⟨n,hn,rfl⟩:=WQ.mp hd
  obtain⟨n0,n1⟩:=HF hn
  simp? only []
  refine⟨m,ws,n,W,⟨n0,n1⟩,rfl,rfl,?_⟩
  simp? only []
  exact⟨ha,h⟩
 ·have e:((jr ws.length).map D.int).map (fun d=>match d with
   | .int n=>kI ws n
   | _ => .non)=(jr ws.length).map (kI ws):=by rw[Xf];rfl
  have il:(jr ws.length).length=ws.length:=by unfold jr;simp
  rw[e]
  simp? only [yw]
  refine⟨by omega,fun d=>match d with
   | .tup [.tup ks,.int n]=>(match intsOf ks with
    | some l=>l ++ [n]
    | none=>[])
   | _=>[],.inr ⟨3,fun d hd => ?_⟩,fun out pm pw => ?_⟩
  ·obtain⟨n,_,rfl⟩:=WQ.mp hd
   refine⟨jQ ws n,n,rfl,rfl,?_⟩
   show (match intsOf ((jQ ws n).map D.int) with
    | some l=>l ++ [n]
    | none=>[])=_
   rw[xI]
  ·have hex:∃ ns:List Int,out=ns.map (kI ws)/\ns.Perm (jr ws.length):=by
    refine⟨out.map fun d=>match d with
     | .tup [_,.int n]=>n
     | _=>0,?_,?_⟩
    ·rw[Xf]
     refine (Zv out).symm.trans (XE fun d hd => ?_)
     obtain⟨n,_,rfl⟩:=WQ.mp (pm.mem_iff.mp hd)
     rfl
    ·have:=pm.map fun d=>match d with
      | .tup [_,.int n]=>n
      | _=>0
     rw[Xf] at this
     exact this.trans (List.Perm.of_eq ((XE fun n _=>rfl).trans (Zv _)))
   obtain⟨ns,rfl,pn⟩:=hex
   have ol:ns.length=ws.length:=by rw[pn.length_eq,il]
   have up:bJ ws ns:=by
    refine⟨pn,?_⟩
    rw[Xf] at pw
    rw[Zc] at pw ⊢
    refine pw.imp fun {a b} h => ?_
    have h:kle ((match intsOf ((jQ ws a).map D.int) with
     | some l=>l ++ [a]
     | none=>[])) ((match intsOf ((jQ ws b).map D.int) with
     | some l=>l ++ [b]
     | none=>[])):=h
    rw[xI,xI] at h
    exact RE rfl h
   refine L2.mV (fun d=>match d with
    | .tup [_,n]=>n
    | _ => .non) (by rw[sE];omega) trivial ?_ ?_
   ·intro d hd acc L ha h
    obtain⟨n,_,rfl⟩:=WQ.mp hd
    simp? only [kI,jz]
    exact⟨ha,h⟩
   ·have e:(ns.map (kI ws)).map (fun d=>match d with
     | .tup [_,n]=>n
     | _ => .non)=ns.map D.int:=by rw[Xf];rfl
    rw[e]
    exact oG (k ns up)
end LJ
namespace PySem
open Sem (wp)
structure ZG (z TI TO i j:Addr) (fp gp:List Addr):Prop where
 a1:TI≠z
 a2:TO≠z
 a3:i≠z
 a4:j≠z
 a5:TI≠TO
 a6:TI≠i
 a7:TI≠j
 a8:TO≠i
 a9:TO≠j
 b1:i≠j
 f1:z∉fp
 f2:TO∉fp
 f3:j∉fp
 g1:z∉gp
 g2:TO∉gp
 g3:i∉gp
theorem bk {a:Addr} {h h':Heap} (hs:Heap.SameBut a h h') {b:Addr} {o:Obj} (n:b≠a) (e:h.get? b=some o):h'.get? b=some o:=(hs.2 b n).trans e
section
variable {prog:Program} {w:World} {A:Around} {E:Value->Shared->Prop} {s:Shared} {z TI TO i j:Addr} {fp gp:List Addr} {n m k:Nat} {P P':Nat->Value->Prop} {St kJ:Nat->Heap->Prop} {a b:Value}
theorem RG {Q:Value->Shared->Prop} (D:Draws prog w A i fp n P St) (D':Draws prog w A j gp m P' kJ) (Z:ZG z TI TO i j fp gp)
  (hz:IsZip s.heap z TI TO .none) (hI:IsPair s.heap TI (.ref i) (.ref j)) (hO:IsPair s.heap TO a b) (st:St k s.heap) (fh:kJ k s.heap) (hk:k < n) (iL:k < m)
  (hQ:∀ x y h' tk,P k x->P' k y->IsZip h' z TI TO (rawInt s.heap.objs.size)->IsPair h' TO x y->St (k + 1) h'->kJ (k + 1) h'->IsPair h' s.heap.objs.size x y →
   (∀ c o,c≠z->c≠TO->c≠i->c≠j->s.heap.get? c=some o->h'.get? c=some o)->Q (.ref s.heap.objs.size) { s with heap:=h',toks:=tk }) :
  wpAny (model prog w) A (Builtin.«zip.__next__» ⟨[.ref z],[]⟩) (fun fin s'=>∃ v,fin = .done (.ret v)/\Q v s') E s:=by
 show wpAny _ _ (field (.ref z) 2 >>= _) _ _ _;refine nN (Xp hz rfl (x := .bool false) rfl ?_)
 show wpAny _ _ (field (.ref z) 3 >>= _) _ _ _;refine nN (Xp hz rfl (x := .ref TI) rfl (nN (X0 hI rfl ?_)))
 show wpAny _ _ (Builtin.SmallTypes.ownedTupleIsFree (.ref z) >>= _) _ _ _;refine nN ?_;unfold Builtin.SmallTypes.ownedTupleIsFree
 refine nN (Xp hz rfl (x := .none) rfl (uq ?_));simp only[Yf]
 refine nN (q0q (nN (Xp hz rfl (x := .ref TO) rfl (nN (Ym hz (by simp) fun k1 z1 s1 => ?_)))))
 have z1:IsZip k1 z TI TO .ellipsis:=z1
 refine nN ?_;simp only[List.zipIdx_cons,List.zipIdx_nil,q0y,q0F]
 refine nN (nN (Zt ?_));show wpAny _ _ (Builtin.SmallTypes.nextOf (.ref i) >>= _) _ _ _
 refine nN (D.item k { s with heap:=k1 } _ _ hk (D.frame k _ _ st fun c hc o e=>bk s1 (fun y=>Z.f1 (y ▸ hc)) e) fun x k2 t2 px mD s2=>uq ?_)
 have o2:IsPair k2 TO a b:=bk s2 Z.a8 (bk s1 Z.a2 hO)
 refine nN (X0 o2 rfl (nN (Zw o2 fun k3 o3 s3 => ?_)))
 have o3:IsPair k3 TO x b:=o3
 refine nN (wpAny_letGo (uq (nN (nN (Zt ?_)))));show wpAny _ _ (Builtin.SmallTypes.nextOf (.ref j) >>= _) _ _ _
 have rZ:kJ k k3:=D'.frame k _ _ fh fun c hc o e=>bk s3 (fun y=>Z.g2 (y ▸ hc)) (bk s2 (fun y=>Z.g3 (y ▸ hc)) (bk s1 (fun y=>Z.g1 (y ▸ hc)) e))
 have qt:St (k + 1) k3:=D.frame _ _ _ mD fun c hc o e=>bk s3 (fun y=>Z.f2 (y ▸ hc)) e
 refine nN (D'.item k { s with heap:=k3,toks:=t2 } _ _ iL rZ fun y k4 t4 py RH s4=>uq ?_)
 have o4:IsPair k4 TO x b:=bk s4 Z.a9 o3
 refine nN (X0 o4 rfl (nN (Zw o4 fun k5 o5 s5 => ?_)))
 have o5:IsPair k5 TO x y:=o5
 refine nN (wpAny_letGo (uq (uq (nN (X0 o5 rfl (nN (wpAny_newTuple ?_)))))))
 have sz:k5.objs.size=s.heap.objs.size:=by rw[s5.1,s4.1,s3.1,s2.1,s1.1]
 have z5:IsZip k5 z TI TO .ellipsis:=bk s5 Z.a2.symm (bk s4 Z.a4.symm (bk s3 Z.a2.symm (bk s2 Z.a3.symm z1)))
 have kp:∀ c o,c≠z->c≠TO->c≠i->c≠j->s.heap.get? c=some o->k5.get? c=some o:=fun c o c1 c2 c3 c4 e=>bk s5 c2 (bk s4 c4 (bk s3 c2 (bk s2 c3 (bk s1 c1 e))))
 have t5:St (k + 1) k5:=D.frame _ _ _ qt fun c hc o e=>bk s5 (fun y=>Z.f2 (y ▸ hc)) (bk s4 (fun y=>Z.f3 (y ▸ hc)) e)
 have RI:kJ (k + 1) k5:=D'.frame _ _ _ RH fun c hc o e=>bk s5 (fun y=>Z.g2 (y ▸ hc)) e
 have zl:z < k5.objs.size:=EW z5
 show wpAny _ _ (Builtin.SmallTypes.ownedTupleHandOut (.ref z) (.ref k5.objs.size) >>= _) _ _ _
 refine nN ?_;unfold Builtin.SmallTypes.ownedTupleHandOut
 refine nN (Ym (show IsZip (k5.push { cls := .type "tuple",data := .seq #[x,y] }) z TI TO .ellipsis from qJ _ z5) (by simp) fun k7 z7 s7 => ?_)
 have z7:IsZip k7 z TI TO (rawInt k5.objs.size):=z7
 refine Ym z7 (by simp) fun k8 z8 s8 => ?_
 have z8:IsZip k8 z TI TO (rawInt k5.objs.size):=z8
 have up:∀ c o,c≠z->k5.get? c=some o->k8.get? c=some o:=fun c o c1 e=>bk s8 c1 (bk s7 c1 (qJ _ e))
 have p8:IsPair k8 k5.objs.size x y:=bk s8 (Ya zl) (bk s7 (Ya zl) (VW _ rfl))
 rw[sz] at z8 p8
 refine uq ⟨_,rfl,?_⟩;show Q (.ref k5.objs.size) _;rw[sz]
 exact hQ x y k8 t4 px py z8 (up _ _ Z.a2 o5) (D.frame _ _ _ t5 fun c hc o e=>up c o (fun y=>Z.f1 (y ▸ hc)) e) (D'.frame _ _ _ RI fun c hc o e=>up c o (fun y=>Z.g1 (y ▸ hc)) e) p8 fun c o c1 c2 c3 c4 e=>up c o c1 (kp c o c1 c2 c3 c4 e)
theorem RJ {Q:Fin->Shared->Prop} (D:Draws prog w A i fp n P St) (D':Draws prog w A j gp m P' kJ) (Z:ZG z TI TO i j fp gp)
  (hz:IsZip s.heap z TI TO .none) (hI:IsPair s.heap TI (.ref i) (.ref j)) (hO:IsPair s.heap TO a b) (st:St k s.heap) (fh:kJ k s.heap) (hk:k=n\/(k < n/\k=m))
  (hE:∀ h' e tk,(∀ c o,c≠z->c≠TO->c≠i->c≠j->s.heap.get? c=some o->h'.get? c=some o)->(∃ o,h'.get? e=some o/\o.cls = .type "StopIteration")->E (.ref e) { s with heap:=h',toks:=tk }) :
  wpAny (model prog w) A (Builtin.«zip.__next__» ⟨[.ref z],[]⟩) Q E s:=by
 show wpAny _ _ (field (.ref z) 2 >>= _) _ _ _;refine nN (Xp hz rfl (x := .bool false) rfl ?_)
 show wpAny _ _ (field (.ref z) 3 >>= _) _ _ _;refine nN (Xp hz rfl (x := .ref TI) rfl (nN (X0 hI rfl ?_)))
 show wpAny _ _ (Builtin.SmallTypes.ownedTupleIsFree (.ref z) >>= _) _ _ _;refine nN ?_;unfold Builtin.SmallTypes.ownedTupleIsFree
 refine nN (Xp hz rfl (x := .none) rfl (uq ?_));simp only[Yf]
 refine nN (q0q (nN (Xp hz rfl (x := .ref TO) rfl (nN (Ym hz (by simp) fun k1 z1 s1 => ?_)))))
 have z1:IsZip k1 z TI TO .ellipsis:=z1
 refine nN ?_;simp only[List.zipIdx_cons,List.zipIdx_nil,q0y,q0F]
 refine nN (nN (Zt ?_));show wpAny _ _ (Builtin.SmallTypes.nextOf (.ref i) >>= _) _ _ _
 have kW:St k k1:=D.frame k _ _ st fun c hc o e=>bk s1 (fun y=>Z.f1 (y ▸ hc)) e
 rcases hk with rfl | ⟨hk,rfl⟩
 ·refine nN (D.done { s with heap:=k1 } _ _ kW fun k2 e s2 he => ?_)
  obtain⟨oe,ho,hc⟩:=he
  have z2:IsZip k2 z TI TO .ellipsis:=s2 _ _ Z.a3.symm z1
  have ez:e≠z:=fun x=>by subst x;rw[z2] at ho;cases ho;simp at hc
  exact Ym z2 (by simp) fun k3 _ s3=>hE k3 e _ (fun c o c1 _ c3 _ x=>bk s3 c1 (s2 _ _ c3 (bk s1 c1 x))) ⟨oe,bk s3 ez ho,hc⟩
 ·refine nN (D.item k { s with heap:=k1 } _ _ hk kW fun x k2 t2 px mD s2=>uq ?_)
  have o2:IsPair k2 TO a b:=bk s2 Z.a8 (bk s1 Z.a2 hO)
  refine nN (X0 o2 rfl (nN (Zw o2 fun k3 o3 s3 => ?_)))
  refine nN (wpAny_letGo (uq (nN (nN (Zt ?_)))));show wpAny _ _ (Builtin.SmallTypes.nextOf (.ref j) >>= _) _ _ _
  have rZ:kJ k k3:=D'.frame k _ _ fh fun c hc o e=>bk s3 (fun y=>Z.g2 (y ▸ hc)) (bk s2 (fun y=>Z.g3 (y ▸ hc)) (bk s1 (fun y=>Z.g1 (y ▸ hc)) e))
  refine nN (D'.done { s with heap:=k3,toks:=t2 } _ _ rZ fun k4 e s4 he => ?_)
  obtain⟨oe,ho,hc⟩:=he
  have z4:IsZip k4 z TI TO .ellipsis:=s4 _ _ Z.a4.symm (bk s3 Z.a2.symm (bk s2 Z.a3.symm z1))
  have ez:e≠z:=fun x=>by subst x;rw[z4] at ho;cases ho;simp at hc
  exact Ym z4 (by simp) fun k5 _ s5=>hE k5 e _ (fun c o c1 c2 c3 c4 x=>bk s5 c1 (s4 _ _ c4 (bk s3 c2 (bk s2 c3 (bk s1 c1 x))))) ⟨oe,bk s5 ez ho,hc⟩
theorem RK {Q:Option Value->Shared->Prop} (D:Draws prog w A.in1 i fp n P St) (D':Draws prog w A.in1 j gp m P' kJ) (Z:ZG z TI TO i j fp gp)
  (hz:IsZip s.heap z TI TO .none) (hI:IsPair s.heap TI (.ref i) (.ref j)) (hO:IsPair s.heap TO a b) (st:St k s.heap) (fh:kJ k s.heap) (hk:k < n) (iL:k < m)
  (hQ:∀ x y h' tk,P k x->P' k y->IsZip h' z TI TO (rawInt s.heap.objs.size)->IsPair h' TO x y->St (k + 1) h'->kJ (k + 1) h'->IsPair h' s.heap.objs.size x y →
   (∀ c o,c≠z->c≠TO->c≠i->c≠j->s.heap.get? c=some o->h'.get? c=some o)->Q (some (.ref s.heap.objs.size)) { s with heap:=h',toks:=tk }):wpAny (model prog w) A (pyNext (.ref z)) Q E s:=by
 have hT:s.TypeIs (.ref z) "zip" := ⟨_,hz,rfl⟩
 unfold pyNext
 exact nN (Zs (XM (name:=Str.ofString "__next__") hT ZI (X8 ZI hT F.entry_zip_next (RG D D' Z hz hI hO st fh hk iL fun x y h' tk a1 a2 a3 a4 a5 a6 a7 a8=>uq (hQ x y h' tk a1 a2 a3 a4 a5 a6 a7 a8)) (F.args_zip_next_1 _))))
theorem RL {Q:Option Value->Shared->Prop} (D:Draws prog w A.in1 i fp n P St) (D':Draws prog w A.in1 j gp m P' kJ) (Z:ZG z TI TO i j fp gp)
  (hz:IsZip s.heap z TI TO .none) (hI:IsPair s.heap TI (.ref i) (.ref j)) (hO:IsPair s.heap TO a b) (st:St k s.heap) (fh:kJ k s.heap) (hk:k=n\/(k < n/\k=m))
  (hQ:∀ h' tk,(∀ c o,c≠z->c≠TO->c≠i->c≠j->s.heap.get? c=some o->h'.get? c=some o)->Q none { s with heap:=h',toks:=tk }):wpAny (model prog w) A (pyNext (.ref z)) Q E s:=by
 have hT:s.TypeIs (.ref z) "zip" := ⟨_,hz,rfl⟩
 unfold pyNext
 refine nN (Zs (XM (name:=Str.ofString "__next__") hT ZI (X8 ZI hT F.entry_zip_next (RJ D D' Z hz hI hO st fh hk fun h' e tk kp he => ?_) (F.args_zip_next_1 _))))
 obtain⟨o,ho,hc⟩:=he
 exact nN (wpAny_isInstance (T := "StopIteration") (b:=true) ⟨o,ho,hc⟩ isSubtype_stop (uq (hQ _ _ kp)))
end
noncomputable def d9 (h:Heap) (t:Bool) (l:Addr) (xs:Array Value):Prop:=match t with
 | true=>h.IsTuple l xs
 | false=>h.IsList l xs
noncomputable abbrev jR (t:Bool) (l:Addr) (k:Nat):Obj:={ cls := .type (match t with | true => "tuple_iterator" | false => "list_iterator"),data := .fields #[.ref l,.int k 0] }
noncomputable def fS (h:Heap) (t:Bool) (it l:Addr) (k:Nat):Prop:=match t with
 | true=>h.IsTupleIter it l k
 | false=>h.IsListIter it l k
theorem d9.lt {h:Heap} {t:Bool} {l:Addr} {xs:Array Value} (x:d9 h t l xs):l < h.objs.size:=by
 cases t<;>(obtain⟨o,e,_⟩:=x;exact EW e)
theorem d9.at {h h':Heap} {t:Bool} {l:Addr} {xs:Array Value} (x:d9 h t l xs) (k:∀ o,h.get? l=some o->h'.get? l=some o):d9 h' t l xs:=by
 cases t with
 | true=>exact Heap.IsTuple.at x k
 | false=>exact Heap.IsList.at x k
theorem fS.at {h h':Heap} {t:Bool} {i l:Addr} {n:Nat} (x:fS h t i l n) (k:∀ o,h.get? i=some o->h'.get? i=some o):fS h' t i l n:=by
 cases t with
 | true=>exact Heap.IsTupleIter.at x k
 | false=>exact Heap.IsListIter.at x k
theorem fS.obj {h:Heap} {t:Bool} {i l:Addr} {n:Nat} (x:fS h t i l n):∃ o,h.get? i=some o/\∀ v,o.data ≠ .cell v:=by
 cases t<;>(obtain⟨o,e,_,d⟩:=x;exact⟨o,e,fun v z=>by rw[d] at z;cases z⟩)
theorem fS.new {h:Heap} {t:Bool} {i l:Addr} (e:h.get? i=some (jR t l 0)):fS h t i l 0:=by
 cases t<;>exact⟨_,e,rfl,rfl⟩
section
variable {prog:Program} {w:World} {A:Around} {E:Value->Shared->Prop} {s:Shared}
theorem yA (hh:A.handled=none) (t:Bool) (it l:Addr) (j2:l≠it) (items:Array Value):Draws prog w A it [it,l] items.size (fun i v=>items[i]? = some v) (fun i h=>fS h t it l i/\d9 h t l items):=by
 cases t
 ·exact Draws.list hh it l j2 items
 ·exact Ou hh it l j2 items
theorem HX {t:Bool} {l:Addr} {xs:Array Value} {Q:Value->Shared->Prop} (hl:d9 s.heap t l xs) (h:Q (.ref s.heap.objs.size) { s with heap:=s.heap.push (jR t l 0) }):wpAny (model prog w) A (pyIter (.ref l)) Q E s:=by
 cases t
 ·exact YJ hl h
 ·exact wpAny_pyIter_tuple hl h
end
noncomputable abbrev yB (h:Heap) (t:Bool) (l:Addr):Heap:=h.push (jR t l 0)
noncomputable abbrev yC (h:Heap) (t u:Bool) (l m:Addr):Heap:=(yB h t l).push (jR u m 0)
noncomputable abbrev yD (h:Heap) (t u:Bool) (l m:Addr):Heap:=(yC h t u l m).push { cls := .type "tuple",data := .seq #[.ref h.objs.size,.ref (yB h t l).objs.size] }
noncomputable abbrev yE (h:Heap) (t u:Bool) (l m:Addr):Heap:=(yD h t u l m).push { cls := .type "tuple",data := .seq #[.none,.none] }
noncomputable abbrev tI (h:Heap) (t u:Bool) (l m:Addr):Heap:=(yE h t u l m).push { cls := .type "zip",data := .fields #[.none,.bool false,.bool false,.ref (yC h t u l m).objs.size,.ref (yD h t u l m).objs.size] }
theorem RM (t u:Bool) (l m:Addr) (xs ys:Array Value) :
  Meets (Builtin.«zip.__new__» ⟨[.type "zip",.ref l,.ref m],[]⟩) (fun _ R s=>d9 s.heap t l xs/\d9 s.heap u m ys/\R (.ok (.ret (.ref (yE s.heap t u l m).objs.size))) { s with heap:=tI s.heap t u l m }) :=
 .of_wp fun prog w A R s h=>by
  obtain⟨hp,g,d,tk,os⟩:=s;obtain⟨h1,h2,h⟩:=h
  have RN:=sub_zip
  have e1:d9 (Shared.heap ⟨hp,g,d,tk,os⟩) t l xs:=h1
  have e2:d9 (Shared.heap ⟨hp.push (jR t l 0),g,d,tk,os⟩) u m ys:=d9.at h2 fun o e=>qJ _ e
  wp_walk using HX e1,HX e2
  exact⟨_,rfl,h⟩
section
variable {prog:Program} {w:World} {A:Around} {E:Value->Shared->Prop} {s:Shared}
theorem RO {t u:Bool} {l m:Addr} {xs ys:Array Value} {Q:Value->Shared->Prop} (h1:d9 s.heap t l xs) (h2:d9 s.heap u m ys)
  (h:∀ h',IsZip h' (s.heap.objs.size + 4) (s.heap.objs.size + 2) (s.heap.objs.size + 3) .none->IsPair h' (s.heap.objs.size + 2) (.ref s.heap.objs.size) (.ref (s.heap.objs.size + 1)) →
   IsPair h' (s.heap.objs.size + 3) .none .none->fS h' t s.heap.objs.size l 0->fS h' u (s.heap.objs.size + 1) m 0->(∀ c o,s.heap.get? c=some o->h'.get? c=some o)->Q (.ref (s.heap.objs.size + 4)) { s with heap:=h' }) :
  wpAny (model prog w) A (call (.type "zip") [.ref l,.ref m]) Q E s:=by
 refine callType_new F.called_zip (by decide) (F.typeCall_zip_2 _ _) (F.newCall_zip_2 _ _) (fun obj=>F.args_object_init_3 obj _ _) F.entry_zip_new (RM t u l m xs ys) ⟨h1,h2,?_⟩
 have z1:(yB s.heap t l).objs.size=s.heap.objs.size + 1:=Yk ..
 have z2:(yC s.heap t u l m).objs.size=s.heap.objs.size + 2:=by rw[Yk,z1]
 have z3:(yD s.heap t u l m).objs.size=s.heap.objs.size + 3:=by rw[Yk,z2]
 have z4:(yE s.heap t u l m).objs.size=s.heap.objs.size + 4:=by rw[Yk,z3]
 have q5:(tI s.heap t u l m).get? (yE s.heap t u l m).objs.size=some _:=VW _ rfl
 have q4:(tI s.heap t u l m).get? (yD s.heap t u l m).objs.size=some _:=qJ _ (VW _ rfl)
 have q3:(tI s.heap t u l m).get? (yC s.heap t u l m).objs.size=some _:=qJ _ (qJ _ (VW _ rfl))
 have q2:(tI s.heap t u l m).get? (yB s.heap t l).objs.size=some (jR u m 0):=qJ _ (qJ _ (qJ _ (VW _ rfl)))
 have q1:(tI s.heap t u l m).get? s.heap.objs.size=some (jR t l 0):=qJ _ (qJ _ (qJ _ (qJ _ (VW _ rfl))))
 show _/\_
 rw[z2,z3,z4] at q5;rw[z1,z2] at q3;rw[z3] at q4;rw[z1] at q2;rw[z4]
 exact⟨⟨_,q5,rfl⟩,h _ q5 q3 q4 (.new q1) (.new q2) fun c o x=>qJ _ (qJ _ (qJ _ (qJ _ (qJ _ x))))⟩
end
end PySem
namespace L2
open PySem PySem.Spec PyProof.Rows
noncomputable def kK (K:PySem.W.Frag) (H:Hp) (t:Bool) (a:Addr) (xs:List V):Prop:=match t with
 | true=>bT K H a xs
 | false=>bo K H a xs
section
variable {X:Cx} {pins:List (Addr × Obj)} {σ : St} {H:Hp} {s:Shared}
theorem Inv.sq {t:Bool} {a:Addr} {xs:List V} (I:Inv X pins σ H s) (h:kK X.K H t a xs):∃ ag:List Value,Vals xs ag/\d9 s.heap t a ag.toArray:=by
 cases t
 ·obtain⟨ag,r,p,_⟩:=I.list h;exact⟨ag,r,p.isList⟩
 ·obtain⟨ag,r,⟨o,o1,o2,n,o3⟩,_⟩:=I.tuple h;exact⟨ag,r,o,o1,o2,n,o3⟩
theorem Inv.l9 {t:Bool} {a:Addr} {xs ys:List V} (I:Inv X pins σ H s) (h:kK X.K H t a xs) (h':kK X.K H t a ys):xs=ys:=by
 cases t
 ·exact I.cY h h'
 ·exact I.gZ h h'
end
noncomputable def v5 (K:PySem.W.Frag) (t u:Bool) (a b:Addr):It :=
 ⟨fun i H=>∃ xs ys x y,kK K H t a xs/\kK K H u b ys/\xs[i]? = some x/\ys[i]? = some y,
  fun i H v H'=>∃ T x y,v = .ref T/\H T=none/\H'=upd H T (.tup [x,y])/\(∀ xs,kK K H t a xs->xs[i]? = some x)/\∀ ys,kK K H u b ys->ys[i]? = some y,
  fun i H=>∃ xs ys,kK K H t a xs/\kK K H u b ys/\((xs.length=i)\/(i < xs.length/\ys.length=i))⟩
structure CL (t u:Bool) (z TI TO i1 i2 l1 l2:Addr) (i:Nat) (h:Heap):Prop where
 hz:IsZip h z TI TO .none
 fP:IsPair h TI (.ref i1) (.ref i2)
 gq:∃ x y,IsPair h TO x y
 h1:fS h t i1 l1 i
 h2:fS h u i2 l2 i
theorem RP {P:Program} {w:World} {K:PySem.W.Frag} {elts:List Expr} {x1} {tp:Pos} {t u:Bool} {z TI TO i1 i2 l1 l2:Addr} (D:ZG z TI TO i1 i2 [i1,l1] [i2,l2]) (n1:l1≠i1) (n2:l2≠i2) :
  Turn P w K (.Tuple elts x1 tp) (v5 K t u l1 l2) [z,TI,TO,i1,i2] z (CL t u z TI TO i1 i2 l1 l2) where
 mem:=by simp
 obj:=fun i h st b hb=>by
  obtain⟨hz,fP,⟨x,y,gq⟩,g1,g2⟩:=st
  simp only[EZ,WC,Xy] at hb
  rcases hb with rfl | rfl | rfl | rfl | rfl
  ·exact⟨_,hz,fun v z=>by cases z⟩
  ·exact⟨_,fP,fun v z=>by cases z⟩
  ·exact⟨_,gq,fun v z=>by cases z⟩
  ·exact g1.obj
  ·exact g2.obj
 keep:=fun i h h' st k=>by
  obtain⟨hz,fP,⟨x,y,gq⟩,g1,g2⟩:=st
  exact⟨k z (by simp) _ hz,k TI (by simp) _ fP,⟨x,y,k TO (by simp) _ gq⟩,g1.at fun o q=>k i1 (by simp) o q,g2.at fun o q=>k i2 (by simp) o q⟩
 item:=by
  intro X hP hw hK hc i pins s σ H E I hf st hg
  subst hP hw hK
  obtain⟨hz,fP,⟨a,b,gq⟩,g1,g2⟩:=id st
  obtain⟨xs,ys,x,y,ku,kz,hx,hy⟩:=hg
  obtain⟨ag,rv,p⟩:=I.sq ku
  obtain⟨bc,mK,p2⟩:=I.sq kz
  have hh:X.A.in1.handled=none:=by rw[Y5];exact I.ok.hd hc
  have lx:=(qK.mp hx).1
  have ly:=(qK.mp hy).1
  refine RK (yA hh t i1 l1 n1 ag.toArray) (yA hh u i2 l2 n2 bc.toArray) D hz fP gq ⟨g1,p⟩ ⟨g2,p2⟩ (by rw[wU,<-rv.length];exact lx) (by rw[wU,<-mK.length];exact ly) fun cu cv k1 tk pu pv z1 t1 a1 a2 Am yF=>⟨_,rfl,?_⟩
  obtain⟨u',hu,ru⟩:=rv.get hx
  obtain⟨v',hv,Al⟩:=mK.get hy
  have pu:ag[i]? = some cu:=by simpa using pu
  have pv:bc[i]? = some cv:=by simpa using pv
  rw[hu] at pu
  rw[hv] at pv
  obtain rfl:=WR pu
  obtain rfl:=WR pv
  refine wpAny_letOwnedTupleGo_zip z1 fun k2 z2 cA => ?_
  have An:s.heap.objs.size≠z:=Ya (EW hz)
  have Ao:IsPair k2 s.heap.objs.size u' v':=(cA.2 _ An).trans Am
  have RQ:∀ b o,b∉[z,TI,TO,i1,i2]->s.heap.get? b=some o->k2.get? b=some o:=fun b o hb q=>by
   simp only[EZ,WC,Xy,not_or] at hb
   exact (cA.2 _ hb.1).trans (yF b o hb.1 hb.2.2.1 hb.2.2.2.1 hb.2.2.2.2 q)
  have hn:H s.heap.objs.size=none:=I.aO.fresh (wV _)
  refine⟨.ref s.heap.objs.size,upd H s.heap.objs.size (.tup [x,y]),I.gn (ch:=[z,TI,TO,i1,i2]) (t':=tk) hf RQ (wV _) ?_,rfl,⟨_,x,y,rfl,hn,rfl,fun zs hy=>by rw[I.l9 hy ku];exact hx,fun zs pd=>by rw[I.l9 pd kz];exact hy⟩,⟨z2,?_,⟨u',v',(cA.2 _ D.a2).trans t1⟩,a1.1.at fun o q=>(cA.2 _ D.a3).trans q,a2.1.at fun o q=>(cA.2 _ D.a4).trans q⟩,fun b hb => ?_⟩
  ·exact⟨by show 2 <= sizeLine;decide,[u',v'],.cons ru (.cons Al .nil),_,Ao,rfl,_,rfl⟩
  ·exact (cA.2 _ D.a1).trans (yF TI _ D.a1 D.a5 D.a6 D.a7 fP)
  ·have:b < s.heap.objs.size:=by
    obtain⟨o1,q1,_⟩:=g1.obj
    obtain⟨o2,q2,_⟩:=g2.obj
    simp only[EZ,WC,Xy] at hb
    rcases hb with rfl | rfl | rfl | rfl | rfl
    ·exact EW hz
    ·exact EW fP
    ·exact EW gq
    ·exact EW q1
    ·exact EW q2
   rw[aH (WL this)]
   exact (hf b hb).1
 done:=by
  intro X hP hw hK hc i pins s σ H E I hf st hg
  subst hP hw hK
  obtain⟨hz,fP,⟨a,b,gq⟩,g1,g2⟩:=id st
  obtain⟨xs,ys,ku,kz,hx⟩:=hg
  obtain⟨ag,rv,p⟩:=I.sq ku
  obtain⟨bc,mK,p2⟩:=I.sq kz
  have hh:X.A.in1.handled=none:=by rw[Y5];exact I.ok.hd hc
  have hl:=rv.length
  have qG:=mK.length
  refine RL (yA hh t i1 l1 n1 ag.toArray) (yA hh u i2 l2 n2 bc.toArray) D hz fP gq ⟨g1,p⟩ ⟨g2,p2⟩ ?_ fun k1 tk yF=>⟨rfl,I.g_ (t':=tk) (ch:=[z,TI,TO,i1,i2]) hf fun b o hb q => ?_⟩
  ·rw[wU,wU];omega
  ·simp only[EZ,WC,Xy,not_or] at hb
   exact yF b o hb.1 hb.2.2.1 hb.2.2.2.1 hb.2.2.2.2 q
 self:=fun A i s Q E st h=>Zr st.hz h
theorem RR (n l1 l2:Nat) (q1:l1 < n) (q2:l2 < n):ZG (n + 4) (n + 2) (n + 3) n (n + 1) [n,l1] [n + 1,l2]:=by
 constructor<;>first | (show @Ne Nat _ _;omega) | (intro h;simp only[EZ,WC,Xy] at h;rcases h with h | h<;>(have h:(_:Nat)=_:=h;omega))
section
variable {X:Cx} {elts:List Expr} {x1:Nat} {tp:Pos}
noncomputable def RS (K:PySem.W.Frag) (ta:TA):TI:=fun σ H R=>ta σ H fun vs H1=>∃ a b t u,vs=[.ref a,.ref b]/\(∃ xs,kK K H1 t a xs)/\(∃ ys,kK K H1 u b ys)/\R (v5 K t u a b) H1
theorem RT {a b:Expr} {ta:TA} {p pos:Pos} (hg:Gl X "zip") (hm:X.mg "zip" = none) (ha:JA X [a,b] ta) (hs:starEach [a,b] X.env=[(false,eval a X.env),(false,eval b X.env)]:=by rfl) (cA:starEach [b] X.env=[(false,eval b X.env)]:=by rfl) :
  JI X (.Tuple elts x1 tp) (.Call (.Name "zip" p) [a,b] [] pos) (RS X.K ta):=by
 refine⟨fun pins s σ H R I h => ?_⟩
 refine Call_ (nq I hg hm Fg (XH (bt (ha.out pos pins s σ H _ I h) fun us s1 h0_ => el5 h0_ fun vs H1 I1 r1 q1 => ?_) (by rw[hs,cA]) (by rw[cA];rfl)))
 obtain⟨l1,l2,t,u,e,⟨xs,ku⟩,⟨ys,kz⟩,q⟩:=q1
 subst e
 cases r1 with
 | cons r rr =>
  cases rr with
  | cons r' Ap =>
   cases Ap
   cases r
   cases r'
   obtain⟨ag,rv,p⟩:=I1.sq ku
   obtain⟨bc,mK,p2⟩:=I1.sq kz
   have b1:l1 < s1.heap.objs.size:=p.lt
   have b2:l2 < s1.heap.objs.size:=p2.lt
   refine RO p p2 fun h' hz fP gq uC lC hk => ?_
   have I2:Inv X pins σ H1 { s1 with heap:=h' }:=I1.kept (t':=s1.toks) hk
   have D:=RR s1.heap.objs.size l1 l2 b1 b2
   refine Zr hz ?_
   refine⟨_,_,_,_,H1,rfl,I2,RP D (WL b1) (WL (XZ b2)),⟨hz,fP,⟨_,_,gq⟩,uC,lC⟩,fun b hb => ?_,q⟩
   have iJ:s1.heap.objs.size <= b:=by
    simp only[EZ,WC,Xy] at hb
    rcases hb with rfl | rfl | rfl | rfl | rfl
    ·exact XQ _ _
    ·exact XQ _ _
    ·exact XQ _ _
    ·exact wV _
    ·exact XQ _ _
   exact I1.ir iJ (I1.aO.fresh iJ)
end
section
variable [aV] {X:Cx} {a b:Expr} {fa:WA}
noncomputable def yG (fa:WA):WI:=fun δ K=>fa δ fun xs δ1=>match xs with
 | [x,y]=>rh x δ1 fun i=>rh y δ1 fun j=>K ⟨bR i.items j.items,fun δ'=>i.bI δ'/\j.bI δ'⟩ δ1
 | _=>False
theorem HY {F H:Hp} {ad:List Addr} {δ : aC} {σ : St} {x:DV} {v:V} {K0:PySem.W.Frag} {K:pC->Prop} (S:SR F ad δ σ H) (hv:iy F ad x v) (h:rh x δ K):∃ a it t,v = .ref a/\K it/\(∃ xs,kK K0 H t a xs) ∧
  ∀ (F':Hp) (aD:List Addr) (δ':aC) (σ':St) (H':Hp),aA F F'->(∀ (k:Nat) (a:Addr),ad[k]? = some a->aD[k]? = some a)->SR F' aD δ' σ' H'->it.bI δ'->∃ ws,kK K0 H' t a ws/\af F' it.items ws:=by
 obtain⟨a,it,e,hk,r⟩:=Ge S hv h
 rcases r with⟨⟨vs,e1⟩,r⟩ | ⟨⟨vs,e1⟩,r⟩
 ·exact⟨a,it,false,e,hk,⟨vs,bo.of e1⟩,fun F' aD δ' σ' H' s pre S' ck=>let ⟨ws,q1,q2⟩:=r F' aD δ' σ' H' s pre S' ck; ⟨ws,bo.of q1,q2⟩⟩
 ·exact⟨a,it,true,e,hk,⟨vs,bT.of e1⟩,fun F' aD δ' σ' H' s pre S' ck=>let ⟨ws,q1,q2⟩:=r F' aD δ' σ' H' s pre S' ck; ⟨ws,bT.of q1,q2⟩⟩
theorem RU {elts:List Expr} {x1:Nat} {tp p pos:Pos} (hg:Gl X "zip") (hm:X.mg "zip" = none) (ha:JA X [a,b] (cP fa)) (hs:starEach [a,b] X.env=[(false,eval a X.env),(false,eval b X.env)]:=by rfl) (cA:starEach [b] X.env=[(false,eval b X.env)]:=by rfl) :
  JI X (.Tuple elts x1 tp) (.Call (.Name "zip" p) [a,b] [] pos) (lN (yG fa)):=(RT hg hm ha hs cA).weak fun σ H R h0_ => el7 h0_ fun F ad δ K S q k =>⟨F,ad,δ,_,S,q,fun xs δ1 h1 vs F1 bh H1 E1 S1 V1=>by
 match xs,h1,V1 with
 | [x,y],g1,⟨v,r,e,W1,w,r2,e2,W2,W3⟩ =>
  subst e
  subst e2
  have W4:r2=[]:=W3
  subst W4
  obtain⟨a,it,t,rfl,sU,RW,r⟩:=HY (K0:=X.K) S1 W1 g1
  obtain⟨b,jt,u,rfl,hk,cA,r'⟩:=HY (K0:=X.K) S1 W2 sU
  refine⟨a,b,t,u,rfl,RW,cA,k _ _ hk _ _ _ _ E1 S1 fun F' aD δ' σ' H' s pre S' ck => ?_⟩
  obtain⟨ws,e1,e2⟩:=r F' aD δ' σ' H' s pre S' ck.1
  obtain⟨zs,e3,e4⟩:=r' F' aD δ' σ' H' s pre S' ck.2
  refine⟨⟨ws,zs,e1,e3,?_⟩,fun i d ed => ?_⟩
  ·rw[e2.length,e4.length,rl];omega
  ·obtain⟨d1,d2,Be,Bf,rfl⟩:=Bc ed
   obtain⟨w1,f1,g1⟩:=pF e2 Be
   obtain⟨w2,f2,g2⟩:=pF e4 Bf
   refine⟨⟨ws,zs,w1,w2,e1,e3,f1,f2⟩,fun y lI ⟨T,v1,v2,ey,hT,eh,Bg,Bh⟩ => ?_⟩
   subst eh ey
   have q1:=Bg ws e1
   have q2:=Bh zs e3
   rw[f1] at q1;cases q1
   rw[f2] at q2;cases q2
   exact⟨dG hT,Gf S'.sub hT g1 g2⟩
 | [],h1,_=>exact h1.elim
 | [_],h1,_=>exact h1.elim
 | _ :: _ :: _ :: _,h1,_=>exact h1.elim⟩
end
end L2
namespace LJT
open PySem L2 LJ
variable [aV]
mutual
noncomputable def oK:D->Bool
 | .lst ds=>decide (ds.length <= 1000) && jS ds
 | .tup ds=>decide (ds.length <= 1000) && jS ds
 | _=>true
noncomputable def jS:List D->Bool
 | []=>true
 | d :: r=>oK d && jS r
end
theorem iI:∀ {ds:List D},jS ds=true->∀ d∈ds,oK d=true
 | [],_,d,h=>nomatch h
 | a :: r,hn,d,h=>by
  simp only[jS,VY] at hn
  rcases EZ.mp h with rfl | h
  ·exact hn.1
  ·exact iI hn.2 d h
noncomputable def ak (n:Nat):GD:=fun ys ao K=>∃ d,dep d <= n/\n <= 50/\oK d=true/\ys=[.p d,.p d]/\ao=[]/\K (.p (.bl true)) []
noncomputable def ah (tw:GD):WS:=(az (br (dT (d2 (ae 1) (dC .non) jL)) (aI (d2 (ae 0) (dC .non) jL)) cR) (az (br (j8 (dT (d1 (ae 1) (bw "bool"))) (dT (d1 (ae 0) (bw "bool")))) (aI (iN (d1 (ae 1) (bw "bool")) (iN (d1 (ae 0) (bw "bool")) (d2 (ae 0) (ae 1) oEq)))) cR) (az (br (dT (d1 (ae 1) (bw "int"))) (aI (iN (d1 (ae 0) (bw "int")) (d2 (ae 0) (ae 1) oEq))) cR) (az (br (dT (d1 (ae 1) (bw "str"))) (aI (iN (d1 (ae 0) (bw "str")) (d2 (ae 0) (ae 1) oEq))) cR) (az (br (j8 (dT (d2 (d1 (ae 1) (bw "tuple")) (d1 (ae 0) (bw "tuple")) lR)) (dT (d2 (d1 (ae 1) (bw "list")) (d1 (ae 0) (bw "list")) lR))) (aI (dC (.bl false))) cR) (az (br (dT (d2 (dN (aj (ae 0) ai) cx) (dN (aj (ae 1) ai) cx) lR)) (aI (dC (.bl false))) cR) (aI (d2 (dC (.bl false)) (kE (yG (aj (ae 0) (aj (ae 1) ai))) [none,none] (sR 2 (kX (dB 0) (kX (dB 1) qX))) gu (ay 2 tw (aj (ae 0) (aj (ae 1) ai)))) (pJ true)))))))))
noncomputable def dr (g:Nat->GD):Nat->GD
 | 0=>fun _ _ _=>False
 | n + 1=>g n
theorem B5 (g:GD) {K':RV->List OV->Prop} (k:K' (.p (.bl true)) []):ah g (cC 0 K') ⟨[some (.p .non),some (.p .non)],[]⟩:=by
 unfold ah
 refine aX fun N hN => ?_
 simp? only [bB,iR,iS,iT,iU,iV,aB]
 exact b_ k
theorem B6 (g:GD) {K':RV->List OV->Prop} (b:Bool) (k:K' (.p (.bl true)) []):ah g (cC 0 K') ⟨[some (.p (.bl b)),some (.p (.bl b))],[]⟩:=by
 unfold ah
 refine aX fun N hN => ?_
 simp? only [bB,hX,hZ,h9,h_,ic,eK]
 subst hN
 refine aX fun N hN => ?_
 simp? only [bB,hX,hZ,h9,h_,ic,eK]
 exact b_ k
theorem same_int (g:GD) {K':RV->List OV->Prop} (b:Int) (k:K' (.p (.bl true)) []):ah g (cC 0 K') ⟨[some (.p (.int b)),some (.p (.int b))],[]⟩:=by
 unfold ah
 refine aX fun N hN => ?_
 simp? only [bB,gD,gE,gF,gG,gH,eK]
 subst hN
 refine aX fun N hN => ?_
 simp? only [bB,gD,gE,gF,gG,gH,eK]
 subst hN
 refine aX fun N hN => ?_
 simp? only [bB,gD,gE,gF,gG,gH,eK]
 exact b_ k
theorem same_str (g:GD) {K':RV->List OV->Prop} (b:Str) (k:K' (.p (.bl true)) []):ah g (cC 0 K') ⟨[some (.p (.str b)),some (.p (.str b))],[]⟩:=by
 unfold ah
 refine aX fun N hN => ?_
 simp? only [bB,f7,f9,f_,gb,gf,eK]
 subst hN
 refine aX fun N hN => ?_
 simp? only [bB,f7,f9,f_,gb,gf,eK]
 subst hN
 refine aX fun N hN => ?_
 simp? only [bB,f7,f9,f_,gb,gf,eK]
 subst hN
 refine aX fun N hN => ?_
 simp? only [bB,f7,f9,f_,gb,gf,eK]
 exact b_ k
theorem B7 {n:Nat} {K':RV->List OV->Prop} {ds:List D} (hd:dep (.lst ds) <= n) (hn:n <= 50) (nd:oK (.lst ds)=true) (k:K' (.p (.bl true)) []):ah (dr ak n) (cC 0 K') ⟨[some (.p (.lst ds)),some (.p (.lst ds))],[]⟩:=by
 unfold ah
 refine aX fun N hN => ?_
 simp? only [bB,iR,iS,iT,iU,iV,hX,hZ,h9,h_,ic,gD,gE,gF,gG,gH,f7,f9,f_,gb,gf,jd,je,jf,jg,jh,iB,iC,iD,iE,iF]
 subst hN
 refine aX fun N hN => ?_
 simp? only [bB,iR,iS,iT,iU,iV,hX,hZ,h9,h_,ic,gD,gE,gF,gG,gH,f7,f9,f_,gb,gf,jd,je,jf,jg,jh,iB,iC,iD,iE,iF]
 subst hN
 refine aX fun N hN => ?_
 simp? only [bB,iR,iS,iT,iU,iV,hX,hZ,h9,h_,ic,gD,gE,gF,gG,gH,f7,f9,f_,gb,gf,jd,je,jf,jg,jh,iB,iC,iD,iE,iF]
 subst hN
 refine aX fun N hN => ?_
 simp? only [bB,iR,iS,iT,iU,iV,hX,hZ,h9,h_,ic,gD,gE,gF,gG,gH,f7,f9,f_,gb,gf,jd,je,jf,jg,jh,iB,iC,iD,iE,iF]
 subst hN
 refine aX fun N hN => ?_
 simp? only [bB,iB,iC,iD,iE,iF]
 subst hN
 simp only[eK,Xd,Ml,Xc]
 refine aX fun N hN => ?_
 simp? only [eK]
 subst hN
 obtain⟨m,rfl⟩:∃ m,n=m + 1:=⟨n - 1,by simp only[dep] at hd;omega⟩
 have rP:bg ds <= m:=by simp only[dep] at hd;omega
 have rQ:jS ds=true:=by simp only[oK,VY] at nd;exact nd.2
 have l7:ds.length <= 1000:=by simp only[oK,VY,Xt] at nd;exact nd.1
 have zl:(bR ds ds).length <= 1000:=by rw[rl];omega
 simp? only [yG]
 refine L2.mV (fun d => .bl true) zl trivial ?_ ?_
 ·intro d ni acc L ha h
  obtain⟨a,rfl,ma⟩:=vO ni
  simp? only []
  refine⟨a,W7 (vN ma) rP,by omega,iI rQ a ma,rfl,rfl,?_⟩
  simp? only []
  exact⟨ha,h⟩
 ·simp? only []
  have e1:((bR ds ds).map fun _=>D.bl true).any (fun e=>aB e (.bl false))=false:=by
   rw[Yd]
   intro x hx
   obtain⟨_,_,rfl⟩:=WQ.mp hx
   simp[aB]
  have e2:bg ((bR ds ds).map fun _=>D.bl true) <= 55:=vP _
  exact⟨e2,by rw[e1];exact b_ k⟩
theorem l_ {n:Nat} {K':RV->List OV->Prop} {ds:List D} (hd:dep (.tup ds) <= n) (hn:n <= 50) (nd:oK (.tup ds)=true) (k:K' (.p (.bl true)) []):ah (dr ak n) (cC 0 K') ⟨[some (.p (.tup ds)),some (.p (.tup ds))],[]⟩:=by
 unfold ah
 refine aX fun N hN => ?_
 simp? only [bB,iR,iS,iT,iU,iV,hX,hZ,h9,h_,ic,gD,gE,gF,gG,gH,f7,f9,f_,gb,gf,jd,je,jf,jg,jh,iB,iC,iD,iE,iF]
 subst hN
 refine aX fun N hN => ?_
 simp? only [bB,iR,iS,iT,iU,iV,hX,hZ,h9,h_,ic,gD,gE,gF,gG,gH,f7,f9,f_,gb,gf,jd,je,jf,jg,jh,iB,iC,iD,iE,iF]
 subst hN
 refine aX fun N hN => ?_
 simp? only [bB,iR,iS,iT,iU,iV,hX,hZ,h9,h_,ic,gD,gE,gF,gG,gH,f7,f9,f_,gb,gf,jd,je,jf,jg,jh,iB,iC,iD,iE,iF]
 subst hN
 refine aX fun N hN => ?_
 simp? only [bB,iR,iS,iT,iU,iV,hX,hZ,h9,h_,ic,gD,gE,gF,gG,gH,f7,f9,f_,gb,gf,jd,je,jf,jg,jh,iB,iC,iD,iE,iF]
 subst hN
 refine aX fun N hN => ?_
 simp? only [bB,jd,je,jf,jg,jh]
 subst hN
 simp only[eK,Xd,Ml,Xc]
 refine aX fun N hN => ?_
 simp? only [eK]
 subst hN
 obtain⟨m,rfl⟩:∃ m,n=m + 1:=⟨n - 1,by simp only[dep] at hd;omega⟩
 have rP:bg ds <= m:=by simp only[dep] at hd;omega
 have rQ:jS ds=true:=by simp only[oK,VY] at nd;exact nd.2
 have l7:ds.length <= 1000:=by simp only[oK,VY,Xt] at nd;exact nd.1
 have zl:(bR ds ds).length <= 1000:=by rw[rl];omega
 simp? only [yG]
 refine L2.mV (fun d => .bl true) zl trivial ?_ ?_
 ·intro d ni acc L ha h
  obtain⟨a,rfl,ma⟩:=vO ni
  simp? only []
  refine⟨a,W7 (vN ma) rP,by omega,iI rQ a ma,rfl,rfl,?_⟩
  simp? only []
  exact⟨ha,h⟩
 ·simp? only []
  have e1:((bR ds ds).map fun _=>D.bl true).any (fun e=>aB e (.bl false))=false:=by
   rw[Yd]
   intro x hx
   obtain⟨_,_,rfl⟩:=WQ.mp hx
   simp[aB]
  have e2:bg ((bR ds ds).map fun _=>D.bl true) <= 55:=vP _
  exact⟨e2,by rw[e1];exact b_ k⟩
theorem cf (n:Nat):∀ ys ao K',ys.length=2->ak n ys ao K'->ah (dr ak n) (cC ao.length K') ⟨ys.map some ++ List.replicate 0 none,ao.map some⟩:=by
 rintro ys ao K' - ⟨d,hd,hn,nd,rfl,rfl,k⟩
 ·cases d with
  | tup ds=>exact l_ hd hn nd k
  | non=>exact B5 _ k
  | bl b=>exact B6 _ b k
  | int b=>exact same_int _ b k
  | str b=>exact same_str _ b k
  | lst ds=>exact B7 hd hn nd k
end LJT
namespace LJ
open PySem L2
variable [aV]
end LJ
namespace LJ
open PySem L2
section
variable {S S':Wy->Prop} {a b c:Int}
end
variable [aV]
end LJ
namespace L2
open PySem PySem.Spec PyProof.Rows
noncomputable def me (h:Heap) (a C:Addr) (dx T:Option Addr) (fl:Value):Prop :=
 ∃ vs sl,h.get? a=some ⟨.ref C,dx,.fields vs,sl⟩/\vs[1]? = some (T.elim Value.none Value.ref)/\∀ t,T=some t->t≠a/\∃ oT ts,h.get? t=some oT/\oT.data = .fields ts/\ts[3]? = some fl
structure mf (fs:List Addr) (a:Addr) (T:Option Addr) (h h':Heap):Prop where
 keep:∀ b o,b≠a->some b≠T->b∉fs->h.get? b=some o->h'.get? b=some o
 slot:∀ b o,b≠a->some b≠T->h.get? b=some o->∃ sl,h'.get? b=some { o with slots:=sl }
section
variable {M:Model} {A:Around} {E:Value->Shared->Prop} {s:Shared} {env:Env} {outer:List Env} {base:Heap} {L a C:Addr} {dx T:Option Addr} {Q:Unit->Shared->Prop}
theorem HZ {head:Value} {hn:Bool} {vs:Array Value} {sl:Array (Option Value)} (mJ:A.frames=some (env :: outer)) (hl:s.heap.FunFrames base (env :: outer)) (hf:env.frame=some L)
  (he:s.heap.get? a=some ⟨.ref C,dx,.fields vs,sl⟩) (gm:1 < vs.size)
  (h:∀ h' T',me h' a C dx (some T') (rawInt L)->s.heap.get? T'=none->mf (fg (env :: outer)) a none s.heap h'->Q () { s with heap:=h' }) :
  wpAny M A (do let x <- frameOf env;let pl <- entryPlaceOf L hn;let b <- EntryCells.newEntry head x .none (rawInt L) .none pl;setField (.ref a) 1 b) Q E s:=by
 have na:a∉(env :: outer).filterMap (·.frame):=fun hm=>by
  obtain⟨_,o,ho,nf⟩:=hl.mem hm
  rw[he] at ho;cases ho
  exact nf vs rfl
 refine nN (wpAny_frameOf_fun mJ hl hf fun h1 e1 => ?_)
 refine nN (wpAny_entryPlaceOf fun pl fL => ?_)
 unfold EntryCells.newEntry newFields
 refine nN (Xj ?_ (fL.sizeOk5 _ _ _ _ _))
 have CM:=(e1.2.1 a na).trans he
 refine ZZ (qJ _ CM) rfl gm ?_
 have nT:h1.objs.size≠a:=Ya (EW CM)
 have keep:∀ b o,b≠a->h1.get? b=some o->∀ ob f,((h1.push ob).update a f).get? b=some o:=fun b o n e ob f=>by
  rw[X1 _ _ (Yg n)]
  exact qJ _ e
 refine h _ h1.objs.size ⟨_,_,XR _ (qJ _ CM) rfl,?_,fun t e => ?_⟩ ?_ ⟨fun b o n _ nf e => ?_,fun b o n _ e => ?_⟩
 ·show (vs.setIfInBounds 1 (Value.ref h1.objs.size))[1]? = _
  simp[gm]
 ·cases e
  refine⟨nT,_,_,(X1 _ _ (Yg nT)).trans (VW h1 rfl),rfl,?_⟩
  first | (simp;done) | (rcases fL with rfl | ⟨_,_,_,_,_,_,_,rfl⟩<;>simp)
 ·rw[Heap.get?_none_of_le]
  rw[e1.1]
  exact wV _
 ·exact keep b o n ((e1.2.1 b nf).trans e) _ _
 ·obtain⟨mB,e'⟩:=e1.2.2 b o e
  exact⟨mB,keep b _ n e' _ _⟩
theorem CN {t:Addr} {fl:Value} (f:me s.heap a C dx (some t) fl) (h:∀ h',me h' a C dx (some t) .none->mf [] a (some t) s.heap h'->Q () { s with heap:=h' }) :
  wpAny M A (setFlight (.ref a) none) Q E s:=by
 obtain⟨vs,sl,ea,e1,r⟩:=f
 obtain⟨n,oT,ts,et,ed,e3⟩:=r t rfl
 have h3:=(Xl.mp e3).1
 have o:∀ b,b≠t->(s.heap.update t (Obj.mapFields (·.setIfInBounds 3 .none))).get? b=s.heap.get? b:=fun b nb=>X1 _ _ (Yg nb)
 refine wpAny_setFlight_none ea rfl e1 et ed h3 (h _ ⟨vs,sl,(o a (Yg n)).trans ea,e1,fun t' e => ?_⟩ ⟨fun b u _ nb _ e => ?_,fun b u _ nb e=>⟨u.slots,?_⟩⟩)
 ·cases e
  exact⟨n,_,_,XR _ et (Zm (YC ed _)),YC ed _,by simp[h3]⟩
 ·exact (o b fun z=>nb (by rw[z])).trans e
 ·exact (o b fun z=>nb (by rw[z])).trans e
theorem H_ (mJ:A.frames=some (env :: outer)) (hl:s.heap.FunFrames base (env :: outer)) (hf:env.frame=some L) (f:me s.heap a C dx T .none)
  (h:∀ h' T',me h' a C dx (some T') (rawInt L)->s.heap.get? T'=none->mf (fg (env :: outer)) a T s.heap h'->Q () { s with heap:=h' }):wpAny M A (noteFrame (.ref a) env) Q E s:=by
 obtain⟨vs,sl,ea,e1,r⟩:=f
 have hz:=(Xl.mp e1).1
 unfold noteFrame
 simp only[hf]
 refine nN (Xp ea rfl e1 ?_)
 cases T with
 | none =>
  rw[show (none:Option Addr).elim Value.none Value.ref=Value.none from rfl,My (by decide)]
  exact HZ mJ hl hf ea hz h
 | some t =>
  obtain⟨n,oT,ts,et,ed,e3⟩:=r t rfl
  have h3:=(Xl.mp e3).1
  rw[show (some t).elim Value.none Value.ref=Value.ref t from rfl,VZ (show (Value.ref t != Value.none)=true from by simp)]
  refine nN (Xp et ed e3 ?_)
  rw[My (show ¬ ((Value.none == rawInt L)=true) from by simp[rawInt])]
  refine nN (ZZ et ed h3 ?_)
  have o:∀ b,b≠t->(s.heap.update t (Obj.mapFields (·.setIfInBounds 3 Value.none))).get? b=s.heap.get? b:=fun b nb=>X1 _ _ (Yg nb)
  refine HZ mJ (hl.of_keeps fun b u e nf=>⟨u,(o b fun z => ?_).trans e,rfl⟩) hf ((o a (Yg n)).trans ea) hz fun h' T' x1 x2 x3=>h h' T' x1 ?_ ⟨fun b u na nb nf e=>x3.keep b u na (by simp) nf ((o b fun z=>nb (by rw[z])).trans e),fun b u na nb e=>x3.slot b u na (by simp) ((o b fun z=>nb (by rw[z])).trans e)⟩
  ·rw[z,et] at e;cases e
   exact nf ts ed
  ·by_cases z:T'=t
   ·rw[z,XR _ et (Zm (YC ed _))] at x2;cases x2
   ·exact (o T' z).symm.trans x2
theorem RX (mJ:A.frames=some (env :: outer)) (hl:s.heap.FunFrames base (env :: outer)) (hf:env.frame=some L) (f:me s.heap a C dx T .none)
  (h:∀ h' T',me h' a C dx (some T') .none->s.heap.get? T'=none->mf (fg (env :: outer)) a T s.heap h'->Q () { s with heap:=h' }):wpAny M A (leaving env (.ref a)) Q E s:=by
 unfold leaving
 refine nN (H_ mJ hl hf f fun h1 T' x1 x2 x3=>CN x1 fun h2 y1 y2=>h h2 T' y1 x2 ⟨fun b o na nb nf e => ?_,fun b o na nb e => ?_⟩)
 ·exact y2.keep b o na (fun z=>by cases z;rw[x2] at e;cases e) (by simp) (x3.keep b o na nb nf e)
 ·obtain⟨sl,e'⟩:=x3.slot b o na nb e
  exact⟨sl,y2.keep b _ na (fun z=>by cases z;rw[x2] at e;cases e) (by simp) e'⟩
end
noncomputable def mi (P:Program) (w:World):jY:=fun outer H s E e s'=>∃ (a C:Addr) (dx:Option Addr) (T:Addr) (H':Hp),e = .ref a/\s'.os=s.os/\AllBare s'.gens/\Un (fg outer) [] H H' s.heap s'.heap/\dQ P w H' s'.heap ∧
 me s'.heap a C dx (some T) .none/\H' a=none/\H' T=none/\s.heap.get? a=none/\s.heap.get? T=none/\E (.ref C) dx H'
section
variable {X:Cx} {P:Program} {w:World} {K:PySem.W.Frag} {mg:Str->Option Value} {base:Heap} {N:List Str} {qual:Str} {scope:Scope} {f:Addr} {cd:Value} {A:Around} {outer:List Env} {s:Shared} {H:Hp} {E:XK}
theorem Un.r_ {fs:List Addr} {H H':Hp} {h g h':Heap} {a:Addr} {T:Option Addr} (u:Un fs [] H H' h g) (na:∀ o,h.get? a=some o->H a=none->False) (nT:∀ t,T=some t->h.get? t=none) (ea:∃ o,h'.get? a=some o) (x:mf fs a T g h'):Un fs [] H H' h h' where
 keep:=fun b o e n nf nx=>x.keep b o (fun z=>by subst z;exact na o e n) (fun z=>by rw[nT b z.symm] at e;cases e) nf (u.keep b o e n nf nx)
 slot:=fun b o e n nf nx=>by
  obtain⟨sl,e1⟩:=u.slot b o e n nf nx
  obtain⟨mB,e2⟩:=x.slot b _ (fun z=>by subst z;exact na o e n) (fun z=>by rw[nT b z.symm] at e;cases e) e1
  exact⟨mB,e2⟩
 free:=u.free
 there:=fun b o e nx=>by
  obtain⟨o1,e1⟩:=u.there b o e nx
  by_cases c:b=a
  ·rw[c];exact ea
  ·obtain⟨sl,e2⟩:=x.slot b o1 c (fun z=>by rw[nT b z.symm] at e;cases e) e1
   exact⟨_,e2⟩
 cX:=u.cX
 dE:=u.dE
 dZ:=u.dZ
theorem dQ.r_ {H':Hp} {g h':Heap} {fs:List Addr} {a:Addr} {T:Option Addr} (k:dQ P w H' g) (ha:H' a=none) (hT:∀ t,T=some t->H' t=none) (hf:∀ b∈fs,H' b=none) (x:mf fs a T g h'):dQ P w H' h':=fun b o e=>by
 have ne:∀ c,(c=b\/H' c=some (.own b))->H' c≠none:=fun c hc z=>by
  rcases hc with rfl | hc
  ·rw[e] at z;cases z
  ·rw[hc] at z;cases z
 exact (k b o e).eA (fun c v hc z=>x.keep c v (fun q=>ne c hc (by rw[q];exact ha)) (fun q=>ne c hc (hT c q.symm)) (fun q=>ne c hc (hf c q)) z) (fun c z=>z) fun c xs z=>z
theorem CO {h h' base:Heap}:∀ {l:List Env},(∀ b∈fg l,∀ o,h.get? b=some o->∃ sl,h'.get? b=some { o with slots:=sl })->h.FunFrames base l->h'.FunFrames base l
 | [],_,_=>trivial
 | env :: r,k,⟨hk,⟨L,o,hf,hn,ho,hd⟩,hr⟩=>by
  have hL:L∈fg (env :: r):=by unfold fg;rw[X7,hf];exact VV
  obtain⟨sl,e⟩:=k L hL o ho
  exact⟨hk,⟨L,_,hf,hn,e,hd⟩,CO (fun b hb=>k b (by unfold fg;rw[X7,hf];exact Mn _ hb)) hr⟩
theorem Ia {pins:List (Addr × Obj)} {σ : St} {H1 H':Hp} {s1 s2:Shared} {a C:Addr} {dx T:Option Addr} (eX:X=aS (mi P w) P w K mg base N qual scope f cd A outer s H E) (I:Inv X pins σ H1 s1) (os:s2.os=s1.os) (ba:AllBare s2.gens) (u:Un (fg X.stack) [] H1 H' s1.heap s2.heap) (ok:dQ P w H' s2.heap) (F:me s2.heap a C dx T .none)
  (ha:H' a=none) (hT:∀ t,T=some t->H' t=none/\s1.heap.get? t=none) (na:∀ o,s1.heap.get? a=some o->H1 a=none->False) (a0:s.heap.get? a=none) (q:E (.ref C) dx H'):X.xe (.ref a) s2:=by
 subst eX
 have fr:∀ b∈fg (envOfC qual scope s.heap.objs.size f cd :: outer),H' b=none:=fun b hb=>by
  obtain⟨_,o,ho,_⟩:=I.stack.mem hb
  exact u.free b o ho (I.eB b hb) (by simp)
 have fk:s2.heap.FunFrames base (envOfC qual scope s.heap.objs.size f cd :: outer):=CO (fun b hb o e=>u.any e (I.eB b hb) (by simp)) I.stack
 refine RX (base:=base) (outer:=outer) I.ok.frames fk rfl F fun h' T' x1 x2 x3 => ?_
 have u':=u.r_ na (fun t e=>(hT t e).2) (by obtain⟨vs,sl,e,_⟩:=x1;exact⟨_,e⟩) x3
 have RY:=ok.r_ ha (fun t e=>(hT t e).1) fr x3
 have J:=I.jW (s':={ s2 with heap:=h' }) os u' RY ba (fun b z=>absurd z (by simp))
 have gone:∀ b,s2.heap.get? b=none->s.heap.get? b=none:=fun b e=>by
  cases q:s.heap.get? b with
  | none=>rfl
  | some o =>
   obtain⟨o1,e1⟩:=I.base.there b o q (by exact WC)
   obtain⟨o2,e2⟩:=u.there b o1 e1 (by simp)
   rw[e] at e2;cases e2
 refine⟨a,C,dx,T',H',rfl,J.os,J.bare,J.base,J.aO,x1,ha,?_,a0,gone T' x2,q⟩
 cases z:H' T' with
 | none=>rfl
 | some o =>
  obtain⟨ob,e⟩:=Fm (ok T' o z)
  rw[x2] at e;cases e
theorem RZ:sx (mi P w) (aS (mi P w) P w K mg base N qual scope f cd A outer s H E) E:=fun pins σ H1 s1 e s' I h=>by
 obtain⟨a,C,dx,T,H',rfl,os,ba,u,ok,F,ha,hT,a0,t0,q⟩:=h
 refine Ia rfl I os ba u ok F ha (fun t e=>by cases e;exact⟨hT,t0⟩) (fun o e _=>by rw[a0] at e;cases e) ?_ q
 cases z:s.heap.get? a with
 | none=>rfl
 | some o =>
  obtain⟨o1,e1⟩:=I.base.there a o z (by exact WC)
  rw[a0] at e1;cases e1
noncomputable def jj (H:Hp) (a:Addr):Hp:=fun b=>if b=a then none else H b
theorem tJ {H:Hp} {a b:Addr} (n:b≠a):jj H a b=H b:=My n
theorem Un.del {fs:List Addr} {H:Hp} {h:Heap} {a C:Addr} {dx:Option Addr} (e:H a=some (gN a C dx)):Un fs [] H (jj H a) h h where
 keep:=fun _ _ e _ _ _=>e
 slot:=fun _ o e _ _ _=>⟨o.slots,e⟩
 free:=fun b o _ n _=>by
  unfold jj
  split
  ·rfl
  ·exact n
 there:=fun b o e _=>⟨o,e⟩
 cX:=fun b xs q=>by rw[tJ (y_ q e (by unfold gN;intro z;cases z))];exact q
 dE:=fun b o xs q=>by rw[tJ (y_ q e (by unfold gN;intro z;cases z))];exact q
 dZ:=fun b ps q=>⟨#[],by rw[tJ (y_ q e (by unfold gN;intro z;cases z)),q];simp⟩
theorem dQ.del {H:Hp} {h:Heap} {a C:Addr} {dx:Option Addr} (k:dQ P w H h) (e:H a=some (gN a C dx)):dQ P w (jj H a) h:=fun b o q=>by
 have nb:b≠a:=fun z=>by unfold jj at q;rw[VZ z] at q;cases q
 rw[tJ nb] at q
 have own:∀ c x,H c=some x->(∀ φ,x ≠ .ext φ)->c≠a:=fun c x z n y=>by rw[y,e] at z;cases z;exact n _ rfl
 exact (k b o q).eA (fun c v hc z=>z) (fun c z=>by rw[tJ (own c _ z (by intro φ y;cases y))];exact z) fun c xs z=>by rw[tJ (own c _ z (by intro φ y;cases y))];exact z
theorem cG.exc {l:List Value} (x:cG K l):l.contains (.type "BaseException")=true:=by
 induction x with
 | base=>decide
 | own _ _ _ ih=>rw[Y4,ih,q0p]
theorem R0 {M:Model} {A:Around} {env:Env} {E:Value->Shared->Prop} {s:Shared} {x:Sem Value} {Q:Flow->Shared->Prop} (hh:A.handled=none)
  (h:wpAny M A x (fun v s1=>∃ a C dx lD,v = .ref a/\qO K C lD/\K.In s1.heap/\me s1.heap a C dx none .none/\E (.ref a) s1) E s):wpAny M A (raiseStmt env (some x) none) Q E s:=by
 unfold raiseStmt
 refine nN (XF h (fun v s1 h1 => ?_) fun _ _ z=>z)
 obtain⟨a,C,dx,lD,rfl,m,k,⟨vs,sl,ea,e1,_⟩,hE⟩:=h1
 obtain⟨nm,q,N,bs,bm,i7,sn,sub,ab,col,dd,k0,k1,k2,k3,k5,l,t,_⟩:=m.Fl
 have hC:=k _ _ l
 have hB:(Value.ref C :: bm).contains (.type "BaseException")=true:=by rw[Y4,t.exc,q0p]
 obtain⟨hp,g,d,tk,os⟩:=s1
 repeat (first | with_reducible refine wpAny_loadPart_at ea ?_ | with_reducible refine wpAny_loadPart_at hC ?_ | (with_reducible refine wpAny_isSubtype_exc hC ?_;rw[hB]) | wp_step)
 rw[e1]
 refine uq ?_
 rw[My (by decide)]
 exact uq (wpAny_raiseNew_none hh hE)
noncomputable def Ib (K:PySem.W.Frag) (H0:Hp) (te:TE) (E:XK):TS:=fun _ σ H=>te σ H fun v H1=>∃ (a C:Addr) (dx:Option Addr) (lD:Option Value),v = .ref a/\H1 a=some (gN a C dx)/\qO K C lD/\H0 a=none/\E (.ref C) dx (jj H1 a)
theorem R1 {e:Expr} {te:TE} {pos:Pos} (eX:X=aS (mi P w) P w K mg base N qual scope f cd A outer s H E) (he:PE X e te):PS X (.Raise (some e) none pos) (Ib X.K X.H₀ te E):=by
 intro pins s1 σ H1 D I h
 show wpAny _ _ (do standAt pos;raiseStmt X.env (some (do let v <- eval e X.env;standAt pos;pure v)) none) _ _ _
 have hc:X.calm=true:=by rw[eX];rfl
 refine nN (YF (R0 (K:=X.K) (I.ok.hd hc) (nN (bt (he pins s1 σ H1 _ I h) fun u s2 ⟨v,H2,I2,r,a,C,dx,lD,ev,ea,m,h0,q⟩=>nN (YF (uq ?_))))))
 subst ev
 obtain rfl:u=Value.ref a:=r
 obtain⟨t,et⟩:=M_ (I2.aO a _ ea)
 have F:me s2.heap a C dx none .none:=⟨_,_,et,rfl,fun _ z=>nomatch z⟩
 refine⟨a,C,dx,lD,rfl,m,I2.fJ,F,?_⟩
 have eP:X.prog=P:=by rw[eX];rfl
 have ew:X.w=w:=by rw[eX];rfl
 have ok:=I2.aO
 rw[eP,ew] at ok
 refine Ia eX I2 rfl I2.bare (Un.del ea) (ok.del ea) F (VZ rfl) (fun _ z=>nomatch z) (fun o _ n=>by rw[ea] at n;cases n) ?_ q
 have e0:X.s₀ = s:=by rw[eX];rfl
 have ex:X.ex=[]:=by rw[eX];rfl
 cases z:s.heap.get? a with
 | none=>rfl
 | some o =>
  have:=I2.base.free a o (by rw[e0];exact z) h0 (by rw[ex];exact WC)
  rw[ea] at this;cases this
end
noncomputable def fv (a C:Addr) (dx:Option Addr):HO := .ext fun h=>∃ vs sl,h.get? a=some ⟨.ref C,dx,.fields vs,sl⟩
theorem R3 {P:Program} {w:World} {H:Hp} {h:Heap} {a C:Addr} {dx:Option Addr} {vs:Array Value} {sl:Array (Option Value)} (e:h.get? a=some ⟨.ref C,dx,.fields vs,sl⟩):aN P w H h a (fv a C dx) :=
 ⟨⟨vs,sl,e⟩,⟨_,e⟩,fun h1 h2 ⟨R4,mB,e1⟩ k=>⟨R4,mB,k _ e1⟩⟩
theorem Ic {P:Program} {w:World} {H:Hp} {h:Heap} {a C:Addr} {dx:Option Addr} (x:aN P w H h a (fv a C dx)):∃ vs sl,h.get? a=some ⟨.ref C,dx,.fields vs,sl⟩:=x.1
theorem mf.more {fs:List Addr} {a t:Addr} {T:Option Addr} {h h1 h2:Heap} (x:mf fs a T h h1) (n:h.get? t=none) (y:mf [] a (some t) h1 h2):mf fs a T h h2 where
 keep:=fun b o na nb nf e=>y.keep b o na (fun z=>by cases z;rw[n] at e;cases e) (by simp) (x.keep b o na nb nf e)
 slot:=fun b o na nb e=>by
  obtain⟨sl,e'⟩:=x.slot b o na nb e
  exact⟨sl,y.keep b _ na (fun z=>by cases z;rw[n] at e;cases e) (by simp) e'⟩
section
variable {X:Cx} {pins cj:List (Addr × Obj)} {σ : St} {H:Hp} {s:Shared} {E:Value->Shared->Prop}
theorem Inv.v7 (I:Inv X pins σ H s):Inv { X with pn:=X.pn ++ pins,xe:=E } [] σ H s :=
 ⟨⟨I.ok.mod,I.ok.kind,I.ok.glob,I.ok.blt,I.ok.above,I.ok.inj,I.ok.has,I.ok.oV,I.ok.hd,I.ok.frames,I.ok.qj,I.ok.tW,I.ok.bs,I.ok.lg,I.ok.iW,I.ok.jC,I.ok.d3,I.ok.my⟩,I.os,I.bare,I.base,I.loc,I.cell,I.free,I.bK,fun p hp=>I.pin p (by simpa using hp),I.aO,I.len⟩
theorem Inv.ig (I:Inv { X with pn:=X.pn ++ pins,xe:=E } cj σ H s):Inv X pins σ H s :=
 ⟨⟨I.ok.mod,I.ok.kind,I.ok.glob,I.ok.blt,I.ok.above,I.ok.inj,I.ok.has,I.ok.oV,I.ok.hd,I.ok.frames,I.ok.qj,I.ok.tW,I.ok.bs,I.ok.lg,I.ok.iW,I.ok.jC,I.ok.d3,I.ok.my⟩,I.os,I.bare,I.base,I.loc,I.cell,I.free,I.bK,fun p hp=>I.pin p (XO _ hp),I.aO,I.len⟩
theorem Inv.toSub {A:Around} (I:Inv X pins σ H s) (e:A.frames=X.A.frames):Inv { X with A:=A,calm:=false,xe:=E } pins σ H s :=
 ⟨⟨I.ok.mod,I.ok.kind,I.ok.glob,I.ok.blt,I.ok.above,I.ok.inj,I.ok.has,I.ok.oV,(fun z=>by cases z),e.trans I.ok.frames,I.ok.qj,I.ok.tW,I.ok.bs,I.ok.lg,I.ok.iW,I.ok.jC,I.ok.d3,I.ok.my⟩,I.os,I.bare,I.base,I.loc,I.cell,I.free,I.bK,I.pin,I.aO,I.len⟩
theorem Inv.v8 {A:Around} (I:Inv { X with A:=A,calm:=false,xe:=E } pins σ H s) (k:X.Ok):Inv X pins σ H s :=
 ⟨k,I.os,I.bare,I.base,I.loc,I.cell,I.free,I.bK,I.pin,I.aO,I.len⟩
theorem Inv.blank (I:Inv X pins σ H s):Inv X pins (List.replicate σ.length none) H s :=
 ⟨I.ok,I.os,I.bare,I.base,let ⟨m,hn,_⟩:=I.loc; ⟨m,hn,fun i x v _ e _=>by rw[Yx] at e;split at e<;>cases e⟩,I.cell,I.free,I.bK,I.pin,I.aO,by rw[Yn];exact I.len⟩
theorem Inv.locs {σ':St} {h':Heap} {m':Str->Option Value} {t':Nat} (I:Inv X pins σ H s) (hn:h'.Ns X.env.locals m') (hs:Heap.SameBut X.env.locals s.heap h')
  (hl:∀ (i:Nat) (x:Str) (v:V),X.N[i]? = some x -> σ'[i]? = some (some v)->oU X.env.scope x->∃ u,RelV v u/\Look X.env h' m' x u) (len : σ'.length=X.N.length):Inv X pins σ' H { s with heap:=h',toks:=t' }:=by
 obtain⟨m,⟨oL,_,_,oX,_⟩,_⟩:=id I.loc
 have ne:∀ b o,X.s₀.heap.get? b=some o->b≠X.env.locals:=fun b o e=>WL (WD (EW e) I.ok.above)
 refine⟨I.ok,I.os,I.bare,⟨fun b o e n hb hx=>(hs.2 b (ne b o e)).trans (I.base.keep b o e n hb hx),fun b o e n hb hx => ?_,I.base.free,fun b o e hx => ?_,I.base.cX,I.base.dE,I.base.dZ⟩,⟨m',hn,hl⟩,fun y c e => ?_,I.free,I.bK,fun p hp => ?_,fun b ob e => ?_,len⟩
 ·obtain⟨sl,e1⟩:=I.base.slot b o e n hb hx
  exact⟨sl,(hs.2 b (ne b o e)).trans e1⟩
 ·obtain⟨o',e1⟩:=I.base.there b o e hx
  exact⟨o',(hs.2 b (ne b o e)).trans e1⟩
 ·obtain⟨w',z⟩:=I.cell y c e
  exact⟨w',z.sameBut hs (I.nh y c e)⟩
 ·obtain⟨e,n,nl,nf,d⟩:=I.pin p hp
  exact⟨(hs.2 p.1 nl).trans e,n,nl,nf,d⟩
 ·refine (I.aO b ob e).eA (fun c w' hc q=>(hs.2 c ?_).trans q) (fun _ q=>q) fun _ _ q=>q
  rintro rfl
  rcases hc with rfl | hc
  ·rw[I.free] at e;cases e
  ·rw[I.free] at hc;cases hc
theorem name_goes {M:Model} {A:Around} {E:Value->Shared->Prop} {Q:Unit->Shared->Prop} {i:Nat} {n:Str} {pos:Pos} (I:Inv X pins σ H s) (nd:X.N.Nodup) (hi:X.N[i]? = some n) (hk:X.env.scope.names.lookup n=some .local)
  (h:∀ s',Inv X pins (σ.set i none) H s'->Q () s'):wpAny M A (do bindName X.env n .none;unbindBehindTheSuite X.env n pos) Q E s:=by
 refine nN (wpAny_bindName (wD (v := .non) (u := .none) I nd hi (.inl hk) rfl (fun s1 I1 => ?_) (.inr hk)))
 have hp:(X.env.scope.kind == .class || (X.env.scope.kind == .module && X.env.locals != X.env.globals))=false:=by rw[I.ok.kind];rfl
 have hl:X.env.kindOf n=some .local:=hk
 unfold unbindBehindTheSuite
 refine Zt ?_
 unfold unbindName
 refine nN (wpAny_point (nN ?_))
 unfold deleteName
 simp only[hl,hp]
 rw[My (by decide)]
 obtain⟨m,hn,hm⟩:=id I1.loc
 have hlen:i < σ.length:=by rw[I.len];exact (qK.mp hi).1
 obtain⟨u0,r0,l0⟩:=hm i n .non hi (by rw[Xe hlen]) (.inl hk)
 have vW:(m n).isSome=true:=by
  rcases l0 with⟨_,e⟩ | ⟨k,_⟩
  ·rw[e];rfl
  ·rcases k with k | k<;>(rw[hl] at k;cases k)
 refine nN (wpAny_nsDel_keeps hn fun h2 v Ce cA => ?_)
 rw[vW]
 simp only[Yf,Xd,Ml,Xc]
 refine uq (wpAny_point (h _ (I1.locs (t':=s1.toks) Ce cA (fun j y w e1 e2 e3 => ?_) (by rw[XT];exact I.len))))
 have nj:j≠i:=fun z=>by rw[z,Xe hlen] at e2;cases e2
 rw[Xg (Yg nj)] at e2
 obtain⟨u,r,l⟩:=hm j y w e1 (by rw[Xg (Yg nj)];exact e2) e3
 refine⟨u,r,?_⟩
 rcases l with⟨k,e⟩ | ⟨k,c,e,z⟩
 ·refine .inl ⟨k,?_⟩
  have:y≠n:=fun e=>nj (ze nd e1 (e ▸ hi))
  simp[this,e]
 ·exact .inr ⟨k,c,e,z.sameBut cA (I.nh y c e)⟩
end
section
variable {X:Cx} {body mj:List Stmt} {b0:Stmt} {x n:Str} {p1 p2 pos:Pos} {L:Addr} {i:Nat} {tb:XK->TS} {th:TS}
noncomputable def R5 (K:PySem.W.Frag) (L:Addr) (i k:Nat) (th:TS) (D:Ends):XK:=fun C dx H'=>∃ c,C = .ref c/\PySem.W.exmOne K C (.ref L)=some true ∧
 ∀ a,H' a=none->th { nx:=fun σ H=>D.nx (σ.set i none) H,rt:=fun _ _=>False } ((List.replicate k none).set i (some (.ref a))) (upd H' a (fv a c dx))
noncomputable def v9 (K:PySem.W.Frag) (L:Addr) (i:Nat) (tb:XK->TS) (th:TS):TS:=fun D σ H=>tb (R5 K L i σ.length th D) D σ H
theorem Ie (iK:X.stack=X.env :: X.outer) (mJ:X.env.frame=some X.env.locals) (nd:X.N.Nodup) (hi:X.N[i]? = some n) (hk:X.env.scope.names.lookup n=some .local) (hg:Gl X x) (hm:X.mg x=some (.ref L)) (gj:(x == ("__debug__" : Str))=false)
  (hb:∀ pn xe E,sx (mi X.prog X.w) { X with pn:=pn,xe:=xe } E->fK { X with pn:=pn,xe:=xe } body (tb E)) (hs:∀ A xe,fK { X with A:=A,calm:=false,xe:=xe } (b0 :: mj) th) :
  PS X (.Try body [.ExceptHandler (some (.Name x p1)) (some n) (b0 :: mj) p2] [] [] pos) (v9 X.K L i tb th):=by
 intro pins s σ H D I h
 refine wpAny_Try_except ?_
 refine XF (hb (X.pn ++ pins) (fun e s1=>wpAny (model X.prog X.w) X.A (noteFrame e X.env) (fun _ s2=>wpAny (model X.prog X.w) X.A (setFlight e none) (fun _ s3=>wpAny (model X.prog X.w) X.A (handleBy e X.env [.ExceptHandler (some (.Name x p1)) (some n) (b0 :: mj) p2]) (SP X pins D) X.xe s3) X.xe s2) X.xe s1) _ ?_ [] s σ H D I.v7 h) (fun f s1 hq => ?_) (fun e s1 z=>z)
 ·intro cj σ' H1 s1 e s' I1 hx
  obtain⟨a,C,dx,T,H',rfl,os,ba,u,ok,F,ha,hT,a0,t0,c,ec,em,q⟩:=hx
  cases ec
  have hA:X.A.frames=some (X.env :: X.outer):=by rw[<-iK];exact I.ok.frames
  have kW:s1.heap.FunFrames X.base (X.env :: X.outer):=by rw[<-iK];exact I1.stack
  have Ig:∀ b∈fg (X.env :: X.outer),H1 b=none:=by rw[<-iK];exact I1.eB
  have u:Un (fg (X.env :: X.outer)) [] H1 H' s1.heap s'.heap:=by rw[<-iK];exact u
  have fk:s'.heap.FunFrames X.base (X.env :: X.outer):=CO (fun b hb o e=>u.any e (Ig b hb) (by simp)) kW
  have fr:∀ b∈fg (X.env :: X.outer),H' b=none:=fun b hb=>by
   obtain⟨_,o,ho,_⟩:=kW.mem hb
   exact u.free b o ho (Ig b hb) (by simp)
  have na:∀ o,s1.heap.get? a=some o->H1 a=none->False:=fun o e _=>by rw[a0] at e;cases e
  have inv:∀ h,mf (fg (X.env :: X.outer)) a (some T) s'.heap h->(∃ o,h.get? a=some o)->Inv X pins σ' H' { s' with heap:=h }:=fun h x e =>
   Inv.ig (I1.jW (s':={ s' with heap:=h }) os (by show Un (fg X.stack) _ _ _ _ _;rw[iK];exact u.r_ na (fun t e=>by cases e;exact t0) e x) (ok.r_ ha (fun t e=>by cases e;exact hT) fr x) ba (fun b z=>absurd z (by simp)))
  refine H_ hA fk mJ F fun h4 T4 x1 x2 x3 => ?_
  refine CN x1 fun h5 y1 y2 => ?_
  have e5:=x3.more x2 y2
  obtain⟨Wu,Wv,Ih,_⟩:=id y1
  have J5:=inv h5 e5 ⟨_,Ih⟩
  refine wpAny_handleBy_cons (codeAny_handlers_test (wF (X:={ X with A:=X.A.mark (some (.ref a)),calm:=false,xe:=fun _ _=>False }) (J5.toSub rfl) hg hm ?_ gj)) (by intro q;cases q)
  have LT:PySem.W.Looks (model X.prog X.w) h5 (typeOf (.ref a)) (.ref C):=(PySem.W.Looks.ld Ih).andThen .now
  refine PySem.W.Looks.here (PySem.W.exm_one J5.fJ LT em) ?_
  show codeAny _ _ _ _ _
  refine codeAny_handlers_suite_as ?_
  refine CN y1 fun h6 z1 z2 => ?_
  have e6:=e5.more x2 z2
  obtain⟨Ww,Wx,Ii,_⟩:=id z1
  have R6:=ok.r_ ha (fun t e=>by cases e;exact hT) fr e6
  have u6:=u.r_ na (fun t e=>by cases e;exact t0) ⟨_,Ii⟩ e6
  have ne:∀ b y,H' b=some y->b≠a:=fun b y e z=>by rw[z,ha] at e;cases e
  have J6:Inv X pins (List.replicate σ.length none) (upd H' a (fv a C dx)) { s' with heap:=h6 }:=by
   have:=Inv.blank (Inv.ig (I1.jW (s':={ s' with heap:=h6 }) (H':=upd H' a (fv a C dx)) os (by
    show Un (fg X.stack) _ _ _ _ _
    rw[iK]
    exact⟨u6.keep,u6.slot,fun b o e n nx=>by rw[aH (fun z=>by rw[z,a0] at e;cases e)];exact u6.free b o e n nx,u6.there,fun b xs e=>by rw[aH (ne _ _ (u6.cX b xs e))];exact u6.cX b xs e,fun b o xs e=>by rw[aH (ne _ _ (u6.dE b o xs e))];exact u6.dE b o xs e,fun b ps e=>by obtain⟨more,e'⟩:=u6.dZ b ps e;exact⟨more,by rw[aH (ne _ _ e')];exact e'⟩⟩)
    (fun b o e=>by
     by_cases c:b=a
     ·subst c;rw[bH] at e;cases e;exact R3 Ii
     ·rw[aH c] at e
      exact (R6 b o e).eA (fun _ _ _ z=>z) (fun c z=>by rw[aH (ne _ _ z)];exact z) fun c xs z=>by rw[aH (ne _ _ z)];exact z) ba (fun b z=>absurd z (by simp))))
   rwa [show σ'.length = σ.length from I1.len.trans I.len.symm] at this
  have hl:i < (List.replicate σ.length (none:Option V)).length:=by rw[Yn,I.len];exact (qK.mp hi).1
  refine wD (X:=X) J6 nd hi (.inl hk) (v := .ref a) rfl (fun s7 I7 => ?_) (.inr hk)
  refine XF (hs (X.A.mark (some (.ref a))) _ pins s7 _ _ _ (I7.toSub rfl) (q a ha)) (fun f s8 hf => ?_) (fun e s8 z=>z)
  cases f with
  | next =>
   obtain⟨σ9,H9,I9,q9⟩:=hf
   exact name_goes (I9.v8 I.ok) nd hi hk fun s9 J9=>⟨_,_,J9,q9⟩
  | brk=>obtain⟨_,_,_,q9⟩:=hf;exact False.elim q9
  | cont=>obtain⟨_,_,_,q9⟩:=hf;exact False.elim q9
  | ret v=>obtain⟨_,_,_,_,_,q9⟩:=hf;exact False.elim q9
 ·cases f with
  | next =>
   obtain⟨σ',H',I',q⟩:=hq
   exact Zz ⟨σ',H',I'.ig,q⟩
  | brk=>obtain⟨σ',H',I',q⟩:=hq;exact⟨σ',H',I'.ig,q⟩
  | cont=>obtain⟨σ',H',I',q⟩:=hq;exact⟨σ',H',I'.ig,q⟩
  | ret u=>obtain⟨v,σ',H',I',r,q⟩:=hq;exact⟨v,σ',H',I'.ig,r,q⟩
end
section
variable {X:Cx} {pins:List (Addr × Obj)} {σ : St} {H:Hp} {s:Shared} {e:Expr} {ta:TE} {pos:Pos}
theorem R7 {a CP:Addr} {dx:Option Addr} {c:Value} {b:Bool} {A:Around} {E':Value->Shared->Prop} {Q:Value->Shared->Prop} (I:Inv X pins σ H s) (ea:H a=some (fv a CP dx)) (cl:bL X.K CP) (hd:∀ d,dx=some d->∃ fs,H d=some (.xd fs))
  (e:PySem.W.kitOne X.K (.ref CP) c=some b) (h:∀ tk,Q (.bool b) { s with toks:=tk }):wpAny (model X.prog X.w) A (call (.builtin "isinstance") [.ref a,c]) Q E' s:=by
 obtain⟨vs,sl,ht⟩:=Ic (I.aO a _ ea)
 refine Xx (M6 cl) I.fJ ?_ e (fun z=>nomatch z) h
 cases dx with
 | none=>exact⟨_,none,ht,rfl,rfl,trivial⟩
 | some d =>
  obtain⟨fs,ed⟩:=hd d rfl
  obtain⟨mA,hn,_⟩:=(show ∃ mA,s.heap.Ns1 d mA/\∀ g,jB (fs.lookup g) (mA g) from I.aO d _ ed)
  obtain⟨od,ho,_⟩:=zx hn
  exact⟨_,some od,ht,rfl,rfl,ho⟩
theorem R8:jm X (.builtin "isinstance") (fun xs H Q=>∃ a C dx y c b,xs=[.ref a,y]/\nW y=some c/\H a=some (fv a C dx)/\bL X.K C/\(∀ d,dx=some d->∃ fs,H d=some (.xd fs))/\PySem.W.kitOne X.K (.ref C) c=some b/\Q (.bl b) H):=by
 intro pins s σ H xs us Q I rv h
 obtain⟨a,C,dx,y,c,b,rfl,hc,ea,cl,hd,e,q⟩:=h
 obtain⟨u,w',rfl,rx,ry⟩:=rv.two
 cases rx
 rw[Fo ry hc]
 exact R7 I ea cl hd e fun tk=>⟨.bl b,H,I.tok tk,rfl,q⟩
noncomputable def Ij (K:PySem.W.Frag) (ta:TE) (f:Str):TE:=fun σ H Q=>ta σ H fun x H1=>∃ a C d fs v,x = .ref a/\H1 a=some (fv a C (some d))/\bL K C/\zA K C f/\H1 d=some (.xd fs)/\fs.lookup f=some v/\Q v H1
theorem R9 {fn:Str} (he:PE X e ta) (hb:attributeBase e fn X.env (eval e X.env)=eval e X.env):PE X (.Attribute e fn pos) (Ij X.K ta fn):=by
 intro pins s σ H Q I h
 refine Lq hb (bt (he pins s σ H _ I h) fun u s1 ⟨x,H1,I1,rx,a,C,d,fs,v,ex,ea,c,n,ed,l,q⟩ => ?_)
 subst ex
 obtain rfl:u=Value.ref a:=rx
 obtain⟨vs,sl,ht⟩:=Ic (I1.aO a _ ea)
 obtain⟨mA,hn,hr⟩:=(show ∃ mA,s1.heap.Ns1 d mA/\∀ g,jB (fs.lookup g) (mA g) from I1.aO d _ ed)
 obtain⟨od,ho,hl⟩:=zx hn
 obtain⟨cd,fq,hm,i7⟩:=c.cd
 have R_:PySem.W.InstAt s1.heap a ⟨.ref C,some d,.fields vs,sl⟩ C (some od):=⟨ht,rfl,rfl,ho⟩
 have r:=hr fn
 rw[l] at r
 obtain⟨u,eu,ru⟩:=r.some_of
 refine M1 I1.fJ R_ c.ga c.gh c.base (PySem.W.findObj_own (by rw[PySem.W.hasDictIn,fq];simpa using i7) n rfl (by rw[hl,eu])) (Lo ru) ?_
 exact⟨v,H1,I1.tok _,ru,q⟩
theorem Sa {st:Stmt} {rest:List Stmt} {t:TS} (h:PS X st t):fK X (st :: rest) (fun D σ H=>t { D with nx:=fun _ _=>False } σ H):=by
 intro pins s σ H D I hw
 refine wpAny_execs_cons (bt (h pins s σ H _ I hw) fun f s1 hf => ?_)
 cases f with
 | next=>obtain⟨_,_,_,q⟩:=hf;exact False.elim q
 | brk=>exact hf
 | cont=>exact hf
 | ret u=>exact hf
end
theorem b7.Ik {P:Program} {w:World} {K:PySem.W.Frag} {mg:Str->Option Value} {base:Heap} {x qual:Str} {st:Stmt} {f:Addr} {fd:FuncData} {N ps:List Str} {k:Nat} {sp:Sp} (F:b7 K x qual st f fd) (S:dF N ps (bf st)) (len:∀ vs H Q E,sp vs H Q E->vs.length=ps.length)
  (de:∀ (aK:Value) (A:Around) (outer:List Env) (s:Shared) (H:Hp) (vs:List V) (Q:VK) (E:XK),bC k (A.deeper (envOfC qual (bf st) s.heap.objs.size f aK))->sp vs H Q E →
   ∃ t,cV (aS (mi P w) P w K mg base N qual (bf st) f aK A outer s H E) (dR st) t/\t { nx:=fun _ H'=>Q .non H',rt:=Q } (start N vs) H):aF P w K mg base (mi P w) (k + 1) f fd ps sp:=by
 obtain⟨oc,od,kV,doc,pm,an,aK,ct,mE,rfl,lk,fq⟩:=F.ex
 refine zE lk fq S len fun A outer s H vs Q E hr h => ?_
 obtain⟨t,g,q⟩:=de aK A outer s H vs Q E hr h
 exact⟨t,g.out,q⟩
variable [aV]
structure Kp (H H':Hp):Prop where
 keep:∀ a o,H a=some o->a∉aV.ad->H' a=some o
 tab:aV.ok H'
theorem Kp.none {H H':Hp} (x:Kp H H') {a:Addr} (h:H' a=none):H a=none:=by
 cases e:H a with
 | none=>rfl
 | some o =>
  by_cases c:a∈aV.ad
  ·obtain⟨ps,q⟩:=aV.tb x.tab c
   rw[h] at q;cases q
  ·rw[x.keep a o e c] at h;cases h
theorem gv.kp {F H F' H':Hp} {r:RV} {ows:List OV} {v:V} (p:gv F [] H r ows v F' H'):Kp H H':=⟨fun a o e n=>p.keep a o e (by simp) n,p.tab⟩
noncomputable def k_ (G:List D->Prop) (C:Addr) (n:Nat):Sp:=fun vs H Q E=>vs.length=n/\∃ F ds,SR F [] ⟨ds.map fun d=>some (.p d),[]⟩ (vs.map some) H/\G ds/\∀ H',Kp H H'->E (.ref C) none H'
theorem Sb {H:Hp} {a:Addr} {o:HO} (h:H a=none):jj (upd H a o) a=H:=by
 funext b
 unfold jj upd
 split
 ·rename_i e;rw[e];exact h.symm
 ·rfl
theorem Sd {Kf:PySem.W.Frag} {H:Hp} {C:Addr} {x:Str} {G:GD} {n:Nat} {N:List Str} {vs:List V} {Q:VK} {E:XK} {D:Ends} (M:qO Kf C none) (h:k_ (fun ds=>∃ d r,ds=d :: r/\∀ K':RV->List OV->Prop,K' (.p (.bl false)) []->G [.p d] [] K') C n vs H Q E) :
  qp (qm (tB (oZ (aR G 1) [] E0 (gi (d4 0) iX)))) (Ib Kf H (uJ C (gi (tC (.str x)) iX)) E) zo D (start N vs) H:=by
 obtain⟨hl,F,ds,S,⟨d,r,rfl,g⟩,k⟩:=h
 cases vs with
 | nil=>have:=S.len;simp at this
 | cons v vr =>
  refine⟨v,rfl,rfl,F,[],[.p d],[],fun r ows=>r = .p (.bl false)/\ows=[],?_,g _ ⟨rfl,rfl⟩,?_⟩
  ·refine⟨S.sub,S.off,S.cO,S.inj,S.mu,fun i y e => ?_,rfl,S.tab,S.nt⟩
   cases i with
   | zero=>exact S.sl 0 y e
   | succ i=>simp at e
  ·rintro r' ows ⟨rfl,rfl⟩ u F' H1 p
   have e:u = .bl false:=p.res
   refine⟨false,e,?_⟩
   dsimp only
   rw[Yb,VZ rfl]
   refine⟨(by show 1 <= sizeLine;decide),fun a ha=>⟨a,C,none,none,rfl,bH,M,p.kp.none ha,?_⟩⟩
   rw[Sb ha]
   exact k H1 p.kp
noncomputable abbrev Il (Kf:PySem.W.Frag):List V->Hp->VK->Prop:=fun xs H Q=>∃ p ys,xs=[.ref p]/\((bo Kf H p ys/\∀ l,H l=none->Q (.ref l) (upd H l (.tup ys)))\/(bT Kf H p ys/\Q (.ref p) H))
theorem Se {Kf:PySem.W.Frag} {F H H1:Hp} {a C:Addr} {eS:Sp} {wd:List D} {Q:VK} {ys:List DV} {σ : St} (hR:∀ H Q,H a=some (fv a C none)->(∀ r H',aA H H'->Is H' (.lst wd) r->Q r H')->eS [.ref a] H Q E0) (fl:∀ (H H':Hp) vs,af H wd vs->af H' wd vs)
  (S:SR F [] ⟨ys.map some,[]⟩ σ H) (kp:Kp H H1) (ha:H1 a=none) (kk:∀ v F' H',gv F [] H (.p (.tup wd)) [] v F' H'->Q v H') :
  eS [.ref a] (upd H1 a (fv a C none)) (fun r H2=>Il Kf [r] H2 Q) E0:=by
 refine hR _ _ bH fun r H3 sm h => ?_
 simp only[Is] at h
 obtain⟨p,vs,rfl,ep,hv⟩:=h
 refine⟨p,vs,rfl,.inl ⟨bo.of ep,fun t ht=>kk _ (upd F t (.tup vs)) _ ?_⟩⟩
 have n1:∀ b,H3 b=none->H1 b=none/\b≠a:=fun b hb=>by
  have ne:b≠a:=fun z=>by rw[z,sm _ _ (bH (H:=H1) (a:=a))] at hb;cases hb
  refine⟨?_,ne⟩
  cases q:H1 b with
  | none=>rfl
  | some o=>rw[sm b o (by rw[aH ne];exact q)] at hb;cases hb
 have up:∀ b o,H1 b=some o->upd H3 t (.tup vs) b=some o:=fun b o e=>by
  have e3:=sm b o (by rw[aH (cz e ha)];exact e)
  rw[aH (cz e3 ht)];exact e3
 have tk:aV.ok (upd H3 t (.tup vs)):=aV.same kp.tab fun b o e=>up b o e
 have tn:t∉aV.ad:=fun z=>by
  obtain⟨ps,q⟩:=aV.tb kp.tab z
  rw[(n1 t ht).1] at q;cases q
 have keep:∀ b o,H b=some o->b∉aV.ad->upd H3 t (.tup vs) b=some o:=fun b o e n=>up b o (kp.keep b o e n)
 refine⟨fun b o e => ?_,fun b o e => ?_,fun b o e => ?_,fun b o e _ n=>keep b o e n,tk,fun b hb => ?_,rfl,fun j ow e=>by simp at e,fun b hb=>by simp at hb,?_⟩
 ·by_cases c:b=t
  ·subst c;rw[bH] at e ⊢;exact e
  ·rw[aH c] at e
   exact keep b o (S.sub b o e) fun z=>by rw[S.nt b z] at e;cases e
 ·rw[aH (fun z=>by rw[z] at e;have:=S.sub _ _ e;rw[kp.none (n1 t ht).1] at this;cases this)];exact e
 ·by_cases c:b=t
  ·subst c;exact .inr (kp.none (n1 b ht).1)
  ·rw[aH c] at e;exact .inl e
 ·rw[aH (fun z=>tn (by rw[<-z];exact hb))];exact S.nt b hb
 ·show Is _ (.tup wd) _
  simp only[Is]
  exact⟨t,vs,rfl,bH,fl _ _ _ hv⟩
noncomputable abbrev Im (Kf:PySem.W.Frag) (L:Addr) (sp:Sp) (E1:Option XK) (eS:Sp):TS :=
 jD (bU (tC .non) (gg 1)) (jD (bU (tC .non) (gg 2)) (jD (v9 Kf L 3 (fun E=>bU (oZ sp [] (E1.getD E) (gi (d4 0) iX)) (gg 2)) (bU (d4 3) (gg 1)))
  (qo (zj (tB (qk (d4 1))) (d4 2) (sy (Il Kf) (gi (oZ eS [] E0 (gi (d4 1) iX)) iX))))))
theorem Sf {Kf:PySem.W.Frag} {F H:Hp} {L C:Addr} {eS:Sp} {wd:List D} {G:List D->Prop} {Q:VK} {d:D} {v:V} {N:List Str} (hN:N.length=4) (hx:PySem.W.exmOne Kf (.ref C) (.ref L)=some true)
  (hR:∀ a H Q,H a=some (fv a C none)->(∀ r H',aA H H'->Is H' (.lst wd) r->Q r H')->eS [.ref a] H Q E0) (fl:∀ (H H':Hp) vs,af H wd vs->af H' wd vs)
  (S:SR F [] ⟨[some (.p d)],[]⟩ [some v] H) (g:G [d]) (kk:∀ v F' H',gv F [] H (.p (.tup wd)) [] v F' H'->Q v H'):Im Kf L (k_ G C 1) none eS { nx:=fun _ H'=>Q .non H',rt:=Q } (start N [v]) H:=by
 have e:start N [v]=[some v,none,none,none]:=by unfold start;rw[hN];rfl
 rw[e]
 refine⟨v,rfl,rfl,F,[d],S,g,fun H1 kp=>⟨C,rfl,hx,fun a ha=>⟨.ref a,rfl,?_⟩⟩⟩
 refine⟨.ref a,rfl,false,rfl,?_⟩
 dsimp only
 rw[My EY]
 exact⟨.ref a,rfl,Se (ys:=[.p d]) (hR a) fl S kp ha kk⟩
theorem Sg {Kf:PySem.W.Frag} {H:Hp} {L:Addr} {CQ eS:Sp} {Q:VK} {v:V} {N:List Str} (hN:N.length=4) (h:CQ [v] H Q E0) (mono:∀ Q':VK,(∀ v H',Q v H'->Q' v H')->CQ [v] H Q' E0):Im Kf L CQ (some E0) eS { nx:=fun _ H'=>Q .non H',rt:=Q } (start N [v]) H:=by
 have e:start N [v]=[some v,none,none,none]:=by unfold start;rw[hN];rfl
 rw[e]
 refine⟨v,rfl,mono _ fun u H1 q => ?_⟩
 refine⟨.non,rfl,true,rfl,?_⟩
 dsimp only
 rw[VZ rfl]
 exact⟨u,rfl,q⟩
end L2
namespace LJ
open PySem L2
structure ExcAt (H:Hp) (a C:Addr) (dx:Option Addr):Prop where
 ob:H a=some (fv a C dx)
 dd:∀ d,dx=some d->∃ fs,H d=some (.xd fs)
theorem ExcAt.same {H H':Hp} {a C:Addr} {dx:Option Addr} (x:ExcAt H a C dx) (s:aA H H'):ExcAt H' a C dx:=⟨s _ _ x.ob,fun d e=>let ⟨fs,h⟩:=x.dd d e; ⟨fs,s _ _ h⟩⟩
structure CS (K:PySem.W.Frag) (L:Addr) (Cs:List Addr):Prop where
 len:Cs.length=13
 each:∀ (j:Nat) (C:Addr),Cs[j]? = some C->bL K C/\PySem.W.kitOne K (.ref C) (.ref L)=some true/\PySem.W.kitOne K (.ref C) (.type "ValueError")=some true/\∀ (i:Nat) (C':Addr),Cs[i]? = some C'->PySem.W.kitOne K (.ref C) (.ref C')=some (decide (i=j))
 above:bL K L/\PySem.W.kitOne K (.ref L) (.ref L)=some true/\PySem.W.kitOne K (.ref L) (.type "ValueError")=some true/\∀ (i:Nat) (C':Addr),Cs[i]? = some C'->PySem.W.kitOne K (.ref L) (.ref C')=some false
 oM:∀ (j:Nat) (C:Addr),Cs[j]? = some C->zA K C "place"
noncomputable def fw:List Str:=["way", "join", "step", "house", "web", "price", "many", "closed", "free", "nothing", "number", "text", "line"]
theorem ml {H:Hp} {a:Addr} {o:HO} (h:H a=none):aA H (upd H a o):=fun b u e=>by rw[aH (cz e h)];exact e
noncomputable def names13:List Str:=["NoWay", "NoJoin", "NoStep", "NoHouse", "NoWeb", "NoPrice", "TooMany", "Closed", "Free", "Nothing", "NoNumber", "NoText", "NoLine"]
noncomputable def eT:List Str:=["way", "join", "step", "house", "web", "price", "many", "closed", "free", "nothing", "number", "text"]
structure CT (mg:Str->Option Value) (L:Addr) (Cs:List Addr):Prop where
 jT:mg "isinstance" = none
 VE:mg "ValueError" = none
 Sh:mg "LotError" = some (.ref L)
 cls:∀ (j:Nat) (x:Str),names13[j]? = some x->∃ C,Cs[j]? = some C/\mg x=some (.ref C)
theorem Si:bootBuiltins "ValueError" = some (.type "ValueError"):=by decide +kernel
section
variable {X:Cx} {a C:Addr} {dx:Option Addr}
noncomputable def jk (a C:Addr) (dx:Option Addr) (v:Bool):TE:=fun σ H Q => σ[0]? = some (some (.ref a))/\ExcAt H a C dx/\Q (.bl v) H
noncomputable def oN (a C:Addr) (dx:Option Addr) (vs:List Bool):TA:=fun σ H Q => σ[0]? = some (some (.ref a))/\ExcAt H a C dx/\Q (vs.map V.bl) H
noncomputable def sd (a C:Addr) (dx:Option Addr) (vs:List Bool):TE:=fun σ H Q => σ[0]? = some (some (.ref a))/\ExcAt H a C dx/\∀ (l:Addr) (H':Hp),aA H H'->H' l=some (.lst (vs.map V.bl))->Q (.ref l) H'
noncomputable def mn (a C:Addr) (dx:Option Addr) (us vs:List Bool):TE:=fun σ H Q=>∃ l:Addr,σ[0]? = some (some (.ref a)) /\ σ[1]? = some (some (.ref l))/\H l=some (.lst (us.map V.bl))/\ExcAt H a C dx/\∀ (l':Addr) (H':Hp),aA H H'->H' l'=some (.lst ((us ++ vs).map V.bl))->Q (.ref l') H'
theorem jU {y z:Str} {p q r pos:Pos} {cv:V} {c:Value} {v:Bool} (h0:JE X (.Name y q) (d4 0)) (hz:JE X (.Name z r) (tC cv)) (hc:nW cv=some c) (cl:bL X.K C) (kt:PySem.W.kitOne X.K (.ref C) c=some v) (hg:Gl X "isinstance") (hm:X.mg "isinstance" = none) :
  JE X (.Call (.Name "isinstance" p) [.Name y q,.Name z r] [] pos) (jk a C dx v) :=
 (xb R8 hg hm ZH (gr h0 (gr hz aU)) (by decide) (by decide) rfl rfl).weak fun σ H Q ⟨e0,e,q⟩=>⟨_,e0,a,C,dx,_,_,_,rfl,hc,e.ob,cl,e.dd,kt,q⟩
theorem v_:JA X [] (oN a C dx []):=aU.weak fun σ H Q ⟨_,_,q⟩=>q
theorem kM {f:Expr} {as es:List Expr} {k:List Keyword} {p:Pos} {v:Bool} {vs:List Bool} (h:JE X (.Call f as k p) (jk a C dx v)) (r:JA X es (oN a C dx vs)):JA X (.Call f as k p :: es) (oN a C dx (v :: vs)) :=
 (kA h r).weak fun σ H Q ⟨e0,e,q⟩=>⟨e0,e,e0,e,q⟩
theorem wa {es:List Expr} {pos:Pos} {vs:List Bool} (h:JA X es (oN a C dx vs)) (hl:vs.length <= 20):JE X (.List es pos) (sd a C dx vs) :=
 (pq h).weak fun σ H Q ⟨e0,e,q⟩=>⟨e0,e,(by rw[sE];exact i8 hl),fun l hl=>q l _ (ml hl) bH⟩
theorem yH {n:Str} {q p pos:Pos} {es:List Expr} {us vs:List Bool} (h1:JE X (.Name n q) (d4 1)) (h:JE X (.List es p) (sd a C dx vs)) (hl:us.length + vs.length <= 20):JE X (.BinOp (.Name n q) .Add (.List es p) pos) (mn a C dx us vs) :=
 (qP wR h1 h).weak fun σ H Q ⟨l,e0,e1,i_,e,q⟩=>⟨_,e1,e0,e,fun m H1 s hm=>⟨l,m,_,_,rfl,rfl,s _ _ i_,hm,(by rw[sE,sE];exact i8 hl),fun p hp=>q p _ (s.trans (ml hp)) (by rw[Xk];exact bH)⟩⟩
theorem Sj {es:List Expr} {pos:Pos} (ss:List Str) (h:strsOf es=some ss) (hl:ss.length <= 20):JE X (.List es pos) (fun _ H Q=>∀ p,H p=none->Q (.ref p) (upd H p (.lst (ss.map V.str)))):=NS h (i8 hl)
theorem Sk {e:Expr} {ta:TE} {fn:Str} {pos:Pos} (he:JE X e ta) (hb:attributeBase e fn X.env (eval e X.env)=eval e X.env):JE X (.Attribute e fn pos) (Ij X.K ta fn):=⟨R9 he.out hb⟩
end
noncomputable def eU (b:Nat->Bool):List Bool:=[b 0,b 1,b 2,b 3,b 4,b 5,b 6,b 7,b 8,b 9,b 10,b 11,b 12]
noncomputable def cnt (us:List Bool):Nat:=(us.map V.bl).countP fun z=>g9 z (.bl true)
theorem CU:∀ us:List Bool,(us.map V.bl).all kP=true
 | []=>rfl
 | _ :: us=>by rw[W8,Z9,CU us];rfl
theorem Sl {j:Nat} (h:j < 4):(eT.map V.str)[j]? = some (.str (fw.getD j "")):=by
 rcases j with _ | _ | _ | _ | j
 ·rfl
 ·rfl
 ·rfl
 ·rfl
 ·omega
theorem Sm {j:Nat} (h:j < 13):(eT.map V.str ++ [V.str "line"])[j]? = some (.str (fw.getD j "")):=by
 rcases j with _ | _ | _ | _ | _ | _ | _ | _ | _ | _ | _ | _ | _ | j
 ·rfl
 ·rfl
 ·rfl
 ·rfl
 ·rfl
 ·rfl
 ·rfl
 ·rfl
 ·rfl
 ·rfl
 ·rfl
 ·rfl
 ·rfl
 ·omega
noncomputable def CV (j:Nat) (n:Int):List V:=if j < 4 then [.str (fw.getD j ""),.int n] else [.str (fw.getD j "")]
noncomputable def eS (Cs:List Addr):Sp:=fun vs H Q _=>∃ (j:Nat) (n:Int) (a C:Addr) (dx:Option Addr),vs=[.ref a]/\j < 13/\Cs[j]? = some C/\ExcAt H a C dx/\(j < 4->∃ d,dx=some d/\H d=some (.xd [("place",.int n)]))/\∀ (l:Addr) (H':Hp),aA H H'->H l=none->H' l=some (.lst (CV j n))->Q (.ref l) H'
theorem Sn:∀ j:Nat,j < 13->cnt (eU fun i=>decide (i=j))=1:=by decide
theorem Io {b:Nat->Bool} {i:Nat} {z:V} (h:((eU b).map V.bl)[i]? = some z):z = .bl (b i):=by
 unfold eU at h
 rcases i with _ | _ | _ | _ | _ | _ | _ | _ | _ | _ | _ | _ | _ | i<;>simp at h<;>exact h.symm
variable [aV]
noncomputable def sg:D->Int × Int × Int
 | .tup [.int i,.int j,.int p]=>(i,j,p)
 | _=>(0,0,0)
theorem Ip {d:D} (h:eM d=true):∃ m ws,d=cy m ws/\kB m ws:=by
 unfold eM at h
 split at h
 ·rename_i m ws
  rw[VY] at h
  obtain⟨h1,h2⟩:=h
  split at h2
  ·rename_i i
   cases ws with
   | tup us =>
    have h2:(decide (us.length <= 30) && (us.all (bN i) && decide ((us.map pairOf).Nodup)))=true:=h2
    simp only[VY,Xt] at h2
    obtain⟨a,b,c⟩:=h2
    have h1:(decide (1 <= i) && decide (i <= 12))=true:=h1
    simp only[VY,Xt] at h1
    have all:∀ w∈us,bN i w=true:=Xb.mp b
    have e:us=(us.map sg).map cU:=by
     rw[Xf]
     conv=>lhs;rw[<-Zv us]
     refine XE fun w hw => ?_
     obtain⟨x,y,z,rfl,_⟩:=vH (all w hw)
     rfl
    refine⟨i,us.map sg,by show D.tup [.int i,.tup us] = .tup [.int i,.tup _];rw[<-e],?_⟩
    have pe:(us.map sg).map (fun y=>(y.1,y.2.1))=us.map pairOf:=by
     rw[Xf]
     refine XE fun w hw => ?_
     obtain⟨x,y,z,rfl,_⟩:=vH (all w hw)
     rfl
    refine⟨h1.1,h1.2,by rw[sE];exact a,fun y hy => ?_,by rw[pe];exact c⟩
    obtain⟨w,hw,rfl⟩:=WQ.mp hy
    obtain⟨x,y,z,rfl,q⟩:=vH (all w hw)
    exact q
   | _=>cases h2
  ·cases h2
 ·cases h
noncomputable def si:List D->Prop:=fun ds=>∃ d r,ds=d :: r/\eM d=false
theorem So {C:Addr} {n:Nat} {vs:List V} {H:Hp} {Q:VK} {E:XK} (h:k_ si C n vs H Q E):k_ (fun ds=>∃ d r,ds=d :: r/\∀ K':RV->List OV->Prop,K' (.p (.bl false)) []->pV [.p d] [] K') C n vs H Q E:=by
 obtain⟨hl,F,ds,S,⟨d,r,e,q⟩,k⟩:=h
 exact⟨hl,F,ds,S,⟨d,r,e,fun K' k'=>⟨d,rfl,rfl,by rw[q];exact k'⟩⟩,k⟩
theorem Sq {G:List D->Prop} {C:Addr} {vs:List V} {H:Hp} {Q:VK} {E:XK} {N:List Str} {D':Ends} (h:k_ G C 1 vs H Q E):zp (oZ (k_ G C 1) [] E (gi (d4 0) iX)) D' (start N vs) H:=by
 obtain⟨v,rfl⟩:=Zk.mp h.1
 exact⟨v,rfl,h.1,h.2⟩
theorem Sr {Cs:List Addr} {C a:Addr} {H:Hp} {Q:VK} (hc:Cs[4]? = some C) (e:H a=some (fv a C none)) (k:∀ r H',aA H H'->Is H' (.lst [.str "web"]) r->Q r H'):eS Cs [.ref a] H Q E0 :=
 ⟨4,0,a,C,none,rfl,by decide,hc,⟨e,fun d z=>by cases z⟩,fun z=>absurd z (by decide),fun l H' s _ hH=>k _ _ s (by simp only[Is];exact⟨l,_,rfl,hH,.cons (by simp only[Is];rfl) .nil⟩)⟩
theorem Ss:∀ (H H':Hp) vs,af H [.str "web"] vs->af H' [.str "web"] vs:=fun H H' vs h=>by
 simp only[af,Is] at h ⊢
 exact h
theorem CW {P:Program} {w:World} {K:PySem.W.Frag} {mg:Str->Option Value} {base:Heap} {k n:Nat} {f:Addr} {fd:FuncData} {ps:List Str} {g1 g2:GD} (a:aF P w K mg base aW k f fd ps (aR g1 n)) (b:aF P w K mg base aW k f fd ps (aR g2 n)):aF P w K mg base aW k f fd ps (aR (fun ys ao K=>g1 ys ao K\/g2 ys ao K) n):=by
 refine⟨fun vs H Q E h => ?_,fun A outer s H args us vs Q E hr he hb hv h => ?_⟩
 ·obtain⟨hl,F,ad,ys,ao,K,S,g | g,kk⟩:=h
  ·exact a.len vs H Q E ⟨hl,F,ad,ys,ao,K,S,g,kk⟩
  ·exact b.len vs H Q E ⟨hl,F,ad,ys,ao,K,S,g,kk⟩
 ·obtain⟨hl,F,ad,ys,ao,K,S,g | g,kk⟩:=h
  ·exact a.run A outer s H args us vs Q E hr he hb hv ⟨hl,F,ad,ys,ao,K,S,g,kk⟩
  ·exact b.run A outer s H args us vs Q E hr he hb hv ⟨hl,F,ad,ys,ao,K,S,g,kk⟩
noncomputable def wb:D := .tup [.str "web"]
noncomputable def wc:GD:=fun ys ao K=>∃ d,ys=[.p d]/\ao=[]/\(∀ m ws,d=cy m ws->kB m ws->∀ ns,bJ ws ns->K (.n (ns.map D.int)) [])/\(eM d=false->K (.p wb) [])
noncomputable def yI:GD:=fun ys ao K=>LJ.ak 2 ys ao K\/LJT.ak 2 ys ao K
noncomputable abbrev tw:=yI
noncomputable def CY:WS:=(az (iz (mR (aj (dC (.int 5)) ai)) (dB 2) (az (bu 3 (ay 3 vA (aj (ay 1 vy (aj (ae 1) ai)) (aj (dC (.int 12)) (aj (dC (.int 30)) ai))))) (az (iz (mR (aj (dC (.int 2)) ai)) (dB 4) (az (bu 5 (u3 1 wc (aj (ae 3) ai))) (az (br (dH (dT (ay 2 tw (aj (ae 5) (aj (ay 1 tH (aj (ae 3) ai)) ai))))) (aI (dC (.bl false))) cR) (qV (lV (ae 5) (aj (dC (.int 0)) ai)))))) (iz (mR (aj (dC (.int 3)) ai)) (dB 6) (az (bu 7 (ay 3 (l6 3) (aj (ae 1) (aj (ae 3) (aj (dC (.int 3)) ai))))) (az (bu 8 (AX (dT (ay 1 vK (aj (ae 7) ai))) (ay 1 tH (aj (ae 7) ai)) (cQ (aj (dC (.str "web")) ai)))) (br (dH (dT (ay 2 tw (aj (ay 1 wc (aj (ae 7) ai)) (aj (ae 8) ai))))) (aI (dC (.bl false))) cR))))))) (aI (dC (.bl true))))
noncomputable abbrev KL:KS:=⟨fun _=>False,fun x _=>x = .p (.bl true),fun _=>False,fun _=>False⟩
theorem Iq (us:List Int) (hl:us.length <= 1000):kQ (.lst (us.map D.int))=true:=by
 have:∀ us:List Int,ph (us.map D.int)=true:=fun us=>by
  induction us with
  | nil=>rfl
  | cons n r ih=>simp only[W8,ph,kQ,ih,Bool.and_self]
 simp only[kQ,this,sE,WN hl,Bool.and_self]
theorem Ir:∀ us:List Int,dep (.lst (us.map D.int)) <= 2:=fun us=>by
 have:∀ us:List Int,bg (us.map D.int) <= 1:=fun us=>by
  induction us with
  | nil=>simp[bg]
  | cons n r ih=>simp only[W8,bg,dep];omega
 have:=this us
 simp only[dep]
 omega
theorem Su {m:Int} {ws:List (Int × Int × Int)} (h:kB m ws):Bd 30 3 (cy m ws):=by
 refine cb.mpr ⟨by show 2 <= 30;omega,fun d hd => ?_⟩
 simp only[EZ,WC,Xy] at hd
 rcases hd with rfl | rfl
 ·exact⟨W5 _,W5 _⟩
 ·refine cb.mpr ⟨by rw[sE];exact h.lH,fun d hd => ?_⟩
  obtain⟨y,_,rfl⟩:=WQ.mp hd
  refine cb.mpr ⟨by show 3 <= 30;omega,fun d hd => ?_⟩
  simp only[EZ,WC,Xy] at hd
  rcases hd with rfl | rfl | rfl<;>exact⟨W5 _,W5 _⟩
theorem Iu {m m':Int} {ws oO:List (Int × Int × Int)} (h:cy m ws=cy m' oO):m=m'/\ws=oO:=by
 have h:D.tup [.int m,.tup (ws.map cU)] = .tup [.int m',.tup (oO.map cU)]:=h
 injection h with h
 injection h with h1 h2
 injection h1 with h1
 injection h2 with h2 _
 injection h2 with h2
 refine⟨h1,?_⟩
 have inj:∀ us vs:List (Int × Int × Int),us.map cU=vs.map cU->us=vs:=fun us=>by
  induction us with
  | nil=>intro vs e;cases vs with
   | nil=>rfl
   | cons _ _=>cases e
  | cons u r ih=>intro vs e;cases vs with
   | nil=>cases e
   | cons v t =>
    rw[W8,W8] at e
    injection e with e1 e2
    have e1:D.tup [.int u.1,.int u.2.1,.int u.2.2] = .tup [.int v.1,.int v.2.1,.int v.2.2]:=e1
    simp only[D.tup.injEq,List.cons.injEq,D.int.injEq,and_true] at e1
    rw[ih t e2,show u=v from Prod.ext e1.1 (Prod.ext e1.2.1 e1.2.2)]
 exact inj ws oO h2
theorem Sv (ns:List Int) (hn:ns.length <= 63):CY KL ⟨none :: some (.o 0) :: List.replicate 7 none,[some (jM ns 0 0)]⟩:=by
 unfold CY
 refine aX fun N hN => ?_
 simp? only []
 refine⟨by decide,?_⟩
 refine sY (fun i δ => ∃ o,bp (1000 * i) o /\ δ = ⟨none :: some (.o 0) :: List.replicate 7 none,[some o]⟩) ⟨jM ns 0 0,⟨ns,0,0,rfl,hn,by omega,by omega⟩,rfl⟩ ?_ ?_
 ·rintro j d δ L hj ⟨o,P,rfl⟩ hL
  obtain⟨Iv,rfl⟩:=oy hj
  have Iv:j < 5:=Iv
  refine⟨trivial,?_⟩
  simp only[dB,XD,List.replicate_zero,XU,XW]
  refine aX fun N2 kG => ?_
  simp? only []
  refine⟨1000 * j,o,rfl,rfl,P,fun o1 P1 => ?_⟩
  simp? only []
  refine⟨1000 * j,12,30,o1,rfl,rfl,P1,by omega,by omega,by omega,by omega,by omega,fun m ws o2 W _ _ P2 => ?_⟩
  simp? only []
  subst kG
  refine aX fun N2 kG=>Hm fun g' b' K2 hg iJ hK => ?_
  simp? only []
  refine⟨by decide,?_⟩
  subst hg iJ hK
  refine sY (fun i δ => δ = ⟨[none,some (.o 0),some (.p (.int (0 + (j:Int)))),some (.p (cy m ws)),none,none,none,none,none],[some o2]⟩) rfl ?_ ?_
  ·rintro i d δ L2 hi rfl CZ
   refine⟨trivial,?_⟩
   simp only[dB,XU,XW]
   refine aX fun N3 qb => ?_
   simp? only []
   refine⟨cy m ws,rfl,rfl,fun m' oO e W' qC ho => ?_,fun z => ?_⟩
   ·obtain⟨rfl,rfl⟩:=Iu e
    simp? only []
    subst qb
    refine aX fun N3 qb=>tj fun Ay Bn hA hB => ?_
    simp? only []
    refine⟨m,ws,W,rfl,rfl,fun ms jl => ?_⟩
    have:=jl.one W ho
    subst this
    simp? only []
    have hl:ms.length <= 30:=by have:=jl.len;have:=W.lH;omega
    refine .inl ⟨B8 ms,Ir _,by decide,Iq _ (by omega),.inr ⟨ms.map D.int,rfl,rfl,rfl,?_⟩⟩
    simp? only []
    subst hB
    simp? only []
    subst qb
    simp? only []
    exact⟨by omega,CZ _ rfl⟩
   ·rw[yy W] at z;cases z
  ·rintro δ rfl
   refine⟨trivial,?_⟩
   show N2 _
   subst kG
   refine Hm fun g' b' K2 hg iJ hK => ?_
   simp? only []
   refine⟨by decide,?_⟩
   subst hg iJ hK
   refine sY (fun i δ => ∃ o',bp (1000 * j + 300 + 16 * i) o' /\ δ = ⟨[none,some (.o 0),some (.p (.int (0 + (j:Int)))),some (.p (cy m ws)),none,none,none,none,none],[some o']⟩) ⟨o2,P2.mono (by omega),rfl⟩ ?_ ?_
   ·rintro i d δ L2 hi ⟨o',P',rfl⟩ CZ
    obtain⟨Iw,rfl⟩:=oy hi
    have Iw:i < 3:=Iw
    refine⟨trivial,?_⟩
    simp only[dB,XU,XW]
    refine aX fun N3 qb => ?_
    simp? only []
    refine⟨1000 * j + 300 + 16 * i,3,30,3,cy m ws,o',rfl,rfl,P',by omega,by decide,by decide,Su W,by decide,by decide,by decide,fun t kg b' lY => ?_⟩
    simp? only []
    subst qb
    refine aX fun N3 qb => ?_
    simp? only []
    refine⟨t,rfl,rfl,?_⟩
    have fin:L2 ⟨[none,some (.o 0),some (.p (.int (0 + (j:Int)))),some (.p (cy m ws)),none,none,none,none,none],[some kg]⟩:=CZ _ ⟨kg,lY.mono (by omega),rfl⟩
    cases q:eM t
    ·simp? only []
     subst qb
     refine tj fun Ay Bn hA hB => ?_
     simp? only []
     refine⟨t,rfl,rfl,fun m' oO e W' => ?_,fun _ => ?_⟩
     ·rw[e,yy W'] at q;cases q
     ·simp? only []
      refine .inr ⟨wb,by decide,by decide,by decide,rfl,rfl,?_⟩
      simp? only []
      subst hB
      simp? only []
      exact fin
    ·obtain⟨m',oO,rfl,W'⟩:=Ip q
     simp? only []
     refine⟨m',oO,W',rfl,rfl,fun ms ho => ?_⟩
     simp? only []
     subst qb
     refine tj fun Ay Bn hA hB => ?_
     simp? only []
     refine⟨cy m' oO,rfl,rfl,fun m2 Wz e W2 Iy fV => ?_,fun z => ?_⟩
     ·obtain⟨rfl,rfl⟩:=Iu e
      have:=fV.one W' ho
      subst this
      have hl:Iy.length <= 30:=by have:=fV.len;have:=W'.lH;omega
      simp? only []
      refine .inl ⟨B8 Iy,Ir _,by decide,Iq _ (by omega),.inl ⟨rfl,rfl,?_⟩⟩
      simp? only []
      subst hB
      simp? only []
      exact fin
     ·rw[yy W'] at z;cases z
   ·rintro δ ⟨o',P',rfl⟩
    refine⟨trivial,?_⟩
    exact hL _ ⟨o',P'.mono (by rw[mS];show _ <= _;simp;omega),rfl⟩
 ·rintro δ ⟨o,P,rfl⟩
  refine⟨trivial,?_⟩
  show N _
  subst hN
  simp? only []
end LJ
namespace LJ
open PySem L2
noncomputable def top (i:Nat):Stmt:=PySem.Challenge.pw_lotjoin_k02_ways_in_order.main.body.getD i (.Pass ⟨0,0,0,0⟩)
section
variable [aV] {P:Program} {w:World} {K:PySem.W.Frag} {mg:Str->Option Value} {base:Heap}
noncomputable abbrev C0:Stmt:=top 19
theorem fE:dF ["thing"] ["thing"] (bf C0):=⟨rfl,rfl,rfl,by decide +kernel,rfl,by decide +kernel,by decide +kernel⟩
theorem Sw {f:Addr} {fd:FuncData} (F:b7 K "is_whole" "is_whole" C0 f fd) (B:BT mg):aF P w K mg base aW 1 f fd ["thing"] (aR tu 1):=by
 refine F.gB (k:=0) fE fun aK A outer s H E hr => ?_
 have nd:=fE.nd
 have hu:=hr.units
 exact⟨BS,(bE (bM (jw (dm sW (by rfl) B.isinstance (by rfl) B.int sN (dv 0)) (j_ (FU (dm mU (by rfl) B.isinstance (by rfl) B.bool mO (dv 0))))))),Ht⟩
noncomputable abbrev C1:Stmt:=top 20
theorem eV:dF ["thing", "least", "most"] ["thing", "least", "most"] (bf C1):=⟨rfl,rfl,rfl,by decide +kernel,rfl,by decide +kernel,by decide +kernel⟩
theorem Sx {f Sy:Addr} {fd Sz:FuncData} (F:b7 K "is_within" "is_within" C1 f fd) (B:BT mg) (cI:Fn P w K mg base 1 "is_whole" ["thing"] (aR tu 1) Sy Sz):aF P w K mg base aW 2 f fd ["thing", "least", "most"] (aR lZ 3):=by
 refine F.gB (k:=1) eV fun aK A outer s H E hr => ?_
 have nd:=eV.nd
 have hu:=hr.units
 exact⟨BU,(bE (bM (jw (bV cI.ok (hr.mono (by decide)) (by rfl) cI.bD cI.kp cI.bd (aq (dv 0) aG)) (j_ (Gs xO xO (dv 1) (dv 0) (dv 2)))))),Hu⟩
noncomputable abbrev C2:Stmt:=top 21
theorem dt:dF ["thing", "size"] ["thing", "size"] (bf C2):=⟨rfl,rfl,rfl,by decide +kernel,rfl,by decide +kernel,by decide +kernel⟩
theorem SA {f:Addr} {fd:FuncData} (F:b7 K "is_tuple_of" "is_tuple_of" C2 f fd) (B:BT mg):aF P w K mg base aW 1 f fd ["thing", "size"] (aR rM 2):=by
 refine F.gB (k:=0) dt fun aK A outer s H E hr => ?_
 have nd:=dt.nd
 have hu:=hr.units
 exact⟨BV,(bE (bM (jw (dm lU (by rfl) B.isinstance (by rfl) B.tuple j4 (dv 0)) (j_ (jK (iO hu) (gP iP (by rfl) B.len Xa (aq (dv 0) aG)) (dv 1) (by rfl)))))),Ql⟩
noncomputable abbrev C3:Stmt:=top 22
theorem fF:dF ["many", "one", "other"] ["many", "one", "other"] (bf C3):=⟨rfl,rfl,rfl,by decide +kernel,rfl,by decide +kernel,by decide +kernel⟩
theorem SD {f we:Addr} {fd wg:FuncData} (F:b7 K "are_ends" "are_ends" C3 f fd) (B:BT mg) (ar:Fn P w K mg base 2 "is_within" ["thing", "least", "most"] (aR lZ 3) we wg):aF P w K mg base aW 3 f fd ["many", "one", "other"] (aR vD 3):=by
 refine F.gB (k:=2) fF fun aK A outer s H E hr => ?_
 have nd:=fF.nd
 have hu:=hr.units
 exact⟨BW,(bE (bM (jw (bV ar.ok (hr.mono (by decide)) (by rfl) ar.bD ar.kp ar.bd (aq (dv 1) (aQ aw (eI (bz kY (dv 0) aw) aG)))) (j_ (bV ar.ok (hr.mono (by decide)) (by rfl) ar.bD ar.kp ar.bd (aq (dv 2) (eI (bz eg (dv 1) aw) (eI (bz kY (dv 0) aw) aG)))))))),Qm⟩
noncomputable abbrev C4:Stmt:=top 23
theorem ij:dF ["many", "thing"] ["many", "thing"] (bf C4):=⟨rfl,rfl,rfl,by decide +kernel,rfl,by decide +kernel,by decide +kernel⟩
theorem SE {f C5 SF we:Addr} {fd C6 SG wg:FuncData} (F:b7 K "is_way" "is_way" C4 f fd) (B:BT mg) {Iz:Value} (IA:RelV (.int 1000000000) Iz/\mg "MOST_PRICE" = some Iz) (aM:Fn P w K mg base 1 "is_tuple_of" ["thing", "size"] (aR rM 2) C5 C6) (cJ:Fn P w K mg base 3 "are_ends" ["many", "one", "other"] (aR vD 3) SF SG) (ar:Fn P w K mg base 2 "is_within" ["thing", "least", "most"] (aR lZ 3) we wg):aF P w K mg base aW 4 f fd ["many", "thing"] (aR vE 2):=by
 refine F.gB (k:=3) ij fun aK A outer s H E hr => ?_
 have nd:=ij.nd
 have hu:=hr.units
 exact⟨BX,(bA (cW (j9 (fB (bV aM.ok (hr.mono (by decide)) (by rfl) aM.bD aM.kp aM.bd (aq (dv 1) (aQ aw aG))))) (bE (bM gO)) dh) (bE (bM (jw (bV cJ.ok (hr.mono (by decide)) (by rfl) cJ.bD cJ.kp cJ.bd (aq (dv 0) (bQ (bX bY (dv 1) aw (fun _ _=>rfl)) (bQ (bX bY (dv 1) aw (fun _ _=>rfl)) aG)))) (j_ (bV ar.ok (hr.mono (by decide)) (by rfl) ar.bD ar.kp ar.bd (bQ (bX bY (dv 1) aw (fun _ _=>rfl)) (aQ aw (aq (AV (i:=1000000000) (by rfl) IA.2 IA.1) aG))))))))),Qn⟩
noncomputable abbrev C7:Stmt:=top 24
theorem fG:dF ["many", "thing"] ["many", "thing"] (bf C7):=⟨rfl,rfl,rfl,by decide +kernel,rfl,by decide +kernel,by decide +kernel⟩
theorem SH {f SI:Addr} {fd SJ:FuncData} (F:b7 K "are_ways" "are_ways" C7 f fd) (B:BT mg) {IB:Value} (IC:RelV (.int 30) IB/\mg "MOST_WAYS" = some IB) (eW:Fn P w K mg base 4 "is_way" ["many", "thing"] (aR vE 2) SI SJ):aF P w K mg base aW 5 f fd ["many", "thing"] (aR vI 2):=by
 refine F.gB (k:=4) fG fun aK A outer s H E hr => ?_
 have nd:=fG.nd
 have hu:=hr.units
 exact⟨BY,(bA (cW (JW.jt (lK (j9 (fB (dm lU (by rfl) B.isinstance (by rfl) B.tuple j4 (dv 1)))) (oh (d7 rz (gP iP (by rfl) B.len Xa (aq (dv 1) aG)) (AV (i:=30) (by rfl) IC.2 IC.1) (by rfl))))) (bE (bM gO)) dh) (bA (cW (j9 (fB (gP (OJ rfl) (by rfl) B.all N5 (eI (pE [none,some 0] ["way", "many"] rfl (pG (dv 1)) (fun d=>(fD (i:=0) (show (["way", "many"]:List Str).Nodup by decide +kernel) rfl (by trivial))) (fun d=>oq) (fun d=>(bV eW.ok (hr.mono (by decide)) (by rfl) eW.bD eW.kp eW.bd (aq (dv 1) (aq (dv 0) aG))))) aG)))) (bE (bM gO)) dh) (bE (bM (jK (iO hu) (Qh rfl hu (by rfl) B.len Xa (by rfl) B.set N4 (eI (pE [none] ["way"] rfl (pG (dv 1)) (fun d=>(fD (i:=0) (show (["way"]:List Str).Nodup by decide +kernel) rfl (by trivial))) (fun d=>oq) (fun d=>(pS (dv 0) pK (pL aw)))) aG)) (gP iP (by rfl) B.len Xa (aq (dv 1) aG)) (by rfl)))))),Qo⟩
noncomputable abbrev C8:Stmt:=top 25
theorem ik:dF ["thing"] ["thing"] (bf C8):=⟨rfl,rfl,rfl,by decide +kernel,rfl,by decide +kernel,by decide +kernel⟩
theorem SK {f C5 we SM:Addr} {fd C6 wg SN:FuncData} (F:b7 K "is_web" "is_web" C8 f fd) (B:BT mg) {ID:Value} (IE:RelV (.int 12) ID/\mg "MOST_HOUSES" = some ID) (aM:Fn P w K mg base 1 "is_tuple_of" ["thing", "size"] (aR rM 2) C5 C6) (ar:Fn P w K mg base 2 "is_within" ["thing", "least", "most"] (aR lZ 3) we wg) (cK:Fn P w K mg base 5 "are_ways" ["many", "thing"] (aR vI 2) SM SN):aF P w K mg base aW 6 f fd ["thing"] (aR pV 1):=by
 refine F.gB (k:=5) ik fun aK A outer s H E hr => ?_
 have nd:=ik.nd
 have hu:=hr.units
 exact⟨BZ,(bA (cW (j9 (fB (bV aM.ok (hr.mono (by decide)) (by rfl) aM.bD aM.kp aM.bd (aq (dv 0) (aQ aw aG))))) (bE (bM gO)) dh) (bE (bM (jw (bV ar.ok (hr.mono (by decide)) (by rfl) ar.bD ar.kp ar.bd (bQ (bX bY (dv 0) aw (fun _ _=>rfl)) (aQ aw (aq (AV (i:=12) (by rfl) IE.2 IE.1) aG)))) (j_ (bV cK.ok (hr.mono (by decide)) (by rfl) cK.bD cK.kp cK.bd (bQ (bX bY (dv 0) aw (fun _ _=>rfl)) (bQ (bX bY (dv 0) aw (fun _ _=>rfl)) aG)))))))),Qq⟩
noncomputable abbrev yJ:Stmt:=top 26
theorem du:dF ["web"] ["web"] (bf yJ):=⟨rfl,rfl,rfl,by decide +kernel,rfl,by decide +kernel,by decide +kernel⟩
theorem SO {f SQ:Addr} {fd SS:FuncData} (F:b7 K "need_web" "need_web" yJ f fd) (B:BT mg) (eY:Fn P w K mg base 6 "is_web" ["thing"] (aR pV 1) SQ SS):aF P w K mg base aW 7 f fd ["web"] (aR tG 1):=by
 refine F.gB (k:=6) du fun aK A outer s H E hr => ?_
 have nd:=du.nd
 have hu:=hr.units
 exact⟨CG,(bE (cW (j9 (fB (bV eY.ok (hr.mono (by decide)) (by rfl) eY.bD eY.kp eY.bd (aq (dv 0) aG)))) (bE OY) dh)),Rx⟩
noncomputable abbrev C9:Stmt:=top 27
theorem gA:dF ["way"] ["way"] (bf C9):=⟨rfl,rfl,rfl,by decide +kernel,rfl,by decide +kernel,by decide +kernel⟩
theorem SU {f:Addr} {fd:FuncData} (F:b7 K "rank_of" "rank_of" C9 f fd) (B:BT mg):aF P w K mg base aW 1 f fd ["way"] (aR vZ 1):=by
 refine F.gB (k:=0) gA fun aK A outer s H E hr => ?_
 have nd:=gA.nd
 have hu:=hr.units
 exact⟨CH,(bE (bM (ju (bQ (bX bY (dv 0) aw (fun _ _=>rfl)) (bQ (bX bY (dv 0) aw (fun _ _=>rfl)) (bQ (bX bY (dv 0) aw (fun _ _=>rfl)) aG)))))),Ry⟩
noncomputable abbrev wj:Stmt:=top 28
theorem dw:dF ["web", "ways"] ["web"] (bf wj):=⟨rfl,rfl,rfl,by decide +kernel,rfl,by decide +kernel,by decide +kernel⟩
theorem SV {f SW SX:Addr} {fd SY S7:FuncData} {T:Addr} (F:b7 K "order_of" "order_of" wj f fd) (B:BT mg) (LD:Q8 mg base fd T ⟨72,40,72,76⟩ ((("order_of" : Str) ++ ".<locals>.") ++ "<lambda>")) (cL:Fn P w K mg base 7 "need_web" ["web"] (aR tG 1) SW SY) (dD:Fn P w K mg base 1 "rank_of" ["way"] (aR vZ 1) SX S7):aF P w K mg base aW 11 f fd ["web"] (aR yz 1):=by
 refine F.Cv (k:=10) dw fun aK A outer s H E hc hr => ?_
 have nd:=dw.nd
 have hu:=hr.units
 exact⟨CI,(bA (uY (bV cL.ok (hr.mono (by decide)) (by rfl) cL.bD cL.kp cL.bd (aq (dv 0) aG))) (bA (d_ (i:=1) nd rfl (by trivial) (bX bY (dv 0) aw (fun _ _=>rfl))) (bE (bM (Rg (ki.mk (x := "number") (Nb:=["ways"]) (cp:=[some 1]) (T:=T) ⟨(let ⟨cc,e1,e2⟩:=LD.code; ⟨cc,hc.symm.trans e1,e2⟩),LD.ng,LD.blt⟩ LD.tbl rfl rfl (by first | rfl | kernel_rfl) rfl rfl (fun _ _ _ _ _=>rfl) ⟨1,hr.mono (by decide),fun d hr=>(bV dD.ok (hr.mono (by decide)) (by rfl) dD.bD dD.kp dD.bd (bQ (bX bY (dv 1) (dv 0) (fun _ _=>rfl)) aG))⟩) rfl (by rfl) B.sorted GL (by rfl) B.range OU (dg (gP iP (by rfl) B.len Xa (aq (dv 1) aG)) aG)))))),RB⟩
noncomputable abbrev C_:Stmt:=top 30
theorem dy:dF ["cell", "at", "primes", "one", "two", "three"] ["cell", "at"] (bf C_):=⟨rfl,rfl,rfl,by decide +kernel,rfl,by decide +kernel,by decide +kernel⟩
theorem S8 {f:Addr} {fd:FuncData} (F:b7 K "_law_spread" "_law_spread" C_ f fd) (B:BT mg):aF P w K mg base aW 1 f fd ["cell", "at"] (aR vx 2):=by
 refine F.gB (k:=0) dy fun aK A outer s H E hr => ?_
 have nd:=dy.nd
 have hu:=hr.units
 exact⟨BL,(bA (cW (d7 OB (dv 0) (bz lQ aw aw) (by rfl)) (bE (bM (dv 0))) dh) (bA (d_ (i:=2) nd rfl (by trivial) (oa (aQ aw (aQ aw (aQ aw (aQ aw (aQ aw (aQ aw (aQ aw (aQ aw aG)))))))))) (bA (d_ (i:=2) nd rfl (by trivial) (bz eg (dv 2) (oa (aQ aw (aQ aw (aQ aw (aQ aw (aQ aw aG)))))))) (bA (d_ (i:=3) nd rfl (by trivial) (bz kZ (bz lQ (bz eg (bz eg (bz rq (bz kZ (dv 0) aw) (bz eg (bz rq aw (dv 1)) aw)) (bz rq (dv 1) aw)) aw) aw) (bX bY (dv 2) (bz kZ (dv 1) aw) (fun _ _=>rfl)))) (bA (d_ (i:=4) nd rfl (by trivial) (bz kZ (bz lQ (bz eg (bz eg (bz rq (dv 3) (bz eg (dv 1) aw)) (bz kZ (dv 0) aw)) aw) aw) (bX bY (dv 2) (bz kZ (bz eg (dv 1) aw) aw) (fun _ _=>rfl)))) (bA (d_ (i:=5) nd rfl (by trivial) (bz kZ (bz lQ (bz eg (bz eg (dv 4) (bz kZ (dv 3) aw)) (dv 1)) aw) (bX bY (dv 2) (bz kZ (bz eg (dv 1) aw) aw) (fun _ _=>rfl)))) (bE (bM (bz eg (bz rq (bz eg (bz rq (dv 3) aw) (dv 4)) aw) (dv 5)))))))))),P6⟩
noncomputable abbrev Dc:Stmt:=top 32
theorem eZ:dF ["pen"] ["pen"] (bf Dc):=⟨rfl,rfl,rfl,by decide +kernel,rfl,by decide +kernel,by decide +kernel⟩
theorem S9 {f:Addr} {fd:FuncData} (F:b7 K "_law_anew" "_law_anew" Dc f fd) (B:BT mg):aF P w K mg base aW 1 f fd ["pen"] (aR vy 1):=by
 refine F.gB (k:=0) eZ fun aK A outer s H E hr => ?_
 have nd:=eZ.nd
 have hu:=hr.units
 exact⟨BM,(bA ((sL aw (uN (dv 0) aw set_list)).weak xW) (bE (bM (dv 0)))),P7⟩
noncomputable abbrev Dd:Stmt:=top 33
theorem e_:dF ["pen", "many", "at", "cell", "found"] ["pen", "many"] (bf Dd):=⟨rfl,rfl,rfl,by decide +kernel,rfl,by decide +kernel,by decide +kernel⟩
theorem S_ {f Ta:Addr} {fd Tb:FuncData} (F:b7 K "_law_take" "_law_take" Dd f fd) (B:BT mg) (bO:Fn P w K mg base 1 "_law_spread" ["cell", "at"] (aR vx 2) Ta Tb):aF P w K mg base aW 2 f fd ["pen", "many"] (aR gx 2):=by
 refine F.gB (k:=1) e_ fun aK A outer s H E hr => ?_
 have nd:=e_.nd
 have hu:=hr.units
 exact⟨BN,(bA (cW (d7 (xN hu) (bX bY (dv 0) aw (fun _ _=>rfl)) (dv 1) (by rfl)) (bA (d_ (i:=2) nd rfl (by trivial) (bX bY (dv 0) aw (fun _ _=>rfl))) (bA (d_ (i:=3) nd rfl (by trivial) aw) (bA (cW (d7 (xN hu) (dv 2) (gP iP (by rfl) B.len Xa (bQ (bX bY (dv 0) aw (fun _ _=>rfl)) aG)) (by rfl)) (bE (d_ (i:=3) nd rfl (by trivial) (bX bY (bX bY (dv 0) aw (fun _ _=>rfl)) (dv 2) (fun _ _=>rfl)))) (bE (cW (d7 rz (gP iP (by rfl) B.len Xa (bQ (bX bY (dv 0) aw (fun _ _=>rfl)) aG)) aw (by rfl)) (bE (d_ (i:=3) nd rfl (by trivial) (bz kZ (bX bY (bX bY (dv 0) aw (fun _ _=>rfl)) (bz kZ (bz eg (bz rq (dv 2) aw) aw) (gP iP (by rfl) B.len Xa (bQ (bX bY (dv 0) aw (fun _ _=>rfl)) aG))) (fun _ _=>rfl)) (bz eg (bz lQ aw aw) (dv 2))))) dh))) (bA ((sL (bz eg (dv 2) aw) (uN (dv 0) aw set_list)).weak xW) (bE ((sL (bV bO.ok (hr.mono (by decide)) (by rfl) bO.bD bO.kp bO.bd (aq (dv 3) (aq (dv 2) aG))) (uN (dv 0) aw set_list)).weak xW)))))) dh) (bA (d_ (i:=4) nd rfl (by trivial) (bz kZ (bX bY (dv 0) aw (fun _ _=>rfl)) (dv 1))) (bA ((sL (bz OA (bX bY (dv 0) aw (fun _ _=>rfl)) (dv 1)) (uN (dv 0) aw set_list)).weak xW) (bE (bM (dv 4)))))),P8⟩
noncomputable abbrev De:Stmt:=top 36
theorem cD:dF ["pen", "kind", "many", "every", "other", "ring", "half"] ["pen", "kind", "many"] (bf De):=⟨rfl,rfl,rfl,by decide +kernel,rfl,by decide +kernel,by decide +kernel⟩
theorem Tc {f sj:Addr} {fd sk:FuncData} (F:b7 K "_law_pairs_of" "_law_pairs_of" De f fd) (B:BT mg) (aa:Fn P w K mg base 2 "_law_take" ["pen", "many"] (aR gx 2) sj sk):aF P w K mg base aW 3 f fd ["pen", "kind", "many"] (aR vz 3):=by
 refine F.gB (k:=2) cD fun aK A outer s H E hr => ?_
 have nd:=cD.nd
 have hu:=hr.units
 exact⟨BO,(bA (d_ (i:=3) nd rfl (by trivial) (AW aG)) (bA (sS Yq rfl (pH (by rfl) B.range (aq (dv 2) aG)) (fD (i:=4) nd rfl (by trivial)) (bE (uY ((qR XN PySem.F.slot_list_extend PySem.F.type_list_extend Me (dv 3) (eI (pE [none,some 4] ["one", "other"] rfl (pH (by rfl) B.range (aq (dv 4) aG)) (fun d=>(fD (i:=0) (show (["one", "other"]:List Str).Nodup by decide +kernel) rfl (by trivial))) (fun d=>oq) (fun d=>(ju (aq (dv 0) (aq (dv 1) aG))))) aG)).weak OO)))) (bA (cW (d7 (iO hu) (dv 1) aw (by rfl)) (bE (bM (xB [none,some 0] ["other", "pen"] rfl (Oy (by rfl) B.range (aQ aw (aq (dv 2) aG))) (fun d=>(fD (i:=0) (show (["other", "pen"]:List Str).Nodup by decide +kernel) rfl (by trivial))) (fun d=>oq) (fun d=>(ju (dg (bV aa.ok (hr.mono (by decide)) (by rfl) aa.bD aa.kp aa.bd (aq (dv 1) (aq (dv 0) aG))) (aq (dv 0) aG))))))) dh) (bA (cW (d7 (iO hu) (dv 1) aw (by rfl)) (bA (Og [none] ["k"] (i:=5) nd rfl (by trivial) rfl (pH (by rfl) B.range (eI (bz kY (dv 2) aw) aG)) (fun d=>(fD (i:=0) (show (["k"]:List Str).Nodup by decide +kernel) rfl (by trivial))) (fun d=>oq) (fun d=>(ju (aq (dv 0) (eI (bz eg (dv 0) aw) aG))))) (bE (bM (OX (dv 5) (pE [none,some 2] ["pair", "many"] rfl (pG (dv 3)) (fun d=>(fD (i:=0) (show (["pair", "many"]:List Str).Nodup by decide +kernel) rfl (by trivial))) (fun d=>(xy (JW.jt (uX (d7 (iO hu) (dv 0) (ju (aQ aw (eI (bz kY (dv 1) aw) aG))) (by rfl)) (AY (d7 rz (dv 1) aw (by rfl))))))) (fun d=>(dv 0))))))) dh) (bA (cW (d7 (iO hu) (dv 1) aw (by rfl)) (bE (bM (dv 3))) dh) (bA (cW (d7 (iO hu) (dv 1) aw (by rfl)) (bE (bM (xB [none,some 0] ["pair", "pen"] rfl (pG (dv 3)) (fun d=>(fD (i:=0) (show (["pair", "pen"]:List Str).Nodup by decide +kernel) rfl (by trivial))) (fun d=>(xy (d7 (iO hu) (bV aa.ok (hr.mono (by decide)) (by rfl) aa.bD aa.kp aa.bd (aq (dv 1) (aQ aw aG))) aw (by rfl)))) (fun d=>(dv 0))))) dh) (bA (cW (d7 (iO hu) (dv 1) aw (by rfl)) (bA (d_ (i:=6) nd rfl (by trivial) (bV aa.ok (hr.mono (by decide)) (by rfl) aa.bD aa.kp aa.bd (aq (dv 0) (eI (bz eg (dv 2) aw) aG)))) (bE (bM (xB [none,some 6,some 0] ["pair", "half", "pen"] rfl (pG (dv 3)) (fun d=>(fD (i:=0) (show (["pair", "half", "pen"]:List Str).Nodup by decide +kernel) rfl (by trivial))) (fun d=>(xy (JW.jt (uX (d7 (iO hu) (jK (xN hu) (bX bY (dv 0) aw (fun _ _=>rfl)) (dv 1) (by rfl)) (jK (xN hu) (bX bY (dv 0) aw (fun _ _=>rfl)) (dv 1) (by rfl)) (by rfl)) (AY (d7 rz (bV aa.ok (hr.mono (by decide)) (by rfl) aa.bD aa.kp aa.bd (aq (dv 2) (aQ aw aG))) aw (by rfl))))))) (fun d=>(dv 0)))))) dh) (bE (bM (xB [none,some 0] ["pair", "pen"] rfl (pG (dv 3)) (fun d=>(fD (i:=0) (show (["pair", "pen"]:List Str).Nodup by decide +kernel) rfl (by trivial))) (fun d=>(xy (d7 (iO hu) (bV aa.ok (hr.mono (by decide)) (by rfl) aa.bD aa.kp aa.bd (aq (dv 1) (aQ aw aG))) aw (by rfl)))) (fun d=>(dv 0)))))))))))),Qa⟩
noncomputable abbrev Df:Stmt:=top 37
theorem fH:dF ["pen", "houses", "most", "kind", "prices", "many", "pairs", "ways", "k", "one", "other", "price"] ["pen", "houses", "most"] (bf Df):=⟨rfl,rfl,rfl,by decide +kernel,rfl,by decide +kernel,by decide +kernel⟩
theorem Td {f sj Te:Addr} {fd sk Tf:FuncData} (F:b7 K "_law_web" "_law_web" Df f fd) (B:BT mg) (aa:Fn P w K mg base 2 "_law_take" ["pen", "many"] (aR gx 2) sj sk) (bG:Fn P w K mg base 3 "_law_pairs_of" ["pen", "kind", "many"] (aR vz 3) Te Tf):aF P w K mg base aW 4 f fd ["pen", "houses", "most"] (aR vA 3):=by
 refine F.gB (k:=3) fH fun aK A outer s H E hr => ?_
 have nd:=fH.nd
 have hu:=hr.units
 exact⟨BR,(bA (d_ (i:=3) nd rfl (by trivial) (bV aa.ok (hr.mono (by decide)) (by rfl) aa.bD aa.kp aa.bd (aq (dv 0) (aQ aw aG)))) (bA (d_ (i:=4) nd rfl (by trivial) (bV aa.ok (hr.mono (by decide)) (by rfl) aa.bD aa.kp aa.bd (aq (dv 0) (aQ aw aG)))) (bA (d_ (i:=5) nd rfl (by trivial) (bz eg aw (bV aa.ok (hr.mono (by decide)) (by rfl) aa.bD aa.kp aa.bd (aq (dv 0) (aq (dv 1) aG))))) (bA (d_ (i:=6) nd rfl (by trivial) (Gd bG.ok (hr.mono (by decide)) (by rfl) bG.bD bG.kp bG.bd (aq (dv 0) (aq (dv 3) (aq (dv 5) aG))))) (bA (d_ (i:=7) nd rfl (by trivial) (AW aG)) (bA (sS Yq rfl (pH (by rfl) B.range (dg (gP (OK rfl) (by rfl) B.min OW (aq (dv 2) (dg (gP iP (by rfl) B.len Xa (aq (dv 6) aG)) aG))) aG)) (fD (i:=8) nd rfl (by trivial)) (bA (FV ((qR XN PySem.F.slot_list_pop PySem.F.type_list_pop Mf (dv 6) (dg (bV aa.ok (hr.mono (by decide)) (by rfl) aa.bD aa.kp aa.bd (aq (dv 0) (dg (gP iP (by rfl) B.len Xa (aq (dv 6) aG)) aG))) aG)).weak OQ) (xu rfl (om (fD (i:=9) nd rfl (by trivial)) (om (fD (i:=10) nd rfl (by trivial)) xt)))) (bA (d_ (i:=11) nd rfl (by trivial) (bX bY (oa (aQ aw (dg (bV aa.ok (hr.mono (by decide)) (by rfl) aa.bD aa.kp aa.bd (aq (dv 0) (aQ aw aG))) (eI (bz kY (bz lQ aw aw) (bV aa.ok (hr.mono (by decide)) (by rfl) aa.bD aa.kp aa.bd (aq (dv 0) (aQ aw aG)))) (dg (bV aa.ok (hr.mono (by decide)) (by rfl) aa.bD aa.kp aa.bd (aq (dv 0) (eI (bz eg (bz lQ aw aw) aw) aG))) aG))))) (dv 4) (fun _ _=>rfl))) (bE (uY ((qR XN YV YW wQ (dv 7) (n_ (ju (aq (dv 9) (aq (dv 10) (aq (dv 11) aG)))) aG)).weak Bs)))))) (bE (bM (ju (aq (dv 5) (dg (FR OI (by rfl) B.tuple j4 (aq (dv 7) aG)) aG))))))))))),Qb⟩
noncomputable abbrev Dg:Stmt:=top 38
theorem fI:dF ["web", "number", "one", "other", "price"] ["web", "number"] (bf Dg):=⟨rfl,rfl,rfl,by decide +kernel,rfl,by decide +kernel,by decide +kernel⟩
theorem Tg {f:Addr} {fd:FuncData} (F:b7 K "_law_key" "_law_key" Dg f fd) (B:BT mg):aF P w K mg base aW 1 f fd ["web", "number"] (aR v3 2):=by
 refine F.gB (k:=0) fI fun aK A outer s H E hr => ?_
 have nd:=fI.nd
 have hu:=hr.units
 exact⟨CJ,(bA (FV (bX bY (bX bY (dv 0) aw (fun _ _=>rfl)) (dv 1) (fun _ _=>rfl)) (xu rfl (om (fD (i:=2) nd rfl (by trivial)) (om (fD (i:=3) nd rfl (by trivial)) (om (fD (i:=4) nd rfl (by trivial)) xt))))) (bE (bM (ju (aq (dv 4) (aq (dv 2) (aq (dv 3) aG))))))),RD⟩
noncomputable abbrev Dh:Stmt:=top 39
theorem dW:dF ["web"] ["web"] (bf Dh):=⟨rfl,rfl,rfl,by decide +kernel,rfl,by decide +kernel,by decide +kernel⟩
theorem Th {f Ti:Addr} {fd Tj:FuncData} (F:b7 K "_law_order" "_law_order" Dh f fd) (B:BT mg) (cM:Fn P w K mg base 1 "_law_key" ["web", "number"] (aR v3 2) Ti Tj):aF P w K mg base aW 2 f fd ["web"] (aR tH 1):=by
 refine F.gB (k:=1) dW fun aK A outer s H E hr => ?_
 have nd:=dW.nd
 have hu:=hr.units
 exact⟨CK,(bE (bM (pE [none] ["key"] rfl (pG (gP (Rr hu) (by rfl) B.sorted GL (eI (pE [none,some 0] ["number", "web"] rfl (pH (by rfl) B.range (dg (gP iP (by rfl) B.len Xa (bQ (bX bY (dv 0) aw (fun _ _=>rfl)) aG)) aG)) (fun d=>(fD (i:=0) (show (["number", "web"]:List Str).Nodup by decide +kernel) rfl (by trivial))) (fun d=>oq) (fun d=>(ju (dg (bV cM.ok (hr.mono (by decide)) (by rfl) cM.bD cM.kp cM.bd (aq (dv 1) (aq (dv 0) aG))) (aq (dv 0) aG))))) aG))) (fun d=>(fD (i:=0) (show (["key"]:List Str).Nodup by decide +kernel) rfl (by trivial))) (fun d=>oq) (fun d=>(bX bY (dv 0) aw (fun _ _=>rfl)))))),RF⟩
noncomputable abbrev Di:Stmt:=top 34
theorem cE:dF ["thing"] ["thing"] (bf Di):=⟨rfl,rfl,rfl,by decide +kernel,rfl,by decide +kernel,by decide +kernel⟩
theorem Tn {f:Addr} {fd:FuncData} (F:b7 K "_law_is_whole" "_law_is_whole" Di f fd) (B:BT mg):aF P w K mg base aW 1 f fd ["thing"] (aR pW 1):=by
 refine F.gB (k:=0) cE fun aK A outer s H E hr => ?_
 have nd:=cE.nd
 have hu:=hr.units
 exact⟨Hx,(bE (bM (jw (dm sW (by rfl) B.isinstance (by rfl) B.int sN (dv 0)) (j_ (FU (dm mU (by rfl) B.isinstance (by rfl) B.bool mO (dv 0))))))),Qr⟩
noncomputable abbrev Dj:Stmt:=top 40
theorem dX:dF ["thing", "low", "high"] ["thing", "low", "high"] (bf Dj):=⟨rfl,rfl,rfl,by decide +kernel,rfl,by decide +kernel,by decide +kernel⟩
theorem To {f wk:Addr} {fd wm:FuncData} (F:b7 K "_law_is_in" "_law_is_in" Dj f fd) (B:BT mg) (ax:Fn P w K mg base 1 "_law_is_whole" ["thing"] (aR pW 1) wk wm):aF P w K mg base aW 2 f fd ["thing", "low", "high"] (aR pX 3):=by
 refine F.gB (k:=1) dX fun aK A outer s H E hr => ?_
 have nd:=dX.nd
 have hu:=hr.units
 exact⟨Hy,(bE (bM (jw (bV ax.ok (hr.mono (by decide)) (by rfl) ax.bD ax.kp ax.bd (aq (dv 0) aG)) (j_ (Gs xO xO (dv 1) (dv 0) (dv 2)))))),Qs⟩
noncomputable abbrev Dk:Stmt:=top 41
theorem dz:dF ["thing", "pairs", "way"] ["thing"] (bf Dk):=⟨rfl,rfl,rfl,by decide +kernel,rfl,by decide +kernel,by decide +kernel⟩
theorem Tp {f Tq:Addr} {fd Tr:FuncData} (F:b7 K "_law_is_web" "_law_is_web" Dk f fd) (B:BT mg) (av:Fn P w K mg base 2 "_law_is_in" ["thing", "low", "high"] (aR pX 3) Tq Tr):aF P w K mg base aW 3 f fd ["thing"] (aR vK 1):=by
 refine F.gB (k:=2) dz fun aK A outer s H E hr => ?_
 have nd:=dz.nd
 have hu:=hr.units
 exact⟨B0,(bA (cW (JW.jt (lK (j9 (fB (dm lU (by rfl) B.isinstance (by rfl) B.tuple j4 (dv 0)))) (lK (d7 (oz hu) (gP iP (by rfl) B.len Xa (aq (dv 0) aG)) aw (by rfl)) (oh (j9 (fB (bV av.ok (hr.mono (by decide)) (by rfl) av.bD av.kp av.bd (bQ (bX bY (dv 0) aw (fun _ _=>rfl)) (aQ aw (aQ aw aG)))))))))) (bE (bM gO)) dh) (bA (cW (JW.jt (lK (j9 (fB (dm lU (by rfl) B.isinstance (by rfl) B.tuple j4 (bX bY (dv 0) aw (fun _ _=>rfl))))) (oh (d7 rz (gP iP (by rfl) B.len Xa (bQ (bX bY (dv 0) aw (fun _ _=>rfl)) aG)) aw (by rfl))))) (bE (bM gO)) dh) (bA (d_ (i:=1) nd rfl (by trivial) (AW aG)) (bA (sS Yq rfl (pG (bX bY (dv 0) aw (fun _ _=>rfl))) (fD (i:=2) nd rfl (by trivial)) (bA (cW (JW.jt (lK (j9 (fB (dm lU (by rfl) B.isinstance (by rfl) B.tuple j4 (dv 2)))) (lK (d7 (oz hu) (gP iP (by rfl) B.len Xa (aq (dv 2) aG)) aw (by rfl)) (oh (j9 (fB (bV av.ok (hr.mono (by decide)) (by rfl) av.bD av.kp av.bd (bQ (bX bY (dv 2) aw (fun _ _=>rfl)) (aQ aw (eI (bz lQ aw aw) aG)))))))))) (bE (bM gO)) dh) (bA (cW (JW.jt (lK (j9 (fB (bV av.ok (hr.mono (by decide)) (by rfl) av.bD av.kp av.bd (bQ (bX bY (dv 2) aw (fun _ _=>rfl)) (aQ aw (eI (bz kY (bX bY (dv 0) aw (fun _ _=>rfl)) aw) aG)))))) (oh (j9 (fB (bV av.ok (hr.mono (by decide)) (by rfl) av.bD av.kp av.bd (bQ (bX bY (dv 2) aw (fun _ _=>rfl)) (eI (bz eg (bX bY (dv 2) aw (fun _ _=>rfl)) aw) (eI (bz kY (bX bY (dv 0) aw (fun _ _=>rfl)) aw) aG))))))))) (bE (bM gO)) dh) (bA (cW (d7 (OE hu) (pS (dv 2) pK (pL aw)) (dv 1) (by rfl)) (bE (bM gO)) dh) (bE (uY ((qR XN YV YW wQ (dv 1) (bQ (pS (dv 2) pK (pL aw)) aG)).weak Bs))))))) (bE (bM gO)))))),Qu⟩
noncomputable abbrev Dl:Stmt:=top 31
theorem mq:dF ["script", "cells", "k", "cell"] ["script"] (bf Dl):=⟨rfl,rfl,rfl,by decide +kernel,rfl,by decide +kernel,by decide +kernel⟩
theorem Tt {f:Addr} {fd:FuncData} (F:b7 K "_law_open" "_law_open" Dl f fd) (h1:mg "list" = none) (h2:mg "enumerate" = none):aF P w K mg base aW 1 f fd ["script"] (B9 K):=by
 refine F.uO mq (fun vs H Q E h => ?_) (fun aK A outer s H vs Q E hr h => ?_)
 ·obtain⟨a,ns,rfl,_⟩:=h
  rfl
 ·obtain⟨a,ns,rfl,hS,hlen,fin⟩:=h
  have nd:=mq.nd
  refine⟨_,mM (lE (i:=1) nd rfl (Or.inl rfl) (sM zT (by rfl) h1 PyProof.Rows.boot_list (qQ (AI iu (jv 0) EH (wM cw.out)) aU)))
   (mM (Fy Yq rfl (NQ (by rfl) h2 (qQ (AI iu (jv 0) (wM cw.out) (wM cw.out)) aU)) (Fx rfl (AG (AF (i:=2) nd rfl (Or.inl rfl)) (AG (AF (i:=3) nd rfl (Or.inl rfl)) j3)))
    (kU (sL (qP Ep (xc wN (jv 1) (qP zv (jv 2) cw) (fun _ _=>rfl)) (jv 3)) (uN (jv 1) (qP zv (jv 2) cw) set_list))))
   (kU (sJ (pq (qQ (jv 1) (qQ cw (qQ cw aU))))))),?_⟩
  refine⟨_,rfl,_,rfl,a,_,rfl,hS,fun l1 n1=>⟨l1,_,rfl,.inl (bo.of bH),fun c nc => ?_⟩⟩
  have s1:aA H (upd (upd H l1 (.lst (df (ns.map V.int) none (some 12)))) c (.lst (df (ns.map V.int) none (some 12)))):=(tE n1).trans (tE nc)
  refine⟨_,rfl,_,rfl,_,rfl,a,_,rfl,s1.seq hS,fun l2 n2=>⟨l2,rfl,⟨_,bo.of bH⟩,?_⟩⟩
  have Tu:H c=none:=(tE n1).free nc
  have Tv:=n2
  have hcc:∃ ms:List Int,ms.length=min 12 ns.length/\df (ns.map V.int) none (some 12)=ms.map V.int:=by
   refine⟨_,?_,B_ ns none (some 12)⟩
   rw[WW,Xz]
   have e1:HT.bj ns.length 0 none=0:=HT.LN _ _
   have e2:HT.bj ns.length ns.length (some 12)=min 12 ns.length:=HT.sC ns.length ns.length 12
   rw[e1,e2];omega
  have pR:(df (ns.map V.int) (some 12) (some 63)).length=ns.length - 12:=by
   rw[B_,sE,WW,Xz]
   have e1:HT.bj ns.length 0 (some 12)=min 12 ns.length:=HT.sC ns.length 0 12
   have e2:HT.bj ns.length ns.length (some 63)=min 63 ns.length:=HT.sC ns.length ns.length 63
   rw[e1,e2];omega
  have IF:∀ i x,(df (ns.map V.int) (some 12) (some 63))[i]? = some x->∃ n:Int,x=V.int n:=fun i x e=>by
   rw[B_,VX] at e
   cases q:((ns.drop (HT.bj ns.length 0 (some 12))).take (HT.bj ns.length ns.length (some 63) - HT.bj ns.length 0 (some 12)))[i]? with
   | none=>rw[q] at e;cases e
   | some n=>rw[q] at e;exact⟨n,(WR e).symm⟩
  generalize df (ns.map V.int) (some 12) (some 63)=rest at pR IF n2 ⊢
  obtain⟨ms,Tw,Tx⟩:=hcc
  refine Nl (K:=K) (a:=l2) (xs:=rest) (fun i σ H2=>∃ (ks:List Int) (v1 v2:Option V),σ = [some (.ref a),some (.ref c),v1,v2]/\H2 c=some (.lst (ks.map V.int))/\ks.length=min 12 ns.length/\H2 l2=some (.lst rest)/\aA H H2)
   ⟨ms,none,none,rfl,?_,Tw,bH,?_⟩ (fun i σ H2 _ ⟨_,_,_,_,_,_,q,_⟩=>bo.of q) ?_ ?_
  ·rw[aH (cz bH n2),bH,Tx]
  ·exact s1.trans (tE n2)
  ·rintro i x T σ H2 hi ⟨ks,v1,v2,rfl,hc,hk,qG,sm⟩ hT
   obtain⟨n,rfl⟩:=IF i x hi
   have A6:i < rest.length:=(qK.mp hi).1
   have Tz:ks.length=12:=by omega
   have cT:c≠T:=cz hc hT
   have kO:upd H2 T (.tup [.int i,.int n]) c=some (.lst (ks.map V.int)):=by rw[aH cT];exact hc
   have j0:0 <= ((i:Int)) % 12:=XS _ (by decide)
   have j1:((i:Int)) % 12 < 12:=Xv _ (by decide)
   obtain⟨m,em⟩:=QA (ns:=ks) j0 (by omega)
   have ix:kn (ks.map V.int).length ((i:Int) % 12)=some ((i:Int) % 12).toNat:=by
    unfold kn
    rw[VZ j0,VZ (by rw[sE];omega)]
   refine⟨T,_,rfl,bT.of bH,rfl,_,_,rfl,_,_,rfl,rfl,?_⟩
   refine⟨_,rfl,_,rfl,_,_,rfl,rfl,(show (0:Int) < 12 by decide),_,_,_,_,rfl,rfl,bo.of kO,em,_,rfl,_,_,rfl,rfl,_,rfl,_,rfl,_,_,rfl,rfl,(show (0:Int) < 12 by decide),_,_,_,_,rfl,rfl,kO,ix,?_⟩
   refine⟨ks.set ((i:Int) % 12).toNat (m + n),_,_,rfl,?_,by rw[XT];exact hk,?_,?_⟩
   ·rw[bH,List.map_set]
   ·have TB:l2≠c:=by
     intro z
     subst z
     exact absurd Tv (by rw[bH];intro y;cases y)
    rw[aH TB,aH (cz qG hT)];exact qG
   ·intro b o e
    rw[aH (cz e Tu)]
    exact tE hT b o (sm b o e)
  ·rintro σ H2 ⟨ks,v1,v2,rfl,hc,hk,qG,sm⟩
   refine⟨_,rfl,(by show 3 <= sizeLine;decide),fun p np => ?_⟩
   have TC:H p=none:=sm.free np
   exact fin p c _ (sm.trans (tE np)) TC ⟨bH,⟨ks,by rw[aH (cz hc np)];exact hc,by omega⟩,Int.le_refl 0⟩
noncomputable abbrev yK:Stmt:=top 42
theorem fe:dF ["pen", "thing", "deep", "kind", "pick", "number", "at", "odd", "some"] ["pen", "thing", "deep"] (bf yK):=⟨rfl,rfl,rfl,by decide +kernel,rfl,by decide +kernel,by decide +kernel⟩
theorem TF {k:Nat} {f:Addr} {fd:FuncData} {ps:List Str} {n:Nat}:aF P w K mg base aW k f fd ps (aR (fun _ _ _=>False) n) :=
 ⟨fun vs H Q E h=>by obtain⟨_,_,_,_,_,_,_,hF,_⟩:=h;exact hF.elim,fun A outer s H args us vs Q E _ _ _ _ h=>by obtain⟨_,_,_,_,_,_,_,hF,_⟩:=h;exact hF.elim⟩
theorem IG {f sj wk:Addr} {fd sk wm:FuncData} (F:b7 K "_law_bent" "_law_bent" yK f fd) (B:BT mg) (aa:Fn P w K mg base 2 "_law_take" ["pen", "many"] (aR gx 2) sj sk) (ax:Fn P w K mg base 1 "_law_is_whole" ["thing"] (aR pW 1) wk wm) (n:Nat) (aZ:Fn P w K mg base (n + 2) "_law_bent" ["pen", "thing", "deep"] (aR (B2 l6 n) 3) f fd):aF P w K mg base aW (n + 3) f fd ["pen", "thing", "deep"] (aR (l6 n) 3):=by
 refine F.gB (k:=n + 2) fe fun aK A outer s H E hr => ?_
 have nd:=fe.nd
 have hu:=hr.units
 exact⟨B1 (B2 l6 n),(bA (d_ (i:=3) nd rfl (by trivial) (bV aa.ok (hr.mono (by omega)) (by rfl) aa.bD aa.kp aa.bd (aq (dv 0) (aQ aw aG)))) (bA (d_ (i:=4) nd rfl (by trivial) (bV aa.ok (hr.mono (by omega)) (by rfl) aa.bD aa.kp aa.bd (aq (dv 0) (aQ aw aG)))) (bA (d_ (i:=5) nd rfl (by trivial) (bz kY (bV aa.ok (hr.mono (by omega)) (by rfl) aa.bD aa.kp aa.bd (aq (dv 0) (aQ aw aG))) aw)) (bA (cW (JW.jt (uX (fB (dm lU (by rfl) B.isinstance (by rfl) B.tuple j4 (dv 1))) (uX (d7 (oz hu) (dv 1) (ju aG) (by rfl)) (uX (d7 rz (dv 2) aw (by rfl)) (AY (d7 rz (dv 4) aw (by rfl))))))) (bA (d_ (i:=6) nd rfl (by trivial) (bV aa.ok (hr.mono (by omega)) (by rfl) aa.bD aa.kp aa.bd (aq (dv 0) (dg (gP iP (by rfl) B.len Xa (aq (dv 1) aG)) aG)))) (bE (bM (bz eg (bz eg (pS (dv 1) pK (pL (dv 6))) (ju (dg (bV aZ.ok (hr.mono (by omega)) (by rfl) aZ.bD aZ.kp aZ.bd (aq (dv 0) (bQ (bX bY (dv 1) (dv 6) (fun _ _=>rfl)) (eI (bz kY (dv 2) aw) aG)))) aG))) (pS (dv 1) (pL (bz eg (dv 6) aw)) pK))))) dh) (bA (d_ (i:=7) nd rfl (by trivial) (oa (aQ uU (aQ gO (aQ gO (aQ AU (aQ AU (n_ (ju aG) (uV (oa aG) (eI (bz lQ aw aw) (eI (Gr aw) (aQ aw (aQ aw (eI (bz lQ aw aw) (eI (bz eg (bz lQ aw aw) aw) (n_ (ju (aQ aw aG)) (uV (oa (aQ aw aG)) (aQ aw aG)))))))))))))))))) (bA (cW (fB (dm lU (by rfl) B.isinstance (by rfl) B.tuple j4 (dv 1))) (bA (d_ (i:=8) nd rfl (by trivial) (oa (dg (FR OH (by rfl) B.list uP (aq (dv 1) aG)) (eI (bz eg (dv 1) (pS (dv 1) pK (pL aw))) (bQ (pS (dv 1) pK (pL (Gr aw))) (bQ (PZ (dv 1)) (eI (bz eg (dv 1) (ju (aq (dv 5) aG))) (bQ (pS (dv 1) (pL aw) pK) (n_ (ju (aq (dv 1) aG)) aG))))))))) (bE (bM (bX bY (bz eg (dv 8) (oa (bQ (bX bY (dv 7) (dv 4) (fun _ _=>rfl)) aG))) (dv 3) (fun _ _=>rfl))))) dh) (bA (cW (fB (bV ax.ok (hr.mono (by omega)) (by rfl) ax.bD ax.kp ax.bd (aq (dv 1) aG))) (bE (bM (bX bY (oa (eI (bz eg (dv 1) aw) (eI (bz kY (dv 1) aw) (eI (bz kY aw (dv 1)) (aq (dv 5) (aq (dv 5) (eI (jK (iO hu) (dv 1) aw (by rfl)) (eI (bz kY aw (dv 1)) (bQ (bX bY (dv 7) (dv 4) (fun _ _=>rfl)) aG))))))))) (dv 3) (fun _ _=>rfl)))) dh) (bE (bM (bX bY (dv 7) (dv 4) (fun _ _=>rfl))))))))))),Qw n⟩
theorem TH {f sj wk:Addr} {fd sk wm:FuncData} (F:b7 K "_law_bent" "_law_bent" yK f fd) (B:BT mg) (aa:Fn P w K mg base 2 "_law_take" ["pen", "many"] (aR gx 2) sj sk) (ax:Fn P w K mg base 1 "_law_is_whole" ["thing"] (aR pW 1) wk wm) (bD:mg "_law_bent" = some (.ref f)) (kp:PySem.W.keepIn K (.ref f)=true) (bd:Binds K fd ["pen", "thing", "deep"] []) (n:Nat):aF P w K mg base aW (n + 3) f fd ["pen", "thing", "deep"] (aR (l6 n) 3):=by
 induction n with
 | zero=>exact IG F B aa ax 0 ⟨TF,bD,kp,bd⟩
 | succ m ih=>exact IG F B aa ax (m + 1) ⟨ih,bD,kp,bd⟩
noncomputable abbrev tK:Stmt:=top 35
theorem bW:dF ["found", "due"] ["found", "due"] (bf tK):=⟨rfl,rfl,rfl,by decide +kernel,rfl,by decide +kernel,by decide +kernel⟩
theorem Dm {k:Nat} {f:Addr} {fd:FuncData} {ps:List Str} {n:Nat}:aF P w K mg base aW k f fd ps (aR (fun _ _ _=>False) n) :=
 ⟨fun vs H Q E h=>by obtain⟨_,_,_,_,_,_,_,hF,_⟩:=h;exact hF.elim,fun A outer s H args us vs Q E _ _ _ _ h=>by obtain⟨_,_,_,_,_,_,_,hF,_⟩:=h;exact hF.elim⟩
theorem IH {f:Addr} {fd:FuncData} (F:b7 K "_law_same" "_law_same" tK f fd) (B:BT mg) (n:Nat) (au:Fn P w K mg base n "_law_same" ["found", "due"] (aR (dr ak n) 2) f fd):aF P w K mg base aW (n + 1) f fd ["found", "due"] (aR (ak n) 2):=by
 refine F.gB (k:=n) bW fun aK A outer s H E hr => ?_
 have nd:=bW.nd
 have hu:=hr.units
 exact⟨ah (dr ak n),(bA (cW (d7 yh (dv 1) uU (by rfl)) (bE (bM (jK yh (dv 0) uU (by rfl)))) dh) (bA (cW (JW.jt (lK (fB (dm mU (by rfl) B.isinstance (by rfl) B.bool mO (dv 1))) (oh (fB (dm mU (by rfl) B.isinstance (by rfl) B.bool mO (dv 0)))))) (bE (bM (jw (dm mU (by rfl) B.isinstance (by rfl) B.bool mO (dv 1)) (jw (dm mU (by rfl) B.isinstance (by rfl) B.bool mO (dv 0)) (j_ (jK (iO hu) (dv 0) (dv 1) (by rfl))))))) dh) (bA (cW (fB (dm sW (by rfl) B.isinstance (by rfl) B.int sN (dv 1))) (bE (bM (jw (dm sW (by rfl) B.isinstance (by rfl) B.int sN (dv 0)) (j_ (jK (iO hu) (dv 0) (dv 1) (by rfl)))))) dh) (bA (cW (fB (dm xU (by rfl) B.isinstance (by rfl) B.str xj (dv 1))) (bE (bM (jw (dm xU (by rfl) B.isinstance (by rfl) B.str xj (dv 0)) (j_ (jK (iO hu) (dv 0) (dv 1) (by rfl)))))) dh) (bA (cW (JW.jt (lK (d7 (oz hu) (dm lU (by rfl) B.isinstance (by rfl) B.tuple j4 (dv 1)) (dm lU (by rfl) B.isinstance (by rfl) B.tuple j4 (dv 0)) (by rfl)) (oh (d7 (oz hu) (dm xV (by rfl) B.isinstance (by rfl) B.list uP (dv 1)) (dm xV (by rfl) B.isinstance (by rfl) B.list uP (dv 0)) (by rfl))))) (bE (bM gO)) dh) (bA (cW (d7 (oz hu) (gP iP (by rfl) B.len Xa (aq (dv 0) aG)) (gP iP (by rfl) B.len Xa (aq (dv 1) aG)) (by rfl)) (bE (bM gO)) dh) (bE (bM (jK (Gn hu) gO (pE [none,none] ["one", "other"] rfl (Ox (by rfl) B.zip (aq (dv 0) (aq (dv 1) aG))) (fun d=>(xu rfl (om (fD (i:=0) (show (["one", "other"]:List Str).Nodup by decide +kernel) rfl (by trivial)) (om (fD (i:=1) (show (["one", "other"]:List Str).Nodup by decide +kernel) rfl (by trivial)) xt)))) (fun d=>oq) (fun d=>(bV au.ok (hr.mono (by omega)) (by rfl) au.bD au.kp au.bd (aq (dv 0) (aq (dv 1) aG))))) (by rfl)))))))))),cf n⟩
theorem TJ {f:Addr} {fd:FuncData} (F:b7 K "_law_same" "_law_same" tK f fd) (B:BT mg) (bD:mg "_law_same" = some (.ref f)) (kp:PySem.W.keepIn K (.ref f)=true) (bd:Binds K fd ["found", "due"] []) (n:Nat):aF P w K mg base aW (n + 1) f fd ["found", "due"] (aR (ak n) 2):=by
 induction n with
 | zero=>exact IH F B 0 ⟨Dm,bD,kp,bd⟩
 | succ m ih=>exact IH F B (m + 1) ⟨ih,bD,kp,bd⟩
theorem TK {k:Nat} {f:Addr} {fd:FuncData} {ps:List Str} {n:Nat}:aF P w K mg base aW k f fd ps (aR (fun _ _ _=>False) n) :=
 ⟨fun vs H Q E h=>by obtain⟨_,_,_,_,_,_,_,hF,_⟩:=h;exact hF.elim,fun A outer s H args us vs Q E _ _ _ _ h=>by obtain⟨_,_,_,_,_,_,_,hF,_⟩:=h;exact hF.elim⟩
theorem II {f:Addr} {fd:FuncData} (F:b7 K "_law_same" "_law_same" tK f fd) (B:BT mg) (n:Nat) (au:Fn P w K mg base n "_law_same" ["found", "due"] (aR (LJT.dr LJT.ak n) 2) f fd):aF P w K mg base aW (n + 1) f fd ["found", "due"] (aR (LJT.ak n) 2):=by
 refine F.gB (k:=n) bW fun aK A outer s H E hr => ?_
 have nd:=bW.nd
 have hu:=hr.units
 exact⟨LJT.ah (LJT.dr LJT.ak n),(bA (cW (d7 yh (dv 1) uU (by rfl)) (bE (bM (jK yh (dv 0) uU (by rfl)))) dh) (bA (cW (JW.jt (lK (fB (dm mU (by rfl) B.isinstance (by rfl) B.bool mO (dv 1))) (oh (fB (dm mU (by rfl) B.isinstance (by rfl) B.bool mO (dv 0)))))) (bE (bM (jw (dm mU (by rfl) B.isinstance (by rfl) B.bool mO (dv 1)) (jw (dm mU (by rfl) B.isinstance (by rfl) B.bool mO (dv 0)) (j_ (jK (iO hu) (dv 0) (dv 1) (by rfl))))))) dh) (bA (cW (fB (dm sW (by rfl) B.isinstance (by rfl) B.int sN (dv 1))) (bE (bM (jw (dm sW (by rfl) B.isinstance (by rfl) B.int sN (dv 0)) (j_ (jK (iO hu) (dv 0) (dv 1) (by rfl)))))) dh) (bA (cW (fB (dm xU (by rfl) B.isinstance (by rfl) B.str xj (dv 1))) (bE (bM (jw (dm xU (by rfl) B.isinstance (by rfl) B.str xj (dv 0)) (j_ (jK (iO hu) (dv 0) (dv 1) (by rfl)))))) dh) (bA (cW (JW.jt (lK (d7 (oz hu) (dm lU (by rfl) B.isinstance (by rfl) B.tuple j4 (dv 1)) (dm lU (by rfl) B.isinstance (by rfl) B.tuple j4 (dv 0)) (by rfl)) (oh (d7 (oz hu) (dm xV (by rfl) B.isinstance (by rfl) B.list uP (dv 1)) (dm xV (by rfl) B.isinstance (by rfl) B.list uP (dv 0)) (by rfl))))) (bE (bM gO)) dh) (bA (cW (d7 (oz hu) (gP iP (by rfl) B.len Xa (aq (dv 0) aG)) (gP iP (by rfl) B.len Xa (aq (dv 1) aG)) (by rfl)) (bE (bM gO)) dh) (bE (bM (jK (Gn hu) gO (pE [none,none] ["one", "other"] rfl (RU (by rfl) B.zip (aq (dv 0) (aq (dv 1) aG))) (fun d=>(xu rfl (om (fD (i:=0) (show (["one", "other"]:List Str).Nodup by decide +kernel) rfl (by trivial)) (om (fD (i:=1) (show (["one", "other"]:List Str).Nodup by decide +kernel) rfl (by trivial)) xt)))) (fun d=>oq) (fun d=>(bV au.ok (hr.mono (by omega)) (by rfl) au.bD au.kp au.bd (aq (dv 0) (aq (dv 1) aG))))) (by rfl)))))))))),LJT.cf n⟩
theorem TL {f:Addr} {fd:FuncData} (F:b7 K "_law_same" "_law_same" tK f fd) (B:BT mg) (bD:mg "_law_same" = some (.ref f)) (kp:PySem.W.keepIn K (.ref f)=true) (bd:Binds K fd ["found", "due"] []) (n:Nat):aF P w K mg base aW (n + 1) f fd ["found", "due"] (aR (LJT.ak n) 2):=by
 induction n with
 | zero=>exact II F B 0 ⟨TK,bD,kp,bd⟩
 | succ m ih=>exact II F B (m + 1) ⟨ih,bD,kp,bd⟩
theorem TM {f fW C:Addr} {fd TN:FuncData} (F:b7 K "need_web" "need_web" yJ f fd) (GW:Fn P w K mg base 6 "is_web" ["thing"] (aR pV 1) fW TN) (M:qO K C none) (hC:mg "NoWeb" = some (.ref C)):aF P w K mg base (mi P w) 7 f fd ["web"] (k_ si C 1):=by
 refine F.Ik (k:=6) (sp:=k_ si C 1) du (fun vs H Q E h=>h.1) (fun aK A outer s H vs Q E hr h => ?_)
 refine⟨_,kU (AE (w_ (wZ (nX GW.ok (hr.mono (by decide)) (by rfl) GW.bD GW.kp GW.bd .nil qL (gr (jv 0) aU)))) (kU ⟨R1 rfl (Nc M (by rfl) hC (nD zh zC))⟩) iw),?_⟩
 exact Sd M (So h)
theorem TQ {f fN C:Addr} {fd IJ:FuncData} (F:b7 K "order_of" "order_of" wj f fd) (GN:Fn P w K mg base 7 "need_web" ["web"] (aR tG 1) fN IJ) (GX:aF P w K mg base (mi P w) 7 fN IJ ["web"] (k_ si C 1)):aF P w K mg base (mi P w) (7 + 1) f fd ["web"] (k_ si C 1):=by
 refine F.Ik (k:=7) (sp:=k_ si C 1) dw (fun vs H Q E h=>h.1) (fun aK A outer s H vs Q E hr h => ?_)
 refine⟨_,⟨Sa (Fw (nX GX (hr.mono (by decide)) (by rfl) GN.bD GN.kp GN.bd .nil RZ (gr (jv 0) aU))).out⟩,?_⟩
 exact Sq h
noncomputable abbrev aJ:Stmt:=top 43
noncomputable abbrev TR:Stmt:=aJ
theorem qc:dF ["caught", "some", "words", "at"] ["caught"] (bf aJ):=⟨rfl,rfl,rfl,by decide +kernel,rfl,by decide +kernel,by decide +kernel⟩
theorem TU {f L:Addr} {Cs:List Addr} {fd:FuncData} {sp:Sp} (F:b7 K "_law_refusal" "_law_refusal" aJ f fd) (T:CT mg L Cs) (len:∀ vs H Q E,sp vs H Q E->vs.length=1)
  (mF:∀ vs H Q E,sp vs H Q E->∃ (a C:Addr) (dx:Option Addr) (b:Nat->Bool),vs=[.ref a]/\ExcAt H a C dx/\bL K C/\(∀ (i:Nat) (C':Addr),Cs[i]? = some C'->PySem.W.kitOne K (.ref C) (.ref C')=some (b i))/\PySem.W.kitOne K (.ref C) (.ref L)=some true/\PySem.W.kitOne K (.ref C) (.type "ValueError")=some true ∧
   (cnt (eU b)≠1->∀ (l:Addr) (H':Hp),aA H H'->H' l=some (.lst [.str "odd"])->Q (.ref l) H') ∧
   (cnt (eU b)=1->∃ j:Nat,j < 13/\(∀ z,((eU b).map V.bl)[j]? = some z->g9 z (.bl true)=true)/\(∀ m z,m < j->((eU b).map V.bl)[m]? = some z->g9 z (.bl true)=false) ∧
    (j < 4->zA K C "place" /\ ∃ (d:Addr) (n:Int),dx=some d/\H d=some (.xd [("place",.int n)])/\∀ (l:Addr) (H':Hp),aA H H'->H l=none->H' l=some (.lst [.str (fw.getD j ""),.int n])->Q (.ref l) H') ∧
    (4 <= j->∀ (l:Addr) (H':Hp),aA H H'->H l=none->H' l=some (.lst [.str (fw.getD j "")])->Q (.ref l) H'))):aF P w K mg base aW 1 f fd ["caught"] sp:=by
 refine F.uO qc (fun vs H Q E h=>len vs H Q E h) (fun aK A outer s H vs Q E hr h => ?_)
 obtain⟨a,C,dx,b,rfl,E0,cl,kt,kL,kV,odd,good⟩:=mF vs H Q E h
 have nd:=qc.nd
 obtain⟨c0,e0,m0⟩:=T.cls 0 "NoWay" rfl
 obtain⟨c1,e1,m1⟩:=T.cls 1 "NoJoin" rfl
 obtain⟨c2,e2,m2⟩:=T.cls 2 "NoStep" rfl
 obtain⟨c3,e3,m3⟩:=T.cls 3 "NoHouse" rfl
 obtain⟨c4,e4,m4⟩:=T.cls 4 "NoWeb" rfl
 obtain⟨c5,e5,m5⟩:=T.cls 5 "NoPrice" rfl
 obtain⟨c6,e6,m6⟩:=T.cls 6 "TooMany" rfl
 obtain⟨c7,e7,m7⟩:=T.cls 7 "Closed" rfl
 obtain⟨c8,e8,m8⟩:=T.cls 8 "Free" rfl
 obtain⟨c9,e9,m9⟩:=T.cls 9 "Nothing" rfl
 obtain⟨qd,TV,TX⟩:=T.cls 10 "NoNumber" rfl
 obtain⟨qe,TY,TZ⟩:=T.cls 11 "NoText" rfl
 obtain⟨qf,T1,xk⟩:=T.cls 12 "NoLine" rfl
 have gI:Gl (aS aW P w K mg base ["caught", "some", "words", "at"] "_law_refusal" (bf aJ) f aK A outer s H E).cg "isinstance" := by rfl
 have v0:∀ q,JE (aS aW P w K mg base ["caught", "some", "words", "at"] "_law_refusal" (bf aJ) f aK A outer s H E).cg (.Name "caught" q) (d4 0):=fun q=>jv 0
 have v1:∀ q,JE (aS aW P w K mg base ["caught", "some", "words", "at"] "_law_refusal" (bf aJ) f aK A outer s H E).cg (.Name "some" q) (d4 1):=fun q=>jv 1
 have n0:∀ p q r t,JE (aS aW P w K mg base ["caught", "some", "words", "at"] "_law_refusal" (bf aJ) f aK A outer s H E).cg (.Call (.Name "isinstance" p) [.Name "caught" q,.Name "NoWay" r] [] t) (jk a C dx (b 0)):=fun p q r t=>jU (v0 q) (jI (v := .ref c0) (by rfl) m0 rfl) rfl cl (kt 0 c0 e0) gI T.jT
 have n1:∀ p q r t,JE (aS aW P w K mg base ["caught", "some", "words", "at"] "_law_refusal" (bf aJ) f aK A outer s H E).cg (.Call (.Name "isinstance" p) [.Name "caught" q,.Name "NoJoin" r] [] t) (jk a C dx (b 1)):=fun p q r t=>jU (v0 q) (jI (v := .ref c1) (by rfl) m1 rfl) rfl cl (kt 1 c1 e1) gI T.jT
 have n2:∀ p q r t,JE (aS aW P w K mg base ["caught", "some", "words", "at"] "_law_refusal" (bf aJ) f aK A outer s H E).cg (.Call (.Name "isinstance" p) [.Name "caught" q,.Name "NoStep" r] [] t) (jk a C dx (b 2)):=fun p q r t=>jU (v0 q) (jI (v := .ref c2) (by rfl) m2 rfl) rfl cl (kt 2 c2 e2) gI T.jT
 have n3:∀ p q r t,JE (aS aW P w K mg base ["caught", "some", "words", "at"] "_law_refusal" (bf aJ) f aK A outer s H E).cg (.Call (.Name "isinstance" p) [.Name "caught" q,.Name "NoHouse" r] [] t) (jk a C dx (b 3)):=fun p q r t=>jU (v0 q) (jI (v := .ref c3) (by rfl) m3 rfl) rfl cl (kt 3 c3 e3) gI T.jT
 have n4:∀ p q r t,JE (aS aW P w K mg base ["caught", "some", "words", "at"] "_law_refusal" (bf aJ) f aK A outer s H E).cg (.Call (.Name "isinstance" p) [.Name "caught" q,.Name "NoWeb" r] [] t) (jk a C dx (b 4)):=fun p q r t=>jU (v0 q) (jI (v := .ref c4) (by rfl) m4 rfl) rfl cl (kt 4 c4 e4) gI T.jT
 have n5:∀ p q r t,JE (aS aW P w K mg base ["caught", "some", "words", "at"] "_law_refusal" (bf aJ) f aK A outer s H E).cg (.Call (.Name "isinstance" p) [.Name "caught" q,.Name "NoPrice" r] [] t) (jk a C dx (b 5)):=fun p q r t=>jU (v0 q) (jI (v := .ref c5) (by rfl) m5 rfl) rfl cl (kt 5 c5 e5) gI T.jT
 have n6:∀ p q r t,JE (aS aW P w K mg base ["caught", "some", "words", "at"] "_law_refusal" (bf aJ) f aK A outer s H E).cg (.Call (.Name "isinstance" p) [.Name "caught" q,.Name "TooMany" r] [] t) (jk a C dx (b 6)):=fun p q r t=>jU (v0 q) (jI (v := .ref c6) (by rfl) m6 rfl) rfl cl (kt 6 c6 e6) gI T.jT
 have n7:∀ p q r t,JE (aS aW P w K mg base ["caught", "some", "words", "at"] "_law_refusal" (bf aJ) f aK A outer s H E).cg (.Call (.Name "isinstance" p) [.Name "caught" q,.Name "Closed" r] [] t) (jk a C dx (b 7)):=fun p q r t=>jU (v0 q) (jI (v := .ref c7) (by rfl) m7 rfl) rfl cl (kt 7 c7 e7) gI T.jT
 have n8:∀ p q r t,JE (aS aW P w K mg base ["caught", "some", "words", "at"] "_law_refusal" (bf aJ) f aK A outer s H E).cg (.Call (.Name "isinstance" p) [.Name "caught" q,.Name "Free" r] [] t) (jk a C dx (b 8)):=fun p q r t=>jU (v0 q) (jI (v := .ref c8) (by rfl) m8 rfl) rfl cl (kt 8 c8 e8) gI T.jT
 have n9:∀ p q r t,JE (aS aW P w K mg base ["caught", "some", "words", "at"] "_law_refusal" (bf aJ) f aK A outer s H E).cg (.Call (.Name "isinstance" p) [.Name "caught" q,.Name "Nothing" r] [] t) (jk a C dx (b 9)):=fun p q r t=>jU (v0 q) (jI (v := .ref c9) (by rfl) m9 rfl) rfl cl (kt 9 c9 e9) gI T.jT
 have T2:∀ p q r t,JE (aS aW P w K mg base ["caught", "some", "words", "at"] "_law_refusal" (bf aJ) f aK A outer s H E).cg (.Call (.Name "isinstance" p) [.Name "caught" q,.Name "NoNumber" r] [] t) (jk a C dx (b 10)):=fun p q r t=>jU (v0 q) (jI (v := .ref qd) (by rfl) TX rfl) rfl cl (kt 10 qd TV) gI T.jT
 have T3:∀ p q r t,JE (aS aW P w K mg base ["caught", "some", "words", "at"] "_law_refusal" (bf aJ) f aK A outer s H E).cg (.Call (.Name "isinstance" p) [.Name "caught" q,.Name "NoText" r] [] t) (jk a C dx (b 11)):=fun p q r t=>jU (v0 q) (jI (v := .ref qe) (by rfl) TZ rfl) rfl cl (kt 11 qe TY) gI T.jT
 have T5:∀ p q r t,JE (aS aW P w K mg base ["caught", "some", "words", "at"] "_law_refusal" (bf aJ) f aK A outer s H E).cg (.Call (.Name "isinstance" p) [.Name "caught" q,.Name "NoLine" r] [] t) (jk a C dx (b 12)):=fun p q r t=>jU (v0 q) (jI (v := .ref qf) (by rfl) xk rfl) rfl cl (kt 12 qf T1) gI T.jT
 have nL:∀ p q r t,JE (aS aW P w K mg base ["caught", "some", "words", "at"] "_law_refusal" (bf aJ) f aK A outer s H E).cg (.Call (.Name "isinstance" p) [.Name "caught" q,.Name "LotError" r] [] t) (jk a C dx true):=fun p q r t=>jU (v0 q) (jI (v := .ref L) (by rfl) T.Sh rfl) rfl cl kL gI T.jT
 have nV:∀ p q r t,JE (aS aW P w K mg base ["caught", "some", "words", "at"] "_law_refusal" (bf aJ) f aK A outer s H E).cg (.Call (.Name "isinstance" p) [.Name "caught" q,.Name "ValueError" r] [] t) (jk a C dx true):=fun p q r t=>jU (v0 q) (Fs (by rfl) T.VE Si (v := .ty "ValueError") rfl) rfl cl kV gI T.jT
 have h0:JS (aS aW P w K mg base ["caught", "some", "words", "at"] "_law_refusal" (bf aJ) f aK A outer s H E).cg ((dR aJ).getD 0 (.Pass ⟨0,0,0,0⟩)) (bU (sd a C dx [b 0,b 1,b 2]) (gg 1)):=FC nd rfl (Or.inl rfl) (wa (kM (n0 _ _ _ _) (kM (n1 _ _ _ _) (kM (n2 _ _ _ _) v_))) (by show 3 <= 20;decide)) (.inr rfl)
 have h1:JS (aS aW P w K mg base ["caught", "some", "words", "at"] "_law_refusal" (bf aJ) f aK A outer s H E).cg ((dR aJ).getD 1 (.Pass ⟨0,0,0,0⟩)) (bU (mn a C dx ([b 0,b 1,b 2]) [b 3,b 4,b 5]) (gg 1)):=xf nd rfl (Or.inl rfl) (yH (v1 _) (wa (kM (n3 _ _ _ _) (kM (n4 _ _ _ _) (kM (n5 _ _ _ _) v_))) (by show 3 <= 20;decide)) (by show 3 + 3 <= 20;decide)) (.inr rfl)
 have h2:JS (aS aW P w K mg base ["caught", "some", "words", "at"] "_law_refusal" (bf aJ) f aK A outer s H E).cg ((dR aJ).getD 2 (.Pass ⟨0,0,0,0⟩)) (bU (mn a C dx ([b 0,b 1,b 2] ++ [b 3,b 4,b 5]) [b 6,b 7,b 8]) (gg 1)):=xf nd rfl (Or.inl rfl) (yH (v1 _) (wa (kM (n6 _ _ _ _) (kM (n7 _ _ _ _) (kM (n8 _ _ _ _) v_))) (by show 3 <= 20;decide)) (by show 6 + 3 <= 20;decide)) (.inr rfl)
 have h3:JS (aS aW P w K mg base ["caught", "some", "words", "at"] "_law_refusal" (bf aJ) f aK A outer s H E).cg ((dR aJ).getD 3 (.Pass ⟨0,0,0,0⟩)) (bU (mn a C dx ([b 0,b 1,b 2] ++ [b 3,b 4,b 5] ++ [b 6,b 7,b 8]) [b 9,b 10,b 11]) (gg 1)):=xf nd rfl (Or.inl rfl) (yH (v1 _) (wa (kM (n9 _ _ _ _) (kM (T2 _ _ _ _) (kM (T3 _ _ _ _) v_))) (by show 3 <= 20;decide)) (by show 9 + 3 <= 20;decide)) (.inr rfl)
 have h4:JS (aS aW P w K mg base ["caught", "some", "words", "at"] "_law_refusal" (bf aJ) f aK A outer s H E).cg ((dR aJ).getD 4 (.Pass ⟨0,0,0,0⟩)) (bU (mn a C dx ([b 0,b 1,b 2] ++ [b 3,b 4,b 5] ++ [b 6,b 7,b 8] ++ [b 9,b 10,b 11]) [b 12]) (gg 1)):=xf nd rfl (Or.inl rfl) (yH (v1 _) (wa (kM (T5 _ _ _ _) v_) (by show 1 <= 20;decide)) (by show 12 + 1 <= 20;decide)) (.inr rfl)
 have h5:JS (aS aW P w K mg base ["caught", "some", "words", "at"] "_law_refusal" (bf aJ) f aK A outer s H E).cg ((dR aJ).getD 5 (.Pass ⟨0,0,0,0⟩)) (fun D σ H1=>∃ l:Addr,σ[0]? = some (some (.ref a)) /\ σ[1]? = some (some (.ref l))/\H1 l=some (.lst ((eU b).map V.bl))/\ExcAt H1 a C dx/\(cnt (eU b)≠1->∀ (l':Addr) (H':Hp),aA H1 H'->H' l'=some (.lst [.str "odd"])->D.rt (.ref l') H')/\(cnt (eU b)=1->D.nx σ H1)):=by
  refine (AE (JW.jt (AD (AH Le (qR XN PySem.F.slot_list_count PySem.F.type_list_count Ng (v1 _) (lF AA aU)) cw (Et _)) (AD (w_ (wZ (nL _ _ _ _))) (Fv (w_ (wZ (nV _ _ _ _))))))) (kU (sJ (pq (lF AB aU)))) iw).weak ?_
  rintro D σ H1 ⟨l,e0,e1,hl,e,od,gd⟩
  refine⟨_,e1,.inl ⟨rfl,_,bo.of hl⟩,l,_,_,rfl,rfl,bo.of hl,rfl,CU _,rfl,_,rfl,?_⟩
  by_cases hc:cnt (eU b)=1
  ·refine Mq (congrArg (fun n:Nat=>V.int n) hc) ?_
   exact⟨e0,e,_,rfl,qM ⟨e0,e,_,rfl,qM (gd hc)⟩⟩
  ·refine Nx (fun z=>hc (Int.ofNat.inj (V.int.inj z))) ?_
   exact Ab ⟨i8 (by show 1 <= 20;decide),fun p hp=>od hc p _ (ml hp) bH⟩
 have h6:JS (aS aW P w K mg base ["caught", "some", "words", "at"] "_law_refusal" (bf aJ) f aK A outer s H E).cg ((dR aJ).getD 6 (.Pass ⟨0,0,0,0⟩)) (bU (fun _ H Q=>∀ p,H p=none->Q (.ref p) (upd H p (.lst (eT.map V.str)))) (gg 2)):=FC (i:=2) nd rfl (Or.inl rfl) (Sj eT rfl (by decide)) (.inr rfl)
 have h7:JS (aS aW P w K mg base ["caught", "some", "words", "at"] "_law_refusal" (bf aJ) f aK A outer s H E).cg ((dR aJ).getD 7 (.Pass ⟨0,0,0,0⟩)) (fun D σ H1=>∃ (l:Addr) (j:Nat),σ[1]? = some (some (.ref l))/\H1 l=some (.lst ((eU b).map V.bl))/\j < 13/\(∀ z,((eU b).map V.bl)[j]? = some z->g9 z (.bl true)=true)/\(∀ m z,m < j->((eU b).map V.bl)[m]? = some z->g9 z (.bl true)=false)/\D.nx (σ.set 3 (some (.int (j:Nat)))) H1):=by
  refine (NT (i:=3) nd rfl (Or.inl rfl) (qR XN PySem.F.slot_list_index PySem.F.type_list_index Nj (v1 _) (lF AA aU)) (.inr rfl)).weak ?_
  rintro D σ H1 ⟨l,j,e1,hl,hj,i1,i2,gd⟩
  exact⟨_,e1,.inl ⟨rfl,_,bo.of hl⟩,l,_,_,j,rfl,rfl,bo.of hl,rfl,CU _,hj,i1,i2,gd⟩
 have h8:JS (aS aW P w K mg base ["caught", "some", "words", "at"] "_law_refusal" (bf aJ) f aK A outer s H E).cg ((dR aJ).getD 8 (.Pass ⟨0,0,0,0⟩)) _:=sJ (xa (AH Es (jv 3) cw (Et _)) (pq (qT (xc wN (jv 2) (jv 3) (fun _ _=>rfl)) (AL (Sk (v0 _) rfl) aU))) (pq (qT (xc wN (qP wR (jv 2) (pq (lF AB aU))) (jv 3) (fun _ _=>rfl)) aU)))
 have g8:cV (aS aW P w K mg base ["caught", "some", "words", "at"] "_law_refusal" (bf aJ) f aK A outer s H E).cg ((dR aJ).drop 8) _:=NU (by rfl) h8
 have g7:cV (aS aW P w K mg base ["caught", "some", "words", "at"] "_law_refusal" (bf aJ) f aK A outer s H E).cg ((dR aJ).drop 7) _:=pA (by decide) h7 g8
 have g6:cV (aS aW P w K mg base ["caught", "some", "words", "at"] "_law_refusal" (bf aJ) f aK A outer s H E).cg ((dR aJ).drop 6) _:=pA (by decide) h6 g7
 have g5:cV (aS aW P w K mg base ["caught", "some", "words", "at"] "_law_refusal" (bf aJ) f aK A outer s H E).cg ((dR aJ).drop 5) _:=pA (by decide) h5 g6
 have g4:cV (aS aW P w K mg base ["caught", "some", "words", "at"] "_law_refusal" (bf aJ) f aK A outer s H E).cg ((dR aJ).drop 4) _:=pA (by decide) h4 g5
 have g3:cV (aS aW P w K mg base ["caught", "some", "words", "at"] "_law_refusal" (bf aJ) f aK A outer s H E).cg ((dR aJ).drop 3) _:=pA (by decide) h3 g4
 have g2:cV (aS aW P w K mg base ["caught", "some", "words", "at"] "_law_refusal" (bf aJ) f aK A outer s H E).cg ((dR aJ).drop 2) _:=pA (by decide) h2 g3
 have g1:cV (aS aW P w K mg base ["caught", "some", "words", "at"] "_law_refusal" (bf aJ) f aK A outer s H E).cg ((dR aJ).drop 1) _:=pA (by decide) h1 g2
 have g0:cV (aS aW P w K mg base ["caught", "some", "words", "at"] "_law_refusal" (bf aJ) f aK A outer s H E).cg ((dR aJ).drop 0) _:=pA (by decide) h0 g1
 refine⟨_,NV g0,?_⟩
 refine⟨rfl,E0,fun l1 H1 s1 q1 => ?_⟩
 refine⟨l1,rfl,rfl,q1,E0.same s1,fun l2 H2 s2 q2 => ?_⟩
 have IK:=s1.trans s2
 refine⟨l2,rfl,rfl,q2,E0.same IK,fun l3 H3 s3 q3 => ?_⟩
 have IL:=IK.trans s3
 refine⟨l3,rfl,rfl,q3,E0.same IL,fun l4 H4 s4 q4 => ?_⟩
 have IM:=IL.trans s4
 refine⟨l4,rfl,rfl,q4,E0.same IM,fun l5 H5 s5 q5 => ?_⟩
 have Dp:=IM.trans s5
 refine⟨l5,rfl,rfl,q5,E0.same Dp,fun nc l H' sH hH=>odd nc l H' (Dp.trans sH) hH,fun hc => ?_⟩
 obtain⟨j,hj,i1,i2,jA,many⟩:=good hc
 intro p hp
 have tL:aA H (upd H5 p (.lst (eT.map V.str))):=Dp.trans (ml hp)
 refine⟨l5,j,rfl,(ml hp) _ _ q5,hj,i1,i2,?_⟩
 refine⟨_,rfl,_,_,rfl,rfl,_,rfl,Ac (fun dY => ?_) (fun tF => ?_)⟩
 ·have wo:j < 4:=by have:=YI dY;omega
  obtain⟨na,d,n,ed,hd,fin⟩:=jA wo
  subst ed
  have E6:=E0.same tL
  refine⟨_,rfl,_,rfl,p,_,_,_,rfl,rfl,bo.of bH,mH (Sl wo),_,rfl,a,C,d,_,_,rfl,E6.ob,cl,na,tL _ _ hd,rfl,i8 (by show 2 <= 20;decide),fun l hl => ?_⟩
  exact fin l _ (tL.trans (ml hl)) (tL.free hl) bH
 ·have Dq:4 <= j:=by
   by_cases z:j < 4
   ·exact absurd (WN (show (j:Int) < 4 by omega)) tF
   ·omega
  refine⟨_,rfl,i8 (by show 1 <= 20;decide),fun m hm=>⟨p,m,_,_,rfl,rfl,(by rw[aH (cz bH hm)];exact bH),bH,i8 (by show 13 <= 20;decide),fun r hr=>⟨_,rfl,r,_,_,_,rfl,rfl,bo.of bH,mH (Sm hj),i8 (by show 1 <= 20;decide),fun l hl => ?_⟩⟩⟩
  exact many Dq l _ (((tL.trans (ml hm)).trans (ml hr)).trans (ml hl)) (((tL.trans (ml hm)).trans (ml hr)).free hl) bH
theorem T6 {f L:Addr} {Cs:List Addr} {fd:FuncData} (F:b7 K "_law_refusal" "_law_refusal" aJ f fd) (T:CT mg L Cs) (W:CS K L Cs):aF P w K mg base aW 1 f fd ["caught"] (eS Cs):=by
 refine TU F T (fun vs H Q E h => ?_) (fun vs H Q E h => ?_)
 ·obtain⟨_,_,_,_,_,rfl,_⟩:=h;rfl
 ·obtain⟨j,n,a,C,dx,rfl,hj,hC,E0,hd,fin⟩:=h
  obtain⟨cl,kL,kV,kt⟩:=W.each j C hC
  refine⟨a,C,dx,fun i=>decide (i=j),rfl,E0,cl,kt,kL,kV,fun nc=>absurd (Sn j hj) nc,fun _=>⟨j,hj,fun z hz => ?_,fun m z hm hz => ?_,fun h4 => ?_,fun h4 l H' s hl hH=>fin l H' s hl ?_⟩⟩
  ·rw[Io hz];show g9 (.bl (decide (j=j))) (.bl true)=true;rw[WN rfl];rfl
  ·rw[Io hz];show g9 (.bl (decide (m=j))) (.bl true)=false;rw[WZ (by omega)];rfl
  ·obtain⟨d,ed,hd⟩:=hd h4
   refine⟨W.oM j C hC,d,n,ed,hd,fun l H' s hl hH=>fin l H' s hl ?_⟩
   rw[hH,CV,VZ h4]
  ·rw[hH,CV,My (by omega)]
noncomputable abbrev Dr:Stmt:=top 44
theorem ff:dF ["thing", "caught", "found", "e"] ["thing"] (bf Dr):=⟨rfl,rfl,rfl,by decide +kernel,rfl,by decide +kernel,by decide +kernel⟩
theorem T7 {f fO fR L C:Addr} {Cs:List Addr} {fd IP T8:FuncData} (F:b7 K "_law_told" "_law_told" Dr f fd) (B:BT mg) (GO:Fn P w K mg base 11 "order_of" ["web"] (aR yz 1) fO IP) (GX:aF P w K mg base (mi P w) (7 + 1) fO IP ["web"] (k_ si C 1)) (GR:Fn P w K mg base 1 "_law_refusal" ["caught"] (eS Cs) fR T8)
  (hL:mg "LotError" = some (.ref L)) (hx:PySem.W.exmOne K (.ref C) (.ref L)=some true) (hc:Cs[4]? = some C):aF P w K mg base aW (11 + 1) f fd ["thing"] (aR wc 1):=by
 refine F.uO (k:=11) ff (fun vs H Q E h=>h.1) (fun aK A outer s H vs Q E hr h => ?_)
 obtain⟨hl,F0,ad,ys,ao,K',S0,⟨d,rfl,rfl,k1,k2⟩,kk⟩:=h
 have nd:=ff.nd
 obtain⟨v,rfl⟩:=Zk.mp hl
 obtain rfl:ad=[]:=Y7.mp S0.cO
 cases q:eM d
 ·refine⟨_,mM (lE (i:=1) nd rfl (Or.inl rfl) uM) (mM (lE (i:=2) nd rfl (Or.inl rfl) uM) (mM ⟨Ie (i:=3) rfl rfl nd rfl rfl (by rfl) hL (by decide) (fun pn xe E hp=>(kU (lE (i:=2) nd rfl (Or.inl rfl) (nX GX (hr.mono (by decide)) (by rfl) GO.bD GO.kp GO.bd .nil hp (gr (jv 0) aU)))).out) (fun A xe=>(kU (lE (i:=1) nd rfl (Or.inl rfl) (jv 3))).out)⟩
   (kU (sJ (xa (Fu (Ft (jv 1))) (jv 2) (sM wO (by rfl) B.tuple j4 (kA (nX GR.ok (hr.mono (by decide)) (by rfl) GR.bD GR.kp GR.bd .nil qL (gr (jv 1) aU)) aU))))))),?_⟩
  exact Sf (wd:=[.str "web"]) rfl hx (fun a H Q e k=>Sr hc e k) Ss S0 ⟨d,[],rfl,q⟩ fun v F' H' p=>kk _ _ (k2 q) v F' H' p
 ·obtain⟨m,ws,rfl,W⟩:=Ip q
  refine⟨_,mM (lE (i:=1) nd rfl (Or.inl rfl) uM) (mM (lE (i:=2) nd rfl (Or.inl rfl) uM) (mM ⟨Ie (i:=3) rfl rfl nd rfl rfl (by rfl) hL (by decide) (fun pn xe E hp=>(kU (lE (i:=2) nd rfl (Or.inl rfl) (nX GO.ok (hr.mono (by decide)) (by rfl) GO.bD GO.kp GO.bd .nil qL (gr (jv 0) aU)))).out) (fun A xe=>(kU (lE (i:=1) nd rfl (Or.inl rfl) (jv 3))).out)⟩
   (kU (sJ (xa (Fu (Ft (jv 1))) (jv 2) (sM wO (by rfl) B.tuple j4 (kA (nX GR.ok (hr.mono (by decide)) (by rfl) GR.bD GR.kp GR.bd .nil qL (gr (jv 1) aU)) aU))))))),?_⟩
  refine Sg rfl ⟨rfl,F0,[],_,_,K',S0,⟨m,ws,W,rfl,rfl,fun ns ho=>k1 m ws rfl W ns ho⟩,kk⟩ fun Q' hq=>⟨rfl,F0,[],_,_,K',S0,⟨m,ws,W,rfl,rfl,fun ns ho=>k1 m ws rfl W ns ho⟩,fun r ows h v F' H' p=>hq _ _ (kk r ows h v F' H' p)⟩
theorem T9 {f:Addr} {fd:FuncData} (a:aF P w K mg base aW 3 f fd ["found", "due"] (aR (LJ.ak 2) 2)) (b:aF P w K mg base aW 3 f fd ["found", "due"] (aR (LJT.ak 2) 2)):aF P w K mg base aW 3 f fd ["found", "due"] (aR yI 2):=CW a b
noncomputable abbrev wq:Stmt:=top 45
theorem mw:dF ["script", "pen", "turn", "web", "again", "found", "k", "thing", "due"] ["script"] (bf wq):=⟨rfl,rfl,rfl,by decide +kernel,rfl,by decide +kernel,by decide +kernel⟩
theorem T_ {f so Ua Ub Uc Ud Ue Ug Uh:Addr} {fd oP Ui Uj Uk Ul Um Uo Uq:FuncData} (F:b7 K "law" "law" wq f fd) (B:BT mg) (GO:Fn P w K mg base 1 "_law_open" ["script"] (B9 K) so oP) (cN:Fn P w K mg base 4 "_law_web" ["pen", "houses", "most"] (aR vA 3) Ua Ui) (cn:Fn P w K mg base 1 "_law_anew" ["pen"] (aR vy 1) Ub Uj) (bq:Fn P w K mg base 12 "_law_told" ["thing"] (aR wc 1) Uc Uk) (au:Fn P w K mg base 3 "_law_same" ["found", "due"] (aR yI 2) Ud Ul) (a_:Fn P w K mg base 2 "_law_order" ["web"] (aR tH 1) Ue Um) (aZ:Fn P w K mg base 6 "_law_bent" ["pen", "thing", "deep"] (aR (l6 3) 3) Ug Uo) (bP:Fn P w K mg base 3 "_law_is_web" ["thing"] (aR vK 1) Uh Uq):aF P w K mg base aW 16 f fd ["script"] (yo K):=by
 refine F.uO (k:=15) mw (fun vs H Q E h => ?_) (fun aK A outer s H vs Q E hr h => ?_)
 ·obtain⟨a,ns,rfl,_⟩:=h
  rfl
 obtain⟨a,ns,rfl,hS,hlen,hT,fin⟩:=h
 have nd:=mw.nd
 have hu:=hr.units
 have rest:cV (aS aW P w K mg base ["script", "pen", "turn", "web", "again", "found", "k", "thing", "due"] "law" (bf wq) f aK A outer s H E).cg ((dR wq).drop 1) (gs CY):=(bA (sS Yq rfl (pH (by rfl) B.range (aQ aw aG)) (fD (i:=2) nd rfl (by trivial)) (bA (d_ (i:=3) nd rfl (by trivial) (bV cN.ok (hr.mono (by decide)) (by rfl) cN.bD cN.kp cN.bd (dg (bV cn.ok (hr.mono (by decide)) (by rfl) cn.bD cn.kp cn.bd (aq (dv 1) aG)) (aQ aw (aQ aw aG))))) (bA (sS Yq rfl (pH (by rfl) B.range (aQ aw aG)) (fD (i:=4) nd rfl (by trivial)) (bA (d_ (i:=5) nd rfl (by trivial) (Gd bq.ok (hr.mono (by decide)) (by rfl) bq.bD bq.kp bq.bd (aq (dv 3) aG))) (bA (cW (j9 (fB (bV au.ok (hr.mono (by decide)) (by rfl) au.bD au.kp au.bd (aq (dv 5) (dg (bV a_.ok (hr.mono (by decide)) (by rfl) a_.bD a_.kp a_.bd (aq (dv 3) aG)) aG))))) (bE (bM gO)) dh) (bE (uY ((qR XN YV YW wQ (dv 5) (aQ aw aG)).weak Bs)))))) (bE (sS Yq rfl (pH (by rfl) B.range (aQ aw aG)) (fD (i:=6) nd rfl (by trivial)) (bA (d_ (i:=7) nd rfl (by trivial) (bV aZ.ok (hr.mono (by decide)) (by rfl) aZ.bD aZ.kp aZ.bd (aq (dv 1) (aq (dv 3) (aQ aw aG))))) (bA (d_ (i:=8) nd rfl (by trivial) (Od (fB (bV bP.ok (hr.mono (by decide)) (by rfl) bP.bD bP.kp bP.bd (aq (dv 7) aG))) (bV a_.ok (hr.mono (by decide)) (by rfl) a_.bD a_.kp a_.bd (aq (dv 7) aG)) (ju (aQ AU aG)))) (bE (cW (j9 (fB (bV au.ok (hr.mono (by decide)) (by rfl) au.bD au.kp au.bd (dg (bV bq.ok (hr.mono (by decide)) (by rfl) bq.bD bq.kp bq.bd (aq (dv 7) aG)) (aq (dv 8) aG))))) (bE (bM gO)) dh))))))))) (bE (bM gO)))
 refine⟨_,mM (lE (i:=1) nd rfl (by trivial) (nX GO.ok (hr.mono (by decide)) (by rfl) GO.bD GO.kp GO.bd .nil qL (gr (jv 0) aU))) rest,?_⟩
 refine⟨_,rfl,a,ns,rfl,hS,hlen,fun p c H1 sm hp N1 => ?_⟩
 obtain⟨F',ms,hm,S⟩:=QB (a:=a) (n:=7) (aV.same hT sm) N1
 exact QC S (Sv ms hm) fin
end
noncomputable def la:List p_:=[⟨274,⟨72,40,72,76⟩,(("order_of" : Str) ++ ".<locals>.") ++ "<lambda>"⟩]
theorem Ur:∀ a∈la,∀ b∈la,a.T=b.T->a=b:=by
 unfold la
 intro a ha b hb h
 simp only[EZ,WC,Xy] at ha hb
 rcases ha with rfl<;>rcases hb with rfl<;>first | rfl | exact absurd h (by decide)
noncomputable def yL (K:PySem.W.Frag) (C:Addr):Bool :=
 (match PySem.W.clsIn K C with | some cd=>jq cd.mro && cd.hasDict | none=>false) &&
 (PySem.W.findIn K (.ref C) "__getattribute__" == some (some (.builtin "BaseException.__getattribute__"))) &&
 (PySem.W.findIn K (.ref C) "__getattr__" == some none) &&
 (PySem.W.findIn K (.ref C) "__setattr__" == some (some (.builtin "object.__setattr__"))) &&
 (PySem.W.findIn K (.ref C) "__class__" == some (some (.builtin "object.__class__"))) &&
 (PySem.W.specialIn K (.builtin "object.__class__") "__get__" == some (some (.builtin "getset_descriptor.__get__"))) &&
 (PySem.W.takesIn K (.builtin "object.__class__") == some true)
theorem IQ {K:PySem.W.Frag} {C:Addr} (h:yL K C=true):bL K C:=by
 unfold yL at h
 simp only[VY] at h
 obtain⟨⟨⟨⟨⟨⟨h1,h2⟩,h3⟩,h4⟩,h5⟩,h6⟩,h7⟩:=h
 refine⟨?_,WV h2,WV h3,WV h4,WV h5,WV h6,WV h7⟩
 split at h1
 ·rename_i cd e
  simp only[VY] at h1
  exact⟨cd,e,h1.1,h1.2⟩
 ·cases h1
noncomputable def Ds (K:PySem.W.Frag) (L:Addr) (Cs:List Addr):Bool :=
 yL K L && (PySem.W.kitOne K (.ref L) (.ref L) == some true) && (PySem.W.kitOne K (.ref L) (.type "ValueError") == some true) &&
 (Cs.zipIdx.all fun z=>PySem.W.kitOne K (.ref L) (.ref z.1) == some false) &&
 (Cs.zipIdx.all fun y=>yL K y.1 && (PySem.W.findIn K (.ref y.1) "place" == some none) && (PySem.W.kitOne K (.ref y.1) (.ref L) == some true) && (PySem.W.kitOne K (.ref y.1) (.type "ValueError") == some true) &&
  Cs.zipIdx.all fun z=>PySem.W.kitOne K (.ref y.1) (.ref z.1) == some (decide (z.2=y.2)))
theorem Us {K:PySem.W.Frag} {L:Addr} {Cs:List Addr} (hl:Cs.length=13) (h:Ds K L Cs=true):CS K L Cs:=by
 unfold Ds at h
 simp only[VY] at h
 obtain⟨⟨⟨⟨h1,h2⟩,h3⟩,h4⟩,h5⟩:=h
 have at_:∀ {i:Nat} {C:Addr},Cs[i]? = some C->(C,i)∈Cs.zipIdx:=fun {i C} e=>List.mk_mem_zipIdx_iff_getElem?.mpr e
 have each:∀ (j:Nat) (C:Addr),Cs[j]? = some C->_:=fun j C e=>Xb.mp h5 (C,j) (at_ e)
 refine⟨hl,fun j C e => ?_,⟨IQ h1,WV h2,WV h3,fun i C' e=>WV (Xb.mp h4 (C',i) (at_ e))⟩,fun j C e => ?_⟩
 ·have:=each j C e
  simp only[VY] at this
  obtain⟨⟨⟨⟨a,_⟩,c⟩,d⟩,f⟩:=this
  exact⟨IQ a,WV c,WV d,fun i C' e'=>WV (Xb.mp f (C',i) (at_ e'))⟩
 ·have:=each j C e
  simp only[VY] at this
  exact WV this.1.1.1.2
noncomputable def nsOk (K:PySem.W.Frag) (N:Addr) (name:Str) (r:Option Value):Bool:=match List.lookup N K with
 | some ⟨_,_,.dict es _,_⟩=>(es.all fun e=>match e.key with | .str _ _=>true | _=>false) && (nsFind es name == r)
 | _=>false
theorem IS {K:PySem.W.Frag} {N:Addr} {name:Str} {r:Option Value} (h:nsOk K N name r=true):uH K N name r:=by
 unfold nsOk at h
 split at h
 ·rename_i oc od es ep sl e
  simp only[VY] at h
  exact⟨oc,od,es,ep,sl,e,h.1,WV h.2⟩
 ·cases h
theorem Ut {K:PySem.W.Frag} {L C N:Addr} {nm q:Str} {bs:List Value} {i7:Bool} {sn:List Str} {sub:List Value} {ab:Bool} {col:Option Bool} {dd:Option Addr} {k0 k1 k2 k3 k5:Option Value} {lD:Option Value} (T:cG K (.ref L :: sI))
  (l:K.lookup C=some (excClassObj nm q C N bs (.ref L :: sI) i7 sn sub ab col dd k0 k1 k2 k3 k5 "ValueError.__new__")) (n:nsOk K N "__init__" lD=true) (kp:PySem.W.keepIn K (.ref C)=true):qO K C lD :=
 ⟨⟨_,_,N,_,_,_,_,_,_,_,_,_,_,_,_,_,l,T,IS n⟩,kp⟩
theorem kN {us:List Value} (h:us.length=1):∃ a,us=[a]:=Zk.mp h
theorem qg {us:List Value} (h:us.length=2):∃ a b,us=[a,b]:=by
 cases us with
 | nil=>cases h
 | cons a r=>obtain⟨b,e⟩:=kN (Nat.succ.inj h);exact⟨a,b,by rw[e]⟩
theorem tM {us:List Value} (h:us.length=3):∃ a b c,us=[a,b,c]:=by
 cases us with
 | nil=>cases h
 | cons a r=>obtain⟨b,c,e⟩:=qg (Nat.succ.inj h);exact⟨a,b,c,by rw[e]⟩
structure fz (K:PySem.W.Frag) (x:Str) (st:Stmt) (f:Addr) (fd:FuncData):Prop where
 a:PySem.W.nsIn K mainGlobals x=some (some (.ref f))
 F:b7 K x x st f fd
 k:PySem.W.keepIn K (.ref f)=true
theorem defAt {K:PySem.W.Frag} {x:Str} {st:Stmt} {f:Addr} {od an:Option Addr} {sl:Array (Option Value)} {oc kV dc pm cd ct:Value} (a:PySem.W.nsIn K mainGlobals x=some (some (.ref f))) (l:K.lookup f=some ⟨oc,od,.func (PySem.W.fnOf x x (o_ st) (dR st) (bf st) .none kV dc pm an cd ct),sl⟩) (q:PySem.W.codeIn K cd x=true) (k:PySem.W.keepIn K (.ref f)=true) :
  fz K x st f (PySem.W.fnOf x x (o_ st) (dR st) (bf st) .none kV dc pm an cd ct):=⟨a,Mp l q k,k⟩
structure Dt (K:PySem.W.Frag) (x:Str) (st:Stmt) (f:Addr) (fd:FuncData) (T:Addr):Prop extends fz K x st f fd where
 cd:∃ cc,fd.code = .ref cc/\PySem.W.codeHdIn K cc T=true
theorem IT {K:PySem.W.Frag} {x:Str} {st:Stmt} {f T cc:Addr} {od an:Option Addr} {sl:Array (Option Value)} {oc kV dc pm ct:Value} (a:PySem.W.nsIn K mainGlobals x=some (some (.ref f))) (l:K.lookup f=some ⟨oc,od,.func (PySem.W.fnOf x x (o_ st) (dR st) (bf st) .none kV dc pm an (.ref cc) ct),sl⟩) (q:PySem.W.codeIn K (.ref cc) x=true) (k:PySem.W.keepIn K (.ref f)=true) (h:PySem.W.codeHdIn K cc T=true) :
  Dt K x st f (PySem.W.fnOf x x (o_ st) (dR st) (bf st) .none kV dc pm an (.ref cc) ct) T:=⟨defAt a l q k,cc,rfl,h⟩
theorem Uu {l:PySem.W.OpenLaw} {w:World} {K:PySem.W.Frag} {h:Heap} {mg:Str->Option Value} {fa IU IV IW IX IY IZ I0 I_ Ja yM Jb Jc Jd Je Jf Jg Jh Ji Jj Jk Jl Jm Jn Jo Jp Du:Addr} (X:K.In h) (G:h.Ns mainGlobals mg) (Uv:mg "law" = some (.ref fa))
  {Uw Ux Uy Uz UA UB UC UD UE Dv UG UH UI UJ UK UL UM UN UO UP UQ UR US UT UU wt:FuncData}
  {Jq:Value}
  {Jr:Value}
  {Js:Value}
  {L N0 M4 c0 c1 c2 c3 c4 c5 c6 c7 c8 c9 qd qe qf:Addr}
  {UW UX:Str} {UY:List Value} {UZ:Bool} {U0:List Str} {Dw:List Value} {U1:Bool} {Dx:Option Bool} {U2:Option Addr} {U3 U4 U5 U6 U7:Option Value}
  {Dy Dz:Str} {DA:List Value} {DB:Bool} {DC:List Str} {wu:List Value} {DD:Bool} {wx:Option Bool} {DE:Option Addr} {DF DG DH DI DJ:Option Value}
  (Dis_whole:fz K "is_whole" C0 IU Uw)
  (Dis_within:fz K "is_within" C1 IV Ux)
  (Dis_tuple_of:fz K "is_tuple_of" C2 IW Uy)
  (Dare_ends:fz K "are_ends" C3 IX Uz)
  (Dis_way:fz K "is_way" C4 IY UA)
  (Dare_ways:fz K "are_ways" C7 IZ UB)
  (Dis_web:fz K "is_web" C8 I0 UC)
  (Dneed_web:fz K "need_web" yJ I_ UD)
  (Drank_of:fz K "rank_of" C9 Ja UE)
  (Dorder_of:Dt K "order_of" wj yM Dv 274)
  (D_law_spread:fz K "_law_spread" C_ Jb UG)
  (D_law_open:fz K "_law_open" Dl Jc UH)
  (D_law_anew:fz K "_law_anew" Dc Jd UI)
  (D_law_take:fz K "_law_take" Dd Je UJ)
  (D_law_same:fz K "_law_same" tK Jf UK)
  (D_law_pairs_of:fz K "_law_pairs_of" De Jg UL)
  (D_law_web:fz K "_law_web" Df Jh UM)
  (D_law_key:fz K "_law_key" Dg Ji UN)
  (D_law_order:fz K "_law_order" Dh Jj UO)
  (D_law_is_whole:fz K "_law_is_whole" Di Jk UP)
  (D_law_is_in:fz K "_law_is_in" Dj Jl UQ)
  (D_law_is_web:fz K "_law_is_web" Dk Jm UR)
  (D_law_bent:fz K "_law_bent" yK Jn US)
  (D_law_refusal:fz K "_law_refusal" TR Jo UT)
  (D_law_told:fz K "_law_told" Dr Jp UU)
  (Dlaw:fz K "law" wq Du wt)
  (q23:PySem.W.nsIn K mainGlobals "MOST_HOUSES" = some (some Jq)) (q2R:RelV (.int 12) Jq)
  (q4l:PySem.W.nsIn K mainGlobals "MOST_WAYS" = some (some Jr)) (q4b:RelV (.int 30) Jr)
  (q3B:PySem.W.nsIn K mainGlobals "MOST_PRICE" = some (some Js)) (q3v:RelV (.int 1000000000) Js)
  (zlen:PySem.W.nsIn K mainGlobals "len" = some none)
  (zrange:PySem.W.nsIn K mainGlobals "range" = some none)
  (zlist:PySem.W.nsIn K mainGlobals "list" = some none)
  (ztuple:PySem.W.nsIn K mainGlobals "tuple" = some none)
  (zset:PySem.W.nsIn K mainGlobals "set" = some none)
  (zsorted:PySem.W.nsIn K mainGlobals "sorted" = some none)
  (zmin:PySem.W.nsIn K mainGlobals "min" = some none)
  (zmax:PySem.W.nsIn K mainGlobals "max" = some none)
  (zsum:PySem.W.nsIn K mainGlobals "sum" = some none)
  (zall:PySem.W.nsIn K mainGlobals "all" = some none)
  (zany:PySem.W.nsIn K mainGlobals "any" = some none)
  (zenumerate:PySem.W.nsIn K mainGlobals "enumerate" = some none)
  (zzip:PySem.W.nsIn K mainGlobals "zip" = some none)
  (zisinstance:PySem.W.nsIn K mainGlobals "isinstance" = some none)
  (zint:PySem.W.nsIn K mainGlobals "int" = some none)
  (zbool:PySem.W.nsIn K mainGlobals "bool" = some none)
  (zstr:PySem.W.nsIn K mainGlobals "str" = some none)
  (aL:PySem.W.nsIn K mainGlobals "LotError" = some (some (.ref L))) (lL:K.lookup L=some (excClassObj UW UX L N0 UY (sI) UZ U0 Dw U1 Dx U2 U3 U4 U5 U6 U7 "ValueError.__new__")) (nL:nsOk K N0 "__init__" none=true)
  (lC4:K.lookup c4=some (excClassObj Dy Dz c4 M4 DA (.ref L :: sI) DB DC wu DD wx DE DF DG DH DI DJ "ValueError.__new__")) (nC4:nsOk K M4 "__init__" none=true) (kC4:PySem.W.keepIn K (.ref c4)=true)
  (aC0:PySem.W.nsIn K mainGlobals "NoWay" = some (some (.ref c0)))
  (aC1:PySem.W.nsIn K mainGlobals "NoJoin" = some (some (.ref c1)))
  (aC2:PySem.W.nsIn K mainGlobals "NoStep" = some (some (.ref c2)))
  (aC3:PySem.W.nsIn K mainGlobals "NoHouse" = some (some (.ref c3)))
  (aC4:PySem.W.nsIn K mainGlobals "NoWeb" = some (some (.ref c4)))
  (aC5:PySem.W.nsIn K mainGlobals "NoPrice" = some (some (.ref c5)))
  (aC6:PySem.W.nsIn K mainGlobals "TooMany" = some (some (.ref c6)))
  (aC7:PySem.W.nsIn K mainGlobals "Closed" = some (some (.ref c7)))
  (aC8:PySem.W.nsIn K mainGlobals "Free" = some (some (.ref c8)))
  (aC9:PySem.W.nsIn K mainGlobals "Nothing" = some (some (.ref c9)))
  (aC10:PySem.W.nsIn K mainGlobals "NoNumber" = some (some (.ref qd)))
  (aC11:PySem.W.nsIn K mainGlobals "NoText" = some (some (.ref qe)))
  (aC12:PySem.W.nsIn K mainGlobals "NoLine" = some (some (.ref qf)))
  (kit:Ds K L [c0,c1,c2,c3,c4,c5,c6,c7,c8,c9,qd,qe,qf]=true) (exm:PySem.W.exmOne K (.ref c4) (.ref L)=some true)
  (zVE:PySem.W.nsIn K mainGlobals "ValueError" = some none)
  : ∃ fd:FuncData,(∀ (s:Shared) (v:Value),BindsTo s fd ⟨[v],[]⟩ [("script",v)])/\∀ base:Heap,K.In base->base.Ns mainGlobals mg->(∀ t∈la,base.BuiltinsAt mg t.T)->aF l.prog w K mg base aW 16 fa fd ["script"] (@yo (rY la) K):=by
 have e:=Uv.symm.trans (Mo X G Dlaw.a)
 cases e
 letI:aV:=rY la
 have B:BT mg:=⟨WY X G zlen,WY X G zrange,WY X G zlist,WY X G ztuple,WY X G zset,WY X G zsorted,WY X G zmin,WY X G zmax,WY X G zsum,WY X G zall,WY X G zany,WY X G zenumerate,WY X G zzip,WY X G zisinstance,WY X G zint,WY X G zbool,WY X G zstr⟩
 have W:CS K L [c0,c1,c2,c3,c4,c5,c6,c7,c8,c9,qd,qe,qf]:=Us rfl kit
 have T:CT mg L [c0,c1,c2,c3,c4,c5,c6,c7,c8,c9,qd,qe,qf]:=by
  refine⟨B.isinstance,WY X G zVE,Mo X G aL,fun j x hx => ?_⟩
  unfold names13 at hx
  rcases j with _ | _ | _ | _ | _ | _ | _ | _ | _ | _ | _ | _ | _ | j<;>simp at hx<;>subst hx
  ·exact⟨_,rfl,Mo X G aC0⟩
  ·exact⟨_,rfl,Mo X G aC1⟩
  ·exact⟨_,rfl,Mo X G aC2⟩
  ·exact⟨_,rfl,Mo X G aC3⟩
  ·exact⟨_,rfl,Mo X G aC4⟩
  ·exact⟨_,rfl,Mo X G aC5⟩
  ·exact⟨_,rfl,Mo X G aC6⟩
  ·exact⟨_,rfl,Mo X G aC7⟩
  ·exact⟨_,rfl,Mo X G aC8⟩
  ·exact⟨_,rfl,Mo X G aC9⟩
  ·exact⟨_,rfl,Mo X G aC10⟩
  ·exact⟨_,rfl,Mo X G aC11⟩
  ·exact⟨_,rfl,Mo X G aC12⟩
 have MC:qO K c4 none:=Ut (.own lL (IS nL) .base) lC4 nC4 kC4
 have U8:=Dis_whole.F.binds (ps:=["thing"]) fun _ _ _ _ _ _ us hl=>by obtain⟨_,rfl⟩:=kN hl;rfl
 have U9:=Dis_within.F.binds (ps:=["thing", "least", "most"]) fun _ _ _ _ _ _ us hl=>by obtain⟨_,_,_,rfl⟩:=tM hl;rfl
 have U_:=Dis_tuple_of.F.binds (ps:=["thing", "size"]) fun _ _ _ _ _ _ us hl=>by obtain⟨_,_,rfl⟩:=qg hl;rfl
 have Va:=Dare_ends.F.binds (ps:=["many", "one", "other"]) fun _ _ _ _ _ _ us hl=>by obtain⟨_,_,_,rfl⟩:=tM hl;rfl
 have Vb:=Dis_way.F.binds (ps:=["many", "thing"]) fun _ _ _ _ _ _ us hl=>by obtain⟨_,_,rfl⟩:=qg hl;rfl
 have Vc:=Dare_ways.F.binds (ps:=["many", "thing"]) fun _ _ _ _ _ _ us hl=>by obtain⟨_,_,rfl⟩:=qg hl;rfl
 have Vd:=Dis_web.F.binds (ps:=["thing"]) fun _ _ _ _ _ _ us hl=>by obtain⟨_,rfl⟩:=kN hl;rfl
 have Ve:=Dneed_web.F.binds (ps:=["web"]) fun _ _ _ _ _ _ us hl=>by obtain⟨_,rfl⟩:=kN hl;rfl
 have Vf:=Drank_of.F.binds (ps:=["way"]) fun _ _ _ _ _ _ us hl=>by obtain⟨_,rfl⟩:=kN hl;rfl
 have Vg:=Dorder_of.F.binds (ps:=["web"]) fun _ _ _ _ _ _ us hl=>by obtain⟨_,rfl⟩:=kN hl;rfl
 have Vh:=D_law_spread.F.binds (ps:=["cell", "at"]) fun _ _ _ _ _ _ us hl=>by obtain⟨_,_,rfl⟩:=qg hl;rfl
 have Vi:=D_law_open.F.binds (ps:=["script"]) fun _ _ _ _ _ _ us hl=>by obtain⟨_,rfl⟩:=kN hl;rfl
 have Vj:=D_law_anew.F.binds (ps:=["pen"]) fun _ _ _ _ _ _ us hl=>by obtain⟨_,rfl⟩:=kN hl;rfl
 have Vk:=D_law_take.F.binds (ps:=["pen", "many"]) fun _ _ _ _ _ _ us hl=>by obtain⟨_,_,rfl⟩:=qg hl;rfl
 have DK:=D_law_same.F.binds (ps:=["found", "due"]) fun _ _ _ _ _ _ us hl=>by obtain⟨_,_,rfl⟩:=qg hl;rfl
 have Vl:=D_law_pairs_of.F.binds (ps:=["pen", "kind", "many"]) fun _ _ _ _ _ _ us hl=>by obtain⟨_,_,_,rfl⟩:=tM hl;rfl
 have Vm:=D_law_web.F.binds (ps:=["pen", "houses", "most"]) fun _ _ _ _ _ _ us hl=>by obtain⟨_,_,_,rfl⟩:=tM hl;rfl
 have Vn:=D_law_key.F.binds (ps:=["web", "number"]) fun _ _ _ _ _ _ us hl=>by obtain⟨_,_,rfl⟩:=qg hl;rfl
 have Vo:=D_law_order.F.binds (ps:=["web"]) fun _ _ _ _ _ _ us hl=>by obtain⟨_,rfl⟩:=kN hl;rfl
 have Vp:=D_law_is_whole.F.binds (ps:=["thing"]) fun _ _ _ _ _ _ us hl=>by obtain⟨_,rfl⟩:=kN hl;rfl
 have Vq:=D_law_is_in.F.binds (ps:=["thing", "low", "high"]) fun _ _ _ _ _ _ us hl=>by obtain⟨_,_,_,rfl⟩:=tM hl;rfl
 have Vr:=D_law_is_web.F.binds (ps:=["thing"]) fun _ _ _ _ _ _ us hl=>by obtain⟨_,rfl⟩:=kN hl;rfl
 have Jt:=D_law_bent.F.binds (ps:=["pen", "thing", "deep"]) fun _ _ _ _ _ _ us hl=>by obtain⟨_,_,_,rfl⟩:=tM hl;rfl
 have Vs:=D_law_refusal.F.binds (ps:=["caught"]) fun _ _ _ _ _ _ us hl=>by obtain⟨_,rfl⟩:=kN hl;rfl
 have Vt:=D_law_told.F.binds (ps:=["thing"]) fun _ _ _ _ _ _ us hl=>by obtain⟨_,rfl⟩:=kN hl;rfl
 refine⟨wt,fun s v=>by obtain⟨_,_,_,_,_,_,_,_,_,rfl,_⟩:=Dlaw.F.ex;exact .of_eq rfl,fun base KB _ hB => ?_⟩
 have Vu:Fn l.prog w K mg base 1 "is_whole" ["thing"] (aR tu 1) IU _:=⟨Sw Dis_whole.F B,Mo X G Dis_whole.a,Dis_whole.k,U8⟩
 have DL:Fn l.prog w K mg base 2 "is_within" ["thing", "least", "most"] (aR lZ 3) IV _:=⟨Sx Dis_within.F B Vu,Mo X G Dis_within.a,Dis_within.k,U9⟩
 have Ju:Fn l.prog w K mg base 1 "is_tuple_of" ["thing", "size"] (aR rM 2) IW _:=⟨SA Dis_tuple_of.F B,Mo X G Dis_tuple_of.a,Dis_tuple_of.k,U_⟩
 have Vv:Fn l.prog w K mg base 3 "are_ends" ["many", "one", "other"] (aR vD 3) IX _:=⟨SD Dare_ends.F B DL,Mo X G Dare_ends.a,Dare_ends.k,Va⟩
 have Vw:Fn l.prog w K mg base 4 "is_way" ["many", "thing"] (aR vE 2) IY _:=⟨SE Dis_way.F B ⟨q3v,Mo X G q3B⟩ Ju Vv DL,Mo X G Dis_way.a,Dis_way.k,Vb⟩
 have Vx:Fn l.prog w K mg base 5 "are_ways" ["many", "thing"] (aR vI 2) IZ _:=⟨SH Dare_ways.F B ⟨q4b,Mo X G q4l⟩ Vw,Mo X G Dare_ways.a,Dare_ways.k,Vc⟩
 have Jv:Fn l.prog w K mg base 6 "is_web" ["thing"] (aR pV 1) I0 _:=⟨SK Dis_web.F B ⟨q2R,Mo X G q23⟩ Ju DL Vx,Mo X G Dis_web.a,Dis_web.k,Vd⟩
 have Jw:Fn l.prog w K mg base 7 "need_web" ["web"] (aR tG 1) I_ _:=⟨SO Dneed_web.F B Jv,Mo X G Dneed_web.a,Dneed_web.k,Ve⟩
 have Vy:Fn l.prog w K mg base 1 "rank_of" ["way"] (aR vZ 1) Ja _:=⟨SU Drank_of.F B,Mo X G Drank_of.a,Drank_of.k,Vf⟩
 have Vz:Fn l.prog w K mg base 11 "order_of" ["web"] (aR yz 1) yM _:=⟨SV Dorder_of.F B (⟨(let ⟨cc,e1,e2⟩:=Dorder_of.cd; ⟨cc,e1,PySem.W.codeHd_of_K KB e2⟩),by decide,hB ⟨274,⟨72,40,72,76⟩,(("order_of" : Str) ++ ".<locals>.") ++ "<lambda>"⟩ (by unfold la;simp),Q1 (ls:=la) (l:=⟨274,⟨72,40,72,76⟩,(("order_of" : Str) ++ ".<locals>.") ++ "<lambda>"⟩) (by unfold la;simp) Ur⟩) Jw Vy,Mo X G Dorder_of.a,Dorder_of.k,Vg⟩
 have VA:Fn l.prog w K mg base 1 "_law_spread" ["cell", "at"] (aR vx 2) Jb _:=⟨S8 D_law_spread.F B,Mo X G D_law_spread.a,D_law_spread.k,Vh⟩
 have VB:Fn l.prog w K mg base 1 "_law_open" ["script"] (B9 K) Jc _:=⟨Tt D_law_open.F B.list B.enumerate,Mo X G D_law_open.a,D_law_open.k,Vi⟩
 have VC:Fn l.prog w K mg base 1 "_law_anew" ["pen"] (aR vy 1) Jd _:=⟨S9 D_law_anew.F B,Mo X G D_law_anew.a,D_law_anew.k,Vj⟩
 have DM:Fn l.prog w K mg base 2 "_law_take" ["pen", "many"] (aR gx 2) Je _:=⟨S_ D_law_take.F B VA,Mo X G D_law_take.a,D_law_take.k,Vk⟩
 have VD:Fn l.prog w K mg base 3 "_law_same" ["found", "due"] (aR yI 2) Jf _:=⟨T9 (TJ D_law_same.F B (Mo X G D_law_same.a) D_law_same.k DK 2) (TL D_law_same.F B (Mo X G D_law_same.a) D_law_same.k DK 2),Mo X G D_law_same.a,D_law_same.k,DK⟩
 have VF:Fn l.prog w K mg base 3 "_law_pairs_of" ["pen", "kind", "many"] (aR vz 3) Jg _:=⟨Tc D_law_pairs_of.F B DM,Mo X G D_law_pairs_of.a,D_law_pairs_of.k,Vl⟩
 have VG:Fn l.prog w K mg base 4 "_law_web" ["pen", "houses", "most"] (aR vA 3) Jh _:=⟨Td D_law_web.F B DM VF,Mo X G D_law_web.a,D_law_web.k,Vm⟩
 have VH:Fn l.prog w K mg base 1 "_law_key" ["web", "number"] (aR v3 2) Ji _:=⟨Tg D_law_key.F B,Mo X G D_law_key.a,D_law_key.k,Vn⟩
 have VI:Fn l.prog w K mg base 2 "_law_order" ["web"] (aR tH 1) Jj _:=⟨Th D_law_order.F B VH,Mo X G D_law_order.a,D_law_order.k,Vo⟩
 have Jx:Fn l.prog w K mg base 1 "_law_is_whole" ["thing"] (aR pW 1) Jk _:=⟨Tn D_law_is_whole.F B,Mo X G D_law_is_whole.a,D_law_is_whole.k,Vp⟩
 have VJ:Fn l.prog w K mg base 2 "_law_is_in" ["thing", "low", "high"] (aR pX 3) Jl _:=⟨To D_law_is_in.F B Jx,Mo X G D_law_is_in.a,D_law_is_in.k,Vq⟩
 have VL:Fn l.prog w K mg base 3 "_law_is_web" ["thing"] (aR vK 1) Jm _:=⟨Tp D_law_is_web.F B VJ,Mo X G D_law_is_web.a,D_law_is_web.k,Vr⟩
 have VM:Fn l.prog w K mg base 6 "_law_bent" ["pen", "thing", "deep"] (aR (l6 3) 3) Jn _:=⟨TH D_law_bent.F B DM Jx (Mo X G D_law_bent.a) D_law_bent.k Jt 3,Mo X G D_law_bent.a,D_law_bent.k,Jt⟩
 have VN:Fn l.prog w K mg base 1 "_law_refusal" ["caught"] (eS [c0,c1,c2,c3,c4,c5,c6,c7,c8,c9,qd,qe,qf]) Jo _:=⟨T6 D_law_refusal.F T W,Mo X G D_law_refusal.a,D_law_refusal.k,Vs⟩
 have VO:Fn l.prog w K mg base 12 "_law_told" ["thing"] (aR wc 1) Jp _:=⟨T7 D_law_told.F B Vz (TQ Dorder_of.F Jw (TM Dneed_web.F Jv MC (Mo X G aC4))) VN (Mo X G aL) exm rfl,Mo X G D_law_told.a,D_law_told.k,Vt⟩
 exact T_ Dlaw.F B VB VG VC VO VD VI VM VL
theorem VP {K:PySem.W.Frag} {h:Heap} {yM:Addr} {Dv:FuncData} (X:K.In h) (Dorder_of:Dt K "order_of" wj yM Dv 274):∀ t∈la,∃ cc,PySem.W.CodeHd h cc t.T:=by
 unfold la
 intro t ht
 simp only[EZ,WC,Xy] at ht
 rcases ht with rfl
 ·exact let ⟨cc,_,e2⟩:=Dorder_of.cd; ⟨cc,PySem.W.codeHd_of_K X e2⟩
end LJ
open PySem PySem.W PyProof.Rows
theorem PySem.W.Fast.tw15304592860101055606:True:=trivial
theorem PySem.W.Fast.tw16699807869731934209:True:=trivial
theorem PySem.W.Fast.tw7725426324480882008:True:=trivial
theorem PySem.W.Fast.tw5904295467910511485:True:=trivial
theorem PySem.W.Fast.tw4932670306763678588:True:=trivial
theorem PySem.W.Fast.tw2285640840154072644:True:=trivial
theorem PySem.W.Fast.tw2839324288424490724:True:=trivial
theorem PySem.W.Fast.tw11640558221729238967:True:=trivial
theorem PySem.W.Fast.tw7242057731722337707:True:=trivial
theorem PySem.W.Fast.tw9612817124921837543:True:=trivial
theorem PySem.W.Fast.tw5802245273740383174:True:=trivial
theorem PySem.W.Fast.tw3851125118605860142:True:=trivial
theorem PySem.W.Fast.tw13730910996558537748:True:=trivial
theorem PySem.W.Fast.tw2299656315256034974:True:=trivial
theorem PySem.W.Fast.tw424103922950606897:True:=trivial
theorem PySem.W.Fast.tw14051528654616222315:True:=trivial
theorem PySem.W.Fast.tw14237570790713210681:True:=trivial
theorem PySem.W.Fast.tw12328871953966763262:True:=trivial
theorem PySem.W.Fast.tw10206613068545443683:True:=trivial
set_option maxRecDepth 100000 in
set_option maxHeartbeats 0 in
theorem PySem.Challenge.cw_lotjoin_k02_ways_in_order_holds : PySem.Challenge.rw_lotjoin_k02_ways_in_order.Holds := by
 w_on;o_law;k_head; (case hw=>w_witness2)
 k_fill
 refine LJ.Ru (l:=PySem.Challenge.rw_lotjoin_k02_ways_in_order) (kk:=16) LJ.la rfl rfl rfl ⟨rfl,by decide,by decide⟩ ?C (fun P=>by kernel_rfl) ?F
 case C =>
  intro w h KX
  refine' LJ.VP KX ?Dorder_of
  (case Dorder_of=>(refine' LJ.IT ?wc0 ?xc0 ?yc0 ?zc0 ?vc0; (case wc0=>k_is); (case xc0=>k_is); (case yc0=>k_is); (case zc0=>k_is); (case vc0=>kernel_rfl)))
 case F =>
  intro w mg fa h KX G nM
  refine' LJ.Uu KX G nM ?Dis_whole ?Dis_within ?Dis_tuple_of ?Dare_ends ?Dis_way ?Dare_ways ?Dis_web ?Dneed_web ?Drank_of ?Dorder_of ?D_law_spread ?D_law_open ?D_law_anew ?D_law_take ?D_law_same ?D_law_pairs_of ?D_law_web ?D_law_key ?D_law_order ?D_law_is_whole ?D_law_is_in ?D_law_is_web ?D_law_bent ?D_law_refusal ?D_law_told ?Dlaw ?q23 ?q2R ?q4l ?q4b ?q3B ?q3v ?zlen ?zrange ?zlist ?ztuple ?zset ?zsorted ?zmin ?zmax ?zsum ?zall ?zany ?zenumerate ?zzip ?zisinstance ?zint ?zbool ?zstr ?aL ?lL ?nL ?lC4 ?nC4 ?kC4 ?aC0 ?aC1 ?aC2 ?aC3 ?aC4 ?aC5 ?aC6 ?aC7 ?aC8 ?aC9 ?aC10 ?aC11 ?aC12 ?kit ?exm ?zVE
  (case Dis_whole=>(refine' LJ.defAt ?w0 ?x0 ?y0 ?z0; (case w0=>k_is); (case x0=>k_is); (case y0=>k_is); (case z0=>k_is)))
  (case Dis_within=>(refine' LJ.defAt ?w1 ?x1 ?y1 ?z1; (case w1=>k_is); (case x1=>k_is); (case y1=>k_is); (case z1=>k_is)))
  (case Dis_tuple_of=>(refine' LJ.defAt ?w2 ?x2 ?y2 ?z2; (case w2=>k_is); (case x2=>k_is); (case y2=>k_is); (case z2=>k_is)))
  (case Dare_ends=>(refine' LJ.defAt ?w3 ?x3 ?y3 ?z3; (case w3=>k_is); (case x3=>k_is); (case y3=>k_is); (case z3=>k_is)))
  (case Dis_way=>(refine' LJ.defAt ?w4 ?x4 ?y4 ?z4; (case w4=>k_is); (case x4=>k_is); (case y4=>k_is); (case z4=>k_is)))
  (case Dare_ways=>(refine' LJ.defAt ?w5 ?x5 ?y5 ?z5; (case w5=>k_is); (case x5=>k_is); (case y5=>k_is); (case z5=>k_is)))
  (case Dis_web=>(refine' LJ.defAt ?w6 ?x6 ?y6 ?z6; (case w6=>k_is); (case x6=>k_is); (case y6=>k_is); (case z6=>k_is)))
  (case Dneed_web=>(refine' LJ.defAt ?w7 ?x7 ?y7 ?z7; (case w7=>k_is); (case x7=>k_is); (case y7=>k_is); (case z7=>k_is)))
  (case Drank_of=>(refine' LJ.defAt ?w8 ?x8 ?y8 ?z8; (case w8=>k_is); (case x8=>k_is); (case y8=>k_is); (case z8=>k_is)))
  (case D_law_spread=>(refine' LJ.defAt ?w9 ?x9 ?y9 ?z9; (case w9=>k_is); (case x9=>k_is); (case y9=>k_is); (case z9=>k_is)))
  (case D_law_open=>(refine' LJ.defAt ?w10 ?x10 ?y10 ?z10; (case w10=>k_is); (case x10=>k_is); (case y10=>k_is); (case z10=>k_is)))
  (case D_law_anew=>(refine' LJ.defAt ?w11 ?x11 ?y11 ?z11; (case w11=>k_is); (case x11=>k_is); (case y11=>k_is); (case z11=>k_is)))
  (case D_law_take=>(refine' LJ.defAt ?w12 ?x12 ?y12 ?z12; (case w12=>k_is); (case x12=>k_is); (case y12=>k_is); (case z12=>k_is)))
  (case D_law_same=>(refine' LJ.defAt ?w13 ?x13 ?y13 ?z13; (case w13=>k_is); (case x13=>k_is); (case y13=>k_is); (case z13=>k_is)))
  (case D_law_pairs_of=>(refine' LJ.defAt ?w14 ?x14 ?y14 ?z14; (case w14=>k_is); (case x14=>k_is); (case y14=>k_is); (case z14=>k_is)))
  (case D_law_web=>(refine' LJ.defAt ?w15 ?x15 ?y15 ?z15; (case w15=>k_is); (case x15=>k_is); (case y15=>k_is); (case z15=>k_is)))
  (case D_law_key=>(refine' LJ.defAt ?w16 ?x16 ?y16 ?z16; (case w16=>k_is); (case x16=>k_is); (case y16=>k_is); (case z16=>k_is)))
  (case D_law_order=>(refine' LJ.defAt ?w17 ?x17 ?y17 ?z17; (case w17=>k_is); (case x17=>k_is); (case y17=>k_is); (case z17=>k_is)))
  (case D_law_is_whole=>(refine' LJ.defAt ?w18 ?x18 ?y18 ?z18; (case w18=>k_is); (case x18=>k_is); (case y18=>k_is); (case z18=>k_is)))
  (case D_law_is_in=>(refine' LJ.defAt ?w19 ?x19 ?y19 ?z19; (case w19=>k_is); (case x19=>k_is); (case y19=>k_is); (case z19=>k_is)))
  (case D_law_is_web=>(refine' LJ.defAt ?w20 ?x20 ?y20 ?z20; (case w20=>k_is); (case x20=>k_is); (case y20=>k_is); (case z20=>k_is)))
  (case D_law_bent=>(refine' LJ.defAt ?w21 ?x21 ?y21 ?z21; (case w21=>k_is); (case x21=>k_is); (case y21=>k_is); (case z21=>k_is)))
  (case D_law_refusal=>(refine' LJ.defAt ?w22 ?x22 ?y22 ?z22; (case w22=>k_is); (case x22=>k_is); (case y22=>k_is); (case z22=>k_is)))
  (case D_law_told=>(refine' LJ.defAt ?w23 ?x23 ?y23 ?z23; (case w23=>k_is); (case x23=>k_is); (case y23=>k_is); (case z23=>k_is)))
  (case Dlaw=>(refine' LJ.defAt ?w24 ?x24 ?y24 ?z24; (case w24=>k_is); (case x24=>k_is); (case y24=>k_is); (case z24=>k_is)))
  (case Dorder_of=>(refine' LJ.IT ?wm0 ?xm0 ?ym0 ?zm0 ?vm0; (case wm0=>k_is); (case xm0=>k_is); (case ym0=>k_is); (case zm0=>k_is); (case vm0=>kernel_rfl)))
  (case aL | aC0 | aC1 | aC2 | aC3 | aC4 | aC5 | aC6 | aC7 | aC8 | aC9 | aC10 | aC11 | aC12 | q23 | q4l | q3B | zlen | zrange | zlist | ztuple | zset | zsorted | zmin | zmax | zsum | zall | zany | zenumerate | zzip | zisinstance | zint | zbool | zstr | lL | lC4 | kC4 | zVE=>k_is)
  (case q2R=>exact⟨_,rfl⟩)
  (case q4b=>exact⟨_,rfl⟩)
  (case q3v=>exact⟨_,rfl⟩)
  (case nL=>kernel_rfl)
  (case nC4=>kernel_rfl)
  (case kit=>kernel_rfl)
  (case exm=>kernel_rfl)
