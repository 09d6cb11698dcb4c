import PyProof.Rows.All
import Wide.All
import OpenK.AllK
import Wide.FinOn
import Lean
import PyProof.Rows.SetFrom
import PyProof.TupleKey
import PyProof.SetRoads
import PySem.SetOps
import PyProof.EqAt
import PyProof.EqKinds
import PyProof.TupleCall
import KE.KDictList
import KE.KDictLaws
import PyProof.NeKinds
import PyProof.Draws
import KE.KSortTup
import KE.KLam
import PyProof.ListRange
import PyProof.TupleOfSeq
import KE.KNestM
import KE.KMinKey
import PyProof.MinMaxWalk
import PyProof.Conv_int_bool
import PySem.Challenge.RW_lotjoin_k70_narrow_ways_told
set_option Elab.async false
set_option linter.all false
set_option maxRecDepth 100000
local macro_rules | `(tactic| trivial) => `(tactic| first | exact Or.inl rfl | exact Or.inr rfl)
abbrev ni:=@PySem.wpAny_bind
abbrev qv:=@List.getElem?_eq_getElem
abbrev qw:=@PySem.Heap.get?_push_of_some
abbrev qx:=@List.length_map
abbrev sA:=@List.getElem?_eq_some_iff
abbrev uu:=@Nat.le_refl
abbrev wO:=@List.size_toArray
abbrev zR:=@PySem.wpAny_pure
abbrev Fq:=@List.length_cons
abbrev Fs:=@List.getD_eq_getElem?_getD
abbrev Fu:=@Array.length_toList
abbrev Fv:=@List.length_append
abbrev My:=@List.getElem?_map
abbrev NK:=@List.mem_append_right
abbrev NL:=@PySem.Heap.lt_size
abbrev NM:=@if_neg
abbrev NN:=@decide_eq_true
abbrev NO:=@List.mem_cons_self
abbrev Xp:=@decide_eq_false
abbrev Xq:=@List.mem_cons
abbrev Xr:=@PySem.Heap.get?_push_size
abbrev Xs:=@if_pos
abbrev Xt:=@Option.map_eq_some_iff
abbrev Xu:=@List.mem_cons_of_mem
abbrev X0:=@List.mem_map
abbrev X1:=@List.getElem?_append_left
abbrev X7:=@List.getElem?_append_right
abbrev X8:=@Bool.false_ne_true
abbrev X9:=@List.mem_iff_getElem?
abbrev X_:=@Array.getElem?_eq_getElem
abbrev Ya:=@Int.toNat_natCast
abbrev Yb:=@Nat.ne_of_lt
abbrev Yc:=@Nat.lt_of_lt_of_le
abbrev Yd:=@List.map_cons
abbrev Ye:=@Bool.false_eq_true
abbrev Yf:=@List.mem_of_getElem?
abbrev Yg:=@Array.getElem?_toList
abbrev Yh:=@Option.some.inj
abbrev Yi:=@List.length_singleton
abbrev Yj:=@List.map_map
abbrev Yk:=@List.lookup_cons
abbrev Yl:=@Bool.and_eq_true
abbrev Ym:=@List.not_mem_nil
abbrev Yn:=@List.mem_singleton
abbrev Yo:=@PySem.Heap.SameBut.update
abbrev Yp:=@PySem.wpAny_holding
abbrev Yq:=@List.mem_range
abbrev Yr:=@List.length_take
abbrev Ys:=@List.mem_append
abbrev Yt:=@List.map_append
abbrev Yu:=@Nat.zero_add
abbrev Yv:=@List.take_of_length_le
abbrev Yw:=@Nat.le_trans
abbrev Yx:=@List.getElem?_set_self
abbrev Yy:=@Nat.zero_le
abbrev Yz:=@List.mem_append_left
abbrev YA:=@List.getElem?_take_of_lt
abbrev YB:=@PySem.wpAny_loadPart'
abbrev YC:=@List.set_cons_zero
abbrev YD:=@List.set_cons_succ
abbrev YE:=@PySem.boot_len
abbrev YF:=@List.getElem?_eq_none
abbrev YG:=@List.length_range
abbrev YH:=@List.getElem?_set_ne
abbrev YI:=@Nat.sub_self
abbrev YJ:=@Int.emod_lt_of_pos
abbrev YK:=@Array.getD_eq_getD_getElem?
abbrev YL:=@PyProof.Rows.slot_tuple_getitem
abbrev YM:=@List.getElem?_range
abbrev YN:=@PySem.wpAny_seqItems
abbrev YO:=@PySem.F.plainAttrs_list
abbrev YQ:=@of_decide_eq_true
abbrev YR:=@PySem.sizeLine_eq
abbrev YS:=@if_false
abbrev YT:=@List.mem_filter
abbrev YU:=@PySem.PassesOwn.never
abbrev YV:=@List.all_eq_true
abbrev YW:=@PySem.mem_of_lookup
abbrev YX:=@List.replicate_succ
abbrev YY:=@List.map_congr_left
abbrev YZ:=@PyProof.Rows.callWith_type1
abbrev Y0:=@decide_eq_true_eq
abbrev Y1:=@Array.getElem?_eq_some_iff
abbrev Y2:=@List.mem_iff_getElem
abbrev Y3:=@PySem.wpAny_mono
abbrev Y4:=@List.zip_cons_cons
abbrev Y5:=@PySem.Around.under_plainId
abbrev Y6:=@Int.emod_nonneg
abbrev Y7:=@PySem.W.kia_one
abbrev Y8:=@List.length_nil
abbrev Y9:=@List.length_set
abbrev Y_:=@LawfulBEq.eq_of_beq
abbrev Za:=@List.mem_map_of_mem
abbrev Zb:=@Nat.lt_succ_of_lt
abbrev Zc:=@PySem.wpAny_truthy_bool
abbrev Zd:=@PySem.wpAny_field
abbrev Ze:=@List.nodup_append
abbrev Zf:=@Nat.lt_irrefl
abbrev Zg:=@Nat.le_of_lt
abbrev Zh:=@List.pairwise_cons
abbrev Zi:=@PySem.wpAny_callSpecial?_slot
abbrev Zj:=@List.length_eq_zero_iff
abbrev Zk:=@Array.toList_setIfInBounds
abbrev Zl:=@List.pairwise_map
abbrev Zm:=@List.any_eq_false
abbrev Zn:=@PySem.wpAny_newObj_type
abbrev Zo:=@PySem.Heap.size_push
abbrev Zp:=@PySem.codeAny_builtin
abbrev Zq:=@Classical.byContradiction
abbrev Zr:=@List.pairwise_iff_getElem
abbrev Zs:=@Nat.lt_succ_self
abbrev Zt:=@List.length_drop
abbrev Zu:=@Bool.not_true
abbrev Zv:=@Option.isSome_iff_exists
abbrev Zw:=@List.map_nil
abbrev Zx:=@PySem.plainId_quiet
abbrev Zy:=@PySem.F.slot_list_append
abbrev Zz:=@PySem.F.type_list_append
abbrev ZA:=@PySem.wpAny_letGo
abbrev ZC:=@List.append_assoc
abbrev ZD:=@PySem.wpAny_pyIter_enum
abbrev ZE:=@PySem.wpAny_pyIter_list
abbrev ZF:=@List.getElem?_cons_succ
abbrev ZH:=@Int.toNat_of_nonneg
abbrev ZI:=@Nat.ne_of_gt
abbrev ZJ:=@List.any_cons
abbrev ZK:=@PySem.wpAny_call_entry
abbrev ZL:=@List.getElem_mem
abbrev ZM:=@List.mem_filterMap
abbrev ZN:=@PySem.Around.in1_handled
abbrev ZO:=@PySem.F.slot_tuple_iterator_next
abbrev ZP:=@List.take_succ
abbrev ZQ:=@PySem.wpAny_setField_rec
abbrev ZR:=@List.drop_eq_getElem_cons
abbrev ZS:=@List.foldl_cons
abbrev ZT:=@PySem.wpAny_passesOwn
abbrev ZU:=@PyProof.Rows.get?_update_seq
abbrev ZV:=@List.ext_getElem?
abbrev ZW:=@List.flatten_cons
abbrev ZX:=@or_false
abbrev ZY:=@PySem.wpAny_setState_of
abbrev ZZ:=@List.map_id
abbrev Z0:=@if_true
abbrev Z1:=@List.countP_cons
abbrev Z2:=@PySem.wpAny_forIn_list
abbrev Z3:=@Nat.le_add_right
abbrev Z4:=@List.getElem_map
abbrev Z5:=@PySem.wpAny_tryCatch
abbrev Z6:=@List.Nodup.length_le_of_subset
abbrev Z7:=@Array.toList_filterMap
abbrev Z8:=@PySem.wpAny_Call_Name_kw
abbrev Z9:=@PySem.wpAny_pyIter_tuple
abbrev Z_:=@PySem.F.called_set
abbrev q0a:=@List.nodup_cons
abbrev q0b:=@List.find?_cons
abbrev q0c:=@Array.getElem?_setIfInBounds
abbrev q0d:=@List.filter_map
abbrev q0e:=@PySem.wpAny_updateSeq
abbrev q0f:=@PySem.wpAny_standAt
abbrev q0g:=@PySem.Heap.get?_update_self
abbrev q0h:=@List.length_filter_le
abbrev q0i:=@Nat.le_of_lt_succ
abbrev q0j:=@Ne.symm
abbrev q0k:=@List.zip_nil_left
abbrev q0l:=@Bool.not_eq_true'
abbrev q0m:=@Array.perm_iff_toList_perm
abbrev q0n:=@List.filterMap_cons
abbrev q0o:=@List.eq_of_mem_replicate
abbrev q0p:=@PySem.AutoSeq1.sub_tuple_tuple
abbrev q0q:=@PySem.F.args_tuple_add_2
abbrev q0r:=@PyProof.Rows.listUpdate_at
abbrev q0s:=@PySem.wpAny_newList
abbrev q0t:=@PySem.PlainL.isList
abbrev q0u:=@Nat.lt_of_le_of_lt
abbrev q0v:=@Array.forIn_toList
abbrev q0w:=@PySem.tupleKind_room_in1
abbrev q0x:=@List.getElem?_replicate
abbrev q0y:=@PySem.F.entry_tuple_add
abbrev q0z:=@PyProof.Rows.F.plain_set_update_loop
abbrev q0A:=@List.getElem?_cons_zero
abbrev q0B:=@Array.toList_replicate
abbrev q0C:=@Array.toList_push
abbrev q0D:=@List.drop_zero
abbrev q0E:=@PySem.W.cellsFrom_some
abbrev q0F:=@PySem.richCompare_meets_room
abbrev q0G:=@PySem.F.slot_tuple_add
abbrev q0H:=@List.foldl_append
abbrev q0I:=@List.length_filterMap_eq_countP
abbrev q0J:=@List.length_replicate
abbrev q0K:=@PySem.F.slot_dict_get
abbrev q0L:=@List.getElem?_toArray
abbrev q0M:=@List.nodup_range
abbrev q0N:=@List.getElem_inj
abbrev q0O:=@Option.getD_none
abbrev q0P:=@PySem.Walks.list
abbrev q0Q:=@PySem.wpAny_rule
abbrev q0R:=@List.any_eq_true
abbrev q0S:=@Bool.true_and
abbrev q0T:=@Array.mem_toList_iff
abbrev q0U:=@List.reverse_reverse
abbrev q0V:=@PySem.wpAny_updateSeq_pair
abbrev q0W:=@List.find?_some
abbrev q0X:=@Option.map_some
abbrev q0Y:=@PySem.wpAny_execs_nil
abbrev q0Z:=@List.append_nil
abbrev q01:=@PySem.F.slot_zip_next
abbrev q02:=@PyProof.Rows.lt_int
abbrev q03:=@Nat.succ_pos
abbrev q04:=@PySem.codeAny_mono
abbrev q06:=@List.find?_eq_none
abbrev q08:=@PySem.Calls.spliced_cons
abbrev q09:=@List.zip_nil_right
abbrev q1a:=@List.nodup_nil
abbrev q1b:=@List.take_zero
abbrev q1c:=@List.mem_or_eq_of_mem_set
abbrev q1d:=@List.extract_eq_take_drop
abbrev q1e:=@List.mem_of_find?_eq_some
abbrev q1f:=@Nat.le_succ
abbrev q1g:=@Option.isSome_map
abbrev q1h:=@Array.getElem_mem_toList
abbrev q1i:=@Array.size_setIfInBounds
abbrev q1j:=@Bool.and_true
abbrev q1k:=@List.cons.inj
abbrev q1l:=@PySem.wpAny_onRaise
abbrev q1m:=@PySem.W.mg_of
abbrev q1n:=@Nat.le_of_not_lt
abbrev q1q:=@Nat.succ_ne_self
abbrev q1t:=@List.take_length
abbrev q1u:=@List.cons_append
abbrev q1w:=@Nat.lt_trans
abbrev q1y:=@Nat.sub_zero
abbrev q1A:=@PySem.wpAny_typeOf
abbrev q1E:=@PySem.call_meets
abbrev q1I:=@Nat.le_of_eq
abbrev q1K:=@Nat.succ.inj
abbrev q1L:=@Array.size_push
abbrev q1N:=@List.of_mem_zip
abbrev q1O:=@List.forIn_cons
abbrev q1Q:=@Array.Perm.refl
abbrev q1R:=@List.cons.injEq
abbrev q1S:=@List.Perm.of_eq
abbrev q11:=@List.Perm.refl
abbrev q12:=@Bool.false_and
abbrev q13:=@List.forIn_nil
abbrev q14:=@Array.size_map
abbrev q15:=@Bool.not_false
theorem el7 {α β γ ε : Type} {A B C : α → β → γ → ε → Prop} {R : Prop} (h : ∃ F ad δ K, A F ad δ K ∧ B F ad δ K ∧ C F ad δ K) (k : ∀ F ad δ K, A F ad δ K → B F ad δ K → C F ad δ K → R) : R := h.elim fun F h => h.elim fun a h => h.elim fun d h => h.elim fun K h => k F a d K h.1 h.2.1 h.2.2
theorem el5 {α β : Type} {A B C : α → β → Prop} {R : Prop} (h : ∃ F ad, A F ad ∧ B F ad ∧ C F ad) (k : ∀ F ad, A F ad → B F ad → C F ad → R) : R := h.elim fun F h => h.elim fun a h => k F a h.1 h.2.1 h.2.2
theorem el3 {α : Type} {A B : α → Prop} {R : Prop} (h : ∃ F, A F ∧ B F) (k : ∀ F, A F → B F → R) : R := h.elim fun F h => k F h.1 h.2
set_option compiler.extract_closed false
local macro_rules | `(tactic| omega) => `(tactic| first | lia | omega (config := {}))
namespace LJS
open PySem PySem.SetTable
noncomputable def nx (m i:Nat):Nat:=(i * 5 + 1) % (m + 1)
noncomputable def mM (m:Nat):Nat->Nat->Nat
 | 0,i=>i
 | n + 1,i=>mM m n (nx m i)
theorem wB (m:Nat):∀ a b i,mM m (a + b) i=mM m b (mM m a i)
 | 0,b,i=>by rw[Yu];rfl
 | a + 1,b,i=>by rw[Nat.succ_add];exact wB m a b (nx m i)
noncomputable def yS (m:Nat):Nat->Nat->List Nat
 | 0,_=>[]
 | n + 1,i=>i :: yS m n (nx m i)
theorem D4 (m:Nat):∀ {n i e:Nat},e∈yS m n i->∃ k,k < n/\mM m k i=e
 | 0,_,_,h=>nomatch h
 | n + 1,i,e,h=>by
  rcases Xq.mp h with rfl | h
  ·exact⟨0,q03 _,rfl⟩
  ·obtain⟨k,hk,e⟩:=D4 m h
   exact⟨k + 1,Nat.succ_lt_succ hk,e⟩
noncomputable def Mk (m:Nat):Prop:=m=7\/m=31\/m=127
noncomputable def tP (m:Nat):Bool:=(List.range (m + 1)).all fun e=>(yS m (m + 1) 0).contains e
theorem D5 {m:Nat} (h:Mk m):tP m=true/\mM m (m + 1) 0=0:=by
 rcases h with rfl | rfl | rfl<;>exact⟨by decide +kernel,by decide +kernel⟩
theorem oY {m:Nat} (h:Mk m) {e:Nat} (he:e <= m):∃ k,k <= m/\mM m k 0=e:=by
 have:=YV.mp (D5 h).1 e (Yq.mpr (Nat.lt_succ_of_le he));obtain⟨k,hk,q⟩:=D4 m (List.contains_iff_mem.mp this);exact⟨k,q0i hk,q⟩
theorem Ll {m:Nat} (h:Mk m) {i e:Nat} (hi:i <= m) (he:e <= m):∃ n,n <= m/\mM m n i=e:=by
 obtain⟨a,ha,rfl⟩:=oY h hi;obtain⟨b,hb,rfl⟩:=oY h he
 by_cases Xk:a <= b
 ·refine⟨b - a,by omega,?_⟩
  rw[<-wB];congr 1;omega
 ·refine⟨m + 1 - a + b,by omega,?_⟩
  rw[<-wB,show a + (m + 1 - a + b)=(m + 1) + b by omega,wB,(D5 h).2]
noncomputable def lp (m:Nat):Nat->Nat->Nat->Nat × Nat
 | 0,i,p=>(i,p)
 | n + 1,i,p=>lp m n (leap m i p).1 (leap m i p).2
theorem yT (m:Nat):∀ a b i p,lp m (a + b) i p=lp m b (lp m a i p).1 (lp m a i p).2
 | 0,b,i,p=>by rw[Yu];rfl
 | a + 1,b,i,p=>by rw[Nat.succ_add];exact yT m a b _ _
theorem D6 (m:Nat):∀ n i,lp m n i 0=(mM m n i,0)
 | 0,i=>rfl
 | n + 1,i=>by
  show lp m n (leap m i 0).1 (leap m i 0).2=_;have e:leap m i 0=(nx m i,0):=by unfold leap nx;simp
  rw[e];exact D6 m n _
theorem D7 (m i p:Nat):(leap m i p).1 <= m:=q0i (Nat.mod_lt _ (q03 _))
theorem D8 (m:Nat):∀ n i p,(lp m n i p).2=p / 32 ^ n
 | 0,i,p=>by simp[lp]
 | n + 1,i,p=>by
  show (lp m n (leap m i p).1 (leap m i p).2).2=_;rw[D8 m n];show p / 32 / 32 ^ n=_;rw[Nat.div_div_eq_div_mul,Nat.pow_succ,Nat.mul_comm]
theorem reach {m:Nat} (h:Mk m) {i p e:Nat} (hp:p < 2 ^ 64) (he:e <= m):∃ n,n <= 13 + m/\(lp m n i p).1=e:=by
 have z:(lp m 13 i p).2=0:=by
  rw[D8];exact Nat.div_eq_of_lt (q1w hp (by decide))
 have q:(lp m 13 i p).1 <= m:=by
  rw[yT m 12 1];exact D7 _ _ _
 obtain⟨n,hn,en⟩:=Ll h q he;refine⟨13 + n,by omega,?_⟩;rw[yT,z,D6];exact en
theorem D9 (j:Nat):has #[] j=false:=by unfold has;simp
theorem tQ {t:SetTable} (hd:t.dummies = #[]) (j:Nat):t.slot j = .empty\/∃ i,t.slot j = .live i/\i < t.place.size/\j∈t.place.toList:=by
 unfold slot;rw[hd,D9];dsimp only
 by_cases c:(t.place[below t.place j]? == some j)=true
 ·right
  rw[Xs c];have e:=Y_ c;obtain⟨hl,ev⟩:=Y1.mp e;exact⟨_,rfl,hl,by rw[<-ev];exact q1h hl⟩
 ·left
  rw[NM c];rfl
theorem Lm {t:SetTable} (hd:t.dummies = #[]) {j:Nat} (hj:j∉t.place.toList):t.slot j = .empty:=by
 rcases tQ hd j with h | ⟨_,_,_,h⟩
 ·exact h
 ·exact absurd h hj
theorem D_:∀ {l l':List Nat},l.Nodup->(∀ x∈l,x∈l')->l.length <= l'.length
 | [],_,_,_=>Yy _
 | a :: l,l',hn,hs=>by
  have ha:a∈l':=hs a (NO ..);have l4:=q0a.mp hn;have ih:=D_ (l:=l) (l':=l'.erase a) l4.2 fun x hx=>(List.mem_erase_of_ne (fun z=>l4.1 (by rw[<-z];exact hx))).mpr (hs x (Xu _ hx));rw[List.length_erase_of_mem ha] at ih;have:=List.length_pos_of_mem ha;rw[Fq];omega
theorem Ln {l:List Nat} {m:Nat} (h:l.length <= m):∃ e,e <= m/\e∉l:=by
 refine Zq fun no => ?_;have all:∀ e,e∈List.range (m + 1)->e∈l:=fun e he=>Zq fun z=>no ⟨e,q0i (Yq.mp he),z⟩;have:(List.range (m + 1)).length <= l.length:=D_ q0M all;rw[YG] at this;omega
noncomputable def stateOf (t:SetTable) (i p:Nat):Probe:=⟨i,runEnd t.mask i - i,i,p,none⟩
theorem Ea (m i:Nat):runEnd m i - i <= 9:=by unfold runEnd;split<;>omega
section
variable {t:SetTable} {f:Nat->Int} {h:Int}
theorem pX (F:Nat) (p:Probe):probe.go t f h (F + 1) p=(match t.slot p.j with
  | .empty=>some (.empty p.j p.dummy)
  | .dummy=>probe.go t f h F (t.advance { p with dummy:=some p.j })
  | .live i=>if f i == h then some (.candidate p.j i (t.advance p)) else probe.go t f h F (t.advance p)):=rfl
theorem Eb (hd:t.dummies = #[]) (hf:∀ i,i < t.place.size->f i≠h):∀ (k F:Nat) (p:Probe),p.more=k->p.dummy=none →
  (∃ j,probe.go t f h (F + k + 1) p=some (.empty j none))\/probe.go t f h (F + k + 1) p=probe.go t f h F (stateOf t (leap t.mask p.i p.perturb).1 (leap t.mask p.i p.perturb).2)
 | 0,F,p,hm,tR=>by
  show (∃ j,probe.go t f h (F + 1) p=_)\/probe.go t f h (F + 1) p=_;rw[pX];rcases tQ hd p.j with e | ⟨i,e,hi,_⟩
  ·left;rw[e];exact⟨p.j,by rw[tR]⟩
  ·right
   rw[e];show (if (f i == h)=true then _ else _)=_;rw[NM (by intro z;exact hf i hi (Y_ z))];unfold advance;rw[hm,NM (by omega),tR];rfl
 | k + 1,F,p,hm,tR=>by
  have ih:=Eb hd hf k F { p with j:=p.j + 1,more:=p.more - 1 } (by show p.more - 1=k;omega) tR;rw[show F + (k + 1) + 1=(F + k + 1) + 1 by omega,pX];rcases tQ hd p.j with e | ⟨i,e,hi,_⟩
  ·left;rw[e];exact⟨p.j,by rw[tR]⟩
  ·rw[e]
   show (∃ j,(if (f i == h)=true then _ else _)=_)\/(if (f i == h)=true then _ else _)=_;rw[NM (by intro z;exact hf i hi (Y_ z))];have ea:t.advance p={ p with j:=p.j + 1,more:=p.more - 1 }:=by unfold advance;rw[Xs (by omega)]
   rw[ea];exact ih
theorem Ec (hd:t.dummies = #[]) (hf:∀ i,i < t.place.size->f i≠h):∀ (n F i p:Nat),10 * (n + 1) <= F->t.slot (lp t.mask n i p).1 = .empty->∃ j,probe.go t f h F (stateOf t i p)=some (.empty j none)
 | 0,F,i,p,hF,hs=>by
  obtain⟨G,rfl⟩:∃ G,F=G + 1:=⟨F - 1,by omega⟩;rw[pX];have e:t.slot (stateOf t i p).j = .empty:=hs;rw[e];exact⟨i,rfl⟩
 | n + 1,F,i,p,hF,hs=>by
  have hr:=Ea t.mask i;obtain⟨G,hG⟩:∃ G,F=G + (runEnd t.mask i - i) + 1:=⟨F - (runEnd t.mask i - i) - 1,by omega⟩;have:=Eb (f:=f) (h:=h) hd hf (runEnd t.mask i - i) G (stateOf t i p) rfl rfl;rw[<-hG] at this;rcases this with h1 | h1
  ·exact h1
  ·rw[h1]
   exact Ec hd hf n G _ _ (by omega) hs
theorem yU (h:Int):bits h < 2 ^ 64:=by
 unfold bits;have:=YJ h (show (0:Int) < 2 ^ 64 by decide);have:=Y6 h (show (2 ^ 64:Int)≠0 by decide);omega
theorem Lo (hd:t.dummies = #[]) (hm:Mk t.mask) (hz:t.place.size <= t.mask) (hf:∀ i,i < t.place.size->f i≠h):∃ j,t.probe f h (t.probeStart h)=some (.empty j none):=by
 obtain⟨e,he,ne⟩:=Ln (l:=t.place.toList) (m:=t.mask) (by rw[Fu];exact hz);obtain⟨n,hn,en⟩:=reach hm (i:=bits h % (t.mask + 1)) (yU h) he;exact Ec hd hf n _ _ _ (by unfold turns;omega) (by rw[en];exact Lm hd ne)
end
section
variable {m:Nat} {owner:Array (Option Nat)}
theorem yV (F i p:Nat):layClean.free m owner (F + 1) i p=(match (List.range (runEnd m i + 1 - i)).find? fun k=>(owner.getD (i + k) (some 0)).isNone with
   | some k=>some (i + k)
   | none=>layClean.free m owner F (leap m i p).1 (leap m i p).2):=rfl
theorem yW:∀ (n F i p:Nat),n + 1 <= F->(owner.getD (lp m n i p).1 (some 0)).isNone=true->∃ j,layClean.free m owner F i p=some j/\(owner.getD j (some 0)).isNone=true
 | 0,F,i,p,hF,hs=>by
  obtain⟨G,rfl⟩:∃ G,F=G + 1:=⟨F - 1,by omega⟩;rw[yV]
  cases hc:(List.range (runEnd m i + 1 - i)).find? fun k=>(owner.getD (i + k) (some 0)).isNone with
  | some k =>
   have:=q0W hc;exact⟨i + k,rfl,this⟩
  | none =>
   have:=q06.mp hc 0 (Yq.mpr (by unfold runEnd;split<;>omega));exact absurd hs this
 | n + 1,F,i,p,hF,hs=>by
  obtain⟨G,rfl⟩:∃ G,F=G + 1:=⟨F - 1,by omega⟩;rw[yV]
  cases hc:(List.range (runEnd m i + 1 - i)).find? fun k=>(owner.getD (i + k) (some 0)).isNone with
  | some k =>
   have:=q0W hc;exact⟨i + k,rfl,this⟩
  | none=>exact yW n G _ _ (by omega) hs
end
structure Ow (m:Nat) (owner:Array (Option Nat)) (k:Nat):Prop where
 size:owner.size=m + 1
 cnt:owner.toList.countP Option.isSome=k
 lt:∀ x,some x∈owner.toList->x < k
theorem yX:∀ {l:List (Option Nat)} {j k:Nat},l[j]? = some none->(l.set j (some k)).countP Option.isSome=l.countP Option.isSome + 1
 | [],j,k,h=>by simp at h
 | x :: l,0,k,h=>by
  simp at h;subst h;rw[YC,Z1,Z1];rfl
 | x :: l,j + 1,k,h=>by
  simp at h;rw[YD,Z1,Z1,yX h];omega
theorem getD_none {owner:Array (Option Nat)} {j:Nat} (h:(owner.getD j (some 0)).isNone=true):owner.toList[j]? = some none:=by
 rw[YK] at h;rw[Yg]
 cases e:owner[j]? with
 | none=>rw[e] at h;cases h
 | some x =>
  rw[e] at h
  cases x with
  | none=>rfl
  | some y=>cases h
theorem Ed {m:Nat} {owner:Array (Option Nat)} {k:Nat} (O:Ow m owner k) (hk:k <= m):∃ e,e <= m/\(owner.getD e (some 0)).isNone=true:=by
 refine Zq fun no => ?_
 have all:∀ x∈owner.toList,x.isSome=true:=by
  intro x hx;obtain⟨e,he⟩:=X9.mp hx
  cases x with
  | some y=>rfl
  | none =>
   have hl:=(sA.mp he).1;rw[Fu,O.size] at hl;refine absurd ⟨e,q0i hl,?_⟩ no;rw[YK,<-Yg,he];rfl
 have:=List.countP_eq_length.mpr all;rw[O.cnt,Fu,O.size] at this;omega
theorem Lp {m:Nat} {owner:Array (Option Nat)} {k:Nat} (hm:Mk m) (O:Ow m owner k) (hk:k <= m) (h:Int):∃ j,layClean.free m owner (turns m) (bits h % (m + 1)) (bits h)=some j/\Ow m (owner.setIfInBounds j (some k)) (k + 1):=by
 obtain⟨e,he,hn⟩:=Ed O hk;obtain⟨n,l4,en⟩:=reach hm (i:=bits h % (m + 1)) (yU h) he;obtain⟨j,ej,hj⟩:=yW (m:=m) (owner:=owner) n (turns m) (bits h % (m + 1)) (bits h) (by unfold turns;omega) (by rw[en];exact hn);refine⟨j,ej,by rw[q1i];exact O.size,?_,fun x hx => ?_⟩
 ·rw[Zk,yX (getD_none hj),O.cnt]
 ·rw[Zk] at hx
  rcases q1c hx with h | h
  ·exact Zb (O.lt x h)
  ·cases h;exact Zs _
theorem Ee (m:Nat):Ow m (Array.replicate (m + 1) none) 0:=by
 refine⟨by simp,?_,fun x hx => ?_⟩
 ·rw[q0B]
  exact List.countP_eq_zero.mpr fun x hx=>by rw[q0o hx];decide
 ·rw[q0B] at hx
  cases q0o hx
noncomputable def iZ (m:Nat) (owner:Array (Option Nat)):List (Nat × Nat):=(List.range (m + 1)).filterMap fun j=>(owner.getD j none).map (j,·)
theorem Ef {m:Nat} {owner:Array (Option Nat)} {k:Nat} (O:Ow m owner k):(iZ m owner).length=k:=by
 unfold iZ;rw[q0I,<-O.cnt]
 have e:owner.toList=(List.range (m + 1)).map fun j=>owner.getD j none:=by
  refine ZV fun i => ?_;rw[Yg,My]
  by_cases hi:i < m + 1
  ·rw[YM hi,q0X,X_ (by rw[O.size];exact hi),YK,X_ (by rw[O.size];exact hi)];rfl
  ·rw[Array.getElem?_eq_none (by rw[O.size];omega),YF (by rw[YG];omega)];rfl
 rw[e,List.countP_map];refine List.countP_congr fun j _ => ?_;simp
theorem Lq {α : Type} {es:Array α} {order:Array Nat} (h:∀ k∈order.toList,k < es.size):(order.filterMap (es[·]?)).size=order.size/\∀ e∈(order.filterMap (es[·]?)).toList,e∈es.toList:=by
 constructor
 ·rw[<-Fu,Z7,q0I,List.countP_eq_length.mpr fun k hk => ?_,Fu]
  rw[X_ (h k hk)];rfl
 ·intro e he
  rw[Z7] at he;obtain⟨k,_,q⟩:=ZM.mp he;exact X9.mpr ⟨k,by rw[Yg];exact q⟩
theorem Lr (t:SetTable) (hd:t.dummies = #[]) (j:Nat):(t.put j).1.dummies = #[]/\(t.put j).1.mask=t.mask/\(t.put j).1.place.size=t.place.size + 1/\(t.put j).1.led=t.led/\(t.put j).1.plain=t.plain/\(t.put j).1.moves=t.moves/\(t.put j).1.finger=t.finger:=by
 unfold put;dsimp only;rw[hd,D9];refine⟨rfl,rfl,?_,rfl,rfl,rfl,rfl⟩;unfold insertAt;simp only[Array.size_append,q1L,Array.size_extract];omega
theorem Ls {α : Type} (xs:Array α) (p:Nat) (x : α):(insertAt xs p x).size=xs.size + 1:=by
 unfold insertAt;simp only[Array.size_append,q1L,Array.size_extract];omega
end LJS
namespace LJS
open PySem PySem.SetTable PyProof.Rows
structure fL (t:SetTable) (es:Array (Int × Value)) (hs:List Int):Prop where
 tT:t.dummies = #[]
 tU:Mk t.mask
 oZ:t.place.size=es.size
 num:es.size=hs.length
 iH:t.tooFull=false
 ins:∀ e∈es.toList,e.1∈hs
noncomputable def kB (h:Heap) (S:Addr) (hs:List Int):Prop:=∃ o es ep t,h.get? S=some o/\o.ExactSet/\o.data = .set es ep t/\fL t es hs
section
variable {t:SetTable} {es:Array (Int × Value)} {hs:List Int}
theorem fL.fill (T:fL t es hs):t.fill=es.size:=by
 unfold SetTable.fill;rw[T.oZ,T.tT];rfl
theorem fL.lt (T:fL t es hs):es.size * 5 < t.mask * 3:=by
 have:=T.iH;unfold tooFull at this;rw[T.fill] at this;have:=of_decide_eq_false this;omega
theorem fL.fits (T:fL t es hs):t.fits es.size=true:=by
 have:=T.lt;unfold SetTable.fits;rw[T.fill,T.oZ];simp;omega
theorem fL.tV (T:fL t es hs):t.gaveWay=false:=by
 unfold SetTable.gaveWay;rcases T.tU with h | h | h<;>rw[h]<;>rfl
end
theorem Lu:sizeAbove (grown 5) - 1=31:=by decide +kernel
theorem Lw:sizeAbove (grown 19) - 1=127:=by decide +kernel
section
variable {prog:Program} {w:World} {A:Around} {E:Value->Shared->Prop} {s:Shared}
end
end LJS
namespace LJS
open PySem PySem.SetTable
noncomputable def Up (xs:Array Nat):Prop:=xs.toList.Pairwise (· < ·)
theorem Up.lt {xs:Array Nat} (u:Up xs) {i k:Nat} (Lx:i < k) (hk:k < xs.size):xs[i]'(by omega) < xs[k]:=by
 have:=Zr.mp u i k (by rw[Fu];omega) (by rw[Fu];exact hk) Lx;simpa using this
theorem yY {xs:Array Nat} (u:Up xs) (j:Nat):∀ (fuel lo hi:Nat),hi <= xs.size->lo <= hi->hi - lo <= fuel->(∀ i,(h:i < xs.size)->i < lo->xs[i] < j)->(∀ i,(h:i < xs.size)->hi <= i->j <= xs[i]) →
  below.go xs j fuel lo hi <= xs.size/\(∀ i,(h:i < xs.size)->i < below.go xs j fuel lo hi->xs[i] < j)/\(∀ i,(h:i < xs.size)->below.go xs j fuel lo hi <= i->j <= xs[i])
 | 0,lo,hi,h1,h2,h3,a,b=>by
  have:lo=hi:=by omega
  subst this;exact⟨h1,a,b⟩
 | fuel + 1,lo,hi,h1,h2,h3,a,b=>by
  unfold below.go
  by_cases c:lo < hi
  ·rw[Xs c]
   have hm:(lo + hi) / 2 < xs.size:=by omega
   have em:xs.getD ((lo + hi) / 2) j=xs[(lo + hi) / 2]:=by rw[YK,X_ hm];rfl
   simp only[em]
   by_cases d:xs[(lo + hi) / 2] < j
   ·rw[Xs d]
    refine yY u j fuel _ hi h1 (by omega) (by omega) (fun i bS hl => ?_) b
    by_cases e:i < (lo + hi) / 2
    ·exact q1w (u.lt e hm) d
    ·have:i=(lo + hi) / 2:=by omega
     subst this;exact d
   ·rw[NM d]
    refine yY u j fuel lo _ (by omega) (by omega) (by omega) a fun i bS hl => ?_
    by_cases e:(lo + hi) / 2 < i
    ·exact Zg (q0u (q1n d) (u.lt e bS))
    ·have:i=(lo + hi) / 2:=by omega
     subst this;exact q1n d
  ·rw[NM c]
   have:lo=hi:=by omega
   subst this;exact⟨h1,a,b⟩
theorem wC {xs:Array Nat} (u:Up xs) (j:Nat):below xs j <= xs.size/\(∀ i,(h:i < xs.size)->i < below xs j->xs[i] < j)/\(∀ i,(h:i < xs.size)->below xs j <= i->j <= xs[i]) :=
 yY u j xs.size 0 xs.size (uu _) (Yy _) (by omega) (fun i _ h=>by omega) (fun i h h'=>by omega)
theorem Ly {t:SetTable} (u:Up t.place) {j:Nat} (hj:j∉t.place.toList):Up (t.put j).1.place:=by
 obtain⟨h0,h1,h2⟩:=wC u j;show Up (insertAt t.place (below t.place j) j);unfold Up insertAt;generalize below t.place j=p at h0 h1 h2
 have eL:(((t.place.extract 0 p).push j) ++ t.place.extract p t.place.size).toList=t.place.toList.take p ++ ([j] ++ t.place.toList.drop p):=by
  simp only[Array.toList_append,q0C,Array.toList_extract,q1d,q0D,q1y,ZC];have e2:List.take (t.place.size - p) (List.drop p t.place.toList)=List.drop p t.place.toList:=Yv (by rw[Zt,Fu];exact uu _);rw[e2]
 rw[eL]
 have lo:∀ x∈t.place.toList.take p,x < j:=by
  intro x hx;obtain⟨i,hi,e⟩:=Y2.mp hx;rw[Yr,Fu] at hi;rw[List.getElem_take] at e;have:=h1 i (by omega) (by omega);rw[<-e];simpa using this
 have bS:∀ x∈t.place.toList.drop p,j < x:=by
  intro x hx;obtain⟨i,hi,e⟩:=Y2.mp hx;rw[Zt,Fu] at hi;rw[List.getElem_drop] at e;have:=h2 (p + i) (by omega) (by omega);have Lz:j <= x:=by rw[<-e];simpa using this
  refine Nat.lt_of_le_of_ne Lz fun z=>hj ?_;rw[z];exact List.mem_of_mem_drop hx
 refine List.pairwise_append.mpr ⟨u.sublist (List.take_sublist _ _),?_,fun a ha b hb => ?_⟩
 ·exact Zh.mpr ⟨bS,u.sublist (List.drop_sublist _ _)⟩
 ·rcases Xq.mp hb with rfl | hb
  ·exact lo a ha
  ·exact q1w (lo a ha) (bS b hb)
theorem LA (n:Nat) (f:Nat->Option Nat):(((List.range n).filterMap fun j=>(f j).map fun x=>(j,x)).map (·.1)).Pairwise (· < ·):=by
 rw[Zl];refine List.Pairwise.filterMap _ (fun a a' c5 b hb b' hb' => ?_) (List.pairwise_lt_range (n:=n));obtain⟨x,_,rfl⟩:=Xt.mp hb;obtain⟨y,_,rfl⟩:=Xt.mp hb';exact c5
theorem LB (m:Nat) (owner:Array (Option Nat)):((iZ m owner).map (·.1)).Pairwise (· < ·):=LA (m + 1) fun j=>owner.getD j none
theorem yZ {t:SetTable} {f:Nat->Int} {h:Int}:∀ {fuel:Nat} {p:Probe} {j:Nat} {d:Option Nat},probe.go t f h fuel p=some (.empty j d)->t.slot j = .empty
 | 0,_,_,_,e=>nomatch e
 | fuel + 1,p,j,d,e=>by
  rw[pX] at e
  cases q:t.slot p.j with
  | empty =>
   rw[q] at e;cases e
   exact q
  | dummy =>
   rw[q] at e;exact yZ e
  | live i =>
   rw[q] at e
   by_cases c:(f i == h)=true
   ·simp only[c,Z0] at e;cases e
   ·simp only[c,YS] at e;exact yZ e
theorem LC {t:SetTable} (u:Up t.place) {j:Nat} (e:t.slot j = .empty):j∉t.place.toList:=by
 intro hm;obtain⟨i,hi,ei⟩:=Y2.mp hm;have bS:i < t.place.size:=by rw[<-Fu];exact hi
 have y0:t.place[i]=j:=by simpa using ei
 obtain⟨h0,h1,h2⟩:=wC u j;have a:¬ i < below t.place j:=fun z=>by have:=h1 i bS z;omega
 have b:¬ below t.place j < i:=fun z=>by
  have:=h2 (below t.place j) (by omega) (uu _);have:=u.lt z bS;omega
 have eb:below t.place j=i:=by omega
 unfold slot at e;rw[eb] at e;have:(t.place[i]? == some j)=true:=by rw[X_ bS,y0];simp
 simp only[this,Z0] at e;cases e
noncomputable def l5 (owner:Array (Option Nat)) (k:Nat):Prop:=(owner.toList.filterMap id).Perm (List.range k)
theorem y6:∀ {l:List (Option Nat)} {j k:Nat},l[j]? = some none->((l.set j (some k)).filterMap id).Perm (k :: l.filterMap id)
 | [],j,k,h=>by simp at h
 | x :: l,0,k,h=>by
  simp at h;subst h;rw[YC];show (k :: l.filterMap id).Perm (k :: l.filterMap id);exact q11 _
 | x :: l,j + 1,k,h=>by
  simp at h;rw[YD]
  cases x with
  | none =>
   show ((l.set j (some k)).filterMap id).Perm (k :: l.filterMap id);exact y6 h
  | some y =>
   show (y :: (l.set j (some k)).filterMap id).Perm (k :: y :: l.filterMap id);exact (List.Perm.cons y (y6 h)).trans (List.Perm.swap _ _ _)
theorem LF {owner:Array (Option Nat)} {j k:Nat} (P:l5 owner k) (h:owner.toList[j]? = some none):l5 (owner.setIfInBounds j (some k)) (k + 1):=by
 unfold l5 at P ⊢;rw[Zk,List.range_succ];exact (y6 h).trans ((List.Perm.cons k P).trans (List.perm_append_singleton k _).symm)
theorem LG {m:Nat} {owner:Array (Option Nat)} {k:Nat} (hm:Mk m) (O:Ow m owner k) (Pm:l5 owner k) (hk:k <= m) (h:Int):∃ j,layClean.free m owner (turns m) (bits h % (m + 1)) (bits h)=some j/\Ow m (owner.setIfInBounds j (some k)) (k + 1)/\l5 (owner.setIfInBounds j (some k)) (k + 1):=by
 obtain⟨e,he,hn⟩:=Ed O hk;obtain⟨n,l4,en⟩:=reach hm (i:=bits h % (m + 1)) (yU h) he;obtain⟨j,ej,hj⟩:=yW (m:=m) (owner:=owner) n (turns m) (bits h % (m + 1)) (bits h) (by unfold turns;omega) (by rw[en];exact hn);refine⟨j,ej,⟨by rw[q1i];exact O.size,?_,fun x hx => ?_⟩,LF Pm (getD_none hj)⟩
 ·rw[Zk,yX (getD_none hj),O.cnt]
 ·rw[Zk] at hx
  rcases q1c hx with h | h
  ·exact Zb (O.lt x h)
  ·cases h;exact Zs _
theorem Eg {m:Nat} (hm:Mk m):∀ (hs:List Int) (owner:Array (Option Nat)) (k:Nat),Ow m owner k->l5 owner k->k + hs.length <= m + 1 →
  ∃ aX,(hs.foldl (init:=some (owner,k)) fun acc h=>do
   let (owner,k) <- acc
   let j <- layClean.free m owner (turns m) (bits h % (m + 1)) (bits h)
   pure (owner.setIfInBounds j (some k),k + 1))=some (aX,k + hs.length)/\Ow m aX (k + hs.length)/\l5 aX (k + hs.length)
 | [],owner,k,O,Pm,_=>⟨owner,rfl,O,Pm⟩
 | h :: hs,owner,k,O,Pm,hl=>by
  rw[Fq] at hl ⊢;obtain⟨j,ej,O',P'⟩:=LG hm O Pm (by omega) h;obtain⟨o2,e2,O2,P2⟩:=Eg hm hs _ (k + 1) O' P' (by omega);refine⟨o2,?_,by rw[show k + (hs.length + 1)=k + 1 + hs.length by omega];exact⟨O2,P2⟩⟩;rw[ZS,show k + (hs.length + 1)=k + 1 + hs.length by omega,<-e2];congr 1;show (do let j <- layClean.free m owner (turns m) (bits h % (m + 1)) (bits h);pure (owner.setIfInBounds j (some k),k + 1))=_;rw[ej];rfl
theorem LH (m:Nat):l5 (Array.replicate (m + 1) none) 0:=by
 unfold l5;rw[q0B,List.filterMap_eq_nil_iff.mpr fun x hx=>by rw[q0o hx];rfl];exact q11 _
theorem LI {m:Nat} (hm:Mk m) (hs:Array Int) (hz:hs.size <= m + 1):∃ owner,layClean m hs=some owner/\Ow m owner hs.size/\l5 owner hs.size:=by
 obtain⟨o,e,O,Pm⟩:=Eg hm hs.toList _ 0 (Ee m) (LH m) (by rw[Fu];omega);rw[Yu,Fu] at O Pm;refine⟨o,?_,O,Pm⟩;unfold layClean;rw[<-Array.foldl_toList,e];rfl
theorem LL {m:Nat} {owner:Array (Option Nat)} (hs:owner.size=m + 1):(iZ m owner).map (·.2)=owner.toList.filterMap id:=by
 unfold iZ;rw[List.map_filterMap]
 have e:owner.toList=(List.range (m + 1)).map fun j=>owner.getD j none:=by
  refine ZV fun i => ?_;rw[Yg,My]
  by_cases hi:i < m + 1
  ·rw[YM hi,q0X,X_ (by rw[hs];exact hi),YK,X_ (by rw[hs];exact hi)];rfl
  ·rw[Array.getElem?_eq_none (by rw[hs];omega),YF (by rw[YG];omega)];rfl
 rw[e,List.filterMap_map];congr 1;funext j;show Option.map (fun x:Nat × Nat=>x.2) (Option.map (fun x=>(j,x)) (owner.getD j none))=owner.getD j none;cases owner.getD j none<;>rfl
end LJS
namespace LJS
open PySem PySem.SetTable PyProof.Rows
section
variable {t:SetTable} {es:Array (Int × Value)} {led:Bool} {ks:List Int}
end
section
variable {prog:Program} {w:World} {A:Around} {E:Value->Shared->Prop} {s:Shared}
theorem Eh {ks:List Int}:∀ {vs:List Value},ItemsAre (intKind prog w) ks vs->∀ v∈vs,∃ i t,v = .int i t:=by
 induction ks with
 | nil=>intro vs h v hv;cases h;cases hv
 | cons k ks ih =>
  intro vs h v hv
  cases h with
  | cons h1 h2 =>
   rcases Xq.mp hv with rfl | hv
   ·obtain⟨t,e⟩:=Value.isInt_shape (k:=k) (v:=v) (by first | exact h1 | simpa [intKind] using h1)
    exact⟨_,_,e⟩
   ·exact ih h2 v hv
theorem LM {ks:List Int} {a:Addr} {Q:Bool->Shared->Prop} (hk:IsTupleKey (intKind prog w) s.heap ks a) (h:∀ b,Q b s):wpAny (model prog w) A (hashByValue 8 (.ref a)) Q E s:=by
 have hT:=hk.typeIs;obtain⟨o,aq,n,ho,_,hd,hi⟩:=hk;show wpAny _ _ (hashByValue (7 + 1) (.ref a)) _ _ _;unfold hashByValue;refine ni (wpAny_specialOf hT F.slot_tuple_hash.lookup ?_);show wpAny _ _ (seqItems? (.ref a) >>= _) _ _ s;refine ni (YN ho hd ?_);refine ni ?_;show wpAny _ _ (forIn aq _ _) _ _ s;rw[<-q0v];refine Z2 _ (fun rest _ s'=>s'=s/\∀ v∈rest,∃ i t,v=Value.int i t) _ ?_ ?_ _ _ ⟨rfl,Eh hi⟩
 ·rintro v rest r s' ⟨rfl,dI⟩
  obtain⟨i,t,rfl⟩:=dI v NO;have e:hashByValue 7 (.int i t)=pure true:=by unfold hashByValue;rfl
  rw[e];refine ni (zR ?_);simp only[Zu,Ye,YS];exact zR ⟨rfl,fun u hu=>dI u (Xu _ hu)⟩
 ·rintro ⟨r1,r2⟩ s' ⟨rfl,_⟩
  cases r1 with
  | none=>exact zR (h _)
  | some b=>exact zR (h _)
theorem y7 {h h':Heap} {ks:List Int} {a:Addr} (x:IsTupleKey (intKind prog w) h ks a) (k:∀ o,h.get? a=some o->h'.get? a=some o):IsTupleKey (intKind prog w) h' ks a:=by
 obtain⟨o,aq,n,ho,r⟩:=x;exact⟨o,aq,n,k o ho,r⟩
noncomputable abbrev hT (prog:Program) (w:World) (ks:List Int):Int:=tupleKeyHash (intKind prog w) ks
theorem LN {h h':Heap} {S:Addr} {hs:List Int} (x:kB h S hs) (k:∀ o,h.get? S=some o->h'.get? S=some o):kB h' S hs:=by
 obtain⟨o,es,ep,t,ho,r⟩:=x;exact⟨o,es,ep,t,k o ho,r⟩
end
section
variable {prog:Program} {w:World} {A:Around} {R:Result->Shared->Prop} {I S:Addr} {fp wr:List Addr} {G:Array GenState->Array GenState->Prop} {n:Nat} {P:Nat->Value->Prop} {St:Nat->Shared->Prop}
end
noncomputable abbrev gq (led:Bool):Obj:={ cls := .type "set",dict:=none,data := .set #[] 0 (.fresh 0 0 led) }
section
variable {prog:Program} {w:World} {A:Around} {E:Value->Shared->Prop} {s:Shared}
end
section
variable {prog:Program} {w:World} {A:Around} {I S:Addr} {o:Obj} {es:Array (Int × Value)} {ep:Nat} {t:SetTable} {ks:List Int}
end
section
variable {prog:Program} {w:World} {A:Around} {S:Addr} {o:Obj} {es:Array (Int × Value)} {ep:Nat} {t:SetTable} {ks:List Int}
end
end LJS
namespace L2
open PySem PySem.Spec PyProof.Rows
noncomputable abbrev Key:=Sum Int Str
noncomputable def rZ:Key->Value->Bool
 | .inl k,v=>Value.isInt k v
 | .inr x,v=>Value.isStrOf x v
noncomputable def y8 (w:World):Key->Int
 | .inl k=>hashInt k
 | .inr x=>hashStr w x
theorem mN:∀ {k:Key} {v:Value},rZ k v=true->(∃ i t,k=Sum.inl i/\v=Value.int i t)\/(∃ x t,k=Sum.inr x/\v=Value.str x t)
 | .inl i,v,h=>by
  obtain⟨t,e⟩:=Value.isInt_shape (k:=i) (v:=v) h;exact .inl ⟨i,t,rfl,e⟩
 | .inr x,v,h=>by
  obtain⟨t,e⟩:=Value.isStrOf_shape (x:=x) (v:=v) h;exact .inr ⟨x,t,rfl,e⟩
theorem LO (i:Int) (t:Tok):rZ (.inl i) (.int i t)=true:=by simp[rZ,Value.isInt]
theorem LP (x:Str) (t:Tok):rZ (.inr x) (.str x t)=true:=by simp[rZ,Value.isStrOf]
theorem LQ (a b:Int):decide ((Sum.inl a:Key)=Sum.inl b)=(a == b):=by
 by_cases e:a=b
 ·subst e;simp
 ·have h:¬ (Sum.inl a:Key)=Sum.inl b:=fun q=>e (Sum.inl.inj q)
  rw[Xp h];exact (beq_eq_false_iff_ne.mpr e).symm
theorem LR (a b:Str):decide ((Sum.inr a:Key)=Sum.inr b)=decide (a=b):=by
 by_cases e:a=b
 ·subst e;simp
 ·have h:¬ (Sum.inr a:Key)=Sum.inr b:=fun q=>e (Sum.inr.inj q)
  rw[Xp h,Xp e]
theorem LU (a:Int) (b:Str):decide ((Sum.inl a:Key)=Sum.inr b)=false:=Xp (fun q=>nomatch q)
theorem LV (a:Str) (b:Int):decide ((Sum.inr a:Key)=Sum.inl b)=false:=Xp (fun q=>nomatch q)
noncomputable def gU (prog:Program) (w:World):PySem.KeyKind prog w Key where
 is:=rZ
 hash:=y8 w
 inj:=fun v a b ha hb=>by
  rcases mN ha with⟨i,t,rfl,rfl⟩ | ⟨x,t,rfl,rfl⟩
  ·rcases mN hb with⟨j,u,rfl,e⟩ | ⟨y,u,rfl,e⟩
   ·injection e with e1 _;rw[e1]
   ·exact nomatch e
  ·rcases mN hb with⟨j,u,rfl,e⟩ | ⟨y,u,rfl,e⟩
   ·exact nomatch e
   ·injection e with e1 _;rw[e1]
 byValue:=fun k v h=>by
  rcases mN h with⟨i,t,rfl,rfl⟩ | ⟨x,t,rfl,rfl⟩<;>rfl
 pyHash:=fun hv h=>by
  rcases mN hv with⟨i,t,rfl,rfl⟩ | ⟨x,t,rfl,rfl⟩
  ·exact wpAny_pyHash_int h
  ·exact wpAny_pyHash_str h
 eqBool:=fun hu hv h=>by
  rcases mN hu with⟨i,t,rfl,rfl⟩ | ⟨x,t,rfl,rfl⟩
  ·rcases mN hv with⟨j,u,rfl,rfl⟩ | ⟨y,u,rfl,rfl⟩
   ·rw[LQ] at h;exact wpAny_eqBool_int h
   ·rw[LU] at h;exact SeqAt.EqAt.int_str i t y u _ _ _ _ h
  ·rcases mN hv with⟨j,u,rfl,rfl⟩ | ⟨y,u,rfl,rfl⟩
   ·rw[LV] at h;exact SeqAt.EqAt.str_int x t j u _ _ _ _ h
   ·rw[LR] at h;exact wpAny_eqBool_str h
 «strs» := fun k x t v h=>by
  rcases mN h with⟨i,u,rfl,e⟩ | ⟨y,u,rfl,e⟩
  ·exact nomatch e
  ·injection e with e1 _
   subst e1;cases v<;>rfl
theorem LW (prog:Program) (w:World) (i:Int) (t:Tok):(gU prog w).is (.inl i) (.int i t)=true:=LO i t
theorem LX (prog:Program) (w:World) (x:Str) (t:Tok):(gU prog w).is (.inr x) (.str x t)=true:=LP x t
inductive V where
 | non | bl (b:Bool) | int (i:Int) | str (x:Str) | byt (b:Array UInt8) | flt (b:UInt64) | ref (a:Addr) | ty (n:String)
 deriving DecidableEq
noncomputable def RelV:V->Value->Prop
 | .non,u=>u=Value.none
 | .bl b,u=>u=Value.bool b
 | .int i,u=>∃ t,u=Value.int i t
 | .str x,u=>∃ t,u=Value.str x t
 | .byt b,u=>∃ t,u=Value.bytes b t
 | .flt b,u=>∃ t,u=Value.float b t
 | .ref a,u=>u=Value.ref a
 | .ty n,u=>u=Value.type n
noncomputable abbrev Vals:List V->List Value->Prop:=Paired RelV
theorem Vals.length {xs:List V} {us:List Value} (r:Vals xs us):xs.length=us.length:=Paired.length r
theorem Vals.get:∀ {xs:List V} {us:List Value} {i:Nat} {x:V},Vals xs us->xs[i]? = some x->∃ u,us[i]? = some u/\RelV x u
 | _,_,_,_,.nil,e=>by simp at e
 | _,_,0,_,.cons r _,e=>by simp at e;subst e;exact⟨_,rfl,r⟩
 | _,_,i + 1,x,.cons _ t,e=>by
  obtain⟨u,h1,h2⟩:=Vals.get (i:=i) (x:=x) t (by simpa using e);exact⟨u,by simpa using h1,h2⟩
theorem Vals.set {x:V} {u:Value} (r:RelV x u):∀ {xs:List V} {us:List Value} (i:Nat),Vals xs us->Vals (xs.set i x) (us.set i u)
 | _,_,_,.nil => .nil
 | _,_,0,.cons _ t => .cons r t
 | _,_,i + 1,.cons q t => .cons q (Vals.set r i t)
theorem Vals.append:∀ {xs ys:List V} {us ws:List Value},Vals xs us->Vals ys ws->Vals (xs ++ ys) (us ++ ws)
 | _,_,_,_,.nil,s=>s
 | _,_,_,_,.cons r t,s => .cons r (Vals.append t s)
theorem Vals.take:∀ {xs:List V} {us:List Value} (n:Nat),Vals xs us->Vals (xs.take n) (us.take n)
 | _,_,0,_ => .nil
 | _,_,_ + 1,.nil => .nil
 | _,_,n + 1,.cons r t => .cons r (Vals.take n t)
theorem Vals.drop:∀ {xs:List V} {us:List Value} (n:Nat),Vals xs us->Vals (xs.drop n) (us.drop n)
 | _,_,0,r=>r
 | _,_,_ + 1,.nil => .nil
 | _,_,n + 1,.cons _ t=>Vals.drop n t
noncomputable def dZ:Option V->Option Value->Prop
 | some v,some u=>RelV v u
 | none,none=>True
 | _,_=>False
noncomputable def KV {κ : Type}:List (κ × V)->List (κ × Value)->Prop:=Paired fun (p : κ × V) (q : κ × Value)=>p.1=q.1/\RelV p.2 q.2
noncomputable def kV:Key->V
 | .inl i => .int i
 | .inr x => .str x
inductive HO where
 | lst (xs:List V)
 | tup (xs:List V)
 | dK (af:List (Key × V)) | dT (af:List (List Key × V))
 | set (S:Int->Bool) (n:Nat)
 | ins (C dx:Addr) (fs:List (Str × V))
 | own (x:Addr)
 | xd (fs:List (Str × V))
 | met (f x:Addr)
 | rng (lo hi:Int)
 | frz (o:Obj) (u:HO)
 | tbl (ps:Array Value)
 | ext (φ : Heap->Prop)
noncomputable abbrev Hp:=Addr->Option HO
noncomputable def upd (H:Hp) (a:Addr) (o:HO):Hp:=fun b=>if b=a then some o else H b
theorem bZ {H:Hp} {a:Addr} {o:HO}:upd H a o a=some o:=by unfold upd;rw[Xs rfl]
theorem aS {H:Hp} {a b:Addr} {o:HO} (h:b≠a):upd H a o b=H b:=by unfold upd;rw[NM h]
theorem LY {H:Hp} {a b:Addr} {o u:HO} (h:H a=some o) (h':H b=some u) (d:o≠u):a≠b:=by
 intro e;subst e;rw[h] at h';exact d (Yh h')
theorem c6 {H:Hp} {a b:Addr} {o:HO} (h:H a=some o) (h':H b=none):a≠b:=by
 intro e;subst e;rw[h] at h';cases h'
section
variable (P:Program) (w:World)
noncomputable def aO (H:Hp) (h:Heap) (a:Addr):HO->Prop
 | .lst xs=>xs.length <= sizeLine/\∃ (aq:List Value) (n:Nat),Vals xs aq/\h.get? a=some { cls := .type "list",data := .seq aq.toArray n }
 | .tup xs=>xs.length <= sizeLine/\∃ aq:List Value,Vals xs aq/\IsTup h a aq.toArray
 | .dK af=>af.length <= sizeLine/\(a == sysModules)=false/\∃ vs,KV af vs/\h.DictOf (gU P w) a vs
 | .dT af=>af.length <= sizeLine/\(a == sysModules)=false/\∃ xs:List (List Key × Addr × Value),
   Paired (fun (p:List Key × V) (q:List Key × Addr × Value)=>p.1=q.1/\H q.2.1=some (.tup (p.1.map kV))/\RelV p.2 q.2.2) af xs ∧
   ∃ o es ep,h.get? a=some o/\o.ExactDict/\o.data = .dict es ep/\es.toList=xs.map (entryOfKey (tupleKind (gU P w)))/\(xs.map (·.1)).Nodup
 | .set S n=>h.SetOf (intKind P w) a S n
 | .ins C dx fs=>H dx=some (.own a)/\fs.length <= 1000/\dx≠a/\h.get? a=some (PySem.W.instObj C dx) ∧
   ∃ mA,h.Ns1 dx mA/\(∀ f,dZ (fs.lookup f) (mA f))/\PySem.Within mA (fs.map (·.1))
 | .own _=>∃ o,h.get? a=some o
 | .xd fs=>∃ mA,h.Ns1 a mA/\∀ f,dZ (fs.lookup f) (mA f)
 | .rng lo hi=>∃ t u v,h.get? a=some { cls := .type "range",data := .fields #[.int lo t,.int hi u,.int 1 v] }
 | .frz o u=>h.get? a=some o/\aO H h a u
 | .tbl ps=>h.get? a=some { cls := .none,data := .fields ps }
 | .met f x=>h.get? a=some (PySem.W.methodObj (.ref f) (.ref x))
 | .ext φ => φ h/\(∃ o,h.get? a=some o)/\∀ h1 h2:Heap,φ h1->(∀ o,h1.get? a=some o->h2.get? a=some o) -> φ h2
noncomputable def dG (H:Hp) (h:Heap):Prop:=∀ a o,H a=some o->aO P w H h a o
end
section
variable {P:Program} {w:World} {H H':Hp} {h h':Heap} {a:Addr} {o:HO}
theorem aO.lt (x:aO P w H h a o):a < h.objs.size:=by
 cases o with
 | lst xs=>obtain⟨_,_,_,_,e⟩:=x;exact NL e
 | tup xs=>obtain⟨_,_,_,p⟩:=x;exact p.lt
 | dK af=>obtain⟨_,_,_,_,o,_,_,e,_⟩:=x;exact NL e
 | dT af=>obtain⟨_,_,_,_,o,_,_,e,_⟩:=x;exact NL e
 | set S n=>obtain⟨o,_,_,_,e,_⟩:=x;exact NL e
 | ins C dx fs=>obtain⟨_,_,_,e,_⟩:=x;exact NL e
 | own y=>obtain⟨_,e⟩:=x;exact NL e
 | xd fs=>obtain⟨_,⟨_,_,_,e,_⟩,_⟩:=x;exact NL e
 | rng lo hi=>obtain⟨_,_,_,e⟩:=x;exact NL e
 | frz ob u=>obtain⟨e,_⟩:=x;exact NL e
 | tbl ps=>exact NL (show h.get? a=some _ from x)
 | met f y=>exact NL (show h.get? a=some _ from x)
 | ext φ => obtain⟨_,⟨_,e⟩,_⟩:=x;exact NL e
theorem Paired.pY {α β : Type} {F G : α -> β -> Prop}:∀ {l₁ : List α} {l₂ : List β},Paired F l₁ l₂ -> (∀ a b,F a b->G a b)->Paired G l₁ l₂
 | _,_,.nil,_ => .nil
 | _,_,.cons r t,f => .cons (f _ _ r) (Paired.pY t f)
theorem aO.ff (x:aO P w H h a o) (k:∀ b u,(b=a\/H b=some (.own a))->h.get? b=some u->h'.get? b=some u)
  (ho:∀ b,H b=some (.own a)->H' b=some (.own a)) (ht:∀ b xs,H b=some (.tup xs)->H' b=some (.tup xs)):aO P w H' h' a o:=by
 induction o with
 | lst xs=>obtain⟨z,aq,n,r,e⟩:=x;exact⟨z,aq,n,r,k _ _ (.inl rfl) e⟩
 | tup xs=>obtain⟨z,aq,r,ob,e,c⟩:=x;exact⟨z,aq,r,ob,k _ _ (.inl rfl) e,c⟩
 | dK af=>obtain⟨z,y,vs,r,ob,es,ep,e,c⟩:=x;exact⟨z,y,vs,r,ob,es,ep,k _ _ (.inl rfl) e,c⟩
 | dT af =>
  obtain⟨z,y,xs,r,ob,es,ep,e,c⟩:=x;exact⟨z,y,xs,Paired.pY r fun p q z=>⟨z.1,ht _ _ z.2.1,z.2.2⟩,ob,es,ep,k _ _ (.inl rfl) e,c⟩
 | set S n=>obtain⟨ob,es,ep,t,e,c⟩:=x;exact⟨ob,es,ep,t,k _ _ (.inl rfl) e,c⟩
 | ins C dx fs =>
  obtain⟨d,z,ne,e,mA,⟨od,es,ep,e2,c⟩,r⟩:=x;exact⟨ho _ d,z,ne,k _ _ (.inl rfl) e,mA,⟨od,es,ep,k _ _ (.inr d) e2,c⟩,r⟩
 | own y=>obtain⟨ob,e⟩:=x;exact⟨ob,k _ _ (.inl rfl) e⟩
 | xd fs=>obtain⟨mA,⟨od,es,ep,e,c⟩,r⟩:=x;exact⟨mA,⟨od,es,ep,k _ _ (.inl rfl) e,c⟩,r⟩
 | rng lo hi=>obtain⟨t,u,v,e⟩:=x;exact⟨t,u,v,k _ _ (.inl rfl) e⟩
 | frz ob u ih=>obtain⟨e,q⟩:=x;exact⟨k _ _ (.inl rfl) e,ih q⟩
 | tbl ps =>
  have e:h.get? a=some { cls := .none,data := .fields ps }:=x;show h'.get? a=some { cls := .none,data := .fields ps };exact k a _ (.inl rfl) e
 | met f y =>
  have e:h.get? a=some (PySem.W.methodObj (.ref f) (.ref y)):=x;show h'.get? a=some (PySem.W.methodObj (.ref f) (.ref y));exact k a _ (.inl rfl) e
 | ext φ => obtain⟨p,⟨o,e⟩,st⟩:=x;exact⟨st _ _ p fun o q=>k _ _ (.inl rfl) q,⟨o,k _ _ (.inl rfl) e⟩,st⟩
theorem dG.lt (x:dG P w H h) (e:H a=some o):a < h.objs.size:=(x a o e).lt
theorem dG.fresh (x:dG P w H h) (e:h.objs.size <= a):H a=none:=by
 cases q:H a with
 | none=>rfl
 | some u=>exact absurd (Yc (x.lt q) e) (Zf _)
theorem dG.kept (x:dG P w H h) (k:∀ b u,h.get? b=some u->h'.get? b=some u):dG P w H h':=fun a o e =>
 (x a o e).ff (fun b u _ q=>k b u q) (fun _ q=>q) fun _ _ q=>q
theorem dG.laid (x:dG P w H h) (k:∀ b u,h.get? b=some u->h'.get? b=some u) (hp:h.objs.size <= a) (new:aO P w (upd H a o) h' a o):dG P w (upd H a o) h':=fun b u e=>by
 have hn:=x.fresh hp
 by_cases hb:b=a
 ·subst hb;rw[bZ] at e;cases e;exact new
 ·rw[aS hb] at e
  exact (x b u e).ff (fun c v _ q=>k c v q) (fun c q=>by rw[aS (c6 q hn)];exact q) fun c xs q=>by rw[aS (c6 q hn)];exact q
end
noncomputable def Rd (H:Hp) (a:Addr) (u:HO):Prop:=H a=some u\/∃ o,H a=some (.frz o u)
theorem Rd.ok {P:Program} {w:World} {H:Hp} {h:Heap} {a:Addr} {u:HO} (r:Rd H a u) (x:dG P w H h):aO P w H h a u:=by
 rcases r with r | ⟨o,r⟩
 ·exact x a u r
 ·obtain⟨_,q⟩:=x a _ r
  exact q
noncomputable def tW:Option HO->Prop
 | some (.lst _)=>True
 | some (.dK _)=>True
 | some (.dT _)=>True
 | some (.set _ _)=>True
 | some (.ins _ _ _)=>True
 | some (.ext _)=>True
 | _=>False
section
variable {P:Program} {w:World} {H:Hp} {h h':Heap} {x e:Addr} {o':HO}
theorem dG.write (ok:dG P w H h) (mu:tW (H x)) (he:e=x\/H e=some (.own x)) (k:∀ b u,b≠e->h.get? b=some u->h'.get? b=some u) (l6:∃ u,h'.get? e=some u)
  (new:aO P w (upd H x o') h' x o'):dG P w (upd H x o') h':=fun b u q=>by
 have tX:∀ c y,H c=some (.own y)->c≠x:=fun c y r z=>by subst z;rw[r] at mu;exact mu
 have y9:∀ c xs,H c=some (.tup xs)->c≠x:=fun c xs r z=>by subst z;rw[r] at mu;exact mu
 by_cases hb:b=x
 ·subst hb;rw[bZ] at q;cases q;exact new
 ·rw[aS hb] at q
  by_cases pZ:b=e
  ·have q':H b=some (.own x):=by
    rcases he with z | z
    ·exact absurd (pZ.trans z) hb
    ·rw[pZ];exact z
   rw[q] at q';cases q';obtain⟨v,hv⟩:=l6;exact⟨v,by rw[pZ];exact hv⟩
  ·refine (ok b u q).ff (fun c v hc r=>k c v ?_ r) (fun c r=>by rw[aS (tX c b r)];exact r) fun c xs r=>by rw[aS (y9 c xs r)];exact r
   rcases hc with rfl | hc
   ·exact pZ
   ·rintro rfl
    rcases he with z | z
    ·exact tX c b hc z
    ·rw[hc] at z;cases z;exact hb rfl
end
structure Un (fs ex:List Addr) (H H':Hp) (h h':Heap):Prop where
 keep:∀ b o,h.get? b=some o->H b=none->b∉fs->b∉ex->h'.get? b=some o
 slot:∀ b o,h.get? b=some o->H b=none->b∈fs->b∉ex->∃ sl,h'.get? b=some { o with slots:=sl }
 free:∀ b o,h.get? b=some o->H b=none->b∉ex->H' b=none
 there:∀ b o,h.get? b=some o->b∉ex->∃ o',h'.get? b=some o'
 fg:∀ b xs,H b=some (.tup xs)->H' b=some (.tup xs)
 fM:∀ b o u,H b=some (.frz o u)->H' b=some (.frz o u)
 fN:∀ b ps,H b=some (.tbl ps)->∃ more,H' b=some (.tbl (ps ++ more))
section
variable {fs LZ ex Xl:List Addr} {H H1 H2:Hp} {h h1 h2 h':Heap} {a x e:Addr} {o:HO}
theorem Un.any (u:Un fs ex H H1 h h1) {b:Addr} {ob:Obj} (q:h.get? b=some ob) (n:H b=none) (hx:b∉ex):∃ sl,h1.get? b=some { ob with slots:=sl }:=by
 by_cases hb:b∈fs
 ·exact u.slot b ob q n hb hx
 ·exact⟨ob.slots,u.keep b ob q n hb hx⟩
theorem Un.kept (k:∀ b u,h.get? b=some u->h'.get? b=some u):Un fs ex H H h h' :=
 ⟨fun b ob q _ _ _=>k b ob q,fun b ob q _ _ _=>⟨ob.slots,k b ob q⟩,fun _ _ _ n _=>n,fun b ob q _=>⟨ob,k b ob q⟩,fun _ _ q=>q,fun _ _ _ q=>q,fun _ ps q=>⟨#[],by rw[q];simp⟩⟩
theorem Un.refl:Un fs ex H H h h:=Un.kept fun _ _ q=>q
theorem Un.laid (k:∀ b u,h.get? b=some u->h'.get? b=some u) (hp:h.objs.size <= a) (hn:H a=none):Un fs ex H (upd H a o) h h' where
 keep:=fun b u q _ _ _=>k b u q
 slot:=fun b u q _ _ _=>⟨u.slots,k b u q⟩
 free:=fun b u q n _=>by rw[aS (Yb (Yc (NL q) hp))];exact n
 there:=fun b u q _=>⟨u,k b u q⟩
 fg:=fun b xs q=>by rw[aS (c6 q hn)];exact q
 fM:=fun b u xs q=>by rw[aS (c6 q hn)];exact q
 fN:=fun b ps q=>⟨#[],by rw[aS (c6 q hn),q];simp⟩
theorem Un.write (mu:tW (H x)) (he:e=x\/H e=some (.own x)) (k:∀ b u,b≠e->h.get? b=some u->h'.get? b=some u) (l6:∃ u,h'.get? e=some u):Un fs ex H (upd H x o) h h':=by
 have hx:∀ b,H b=none->b≠x:=fun b n z=>by subst z;rw[n] at mu;exact mu
 have hb:∀ b,H b=none->b≠e:=fun b n z=>by
  subst z;rcases he with r | r
  ·exact hx b n r
  ·rw[n] at r;cases r
 have hm:∀ b u,H b=some u->¬ tW (some u)->b≠x:=fun b u q nm z=>by subst z;rw[q] at mu;exact nm mu
 refine⟨fun b u q n _ _=>k b u (hb b n) q,fun b u q n _ _=>⟨u.slots,k b u (hb b n) q⟩,fun b u q n _=>by rw[aS (hx b n)];exact n,fun b u q _ => ?_,
  fun b xs q=>by rw[aS (hm b _ q fun z=>z)];exact q,fun b u xs q=>by rw[aS (hm b _ q fun z=>z)];exact q,fun b ps q=>⟨#[],by rw[aS (hm b _ q fun z=>z),q];simp⟩⟩
 by_cases pZ:b=e
 ·subst pZ;exact l6
 ·exact⟨u,k b u pZ q⟩
end
noncomputable def wD (h:Heap) (H:Hp):List Addr:=(List.range h.objs.size).filter fun a=>(H a).isSome
noncomputable def fO (h:Heap) (H:Hp):Heap:=PySem.W.hideAll h (wD h H)
theorem L0 (h:Heap) (H:Hp):(fO h H).objs.size=h.objs.size:=PySem.W.hideAll_size _ _
theorem L1 {h:Heap} {H:Hp} {b:Addr} {o:Obj} (e:h.get? b=some o) (n:H b=none):(fO h H).get? b=some o :=
 PySem.W.hideAll_get _ e fun hm=>by
  have q:(H b).isSome=true:=(YT.mp hm).2;rw[n] at q;simp at q
theorem L5 {h:Heap} {H:Hp} {b:Addr} {o:Obj} (e:(fO h H).get? b=some o):h.get? b=some o/\H b=none:=by
 have e':h.get? b=some o:=PySem.W.of_hideAll (wD h H) e;refine⟨e',?_⟩
 cases q:H b with
 | none=>rfl
 | some x =>
  have hm:b∈wD h H:=YT.mpr ⟨Yq.mpr (NL e'),by simp[q]⟩;have z:(fO h H).get? b=none:=PySem.W.hideAll_none (wD h H) hm;rw[z] at e;cases e
structure Mod (K:PySem.W.Frag) (mg:Str->Option Value) (base:Heap):Prop where
 o6:K.In base
 glob:base.Ns mainGlobals mg
 blt:∃ mb,base.Ns builtinsNs mb/\∀ x:Str,x ≠ "__name__" -> mb x=bootBuiltins x
 nolimit:base.NoLimit
structure Cx where
 prog:Program
 w:World
 K:PySem.W.Frag
 mg:Str->Option Value
 base:Heap
 A:Around
 N:List Str
 s₀ : Shared
 H₀ : Hp
 env:Env
 outer:List Env
 stack:List Env
 ex:List Addr
 fn:Str->Bool
 calm:Bool
 pn:List (Addr × Obj)
 xe:Value->Shared->Prop
noncomputable def jX (l:List Env):List Addr:=l.filterMap (·.frame)
noncomputable abbrev Cx.fs (X:Cx):List Addr:=jX X.outer
noncomputable def p9 (sc:Scope) (x:Str):Prop:=sc.names.lookup x=some .local\/sc.names.lookup x=some .cell\/sc.names.lookup x=some .free
noncomputable def Loc (sc:Scope) (x:Str):Prop:=sc.names.lookup x=some .local\/sc.names.lookup x=some .cell
noncomputable def Look (env:Env) (h:Heap) (m:Str->Option Value) (x:Str) (u:Value):Prop :=
 (env.kindOf x=some .local/\m x=some u)\/((env.kindOf x=some .cell\/env.kindOf x=some .free)/\∃ c,env.cells.lookup x=some c/\h.IsCell c (some u))
structure Cx.Ok (X:Cx):Prop where
 mod:Mod X.K X.mg X.base
 kind:X.env.scope.kind = .function
 glob:X.env.globals=mainGlobals
 blt:X.env.builtins=builtinsNs
 above:X.s₀.heap.objs.size <= X.env.locals
 inj:∀ x y c,X.env.cells.lookup x=some c->X.env.cells.lookup y=some c->x=y
 has:∀ x,(X.env.kindOf x=some .cell\/X.env.kindOf x=some .free)->∃ c,X.env.cells.lookup x=some c
 tY:∀ x c,X.fn x=true->X.env.cells.lookup x=some c->X.s₀.heap.objs.size <= c
 hd:X.calm=true->X.A.handled=none
 frames:X.A.frames=some X.stack
 wF:X.stack=X.outer\/(X.stack=X.env :: X.outer/\X.env.frame=some X.env.locals)
 Ei:∀ b∈X.ex,b≠X.env.locals/\∀ x c,X.env.cells.lookup x=some c->c≠b
 bs:∀ b o,X.base.get? b=some o->X.s₀.heap.get? b=some o/\X.H₀ b=none
 o7:X.base.objs.size <= X.s₀.heap.objs.size
 kC:∀ b o,X.base.get? b=some o->b∉X.ex
 mO:∀ b∈X.ex,b∉X.fs
 eJ:X.s₀.heap.FunFrames X.base X.outer
 p_:∀ b∈X.fs,X.H₀ b=none
structure Inv (X:Cx) (pins:List (Addr × Obj)) (σ : List (Option V)) (H:Hp) (s:Shared):Prop where
 ok:X.Ok
 os:s.os=X.s₀.os
 bare:AllBare s.gens
 base:Un X.fs X.ex X.H₀ H X.s₀.heap s.heap
 loc:∃ m,s.heap.Ns X.env.locals m/\∀ (i:Nat) (x:Str) (v:V),X.N[i]? = some x -> σ[i]? = some (some v)->p9 X.env.scope x->∃ u,RelV v u/\Look X.env s.heap m x u
 cell:∀ x c,X.env.cells.lookup x=some c->∃ v,s.heap.IsCell c v
 free:H X.env.locals=none
 cH:∀ x c,X.env.cells.lookup x=some c->H c=none
 pin:∀ p∈X.pn ++ pins,s.heap.get? p.1=some p.2/\H p.1=none/\p.1≠X.env.locals/\p.1∉X.fs/\∀ v,p.2.data ≠ .cell v
 aM:dG X.prog X.w H s.heap
 len : σ.length=X.N.length
section
variable {X:Cx} {pins:List (Addr × Obj)} {σ : List (Option V)} {H H':Hp} {s:Shared} {h':Heap}
theorem Cx.Ok.y_ (ok:X.Ok) {b:Addr} {o:Obj} (e:X.base.get? b=some o):b∉X.fs:=fun hb=>by
 have:=(ok.eJ.mem hb).1;rw[e] at this;cases this
theorem Inv.bs (I:Inv X pins σ H s):∀ b o,X.base.get? b=some o->s.heap.get? b=some o/\H b=none:=fun b o e =>
 ⟨I.base.keep b o (I.ok.bs b o e).1 (I.ok.bs b o e).2 (I.ok.y_ e) (I.ok.kC b o e),I.base.free b o (I.ok.bs b o e).1 (I.ok.bs b o e).2 (I.ok.kC b o e)⟩
theorem Inv.bk (I:Inv X pins σ H s):∀ b o,X.base.get? b=some o->s.heap.get? b=some o:=fun b o e=>(I.bs b o e).1
theorem Inv.mod (I:Inv X pins σ H s):Mod X.K X.mg X.base:=I.ok.mod
theorem Inv.gW (I:Inv X pins σ H s):X.K.In s.heap:=I.ok.mod.o6.keeps I.bk
theorem Inv.nolimit (I:Inv X pins σ H s):s.heap.NoLimit:=I.ok.mod.nolimit.keeps I.bk
theorem Inv.lt (I:Inv X pins σ H s):X.env.locals < s.heap.objs.size:=let ⟨_,hn,_⟩:=I.loc;hn.lt
theorem Inv.sz (I:Inv X pins σ H s):X.s₀.heap.objs.size <= s.heap.objs.size:=Yw I.ok.above (Zg I.lt)
theorem Inv.za (I:Inv X pins σ H s) {a:Addr} (h:s.heap.objs.size <= a):a∉X.fs:=fun hb=>by
 obtain⟨_,o,ho,_⟩:=I.ok.eJ.mem hb;exact absurd (Yc (NL ho) (Yw I.sz h)) (Zf _)
theorem Inv.qa (I:Inv X pins σ H s):∀ x c,X.env.cells.lookup x=some c->c≠X.env.locals:=fun x c e z=>by
 obtain⟨v,o,ho,hd⟩:=I.cell x c e;obtain⟨m,⟨o',es,ep,jn,tZ,_⟩,_⟩:=I.loc;rw[z,jn] at ho;cases ho;rw[tZ] at hd;cases hd
theorem Inv.eJ (I:Inv X pins σ H s):s.heap.FunFrames X.base X.outer:=by
 have all:∀ (l:List Env),(∀ b∈jX l,b∈X.fs)->X.s₀.heap.FunFrames X.base l->s.heap.FunFrames X.base l:=by
  intro l
  induction l with
  | nil=>intro _ _;trivial
  | cons env r ih =>
   intro hs hl;obtain⟨hk,⟨L,o,hf,hn,ho,hd⟩,hr⟩:=hl;have hL:L∈X.fs:=hs L (by unfold jX;rw[q0n,hf];exact NO);obtain⟨sl,e⟩:=I.base.slot L o ho (I.ok.p_ L hL) hL fun z=>I.ok.mO L z hL;exact⟨hk,⟨L,_,hf,hn,e,hd⟩,ih (fun b hb=>hs b (by unfold jX;rw[q0n,hf];exact Xu _ hb)) hr⟩
 exact all X.outer (fun _ hb=>hb) I.ok.eJ
theorem Inv.stack (I:Inv X pins σ H s):s.heap.FunFrames X.base X.stack:=by
 rcases I.ok.wF with e | ⟨e,hf⟩
 ·rw[e];exact I.eJ
 ·rw[e]
  obtain⟨m,hn,_⟩:=I.loc;refine .cons (by rw[I.ok.kind];decide) hf hn ?_ I.eJ;exact Heap.get?_none_of_le (Yw I.ok.o7 I.ok.above)
theorem Inv.gr (I:Inv X pins σ H s):∀ b∈jX X.stack,b∈X.env.locals :: X.fs:=fun b hb=>by
 rcases I.ok.wF with e | ⟨e,hf⟩
 ·rw[e] at hb;exact Xu _ hb
 ·rw[e] at hb
  unfold jX at hb;rw[q0n,hf] at hb;exact hb
theorem Inv.i5 (I:Inv X pins σ H s):∀ b∈jX X.stack,H b=none:=fun b hb=>by
 rcases Xq.mp (I.gr b hb) with e | hb
 ·rw[e];exact I.free
 ·obtain⟨_,o,ho,_⟩:=I.ok.eJ.mem hb
  exact I.base.free b o ho (I.ok.p_ b hb) fun z=>I.ok.mO b z hb
theorem Inv.step {g':Array GenState} {t':Nat} {d':Drawn} {ch:List Addr} (I:Inv X pins σ H s)
  (l7:∀ b∈ch,(b∈X.ex\/X.s₀.heap.objs.size <= b)/\b≠X.env.locals/\(∀ x c,X.env.cells.lookup x=some c->c≠b)/\∀ p∈X.pn ++ pins,p.1≠b)
  (keep:∀ b o,b≠X.env.locals->b∉X.fs->b∉ch->s.heap.get? b=some o->H b=none->h'.get? b=some o)
  (slot:∀ b o,b≠X.env.locals->b∈X.fs->b∉ch->s.heap.get? b=some o->H b=none->∃ sl,h'.get? b=some { o with slots:=sl }) (free:∀ b o,b∉ch->s.heap.get? b=some o->H b=none->H' b=none)
  (there:∀ b o,b∉ch->s.heap.get? b=some o->∃ o',h'.get? b=some o')
  (fg:∀ b xs,H b=some (.tup xs)->H' b=some (.tup xs)) (fM:∀ b o u,H b=some (.frz o u)->H' b=some (.frz o u)) (fN:∀ b ps,H b=some (.tbl ps)->∃ more,H' b=some (.tbl (ps ++ more)))
  (ns:∀ m,s.heap.Ns X.env.locals m->h'.Ns X.env.locals m) (aM:dG X.prog X.w H' h') (hg:AllBare g') :
  Inv X pins σ H' { s with heap:=h',gens:=g',drawn:=d',toks:=t' }:=by
 have Ej:∀ b o,X.s₀.heap.get? b=some o->b≠X.env.locals:=fun b o e=>Yb (Yc (NL e) I.ok.above)
 have wG:∀ b o,X.s₀.heap.get? b=some o->b∉X.ex->b∉ch:=fun b o e hx hb=>by
  rcases (l7 b hb).1 with z | z
  ·exact hx z
  ·exact absurd (Yc (NL e) z) (Zf _)
 have cellK:∀ x c,X.env.cells.lookup x=some c->∀ v,s.heap.IsCell c v->h'.IsCell c v:=fun x c e v ⟨o,ho,hd⟩=>by
  have kD:c∉ch:=fun z=>(l7 c z).2.2.1 x c e rfl
  by_cases hc:c∈X.fs
  ·obtain⟨sl,q⟩:=slot c o (I.qa x c e) hc kD ho (I.cH x c e)
   exact⟨_,q,hd⟩
  ·exact⟨o,keep c o (I.qa x c e) hc kD ho (I.cH x c e),hd⟩
 refine⟨I.ok,I.os,hg,⟨fun b o e n hb hx => ?_,fun b o e n hb hx => ?_,fun b o e n hx => ?_,fun b o e hx => ?_,fun b xs e=>fg b xs (I.base.fg b xs e),fun b o xs e=>fM b o xs (I.base.fM b o xs e),fun b ps e => ?_⟩,?_,fun x c e => ?_,?_,fun x c e => ?_,fun p hp => ?_,aM,I.len⟩
 ·exact keep b o (Ej b o e) hb (wG b o e hx) (I.base.keep b o e n hb hx) (I.base.free b o e n hx)
 ·obtain⟨sl,e1⟩:=I.base.slot b o e n hb hx
  obtain⟨zb,e2⟩:=slot b _ (Ej b o e) hb (wG b o e hx) e1 (I.base.free b o e n hx);exact⟨zb,e2⟩
 ·obtain⟨o',e1⟩:=I.base.there b o e hx
  exact free b o' (wG b o e hx) e1 (I.base.free b o e n hx)
 ·obtain⟨o',e1⟩:=I.base.there b o e hx
  exact there b o' (wG b o e hx) e1
 ·obtain⟨m1,e1⟩:=I.base.fN b ps e
  obtain⟨m2,e2⟩:=fN b _ e1;exact⟨m1 ++ m2,by rw[e2,Array.append_assoc]⟩
 ·obtain⟨m,hn,hl⟩:=I.loc
  refine⟨m,ns m hn,fun i x v e1 e2 e3 => ?_⟩;obtain⟨u,r,l⟩:=hl i x v e1 e2 e3;refine⟨u,r,?_⟩;rcases l with l | ⟨k,c,e,z⟩
  ·exact .inl l
  ·exact .inr ⟨k,c,e,cellK x c e _ z⟩
 ·obtain⟨v,z⟩:=I.cell x c e
  exact⟨v,cellK x c e v z⟩
 ·obtain⟨m,⟨o,_,_,ho,_⟩,_⟩:=I.loc
  exact free _ o (fun z=>(l7 _ z).2.1 rfl) ho I.free
 ·obtain⟨v,o,ho,hd⟩:=I.cell x c e
  exact free c o (fun z=>(l7 c z).2.2.1 x c e rfl) ho (I.cH x c e)
 ·obtain⟨e,n,ne,nf,d⟩:=I.pin p hp
  have kD:p.1∉ch:=fun z=>(l7 p.1 z).2.2.2 p hp rfl;exact⟨keep p.1 p.2 ne nf kD e n,free p.1 p.2 kD e n,ne,nf,d⟩
theorem Inv.un {t':Nat} (I:Inv X pins σ H s) (u:Un X.fs [] H H' s.heap h') (aM:dG X.prog X.w H' h'):Inv X pins σ H' { s with heap:=h',toks:=t' }:=by
 obtain⟨m,⟨o,es,ep,ho,r⟩,_⟩:=id I.loc;obtain⟨sl,hL⟩:=u.any ho I.free (by simp)
 exact I.step (g':=s.gens) (d':=s.drawn) (ch:=[]) (fun _ z=>nomatch z) (fun b o _ hb _ e n=>u.keep b o e n hb (by simp)) (fun b o _ hb _ e n=>u.slot b o e n hb (by simp)) (fun b o _ e n=>u.free b o e n (by simp)) (fun b o _ e=>u.there b o e (by simp)) u.fg u.fM u.fN (fun m' hm=>by
  obtain⟨o',t6,zc,jn,r'⟩:=hm;rw[ho] at jn;cases jn
  exact⟨_,t6,zc,hL,r'⟩) aM I.bare
theorem Inv.call {g':Array GenState} {t':Nat} {d':Drawn} {ch:List Addr} (I:Inv X pins σ H s) (u:Un (jX X.stack) ch H H' s.heap h') (aM:dG X.prog X.w H' h') (hg:AllBare g')
  (l7:∀ b∈ch,(b∈X.ex\/X.s₀.heap.objs.size <= b)/\b≠X.env.locals/\(∀ x c,X.env.cells.lookup x=some c->c≠b)/\∀ p∈X.pn ++ pins,p.1≠b) :
  Inv X pins σ H' { s with heap:=h',gens:=g',drawn:=d',toks:=t' }:=by
 obtain⟨m,⟨o,es,ep,ho,r⟩,_⟩:=id I.loc;obtain⟨sl,hL⟩:=u.any ho I.free fun z=>(l7 _ z).2.1 rfl
 exact I.step (ch:=ch) l7 (fun b o hL hb hc e n=>u.keep b o e n (fun z=>(Xq.mp (I.gr b z)).elim hL hb) hc) (fun b o _ _ hc e n=>u.any e n hc) (fun b o hc e n=>u.free b o e n hc) (fun b o hc e=>u.there b o e hc) u.fg u.fM u.fN (fun m' hm=>by
  obtain⟨o',t6,zc,jn,r'⟩:=hm;rw[ho] at jn;cases jn
  exact⟨_,t6,zc,hL,r'⟩) aM hg
theorem Inv.turned {t':Nat} {it:Addr} (I:Inv X pins σ H s) (k:∀ b o,b≠it->s.heap.get? b=some o->h'.get? b=some o) (hn:H it=none) (hL:it≠X.env.locals)
  (h1:it∈X.ex\/X.s₀.heap.objs.size <= it) (h2:∀ x c,X.env.cells.lookup x=some c->c≠it) (h3:∀ p∈X.pn ++ pins,p.1≠it):Inv X pins σ H { s with heap:=h',toks:=t' }:=by
 have Ek:∀ b u,H b=some u->b≠it:=fun b u e z=>by rw[z,hn] at e;cases e
 refine I.step (g':=s.gens) (d':=s.drawn) (ch:=[it]) (fun b hb => ?_) (fun b o _ _ hc e _=>k b o (fun z=>hc (by simp[z])) e) (fun b o _ _ hc e _=>⟨o.slots,k b o (fun z=>hc (by simp[z])) e⟩) (fun _ _ _ _ n=>n)
  (fun b o hc e=>⟨o,k b o (fun z=>hc (by simp[z])) e⟩) (fun _ _ e=>e) (fun _ _ _ e=>e) (fun b ps e=>⟨#[],by rw[e];simp⟩) (fun m hm => ?_) (fun b u e => ?_) I.bare
 ·have e:b=it:=by simpa using hb
  subst e;exact⟨h1,hL,h2,h3⟩
 ·obtain⟨o,es,ep,ho,r⟩:=hm
  exact⟨o,es,ep,k _ o (q0j hL) ho,r⟩
 ·refine (I.aM b u e).ff (fun c v hc q=>k c v ?_ q) (fun _ q=>q) fun _ _ q=>q
  rcases hc with z | z
  ·rw[z];exact Ek b u e
  ·exact Ek c _ z
theorem Inv.tok (I:Inv X pins σ H s) (t:Nat):Inv X pins σ H { s with toks:=t }:=I.un (h':=s.heap) (t':=t) Un.refl I.aM
theorem Inv.kept {t':Nat} (I:Inv X pins σ H s) (k:∀ b u,s.heap.get? b=some u->h'.get? b=some u):Inv X pins σ H { s with heap:=h',toks:=t' }:=I.un (Un.kept k) (I.aM.kept k)
theorem Inv.laid {a:Addr} {o:HO} {t':Nat} (I:Inv X pins σ H s) (k:∀ b u,s.heap.get? b=some u->h'.get? b=some u) (hp:s.heap.objs.size <= a) (new:aO X.prog X.w (upd H a o) h' a o) :
  Inv X pins σ (upd H a o) { s with heap:=h',toks:=t' }:=I.un (Un.laid k hp (I.aM.fresh hp)) (I.aM.laid k hp new)
theorem Inv.write {x e:Addr} {o:HO} {t':Nat} (I:Inv X pins σ H s) (mu:tW (H x)) (he:e=x\/H e=some (.own x)) (k:∀ b u,b≠e->s.heap.get? b=some u->h'.get? b=some u) (l6:∃ u,h'.get? e=some u)
  (new:aO X.prog X.w (upd H x o) h' x o):Inv X pins σ (upd H x o) { s with heap:=h',toks:=t' }:=I.un (Un.write mu he k l6) (I.aM.write mu he k l6 new)
theorem Inv.eY {bu:List (Addr × Obj)} (I:Inv X pins σ H s) (h:∀ p∈bu,s.heap.get? p.1=some p.2/\H p.1=none/\p.1≠X.env.locals/\p.1∉X.fs/\∀ v,p.2.data ≠ .cell v):Inv X bu σ H s :=
 ⟨I.ok,I.os,I.bare,I.base,I.loc,I.cell,I.free,I.cH,fun p hp=>(Ys.mp hp).elim (fun z=>I.pin p (Yz _ z)) (h p),I.aM,I.len⟩
theorem Em {N:List Str} (hN:N.Nodup) {i j:Nat} {x:Str} (a:N[i]? = some x) (b:N[j]? = some x):i=j:=by
 obtain⟨h1,e1⟩:=sA.mp a;obtain⟨h2,e2⟩:=sA.mp b;exact (q0N hN).mp (e1.trans e2.symm)
theorem En {M:Model} {A:Around} {E:Value->Shared->Prop} {i:Nat} {x:Str} {v:V} {u:Value} {Q:Unit->Shared->Prop} (I:Inv X pins σ H s) (hN:X.N.Nodup) (hi:X.N[i]? = some x) (hx:Loc X.env.scope x) (r:RelV v u)
  (h:∀ s',Inv X pins (σ.set i (some v)) H s'->(∃ a,Heap.SameBut a s.heap s'.heap/\(a=X.env.locals\/X.env.cells.lookup x=some a))->Q () s') (hf:X.fn x=true\/X.env.scope.names.lookup x=some .local:=by first | exact .inl rfl | exact .inr rfl | assumption):wpAny M A (storeName X.env x u) Q E s:=by
 obtain⟨m,hn,hl⟩:=id I.loc;have ze:(X.env.scope.kind == .class || (X.env.scope.kind == .module && X.env.locals != X.env.globals))=false:=by rw[I.ok.kind];rfl
 have Eo:i < σ.length:=by rw[I.len];exact (sA.mp hi).1
 have qa:=I.qa
 have tracked:∀ {a:Addr} {h':Heap},(∃ o,s.heap.get? a=some o/\H a=none)->Heap.SameBut a s.heap h'->dG X.prog X.w H h':=fun {a h'} ha hs b ob e=>by
  obtain⟨_,_,o8⟩:=ha;refine (I.aM b ob e).ff (fun c w' hc q=>(hs.2 c ?_).trans q) (fun _ q=>q) fun _ _ q=>q;rintro rfl;rcases hc with rfl | hc
  ·rw[o8] at e;cases e
  ·rw[o8] at hc;cases hc
 rcases hx with hk | hk
 ·refine wpAny_storeName_local hk hn (fun h' l4 hs => ?_) ze
  obtain⟨oL,_,_,qb,_⟩:=id hn;refine h _ ⟨I.ok,I.os,I.bare,⟨fun b o e n hb hx => ?_,fun b o e n hb hx => ?_,I.base.free,fun b o e hx => ?_,I.base.fg,I.base.fM,I.base.fN⟩,⟨_,l4,fun j y v' e1 e2 e3 => ?_⟩,fun y c e => ?_,I.free,I.cH,fun p hp => ?_,tracked ⟨oL,qb,I.free⟩ hs,by simpa using I.len⟩ ⟨_,hs,.inl rfl⟩
  ·exact (hs.2 b (Yb (Yc (NL e) I.ok.above))).trans (I.base.keep b o e n hb hx)
  ·obtain⟨sl,e1⟩:=I.base.slot b o e n hb hx
   exact⟨sl,(hs.2 b (Yb (Yc (NL e) I.ok.above))).trans e1⟩
  ·obtain⟨o',e1⟩:=I.base.there b o e hx
   exact⟨o',(hs.2 b (Yb (Yc (NL e) I.ok.above))).trans e1⟩
  ·by_cases hj:j=i
   ·subst hj
    rw[hi] at e1;cases e1;rw[Yx Eo] at e2;cases e2
    exact⟨u,r,.inl ⟨hk,by simp⟩⟩
   ·rw[YH (q0j hj)] at e2
    obtain⟨u',r',q⟩:=hl j y v' e1 e2 e3;refine⟨u',r',?_⟩;rcases q with⟨k,e⟩ | ⟨k,c,e,z⟩
    ·refine .inl ⟨k,?_⟩
     have:y≠x:=fun e=>hj (Em hN e1 (e ▸ hi));simp[this,e]
    ·exact .inr ⟨k,c,e,z.sameBut hs (qa y c e)⟩
  ·obtain⟨w',z⟩:=I.cell y c e
   exact⟨w',z.sameBut hs (qa y c e)⟩
  ·obtain⟨e,n,ne,nf,d⟩:=I.pin p hp
   exact⟨(hs.2 p.1 ne).trans e,n,ne,nf,d⟩
 ·have mP:X.fn x=true:=by
   rcases hf with z | z
   ·exact z
   ·rw[z] at hk;cases hk
  obtain⟨c,hc⟩:=I.ok.has x (.inl hk);obtain⟨w',z⟩:=I.cell x c hc;refine wpAny_storeName_cell I.ok.kind hk hc z (fun h' gX hs => ?_);obtain⟨oc,l8,zf⟩:=id z;refine h { s with heap:=h' } ⟨I.ok,I.os,I.bare,⟨fun b o e n hb hx => ?_,fun b o e n hb hx => ?_,I.base.free,fun b o e hx => ?_,I.base.fg,I.base.fM,I.base.fN⟩,⟨m,hn.sameBut hs (q0j (qa x c hc)),fun j y v' e1 e2 e3 => ?_⟩,fun y c' e => ?_,I.free,I.cH,fun p hp => ?_,tracked ⟨oc,l8,I.cH x c hc⟩ hs,by simpa using I.len⟩ ⟨c,hs,.inr hc⟩
  ·exact (hs.2 b (Yb (Yc (NL e) (I.ok.tY x c mP hc)))).trans (I.base.keep b o e n hb hx)
  ·obtain⟨sl,e1⟩:=I.base.slot b o e n hb hx
   exact⟨sl,(hs.2 b (Yb (Yc (NL e) (I.ok.tY x c mP hc)))).trans e1⟩
  ·obtain⟨o',e1⟩:=I.base.there b o e hx
   exact⟨o',(hs.2 b (Yb (Yc (NL e) (I.ok.tY x c mP hc)))).trans e1⟩
  ·by_cases hj:j=i
   ·subst hj
    rw[hi] at e1;cases e1;rw[Yx Eo] at e2;cases e2
    exact⟨u,r,.inr ⟨.inl hk,c,hc,gX⟩⟩
   ·rw[YH (q0j hj)] at e2
    obtain⟨u',r',q⟩:=hl j y v' e1 e2 e3;refine⟨u',r',?_⟩;rcases q with q | ⟨k,c',e,z'⟩
    ·exact .inl q
    ·refine .inr ⟨k,c',e,z'.sameBut hs ?_⟩
     rintro rfl;exact hj (Em hN e1 (I.ok.inj _ _ _ e hc ▸ hi))
  ·by_cases hcc:c'=c
   ·subst hcc;exact⟨_,gX⟩
   ·obtain⟨w2,z2⟩:=I.cell y c' e
    exact⟨w2,z2.sameBut hs hcc⟩
  ·obtain⟨e,n,ne,nf,d⟩:=I.pin p hp
   refine⟨(hs.2 p.1 ?_).trans e,n,ne,nf,d⟩;intro q;rw[q,l8] at e;have q':oc=p.2:=Yh e;exact d w' (by rw[<-q'];exact zf)
theorem Ep {M:Model} {A:Around} {E:Value->Shared->Prop} {i:Nat} {x:Str} {v:V} {u:Value} {Q:Unit->Shared->Prop} (I:Inv X pins σ H s) (hN:X.N.Nodup) (hi:X.N[i]? = some x) (hx:Loc X.env.scope x) (r:RelV v u)
  (h:∀ s',Inv X pins (σ.set i (some v)) H s'->Q () s') (hf:X.fn x=true\/X.env.scope.names.lookup x=some .local:=by first | exact .inl rfl | exact .inr rfl | assumption):wpAny M A (storeName X.env x u) Q E s :=
 En I hN hi hx r (fun s' I' _=>h s' I') hf
theorem Inv.t7 {s':Shared} {ch:List Addr} (I:Inv X pins σ H s) (ho:s'.os=s.os) (u:Un (jX X.stack) ch H H' s.heap s'.heap) (aM:dG X.prog X.w H' s'.heap) (hg:AllBare s'.gens)
  (l7:∀ b∈ch,(b∈X.ex\/X.s₀.heap.objs.size <= b)/\b≠X.env.locals/\(∀ x c,X.env.cells.lookup x=some c->c≠b)/\∀ p∈X.pn ++ pins,p.1≠b):Inv X pins σ H' s':=by
 obtain⟨h',g',d',t',o'⟩:=s';have e:o'=s.os:=ho;subst e;exact I.call (g':=g') (t':=t') (d':=d') u aM hg l7
end
noncomputable abbrev XK:=Value->Option Addr->Hp->Prop
noncomputable abbrev St:=List (Option V)
noncomputable abbrev VK:=V->Hp->Prop
noncomputable abbrev TE:=St->Hp->VK->Prop
noncomputable abbrev TT:=St->Hp->(Bool->Hp->Prop)->Prop
noncomputable abbrev TA:=St->Hp->(List V->Hp->Prop)->Prop
structure Ends where
 nx:St->Hp->Prop
 rt:VK
 bk:St->Hp->Prop:=fun _ _=>False
 ct:St->Hp->Prop:=fun _ _=>False
noncomputable abbrev TS:=Ends->St->Hp->Prop
noncomputable def EP (X:Cx) (pins:List (Addr × Obj)) (σ : St) (Q:VK) (u:Value) (s':Shared):Prop:=∃ v H',Inv X pins σ H' s'/\RelV v u/\Q v H'
noncomputable def TP (X:Cx) (pins:List (Addr × Obj)) (σ : St) (Q:Bool->Hp->Prop) (b:Bool) (s':Shared):Prop:=∃ H',Inv X pins σ H' s'/\Q b H'
noncomputable def AP (X:Cx) (pins:List (Addr × Obj)) (σ : St) (Q:List V->Hp->Prop) (us:List Value) (s':Shared):Prop:=∃ vs H',Inv X pins σ H' s'/\Vals vs us/\Q vs H'
noncomputable def SP (X:Cx) (pins:List (Addr × Obj)) (D:Ends) (f:Flow) (s':Shared):Prop :=
 match f with
 | .next=>∃ σ' H',Inv X pins σ' H' s'/\D.nx σ' H'
 | .brk=>∃ σ' H',Inv X pins σ' H' s'/\D.bk σ' H'
 | .cont=>∃ σ' H',Inv X pins σ' H' s'/\D.ct σ' H'
 | .ret u=>∃ v σ' H',Inv X pins σ' H' s'/\RelV v u/\D.rt v H'
noncomputable def PE (X:Cx) (e:Expr) (t:TE):Prop :=
 ∀ (pins:List (Addr × Obj)) (s:Shared) (σ : St) (H:Hp) (Q:VK),Inv X pins σ H s->t σ H Q->wpAny (model X.prog X.w) X.A (eval e X.env) (EP X pins σ Q) X.xe s
noncomputable def PT (X:Cx) (e:Expr) (t:TT):Prop :=
 ∀ (pins:List (Addr × Obj)) (s:Shared) (σ : St) (H:Hp) (Q:Bool->Hp->Prop),Inv X pins σ H s->t σ H Q->wpAny (model X.prog X.w) X.A (isTrue e X.env (eval e X.env)) (TP X pins σ Q) X.xe s
noncomputable def PW (X:Cx) (e:Expr) (t:TT):Prop :=
 ∀ (whole:Sem Value) (pins:List (Addr × Obj)) (s:Shared) (σ : St) (H:Hp) (Q:Bool->Hp->Prop),Inv X pins σ H s->t σ H Q->wpAny (model X.prog X.w) X.A (isTrue e X.env whole) (TP X pins σ Q) X.xe s
theorem PW.pt {X:Cx} {e:Expr} {t:TT} (h:PW X e t):PT X e t:=h _
noncomputable def PA (X:Cx) (es:List Expr) (t:TA):Prop :=
 ∀ (pos:Pos) (pins:List (Addr × Obj)) (s:Shared) (σ : St) (H:Hp) (Q:List V->Hp->Prop),Inv X pins σ H s->t σ H Q->wpAny (model X.prog X.w) X.A (spliced (backTo pos (starEach es X.env))) (AP X pins σ Q) X.xe s
noncomputable def PS (X:Cx) (st:Stmt) (t:TS):Prop :=
 ∀ (pins:List (Addr × Obj)) (s:Shared) (σ : St) (H:Hp) (D:Ends),Inv X pins σ H s->t D σ H->wpAny (model X.prog X.w) X.A (exec st X.env) (SP X pins D) X.xe s
noncomputable def gP (X:Cx) (st:List Stmt) (t:TS):Prop :=
 ∀ (pins:List (Addr × Obj)) (s:Shared) (σ : St) (H:Hp) (D:Ends),Inv X pins σ H s->t D σ H->wpAny (model X.prog X.w) X.A (execs st X.env) (SP X pins D) X.xe s
theorem a0 {α : Type} {t:Sem α} {Q Q' : α -> Shared->Prop} {M:Model} {A:Around} {E:Value->Shared->Prop} {s:Shared} (h:wpAny M A t Q E s) (hQ:∀ a s,Q a s->Q' a s):wpAny M A t Q' E s:=Y3 h hQ fun _ _ x=>x
section
variable {X:Cx}
noncomputable def eK (i:Nat):TE:=fun σ H Q=>∃ v,σ[i]? = some (some v)/\Q v H
noncomputable def tC (v:V):TE:=fun _ H Q=>Q v H
theorem Er {i:Nat} {x:Str} {pos:Pos} (hN:X.N[i]? = some x) (hv:p9 X.env.scope x) (hd:(x == ("__debug__" : Str))=false:=by decide) (fh:(x == ("__classdict__" : Str))=false:=by decide):PE X (.Name x pos) (eK i):=by
 intro pins s σ H Q I h;obtain⟨v,e,h⟩:=h;obtain⟨m,hn,hl⟩:=I.loc;obtain⟨u,r,l⟩:=hl i x v hN e hv;have fin:EP X pins σ Q u s:=⟨v,H,I,r,h⟩;rcases l with⟨hk,hm⟩ | ⟨hk,c,hc,o9⟩
 ·exact wpAny_Name (wpAny_loadName_local I.ok.kind hk hn hm fin) hd
 ·rcases hk with hk | hk
  ·exact wpAny_Name (wpAny_loadName_cell I.ok.kind hk hc o9 fin) hd
  ·exact wpAny_Name (wpAny_loadName_free I.ok.kind hk hc o9 fin fh) hd
theorem L6 {i j pos}:PE X (.Constant (.int i) j pos) (tC (.int i)):=fun _ _ _ H _ I h=>wpAny_Constant_int ⟨.int i,H,I.tok _,⟨_,rfl⟩,h⟩
theorem L7 {b j pos}:PE X (.Constant (.bool b) j pos) (tC (.bl b)):=fun _ _ _ H _ I h=>Constant_bool ⟨.bl b,H,I,rfl,h⟩
theorem L8 {j pos}:PE X (.Constant .none j pos) (tC .non):=fun _ _ _ H _ I h=>Constant_none ⟨.non,H,I,rfl,h⟩
noncomputable def Gl (X:Cx) (x:Str):Prop:=X.env.kindOf x=some .globalImplicit
theorem Es {E:Value->Shared->Prop} {pins:List (Addr × Obj)} {s:Shared} {σ : St} {H:Hp} {x:Str} {u:Value} {pos:Pos} {Q:Value->Shared->Prop} (I:Inv X pins σ H s) (hg:Gl X x) (hm:X.mg x=some u) (h:Q u s)
  (hd:(x == ("__debug__" : Str))=false:=by decide):wpAny (model X.prog X.w) X.A (eval (.Name x pos) X.env) Q E s :=
 Calls.Name_function_global I.ok.kind hg (Calls.loadGlobal_global (by rw[I.ok.glob];exact I.mod.glob.keeps I.bk) hm h) hd
theorem l9 {E:Value->Shared->Prop} {pins:List (Addr × Obj)} {s:Shared} {σ : St} {H:Hp} {x:Str} {u:Value} {pos:Pos} {Q:Value->Shared->Prop} (I:Inv X pins σ H s) (hg:Gl X x) (hm:X.mg x=none) (hv:bootBuiltins x=some u) (h:Q u s)
  (hn:x ≠ "__name__" := by decide) (hd:(x == ("__debug__" : Str))=false:=by decide):wpAny (model X.prog X.w) X.A (eval (.Name x pos) X.env) Q E s:=by
 obtain⟨mb,h1,h2⟩:=I.mod.blt;exact Calls.Name_function_global I.ok.kind hg (Calls.loadGlobal_builtin (by rw[I.ok.glob];exact I.mod.glob.keeps I.bk) hm (by rw[I.ok.blt];exact h1.keeps I.bk) ((h2 x hn).trans hv) h) hd
theorem L9 {x:Str} {v:V} {u:Value} {pos:Pos} (hg:Gl X x) (hm:X.mg x=some u) (r:RelV v u) (hd:(x == ("__debug__" : Str))=false:=by decide):PE X (.Name x pos) (tC v) :=
 fun _ _ _ H _ I h=>Es I hg hm ⟨v,H,I,r,h⟩ hd
theorem L_ {x:Str} {v:V} {u:Value} {pos:Pos} (hg:Gl X x) (hm:X.mg x=none) (hv:bootBuiltins x=some u) (r:RelV v u) (hn:x ≠ "__name__" := by decide) (hd:(x == ("__debug__" : Str))=false:=by decide):PE X (.Name x pos) (tC v) :=
 fun _ _ _ H _ I h=>l9 I hg hm hv ⟨v,H,I,r,h⟩ hn hd
variable {a b:Expr} {ta tb:TE} {pos:Pos}
noncomputable def PC (X:Cx) (op:CmpOp) (a b:Expr) (t:TE):Prop :=
 ∀ (pins:List (Addr × Obj)) (s:Shared) (σ : St) (H:Hp) (Q:VK),Inv X pins σ H s->t σ H Q →
  wpAny (model X.prog X.w) X.A (eval a X.env) (fun v s₁ => wpAny (model X.prog X.w) X.A (eval b X.env) (fun u s₂ => wpAny (model X.prog X.w) X.A (compareOp op v u) (EP X pins σ Q) X.xe s₂) X.xe s₁) X.xe s
noncomputable def tB (t:TE):TT:=fun σ H Q=>t σ H fun x H1=>∃ c,x = .bl c/\Q c H1
theorem Ma {op:CmpOp} {t:TE} (h:PC X op a b t) (h1:behindInMarks op b=false:=by first | exact Mb _ (by decide) (by decide) | rfl):PT X (.Compare a [op] [b] pos) (tB t):=by
 intro pins s σ H Q I hw;refine wpAny_isTrue_Compare1 (a0 (h pins s σ H _ I hw) fun v s1 h1=>a0 h1 fun u s2 h2=>a0 h2 fun c s3 h0_ => el5 h0_ fun x H1 I1 r1 q1 => ?_) h1;obtain⟨d,rfl,q⟩:=q1;cases r1
 exact Zc ⟨H1,I1,q⟩
theorem Mc {e:Expr} {t:TE} (h:PE X e t) (he:∀ whole,isTrue e X.env whole=(do let v <- whole;standAt e.pos;holding [v] (truthy v)):=by intro _;rfl):PT X e (tB t):=by
 intro pins s σ H Q I hw;refine isTrue_plain (a0 (h pins s σ H _ I hw) fun v s1 h0_ => el5 h0_ fun x H1 I1 r1 q1 => ?_) (he _);obtain⟨d,rfl,q⟩:=q1;cases r1
 exact Zc ⟨H1,I1,q⟩
variable {tA l_:TT} {rest:List Expr}
noncomputable def qc (t u:TT):TT:=fun σ H Q=>t σ H fun c H1=>if c=true then u σ H1 Q else Q false H1
noncomputable def zg (t u:TT):TT:=fun σ H Q=>t σ H fun c H1=>if c=true then Q true H1 else u σ H1 Q
noncomputable def t8 (t:TT):TT:=fun σ H Q=>t σ H fun c H1=>Q (!c) H1
theorem Md (ha:PT X a tA):PW X (.BoolOp .And [a] pos) tA:=by
 intro wh pins s σ H Q I h;refine isTrue_and (a0 (ha pins s σ H Q I h) fun c s1 e => ?_)
 cases c with
 | true=>exact isTrue_and_nil e
 | false=>exact e
theorem Me (ha:PT X a tA):PW X (.BoolOp .Or [a] pos) tA:=by
 intro wh pins s σ H Q I h;refine isTrue_or (a0 (ha pins s σ H Q I h) fun c s1 e => ?_)
 cases c with
 | false=>exact isTrue_or_nil e
 | true=>exact e
theorem Mf (ha:PT X a tA) (hb:PW X (.BoolOp .And (b :: rest) pos) l_):PW X (.BoolOp .And (a :: b :: rest) pos) (qc tA l_):=by
 intro wh pins s σ H Q I h;refine isTrue_and (a0 (ha pins s σ H _ I h) fun c s1 h0_ => el3 h0_ fun H1 I1 q1 => ?_)
 cases c with
 | true=>exact hb wh pins s1 σ H1 Q I1 q1
 | false=>exact⟨H1,I1,q1⟩
theorem Mg (ha:PT X a tA) (hb:PW X (.BoolOp .Or (b :: rest) pos) l_):PW X (.BoolOp .Or (a :: b :: rest) pos) (zg tA l_):=by
 intro wh pins s σ H Q I h;refine isTrue_or (a0 (ha pins s σ H _ I h) fun c s1 h0_ => el3 h0_ fun H1 I1 q1 => ?_)
 cases c with
 | true=>exact⟨H1,I1,q1⟩
 | false=>exact hb wh pins s1 σ H1 Q I1 q1
theorem Mh (ha:PT X a tA):PT X (.UnaryOp .Not a pos) (t8 tA):=by
 intro pins s σ H Q I h;exact isTrue_not (ha pins s σ H (fun c H1=>Q (!c) H1) I h)
noncomputable def Et (ta tb:TE):TE:=fun σ H Q=>ta σ H fun x H1=>∃ c,x = .bl c/\if c=true then tb σ H1 Q else Q (.bl false) H1
noncomputable def Eu (ta:TE):TE:=fun σ H Q=>ta σ H fun x H1=>∃ c,x = .bl c/\Q (.bl (!c)) H1
theorem Mi {op} {t:TE} (h:PE X a t):PE X (.BoolOp op [a] pos) t:=fun pins s σ H Q I hw=>BoolOp_one (h pins s σ H Q I hw)
theorem Mj (ha:PE X a ta) (hb:PE X (.BoolOp .And (b :: rest) pos) tb):PE X (.BoolOp .And (a :: b :: rest) pos) (Et ta tb):=by
 intro pins s σ H Q I h;refine BoolOp_and (a0 (ha pins s σ H _ I h) fun v s1 h0_ => el5 h0_ fun x H1 I1 r1 q1 => ?_);obtain⟨c,rfl,q1⟩:=q1;cases r1
 refine Zc ?_
 cases c with
 | true=>exact hb pins s1 σ H1 Q I1 q1
 | false=>exact⟨.bl false,H1,I1,rfl,q1⟩
theorem Ml (ha:PE X a ta):PE X (.UnaryOp .Not a pos) (Eu ta):=by
 intro pins s σ H Q I h;refine UnaryOp_ (a0 (ha pins s σ H _ I h) fun v s1 h0_ => el5 h0_ fun x H1 I1 r1 q1 => ?_);obtain⟨c,rfl,q1⟩:=q1;cases r1
 exact not_of (Zc ⟨.bl (!c),H1,I1,rfl,q1⟩)
noncomputable def Ew (t:TT) (ta tb:TE):TE:=fun σ H Q=>t σ H fun c H1=>if c=true then ta σ H1 Q else tb σ H1 Q
theorem Mm {c:Expr} (hc:PT X c tA) (ha:PE X a ta) (hb:PE X b tb):PE X (.IfExp c a b pos) (Ew tA ta tb):=by
 intro pins s σ H Q I h;refine wpAny_IfExp (a0 (hc pins s σ H _ I h) fun d s1 h0_ => el3 h0_ fun H1 I1 q1 => ?_)
 cases d with
 | true=>exact ha pins s1 σ H1 Q I1 q1
 | false=>exact hb pins s1 σ H1 Q I1 q1
end
noncomputable def bz (K:PySem.W.Frag) (H:Hp) (a:Addr) (xs:List V):Prop :=
 Rd H a (.lst xs) ∨
  ∃ (o:Obj) (aq:Array Value) (n:Nat),K.lookup a=some o/\o.cls = .type "list" /\ o.dict=none/\o.data = .seq aq n/\aq.size <= sizeLine/\Vals xs aq.toList
noncomputable def bF (K:PySem.W.Frag) (H:Hp) (a:Addr) (xs:List V):Prop :=
 Rd H a (.tup xs) ∨
  ∃ (o:Obj) (aq:Array Value) (n:Nat),K.lookup a=some o/\o.cls = .type "tuple" /\ o.data = .seq aq n/\aq.size <= sizeLine/\Vals xs aq.toList
noncomputable def zh:Value->Option V
 | .none=>some .non
 | .bool b=>some (.bl b)
 | .int i _=>some (.int i)
 | .str x _=>some (.str x)
 | .bytes b _=>some (.byt b)
 | .float b _=>some (.flt b)
 | .ref a=>some (.ref a)
 | .type n=>some (.ty n)
 | _=>none
theorem RelV.abs {x:V} {u:Value} (r:RelV x u):zh u=some x:=by
 cases x with
 | non=>cases r;rfl
 | bl _=>cases r;rfl
 | int _=>obtain⟨t,rfl⟩:=r;rfl
 | str _=>obtain⟨t,rfl⟩:=r;rfl
 | byt _=>obtain⟨t,rfl⟩:=r;rfl
 | flt _=>obtain⟨t,rfl⟩:=r;rfl
 | ref _=>cases r;rfl
 | ty _=>cases r;rfl
theorem RelV.inj {x y:V} {u:Value} (r:RelV x u) (q:RelV y u):x=y:=Yh (r.abs.symm.trans q.abs)
theorem Vals.inj:∀ {xs ys:List V} {us:List Value},Vals xs us->Vals ys us->xs=ys
 | _,_,_,.nil,.nil=>rfl
 | _,_,_,.cons r t,.cons r' t'=>by rw[r.inj r',Vals.inj t t']
section
variable {X:Cx} {pins:List (Addr × Obj)} {σ : St} {H:Hp} {s:Shared} {a:Addr} {xs ys:List V}
theorem bz.of {K:PySem.W.Frag} (h:H a=some (.lst xs)):bz K H a xs := .inl (.inl h)
theorem bF.of {K:PySem.W.Frag} (h:H a=some (.tup xs)):bF K H a xs := .inl (.inl h)
theorem Inv.list (I:Inv X pins σ H s) (h:bz X.K H a xs):∃ aq:List Value,Vals xs aq/\PlainL s.heap a aq.toArray/\xs.length <= sizeLine:=by
 rcases h with h | ⟨o,aq,n,hk,hc,hd,hs,hz,r⟩
 ·obtain⟨z,aq,n,r,e⟩:=h.ok I.aM
  exact⟨aq,r,⟨_,n,e,rfl,rfl,rfl⟩,z⟩
 ·refine⟨aq.toList,r,⟨o,n,I.gW a o hk,hc,hd,by simpa using hs⟩,?_⟩
  have e:=r.length;simp only[Fu] at e;omega
theorem Inv.tuple (I:Inv X pins σ H s) (h:bF X.K H a xs):∃ aq:List Value,Vals xs aq/\IsTup s.heap a aq.toArray/\xs.length <= sizeLine:=by
 rcases h with h | ⟨o,aq,n,hk,hc,hs,hz,r⟩
 ·obtain⟨z,aq,r,p⟩:=h.ok I.aM
  exact⟨aq,r,p,z⟩
 ·refine⟨aq.toList,r,⟨o,I.gW a o hk,hc,n,by simpa using hs⟩,?_⟩
  have e:=r.length;simp only[Fu] at e;omega
theorem Inv.fm (I:Inv X pins σ H s) (h:bz X.K H a xs) (h':bz X.K H a ys):xs=ys:=by
 obtain⟨aq,r,⟨o,n,e,_,_,d⟩,_⟩:=I.list h;obtain⟨its',r',⟨o',n',e',_,_,d'⟩,_⟩:=I.list h';rw[e] at e';cases e';rw[d] at d';injection d' with d1 _;have:aq=its':=by simpa using congrArg Array.toList d1
 subst this;exact r.inj r'
theorem Inv.d4 (I:Inv X pins σ H s) (h:bF X.K H a xs) (h':bF X.K H a ys):xs=ys:=by
 obtain⟨aq,r,⟨o,e,_,n,d⟩,_⟩:=I.tuple h;obtain⟨its',r',⟨o',e',_,n',d'⟩,_⟩:=I.tuple h';rw[e] at e';cases e';rw[d] at d';injection d' with d1 _;have:aq=its':=by simpa using congrArg Array.toList d1
 subst this;exact r.inj r'
end
noncomputable abbrev Cx.fP (X:Cx) (E:Value->Shared->Prop):Cx:={ X with xe:=E }
noncomputable abbrev Cx.kE (X:Cx):Cx:=X.fP fun _ _=>False
theorem Cx.Ok.fP {X:Cx} (ok:X.Ok) (E:Value->Shared->Prop):(X.fP E).Ok :=
 ⟨ok.mod,ok.kind,ok.glob,ok.blt,ok.above,ok.inj,ok.has,ok.tY,ok.hd,ok.frames,ok.wF,ok.Ei,ok.bs,ok.o7,ok.kC,ok.mO,ok.eJ,ok.p_⟩
theorem Cx.Ok.cR {X:Cx} {E:Value->Shared->Prop} (ok:(X.fP E).Ok):X.Ok :=
 ⟨ok.mod,ok.kind,ok.glob,ok.blt,ok.above,ok.inj,ok.has,ok.tY,ok.hd,ok.frames,ok.wF,ok.Ei,ok.bs,ok.o7,ok.kC,ok.mO,ok.eJ,ok.p_⟩
section
variable {X:Cx} {pins:List (Addr × Obj)} {σ : St} {H:Hp} {s:Shared} {E:Value->Shared->Prop}
theorem Inv.fP (I:Inv X pins σ H s) (E:Value->Shared->Prop):Inv (X.fP E) pins σ H s:=⟨I.ok.fP E,I.os,I.bare,I.base,I.loc,I.cell,I.free,I.cH,I.pin,I.aM,I.len⟩
theorem Inv.cR (I:Inv (X.fP E) pins σ H s):Inv X pins σ H s:=⟨I.ok.cR,I.os,I.bare,I.base,I.loc,I.cell,I.free,I.cH,I.pin,I.aM,I.len⟩
theorem SP.cR {D:Ends} {f:Flow} {s':Shared} (h:SP (X.fP E) pins D f s'):SP X pins D f s':=by
 cases f with
 | next=>obtain⟨σ',H',I,q⟩:=h;exact⟨σ',H',I.cR,q⟩
 | brk=>obtain⟨σ',H',I,q⟩:=h;exact⟨σ',H',I.cR,q⟩
 | cont=>obtain⟨σ',H',I,q⟩:=h;exact⟨σ',H',I.cR,q⟩
 | ret u=>obtain⟨v,σ',H',I,r,q⟩:=h;exact⟨v,σ',H',I.cR,r,q⟩
theorem gP.kE {st:List Stmt} {t:TS} (h:gP X.kE st t):gP X st t:=fun pins s σ H D I hw =>
 Y3 (h pins s σ H D (I.fP _) hw) (fun _ _ q=>q.cR) fun _ _ z=>False.elim z
end
section
variable {X:Cx} {st:Stmt} {rest:List Stmt} {t u:TS} {e:Expr} {te:TE} {pos:Pos}
noncomputable def r_:TS:=fun D σ H=>D.nx σ H
noncomputable def jo (t u:TS):TS:=fun D σ H=>t { D with nx:=u D } σ H
theorem Mn:gP X [] r_:=fun _ _ σ H _ I h=>q0Y ⟨σ,H,I,h⟩
theorem Mo (h1:PS X st t) (h2:gP X rest u):gP X (st :: rest) (jo t u):=by
 intro pins s σ H D I h;refine wpAny_execs_cons (a0 (h1 pins s σ H { D with nx:=u D } I h) fun f s1 q => ?_)
 cases f with
 | next =>
  obtain⟨σ',H',I',q⟩:=q;exact h2 pins s1 σ' H' D I' q
 | ret v=>exact q
 | brk=>exact q
 | cont=>exact q
theorem Mp (h1:PS X st t):gP X [st] t:=by
 intro pins s σ H D I h;refine wpAny_execs_cons (a0 (h1 pins s σ H D I h) fun f s1 q => ?_)
 cases f with
 | next=>exact q0Y q
 | ret v=>exact q
 | brk=>exact q
 | cont=>exact q
theorem Inv.quiet {pins:List (Addr × Obj)} {σ : St} {H:Hp} {s:Shared} (I:Inv X pins σ H s):interactive X.env=false:=by simp[interactive,I.ok.kind]
noncomputable def wH (te:TE):TS:=fun D σ H=>te σ H fun _ H1=>D.nx σ H1
theorem Mq (he:PE X e te) (hs:swapsWith e none pos.line X.env=pure false:=by rfl):PS X (.Expr e pos) (wH te):=by
 intro pins s σ H D I h;exact wpAny_Expr_any (a0 (he pins s σ H _ I h) fun v s1 h0_ => el5 h0_ fun x H1 I1 r1 q1 =>⟨σ,H1,I1,q1⟩) I.quiet hs
noncomputable def t9 (te:TE):TS:=fun D σ H=>te σ H D.rt
theorem Mr (he:PE X e te):PS X (.Return (some e) pos) (t9 te):=by
 intro pins s σ H D I h;exact wpAny_Return_some (a0 (he pins s σ H _ I h) fun v s1 h0_ => el5 h0_ fun x H1 I1 r1 q1 =>⟨x,σ,H1,I1,r1,q1⟩)
noncomputable def jq (c:TT) (t u:TS):TS:=fun D σ H=>c σ H fun b H1=>if b=true then t D σ H1 else u D σ H1
theorem Ms {c:Expr} {a b:List Stmt} {tc:TT} (hc:PT X c tc) (ha:gP X a t) (hb:gP X b u):PS X (.If c a b pos) (jq tc t u):=by
 intro pins s σ H D I h;refine wpAny_If (a0 (hc pins s σ H _ I h) fun d s1 h0_ => el3 h0_ fun H1 I1 q1 => ?_)
 cases d with
 | true=>exact ha pins s1 σ H1 D I1 q1
 | false=>exact hb pins s1 σ H1 D I1 q1
end
noncomputable abbrev TG:=V->St->Hp->(St->Hp->Prop)->Prop
noncomputable abbrev i7:=List V->St->Hp->(St->Hp->Prop)->Prop
noncomputable def PG (X:Cx) (target:Expr) (t:TG):Prop :=
 ∀ (pins:List (Addr × Obj)) (s:Shared) (σ : St) (H:Hp) (v:V) (u:Value) (Q:St->Hp->Prop),Inv X pins σ H s->RelV v u->t v σ H Q →
  wpAny (model X.prog X.w) X.A (assign target X.env u) (fun _ s'=>∃ σ' H',Inv X pins σ' H' s'/\Q σ' H') X.xe s
noncomputable def t_ (X:Cx) (ts:List Expr) (t:i7):Prop :=
 ∀ (pins:List (Addr × Obj)) (s:Shared) (σ : St) (H:Hp) (vs:List V) (us:List Value) (Q:St->Hp->Prop),Inv X pins σ H s->Vals vs us->t vs σ H Q →
  wpAny (model X.prog X.w) X.A (assignInOrder ((assignEach ts X.env).map (·.2)) us) (fun _ s'=>∃ σ' H',Inv X pins σ' H' s'/\Q σ' H') X.xe s
noncomputable abbrev mQ:=V->V->V->Hp->(Hp->Prop)->Prop
noncomputable def qd (X:Cx) (t:mQ):Prop :=
 ∀ (pins:List (Addr × Obj)) (s:Shared) (σ : St) (H:Hp) (o i v:V) (ov iv u:Value) (Q:Hp->Prop),Inv X pins σ H s->RelV o ov->RelV i iv->RelV v u->t o i v H Q →
  wpAny (model X.prog X.w) X.A (setItem ov iv u) (fun _ s'=>∃ H',Inv X pins σ H' s'/\Q H') X.xe s
section
variable {X:Cx} {pos:Pos}
noncomputable def mR (i:Nat):TG:=fun v σ H Q=>Q (σ.set i (some v)) H
theorem Mt {i:Nat} {x:Str} (hN:X.N.Nodup) (hi:X.N[i]? = some x) (hx:Loc X.env.scope x) (hf:X.fn x=true\/X.env.scope.names.lookup x=some .local:=by first | exact .inl rfl | exact .inr rfl | assumption):PG X (.Name x pos) (mR i):=by
 intro pins s σ H v u Q I r h;exact wpAny_assign_Name (Ep I hN hi hx r (fun s' I'=>⟨_,H,I',h⟩) hf)
noncomputable def ua:i7:=fun vs σ H Q=>vs=[]/\Q σ H
noncomputable def Ex (t:TG) (u:i7):i7:=fun vs σ H Q=>∃ v r,vs=v :: r/\t v σ H fun σ' H'=>u r σ' H' Q
theorem Mu:t_ X [] ua:=by
 intro pins s σ H vs us Q I r h;obtain⟨e,h⟩:=h;subst e;cases r
 exact assignInOrder_nil ⟨σ,H,I,h⟩
theorem Mv {e:Expr} {es:List Expr} {t:TG} {u:i7} (h1:PG X e t) (h2:t_ X es u)
  (hs:(assignEach (e :: es) X.env).map (·.2)=assign e X.env :: (assignEach es X.env).map (·.2):=by rfl):t_ X (e :: es) (Ex t u):=by
 intro pins s σ H vs us Q I r h;obtain⟨v,vr,e1,h⟩:=h;subst e1
 cases r with
 | cons r rr =>
  rw[hs];refine assignInOrder_cons (a0 (h1 pins s σ H _ _ _ I r h) fun _ s1 ⟨σ1,H1,I1,q1⟩ => ?_);exact h2 pins s1 σ1 H1 _ _ Q I1 rr q1
noncomputable def ub (K:PySem.W.Frag) (n:Nat) (t:i7):TG:=fun v σ H Q=>∃ a xs,v = .ref a/\bF K H a xs/\xs.length=n/\t xs σ H Q
theorem Mw {es:List Expr} {k:Nat} {t:i7} {n:Nat} (hc:X.calm=true) (h:t_ X es t)
  (hn:(assignEach es X.env).length=n:=by rfl) (kF:(assignEach es X.env).findIdx? (·.1)=none:=by rfl):PG X (.Tuple es k pos) (ub X.K n t):=by
 intro pins s σ H v u Q I r hw;obtain⟨a,xs,e1,hq,hl,hw⟩:=hw;subst e1;cases r
 obtain⟨aq,rv,ht,hz⟩:=I.tuple hq;refine assign_Tuple_tuple (I.ok.hd hc) ht (by simp[hn,<-hl,rv.length]) kF fun h' hx => ?_;have I1:Inv X pins σ H { s with heap:=h' }:=I.kept (t':=s.toks) fun b o e=>hx b o (Yb (NL e)) e;exact h pins _ σ H xs _ Q I1 (by simpa using rv) hw
noncomputable def qe (to ti:TE) (t:mQ):TG:=fun v σ H Q=>to σ H fun o H1=>ti σ H1 fun i H2=>t o i v H2 fun H3=>Q σ H3
theorem Mx {o i:Expr} {to ti:TE} {t:mQ} (ho:PE X o to) (hi:PE X i ti) (hs:qd X t)
  (ha:∀ v,assign (.Subscript o i pos) X.env v=(do
   let ov <- holding [v] (eval o X.env)
   let iv <- holding [v,ov] (eval i X.env)
   standAt pos
   holding [v,ov,iv] (setItem ov iv v)
   release [v,ov,iv] []):=by intro _;rfl):PG X (.Subscript o i pos) (qe to ti t):=by
 intro pins s σ H v u Q I r h;rw[ha];refine ni (Yp (a0 (ho pins s σ H _ I h) fun ov s1 h0_ => el5 h0_ fun x H1 I1 r1 q1 => ?_));refine ni (Yp (a0 (hi pins s1 σ H1 _ I1 q1) fun iv s2 h0_ => el5 h0_ fun y H2 I2 r2 q2 => ?_));refine ni (q0f (ni (Yp (a0 (hs pins s2 σ H2 x y v ov iv u _ I2 r1 r2 r q2) fun _ s3 h0_ => el3 h0_ fun H3 I3 q3 => ?_))));exact wpAny_release ⟨σ,H3,I3,q3⟩
noncomputable def fQ (te:TE) (g:TG):TS:=fun D σ H=>te σ H fun x H1=>g x σ H1 D.nx
theorem Mz {tg e:Expr} {te:TE} {g:TG} (he:PE X e te) (hg:PG X tg g) (hs:swapsWithSole [tg] e pos.line X.env=pure false:=by rfl) (hw:swappedStores [tg] e X.env=pure none:=by rfl)
  (h1:(assignEach [tg] X.env).map (·.2)=[assign tg X.env]:=by rfl):PS X (.Assign [tg] e pos) (fQ te g):=by
 intro pins s σ H D I h;refine wpAny_Assign_stores (a0 (he pins s σ H _ I h) fun v s1 h0_ => el5 h0_ fun x H1 I1 r1 q1 => ?_) hs hw;rw[h1];exact a0 (hg pins s1 σ H1 x v _ I1 r1 q1) fun _ s2 q=>q
theorem MA {i:Nat} {x:Str} {e:Expr} {te:TE} {pos':Pos} (hN:X.N.Nodup) (hi:X.N[i]? = some x) (hx:Loc X.env.scope x) (he:PE X e te) (hs:swapsWith e (some (.Name x pos')) pos.line X.env=pure false:=by rfl) (hf:X.fn x=true\/X.env.scope.names.lookup x=some .local:=by first | exact .inl rfl | exact .inr rfl | assumption) :
  PS X (.Assign [.Name x pos'] e pos) (fQ te (mR i)):=by
 intro pins s σ H D I h;refine wpAny_Assign_Name (a0 (he pins s σ H _ I h) fun v s1 h0_ => el5 h0_ fun y H1 I1 r1 q1 => ?_) hs;exact Ep I1 hN hi hx r1 (fun s2 I2=>⟨_,H1,I2,q1⟩) hf
noncomputable def Ey (c:TT) (tb:TS):TS:=fun D σ H=>∃ W:Nat->St->Hp->Prop,(∃ m,W m σ H)/\∀ m σ H,W m σ H →
 c σ H fun b H1=>if b=true then ∃ N:St->Hp->Prop,(∀ σ' H',N σ' H'->∃ m',m' < m/\W m' σ' H')/\tb { D with nx:=N,ct:=N,bk:=D.nx } σ H1 else D.nx σ H1
theorem MB {c:Expr} {body:List Stmt} {tc:TT} {tb:TS} (hp:PassesOwn (model X.prog X.w) X.A X.env X.xe) (hc:PT X c tc) (hb:gP X body tb):PS X (.While c body [] pos) (Ey tc tb):=by
 intro pins s σ H D I h;obtain⟨W,⟨m0,w0⟩,turn⟩:=h;refine wpAny_While (codeAny_whileLoop (fun n s'=>∃ σ' H',Inv X pins σ' H' s'/\W n σ' H') ?_ m0 ⟨σ,H,I,w0⟩);rintro n s1 ⟨σ1,H1,I1,w1⟩;refine ZT hp (a0 (hc pins s1 σ1 H1 _ I1 (turn n σ1 H1 w1)) fun b s2 h0_ => el3 h0_ fun H2 I2 q2 => ?_)
 cases b with
 | true =>
  obtain⟨N,hN,q2⟩:=q2;rw[Xs rfl];refine ZT hp (a0 (hb pins s2 σ1 H2 _ I2 q2) fun f s3 q3 => ?_)
  cases f with
  | next =>
   obtain⟨σ3,H3,I3,n3⟩:=q3;obtain⟨m',hm,w3⟩:=hN σ3 H3 n3;exact⟨m',hm,σ3,H3,I3,w3⟩
  | cont =>
   obtain⟨σ3,H3,I3,n3⟩:=q3;obtain⟨m',hm,w3⟩:=hN σ3 H3 n3;exact⟨m',hm,σ3,H3,I3,w3⟩
  | brk=>exact q3
  | ret v=>exact q3
 | false =>
  rw[NM X8];exact q0Y ⟨σ1,H2,I2,q2⟩
end
structure It where
 go:Nat->Hp->Prop
 sd:Nat->Hp->V->Hp->Prop
 stop:Nat->Hp->Prop
noncomputable def a_ (X:Cx) (pins:List (Addr × Obj)) (H:Hp) (b:Addr):Prop :=
 H b=none/\b≠X.env.locals/\b∉X.fs/\(b∈X.ex\/X.s₀.heap.objs.size <= b)/\(∀ x c,X.env.cells.lookup x=some c->c≠b)/\∀ p∈X.pn ++ pins,p.1≠b
theorem Inv.d5 {X:Cx} {pins:List (Addr × Obj)} {σ : St} {H H':Hp} {s:Shared} {b:Addr} (I:Inv X pins σ H s) (hb:s.heap.objs.size <= b) (hn:H' b=none):a_ X pins H' b:=by
 refine⟨hn,ZI (Yc I.lt hb),I.za hb,.inr (Yw I.sz hb),fun x c e z => ?_,fun p hp z => ?_⟩
 ·obtain⟨v,q⟩:=I.cell x c e
  exact absurd (Yc q.lt (by rw[z];exact hb)) (Zf _)
 ·exact absurd (Yc (NL (I.pin p hp).1) (by rw[z];exact hb)) (Zf _)
structure Turn (P:Program) (w:World) (K:PySem.W.Frag) (tg:Expr) (J:It) (fp:List Addr) (it:Addr) (tn:Nat->Heap->Prop):Prop where
 mem:it∈fp
 obj:∀ i h,tn i h->∀ b∈fp,∃ o,h.get? b=some o/\∀ v,o.data ≠ .cell v
 keep:∀ i h h',tn i h->(∀ b∈fp,∀ o,h.get? b=some o->h'.get? b=some o)->tn i h'
 item:∀ (X:Cx),X.prog=P->X.w=w->X.K=K->X.calm=true->∀ (i:Nat) (pins:List (Addr × Obj)) (s:Shared) (σ : St) (H:Hp) (E:Value->Shared->Prop),Inv X pins σ H s->(∀ b∈fp,a_ X pins H b)->tn i s.heap->J.go i H →
  wpAny (model P w) X.A (pyNext (.ref it)) (fun r s1=>∃ u,r=some u ∧
   wpAny (model P w) X.A (letOwnedTupleGo tg (.ref it) u) (fun _ s2=>∃ x H',Inv X pins σ H' s2/\RelV x u/\J.sd i H x H'/\tn (i + 1) s2.heap/\∀ b∈fp,H' b=none) E s1) E s
 done:∀ (X:Cx),X.prog=P->X.w=w->X.K=K->X.calm=true->∀ (i:Nat) (pins:List (Addr × Obj)) (s:Shared) (σ : St) (H:Hp) (E:Value->Shared->Prop),Inv X pins σ H s->(∀ b∈fp,a_ X pins H b)->tn i s.heap->J.stop i H →
  wpAny (model P w) X.A (pyNext (.ref it)) (fun r s1=>r=none/\Inv X pins σ H s1) E s
 self:∀ (A:Around) (i:Nat) (s:Shared) (Q:Value->Shared->Prop) (E:Value->Shared->Prop),tn i s.heap->Q (.ref it) s->wpAny (model P w) A (pyIter (.ref it)) Q E s
noncomputable abbrev TI:=St->Hp->(It->Hp->Prop)->Prop
noncomputable def Ez (X:Cx) (pins:List (Addr × Obj)) (σ : St) (tg:Expr) (R:It->Hp->Prop) (zi:Value) (s2:Shared):Prop :=
 ∃ (it:Addr) (fp:List Addr) (tn:Nat->Heap->Prop) (J:It) (H':Hp),zi = .ref it/\Inv X pins σ H' s2/\Turn X.prog X.w X.K tg J fp it tn/\tn 0 s2.heap/\(∀ b∈fp,a_ X pins H' b)/\R J H'
noncomputable def PI (X:Cx) (tg iter:Expr) (wi:TI):Prop :=
 ∀ (pins:List (Addr × Obj)) (s:Shared) (σ : St) (H:Hp) (R:It->Hp->Prop),Inv X pins σ H s->wi σ H R →
  wpAny (model X.prog X.w) X.A (eval iter X.env) (fun v s1=>wpAny (model X.prog X.w) X.A (pyIter v) (Ez X pins σ tg R) X.xe s1) X.xe s
theorem zj {M:Model} {A:Around} {E:Value->Shared->Prop} {s:Shared} {tg:Expr} {it:Addr} {u:Value} {o:Obj} {n:String} {vs:Array Value} {Q:Unit->Shared->Prop} (ho:s.heap.get? it=some o) (hc:o.cls = .type n) (hd:o.data = .fields vs)
  (hn:["enumerate", "zip", "dict_itemiterator", "dict_reverseitemiterator", "odict_iterator", "itertools.zip_longest", "itertools.pairwise"].contains n=false) (hQ:Q () s):wpAny M A (letOwnedTupleGo tg (.ref it) u) Q E s:=by
 unfold letOwnedTupleGo
 cases tg<;>first
  | exact zR hQ
  | (cases u<;>first
    | exact zR hQ
    | (refine ni (wpAny_load ho ?_)
       rw[hc,hd];show wpAny M A (if (["enumerate", "zip", "dict_itemiterator", "dict_reverseitemiterator", "odict_iterator", "itertools.zip_longest", "itertools.pairwise"].contains n && vs[0]? == some (rawInt _))=true then _ else _) Q E s;rw[NM (by intro h;rw[hn,q12] at h;cases h)]
       exact zR hQ))
noncomputable def EA (K:PySem.W.Frag) (a:Addr):It :=
 ⟨fun i H=>∃ xs x,bz K H a xs/\xs[i]? = some x,fun i H x H'=>H'=H/\∀ xs,bz K H a xs->xs[i]? = some x,fun i H=>∃ xs,bz K H a xs/\xs.length <= i⟩
noncomputable def EB (K:PySem.W.Frag) (a:Addr):It :=
 ⟨fun i H=>∃ xs x,bF K H a xs/\xs[i]? = some x,fun i H x H'=>H'=H/\∀ xs,bF K H a xs->xs[i]? = some x,fun i H=>∃ xs,bF K H a xs/\xs.length <= i⟩
noncomputable def uc (lo:Int) (n:Nat):It:=⟨fun i _=>i < n,fun i H x H'=>H'=H/\x = .int (lo + i),fun i _=>n <= i⟩
theorem MC {P:Program} {w:World} {K:PySem.W.Frag} {tg:Expr} (a it:Addr):Turn P w K tg (EA K a) [it] it (fun i h=>h.IsListIter it a i) where
 mem:=by simp
 obj:=fun i h st b hb=>by
  have e:b=it:=by simpa using hb
  subst e;obtain⟨o,e,c,d⟩:=st;exact⟨o,e,fun v z=>by rw[d] at z;cases z⟩
 keep:=fun i h h' st k=>st.at fun o e=>k it (by simp) o e
 item:=by
  intro X hP hw hK hc i pins s σ H E I hf st hg;subst hP hw hK;obtain⟨xs,x,hq,hx⟩:=hg;obtain⟨aq,rv,p,hz⟩:=I.list hq;obtain⟨u,hu,ru⟩:=rv.get hx;obtain⟨f0,f1,f2,f3,f4,f5⟩:=hf it (by simp);refine wpAny_pyNext_list_item st p.isList (x:=u) (by simpa using hu) fun h' dX sb => ?_;have I1:Inv X pins σ H { s with heap:=h' }:=I.turned (t':=s.toks) (fun b o hb e=>(sb.2 b hb).trans e) f0 f1 f3 f4 f5;obtain⟨o,e,c,d⟩:=id dX;exact⟨u,rfl,zj (s:={ s with heap:=h' }) e c d (by decide) ⟨x,H,I1,ru,⟨rfl,fun ys hy=>by rw[I.fm hy hq];exact hx⟩,dX,fun b hb=>(hf b hb).1⟩⟩
 done:=by
  intro X hP hw hK hc i pins s σ H E I hf st hg;subst hP hw hK;obtain⟨xs,hq,hx⟩:=hg;obtain⟨aq,rv,p,hz⟩:=I.list hq;obtain⟨f0,f1,f2,f3,f4,f5⟩:=hf it (by simp);have hl:=rv.length;exact wpAny_pyNext_list_end (I.ok.hd hc) st p.isList (by simp;omega) fun h' eb=>⟨rfl,I.turned (t':=s.toks) (fun b o hb e=>eb b o hb e) f0 f1 f3 f4 f5⟩
 self:=fun _ _ _ _ _ st h=>wpAny_pyIter_listiter st h
theorem MD {P:Program} {w:World} {K:PySem.W.Frag} {tg:Expr} (a it:Addr):Turn P w K tg (EB K a) [it] it (fun i h=>h.IsTupleIter it a i) where
 mem:=by simp
 obj:=fun i h st b hb=>by
  have e:b=it:=by simpa using hb
  subst e;obtain⟨o,e,c,d⟩:=st;exact⟨o,e,fun v z=>by rw[d] at z;cases z⟩
 keep:=fun i h h' st k=>st.at fun o e=>k it (by simp) o e
 item:=by
  intro X hP hw hK hc i pins s σ H E I hf st hg;subst hP hw hK;obtain⟨xs,x,hq,hx⟩:=hg;obtain⟨aq,rv,p,hz⟩:=I.tuple hq;obtain⟨u,hu,ru⟩:=rv.get hx;obtain⟨f0,f1,f2,f3,f4,f5⟩:=hf it (by simp);refine wpAny_pyNext_tuple_item st (show s.heap.IsTuple a aq.toArray from p) (x:=u) (by simpa using hu) fun h' dX sb => ?_;have I1:Inv X pins σ H { s with heap:=h' }:=I.turned (t':=s.toks) (fun b o hb e=>(sb.2 b hb).trans e) f0 f1 f3 f4 f5;obtain⟨o,e,c,d⟩:=id dX;exact⟨u,rfl,zj (s:={ s with heap:=h' }) e c d (by decide) ⟨x,H,I1,ru,⟨rfl,fun ys hy=>by rw[I.d4 hy hq];exact hx⟩,dX,fun b hb=>(hf b hb).1⟩⟩
 done:=by
  intro X hP hw hK hc i pins s σ H E I hf st hg;subst hP hw hK;obtain⟨xs,hq,hx⟩:=hg;obtain⟨aq,rv,p,hz⟩:=I.tuple hq;obtain⟨f0,f1,f2,f3,f4,f5⟩:=hf it (by simp);have hl:=rv.length;exact wpAny_pyNext_tuple_end (I.ok.hd hc) st (show s.heap.IsTuple a aq.toArray from p) (by simp;omega) fun h' eb=>⟨rfl,I.turned (t':=s.toks) (fun b o hb e=>eb b o hb e) f0 f1 f3 f4 f5⟩
 self:=fun _ _ _ _ _ st h=>wpAny_pyIter_tupleiter st h
theorem ME {P:Program} {w:World} {K:PySem.W.Frag} {tg:Expr} (it:Addr) (lo:Int) (n:Nat):Turn P w K tg (uc lo n) [it] it (fun i h=>IsRangeIter h it (lo + (i:Nat) * 1) ((n:Int) - (i:Nat)) 1) where
 mem:=by simp
 obj:=fun i h st b hb=>by
  have e:b=it:=by simpa using hb
  subst e
  exact⟨_,st,fun v z=>by
   have z':Data.fields _=Data.cell v:=z
   cases z'⟩
 keep:=fun i h h' st k=>k it (by simp) _ st
 item:=by
  intro X hP hw hK hc i pins s σ H E I hf st hg;subst hP hw hK;obtain⟨f0,f1,f2,f3,f4,f5⟩:=hf it (by simp);have W:=Walks.range (prog:=X.prog) (w:=X.w) (I.ok.hd hc) it lo 1 n;refine W.item i s _ _ hg st fun v h' tk hv dX kk => ?_;obtain⟨t,rfl⟩:=hv;have I1:Inv X pins σ H { s with heap:=h',toks:=tk }:=I.turned (fun b o hb e=>kk b o (by simpa using hb) e) f0 f1 f3 f4 f5;refine⟨_,rfl,zj (s:={ s with heap:=h',toks:=tk }) (n := "range_iterator") dX rfl rfl (by decide) ⟨.int (lo + i),H,I1,⟨t,?_⟩,⟨rfl,rfl⟩,dX,fun b hb=>(hf b hb).1⟩⟩;rw[Int.mul_one]
 done:=by
  intro X hP hw hK hc i pins s σ H E I hf st hg;subst hP hw hK;obtain⟨f0,f1,f2,f3,f4,f5⟩:=hf it (by simp);exact wpAny_pyNext_range_end (I.ok.hd hc) st (by have:n <= i:=hg;omega) fun h' eb=>⟨rfl,I.turned (t':=s.toks) (fun b o hb e=>eb b o hb e) f0 f1 f3 f4 f5⟩
 self:=fun _ _ _ _ _ st h=>wpAny_pyIter_rangeiter st h
section
variable {X:Cx} {tg:Expr}
theorem EC {pins:List (Addr × Obj)} {σ : St} {H:Hp} {s:Shared} {R:It->Hp->Prop} {E:Value->Shared->Prop} {lo hi:Int} {t u v:Tok} {tk:Nat} (I:Inv X pins σ H s) (h1 : -(2 ^ 62) <= lo) (h2:lo < 2 ^ 62) (h3 : -(2 ^ 62) <= hi) (h4:hi < 2 ^ 62)
  (q:R (uc lo (hi - lo).toNat) H):wpAny (model X.prog X.w) X.A (pyIter (.ref s.heap.objs.size)) (Ez X pins σ tg R) E { s with heap:=s.heap.push { cls := .type "range",data := .fields #[.int lo t,.int hi u,.int 1 v] },toks:=tk }:=by
 refine wpAny_pyIter_range (IsRange.new ..) (small_one h1 h2 h3 h4) ?_;have I1:Inv X pins σ H { s with heap:=s.heap.push { cls := .type "range",data := .fields #[.int lo t,.int hi u,.int 1 v] },toks:=tk }:=I.kept fun b o e=>qw _ e
 refine⟨(s.heap.push { cls := .type "range",data := .fields #[.int lo t,.int hi u,.int 1 v] }).objs.size,[(s.heap.push { cls := .type "range",data := .fields #[.int lo t,.int hi u,.int 1 v] }).objs.size],_,_,H,rfl,
  I1.kept (t':=tk) fun b o e=>qw _ e,ME _ lo (hi - lo).toNat,?_,fun b hb => ?_,q⟩
 ·have e1:lo + ((0:Nat):Int) * 1=lo:=by simp
  have e2:(((hi - lo).toNat:Nat):Int) - ((0:Nat):Int)=Builtin.Range.rangeSize lo hi 1:=by rw[rangeSize_one];split<;>omega
  show IsRangeIter _ _ (lo + ((0:Nat):Int) * 1) ((((hi - lo).toNat:Nat):Int) - ((0:Nat):Int)) 1;rw[e1,e2];exact Xr _ rfl
 ·have e:b=(s.heap.push { cls := .type "range",data := .fields #[.int lo t,.int hi u,.int 1 v] }).objs.size:=by simpa using hb
  subst e;exact I1.d5 (uu _) (I1.aM.fresh (uu _))
noncomputable def ED (ta:TA):TI:=fun σ H R=>ta σ H fun vs H1=>∃ j:Int,vs=[.int j] /\ -(2 ^ 62) <= j/\j < 2 ^ 62/\R (uc 0 j.toNat) H1
noncomputable def EE (ta:TA):TI:=fun σ H R=>ta σ H fun vs H1=>∃ i j:Int,vs=[.int i,.int j]/\(-(2 ^ 62) <= i/\i < 2 ^ 62 /\ -(2 ^ 62) <= j/\j < 2 ^ 62)/\R (uc i (j - i).toNat) H1
theorem MF {a:Expr} {ta:TA} {p pos:Pos} (hg:Gl X "range") (hm:X.mg "range" = none) (ha:PA X [a] ta) (hs:starEach [a] X.env=[(false,eval a X.env)]:=by rfl):PI X tg (.Call (.Name "range" p) [a] [] pos) (ED ta):=by
 intro pins s σ H R I h;refine Call_ (l9 I hg hm boot_range (YZ (a0 (ha pos pins s σ H _ I h) fun us s1 h0_ => el5 h0_ fun vs H1 I1 r1 q1 => ?_) hs rfl));obtain⟨j,e,q1,q2,q⟩:=q1;subst e
 cases r1 with
 | cons r rr =>
  cases rr
  obtain⟨t,rfl⟩:=r;exact call_range_1 (EC I1 (by omega) (by omega) q1 q2 (by simpa using q))
theorem MG {a b:Expr} {ta:TA} {p pos:Pos} (hg:Gl X "range") (hm:X.mg "range" = none) (ha:PA X [a,b] ta) (hs:starEach [a,b] X.env=[(false,eval a X.env),(false,eval b X.env)]:=by rfl) (dY:starEach [b] X.env=[(false,eval b X.env)]:=by rfl) :
  PI X tg (.Call (.Name "range" p) [a,b] [] pos) (EE ta):=by
 intro pins s σ H R I h;refine Call_ (l9 I hg hm boot_range (YZ (a0 (ha pos pins s σ H _ I h) fun us s1 h0_ => el5 h0_ fun vs H1 I1 r1 q1 => ?_) (by rw[hs,dY]) (by rw[dY];rfl)));obtain⟨i,j,e,⟨q1,q2,q3,q4⟩,q⟩:=q1;subst e
 cases r1 with
 | cons r rr =>
  cases rr with
  | cons r' rr =>
   cases rr
   obtain⟨t,rfl⟩:=r;obtain⟨t',rfl⟩:=r';exact call_range_2 (EC I1 q1 q2 q3 q4 q)
noncomputable def ud (wi:TI) (g:TG) (tb:TS):TS:=fun D σ H=>wi σ H fun J H1=>∃ W:Nat->Nat->St->Hp->Prop,(∃ m,W 0 m σ H1)/\∀ i m σ H,W i m σ H →
 (J.stop i H/\D.nx σ H)\/(J.go i H/\∃ N:St->Hp->Prop,(∀ σ' H',N σ' H'->∃ m',m' < m/\W (i + 1) m' σ' H')/\∀ x H',J.sd i H x H'->g x σ H' fun σ2 H2=>tb { D with nx:=N,ct:=N,bk:=D.nx } σ2 H2)
noncomputable def ue (fp:List Addr) (h:Heap):List (Addr × Obj):=fp.filterMap fun b=>(h.get? b).map fun o=>(b,o)
theorem wI {fp:List Addr} {h:Heap} {b:Addr} {o:Obj} (hb:b∈fp) (e:h.get? b=some o):(b,o)∈ue fp h:=ZM.mpr ⟨b,hb,by rw[e];rfl⟩
theorem MH {fp:List Addr} {h:Heap} {p:Addr × Obj} (hp:p∈ue fp h):p.1∈fp/\h.get? p.1=some p.2:=by
 obtain⟨b,hb,e⟩:=ZM.mp hp
 cases q:h.get? b with
 | none=>rw[q] at e;cases e
 | some o =>
  rw[q] at e;have e':(b,o)=p:=Yh e;subst e';exact⟨hb,q⟩
theorem Inv.pinned {pins:List (Addr × Obj)} {σ : St} {H:Hp} {s:Shared} {fp:List Addr} (I:Inv X pins σ H s) (hf:∀ b∈fp,a_ X pins H b) (ho:∀ b∈fp,∃ o,s.heap.get? b=some o/\∀ v,o.data ≠ .cell v):Inv X (pins ++ ue fp s.heap) σ H s :=
 I.eY fun p hp=>(Ys.mp hp).elim (fun z=>I.pin p (NK _ z)) fun z=>by
  obtain⟨hb,e⟩:=MH z;obtain⟨f0,f1,f2,_⟩:=hf p.1 hb;obtain⟨o,e',d⟩:=ho p.1 hb;rw[e] at e';cases e';exact⟨e,f0,f1,f2,d⟩
theorem Inv.dJ {pins pl:List (Addr × Obj)} {σ : St} {H:Hp} {s:Shared} (I:Inv X (pins ++ pl) σ H s):Inv X pins σ H s:=I.eY fun p hp=>I.pin p (NK _ (Yz _ hp))
theorem MI {iter:Expr} {body:List Stmt} {wi:TI} {g:TG} {tb:TS} {pos:Pos} (hp:PassesOwn (model X.prog X.w) X.A X.env X.xe) (hc:X.calm=true) (hi:PI X tg iter wi) (hg:PG X tg g) (hb:gP X body tb)
  (hs:∀ x,foldedSetIterable iter X.env x=pure x:=by intro _;rfl):PS X (.For tg iter body [] pos) (ud wi g tb):=by
 intro pins s σ H D I h;refine wpAny_For (a0 (hi pins s σ H _ I h) fun v s1 h1=>a0 h1 fun zi s2 h2 => ?_) hs;obtain⟨it,fp,tn,J,H2,e,I2,T,ie,f2,W,⟨m0,w0⟩,turn⟩:=h2;subst e;have iI:∀ {H':Hp},(∀ b∈fp,H' b=none)->∀ b∈fp,a_ X pins H' b:=fun hn b hb=>⟨hn b hb,(f2 b hb).2⟩;refine codeAny_forLoop_any (fun n s'=>∃ i σ' H',Inv X pins σ' H' s'/\tn i s'.heap/\(∀ b∈fp,H' b=none)/\W i n σ' H') ?_ m0 ⟨0,σ,H2,I2,ie,fun b hb=>(f2 b hb).1,w0⟩;rintro n s3 ⟨i,σ3,H3,I3,kG,uf,w3⟩;rcases turn i n σ3 H3 w3 with⟨stop,qn⟩ | ⟨go,N,hN,step⟩
 ·refine ZT hp (a0 (T.done X rfl rfl rfl hc i pins s3 σ3 H3 X.xe I3 (iI uf) kG stop) fun r s4 ⟨hr,I4⟩ => ?_)
  subst hr;exact q0Y ⟨σ3,H3,I4,qn⟩
 ·refine ZT hp (a0 (T.item X rfl rfl rfl hc i pins s3 σ3 H3 X.xe I3 (iI uf) kG go) fun r s4 ⟨u,hr,h4⟩ => ?_)
  subst hr;refine ZT hp (a0 h4 fun _ s5 ⟨x,H5,I5,r5,y5,qf,zk⟩ => ?_);have zo:=I5.pinned (iI zk) (T.obj _ _ qf);refine ZT hp (a0 (hg _ s5 σ3 H5 x u _ zo r5 (step x H5 y5)) fun _ s6 ⟨σ6,H6,I6,q6⟩ => ?_);refine ZT hp (a0 (hb _ s6 σ6 H6 _ I6 q6) fun f s7 q7 => ?_)
  have again:∀ {σ7:St} {H7:Hp},Inv X (pins ++ ue fp s5.heap) σ7 H7 s7->N σ7 H7->∃ m,m < n/\∃ i σ' H',Inv X pins σ' H' s7/\tn i s7.heap/\(∀ b∈fp,H' b=none)/\W i m σ' H':=fun {σ7 H7} I7 n7=>by
   obtain⟨m',hm,w7⟩:=hN σ7 H7 n7;refine⟨m',hm,i + 1,σ7,H7,I7.dJ,T.keep _ _ _ qf fun b hb o e=>(I7.pin (b,o) (NK _ (NK _ (wI hb e)))).1,fun b hb => ?_,w7⟩;obtain⟨o,e,d⟩:=T.obj _ _ qf b hb;exact (I7.pin (b,o) (NK _ (NK _ (wI hb e)))).2.1
  cases f with
  | next=>obtain⟨σ7,H7,I7,n7⟩:=q7;exact again I7 n7
  | cont=>obtain⟨σ7,H7,I7,n7⟩:=q7;exact again I7 n7
  | brk=>obtain⟨σ7,H7,I7,q7⟩:=q7;exact⟨σ7,H7,I7.dJ,q7⟩
  | ret v=>obtain⟨x7,σ7,H7,I7,r7,q7⟩:=q7;exact⟨x7,σ7,H7,I7.dJ,r7,q7⟩
end
noncomputable abbrev R2:=V->V->Hp->VK->Prop
noncomputable def cP (X:Cx) (f:Value->Value->Sem Value) (r:R2):Prop :=
 ∀ (pins:List (Addr × Obj)) (s:Shared) (σ : St) (H:Hp) (x y:V) (v u:Value) (Q:VK),Inv X pins σ H s->RelV x v->RelV y u->r x y H Q →
  wpAny (model X.prog X.w) X.A (f v u) (EP X pins σ Q) X.xe s
noncomputable def gu (X:Cx) (f:Value) (r:List V->Hp->VK->Prop):Prop :=
 ∀ (pins:List (Addr × Obj)) (s:Shared) (σ : St) (H:Hp) (xs:List V) (us:List Value) (Q:VK),Inv X pins σ H s->Vals xs us->r xs H Q →
  wpAny (model X.prog X.w) X.A (call f us) (EP X pins σ Q) X.xe s
noncomputable def kH (r:R2) (ta tb:TE):TE:=fun σ H Q=>ta σ H fun x H1=>tb σ H1 fun y H2=>r x y H2 Q
noncomputable def rI (C:Int->Int->Prop) (g:Int->Int->V):R2:=fun x y H Q=>∃ i j,x = .int i/\y = .int j/\C i j/\Q (g i j) H
noncomputable def mS (g:Int->Int->V):R2:=fun x y H Q=>∃ i j,x = .int i/\y = .int j/\Q (g i j) H
section
variable {X:Cx} {a b c:Expr} {ta tb tc:TE} {pos:Pos}
theorem qg (ha:PE X a ta) (hb:PE X b tb) {pins:List (Addr × Obj)} {s:Shared} {σ : St} {H:Hp} {R:V->V->Hp->Prop} (I:Inv X pins σ H s)
  (h:ta σ H fun x H1=>tb σ H1 fun y H2=>R x y H2) {Q:Value->Shared->Prop} {f:Value->Value->Sem Value}
  (hf:∀ v u s2 x y H2,Inv X pins σ H2 s2->RelV x v->RelV y u->R x y H2->wpAny (model X.prog X.w) X.A (f v u) Q X.xe s2) :
  wpAny (model X.prog X.w) X.A (eval a X.env) (fun v s₁ => wpAny (model X.prog X.w) X.A (eval b X.env) (fun u s₂ => wpAny (model X.prog X.w) X.A (f v u) Q X.xe s₂) X.xe s₁) X.xe s:=by
 refine a0 (ha pins s σ H _ I h) fun v s1 h0_ => el5 h0_ fun x H1 I1 r1 q1 => ?_;refine a0 (hb pins s1 σ H1 _ I1 q1) fun u s2 h0_ => el5 h0_ fun y H2 I2 r2 q2 => ?_;exact hf v u s2 x y H2 I2 r1 r2 q2
theorem MJ {op:Operator} {r:R2} (ho:cP X (binaryOp op) r) (ha:PE X a ta) (hb:PE X b tb):PE X (.BinOp a op b pos) (kH r ta tb):=by
 intro pins s σ H Q I h;exact wpAny_BinOp (qg ha hb I h fun v u s2 x y H2 I2 rx ry q=>ho pins s2 σ H2 x y v u Q I2 rx ry q)
theorem wJ {f:Value->Value->Sem Value} {C:Int->Int->Prop} {g:Int->Int->Int}
  (rule:∀ (i j:Int) (t u:Tok) (s:Shared) (Q:Value->Shared->Prop) (E:Value->Shared->Prop),C i j->Q (.int (g i j) s.toks) { s with toks:=s.toks + 1 }->wpAny (model X.prog X.w) X.A (f (.int i t) (.int j u)) Q E s) :
  cP X f (rI C fun i j => .int (g i j)):=by
 intro pins s σ H x y v u Q I rx ry h;obtain⟨i,j,rfl,rfl,hc,q⟩:=h;obtain⟨t,rfl⟩:=rx;obtain⟨t',rfl⟩:=ry;exact rule i j t t' s _ _ hc ⟨.int (g i j),H,I.tok _,⟨_,rfl⟩,q⟩
theorem ug {f:Value->Value->Sem Value} {g:Int->Int->Int}
  (rule:∀ (i j:Int) (t u:Tok) (s:Shared) (Q:Value->Shared->Prop) (E:Value->Shared->Prop),Q (.int (g i j) s.toks) { s with toks:=s.toks + 1 }->wpAny (model X.prog X.w) X.A (f (.int i t) (.int j u)) Q E s) :
  cP X f (mS fun i j => .int (g i j)):=by
 intro pins s σ H x y v u Q I rx ry h;obtain⟨i,j,rfl,rfl,q⟩:=h;obtain⟨t,rfl⟩:=rx;obtain⟨t',rfl⟩:=ry;exact rule i j t t' s _ _ ⟨.int (g i j),H,I.tok _,⟨_,rfl⟩,q⟩
theorem mT {f:Value->Value->Sem Value} {g:Int->Int->Bool}
  (rule:∀ (i j:Int) (t u:Tok) (s:Shared) (Q:Value->Shared->Prop) (E:Value->Shared->Prop),Q (.bool (g i j)) s->wpAny (model X.prog X.w) X.A (f (.int i t) (.int j u)) Q E s) :
  cP X f (mS fun i j => .bl (g i j)):=by
 intro pins s σ H x y v u Q I rx ry h;obtain⟨i,j,rfl,rfl,q⟩:=h;obtain⟨t,rfl⟩:=rx;obtain⟨t',rfl⟩:=ry;exact rule i j t t' s _ _ ⟨.bl (g i j),H,I,rfl,q⟩
noncomputable def uh (i j:Int):Prop:=j≠0/\j.natAbs < 1073741824
noncomputable def gv (i j:Int):Prop:=0 <= j/\j <= 1000000/\i.natAbs < 2 ^ 64
noncomputable def kI (i j:Int):Prop:=(-(2 ^ 64) < i/\i < 2 ^ 64)\/(-(2 ^ 64) < j/\j < 2 ^ 64)
theorem kI.ok {i j:Int} (h:kI i j):IntMulOk i j:=by
 rcases h with⟨h1,h2⟩ | ⟨h1,h2⟩
 ·exact .of_left (intBits_le_64 h1 h2)
 ·exact .of_right (intBits_le_64 h1 h2)
theorem EF:cP X (binaryOp .Add) (mS fun i j => .int (i + j)):=ug fun _ _ _ _ _ _ _ q=>add_int q
theorem MK:cP X (binaryOp .Sub) (mS fun i j => .int (i - j)):=ug fun _ _ _ _ _ _ _ q=>sub_int q
theorem ML:cP X (binaryOp .Mult) (rI kI fun i j => .int (i * j)):=wJ fun _ _ _ _ _ _ _ hc q=>mul_int q hc.ok
theorem MM:cP X (binaryOp .FloorDiv) (rI uh fun i j => .int (i.fdiv j)):=wJ fun _ _ _ _ _ _ _ hc q=>floordiv_int hc.1 q (.inl (PyProof.noPylong_small hc.2))
theorem zp:cP X (binaryOp .Mod) (rI (fun _ j=>0 < j) fun i j => .int (i % j)):=wJ fun i j _ _ _ _ _ hc q=>by
 have h1:(0:Int) < j:=hc;exact mod_int' (by omega) (by rw[Int.fmod_eq_emod_of_nonneg i (by omega)];exact q)
theorem MN:cP X (binaryOp .Pow) (rI gv fun i j => .int (i ^ j.toNat)):=wJ fun _ _ _ _ _ _ _ hc q=>pow_int_small hc.1 hc.2.1 hc.2.2 q
theorem EG {pins:List (Addr × Obj)} {σ : St} {H:Hp} {s:Shared} {Q:VK} {k k':Bool} (I:Inv X pins σ H s) (q:Q (.bl k) H) (e:k=k'):EP X pins σ Q (.bool k') s:=by
 subst e;exact⟨.bl k,H,I,rfl,q⟩
theorem MO:cP X (compareOp .Lt) (mS fun i j => .bl (decide (i < j))):=mT fun _ _ _ _ _ _ _ q=>lt_int q
theorem MP:cP X (compareOp .LtE) (mS fun i j => .bl (decide (i <= j))):=mT fun _ _ _ _ _ _ _ q=>le_int q
theorem MQ:cP X (compareOp .Gt) (mS fun i j => .bl (decide (j < i))):=mT fun _ _ _ _ _ _ _ q=>gt_int q
theorem MR:cP X (compareOp .GtE) (mS fun i j => .bl (decide (j <= i))):=mT fun _ _ _ _ _ _ _ q=>ge_int q
theorem MS:cP X (compareOp .Is) (fun x y H Q=>y = .non/\Q (.bl (decide (x = .non))) H):=by
 intro pins s σ H x y v u Q I rx ry h;obtain⟨rfl,q⟩:=h;cases ry
 refine is_none_gen (EG I q ?_)
 cases x<;>first
  | (cases rx;rfl)
  | (obtain⟨t,rfl⟩:=rx;rfl)
theorem MT:cP X (compareOp .IsNot) (fun x y H Q=>y = .non/\Q (.bl (!decide (x = .non))) H):=by
 intro pins s σ H x y v u Q I rx ry h;obtain⟨rfl,q⟩:=h;cases ry
 refine isnot_none_gen (EG I q ?_)
 cases x<;>first
  | (cases rx;rfl)
  | (obtain⟨t,rfl⟩:=rx;rfl)
theorem zq (b:Expr) {op:CmpOp} (h:op ≠ .In:=by decide) (h2:op ≠ .NotIn:=by decide):behindInMarks op b=false:=by
 have e1:(op == CmpOp.In)=false:=by cases op<;>first | rfl | exact absurd rfl h
 have e2:(op == CmpOp.NotIn)=false:=by cases op<;>first | rfl | exact absurd rfl h2
 cases b<;>simp[behindInMarks,e1,e2]
theorem MU {op:CmpOp} {r:R2} (ho:cP X (compareOp op) r) (ha:PE X a ta) (hb:PE X b tb) (hm:behindInMarks op b=false):PE X (.Compare a [op] [b] pos) (kH r ta tb):=by
 intro pins s σ H Q I h;exact wpAny_Compare1 (qg ha hb I h fun v u s2 x y H2 I2 rx ry q=>ho pins s2 σ H2 x y v u Q I2 rx ry q) hm
noncomputable def EH (t:TE):TT:=fun σ H Q=>t σ H fun x H'=>∃ k,x = .bl k/\Q k H'
theorem MV {op:CmpOp} {r:R2} (ho:cP X (compareOp op) r) (ha:PE X a ta) (hb:PE X b tb) (hm:behindInMarks op b=false):PT X (.Compare a [op] [b] pos) (EH (kH r ta tb)):=by
 intro pins s σ H Q I h
 refine wpAny_isTrue_Compare1 (a0 (ha pins s σ H _ I h) fun v s1 h0_ => el5 h0_ fun x H1 I1 r1 q1 =>a0 (hb pins s1 σ H1 _ I1 q1) fun u s2 h0_ => el5 h0_ fun y H2 I2 r2 q2 =>
  a0 (ho pins s2 σ H2 x y v u _ I2 r1 r2 q2) fun c s3 ⟨z,H3,I3,r3,k,e,q3⟩ => ?_) hm
 subst e;cases r3
 exact Zc ⟨H3,I3,q3⟩
noncomputable def EI (r r':R2) (ta tb tc:TE):TE:=fun σ H Q=>ta σ H fun x H1=>tb σ H1 fun y H2=>r x y H2 fun z H3=>∃ k,z = .bl k ∧
 (if k=true then tc σ H3 fun w' H4=>r' y w' H4 Q else Q (.bl false) H3)
theorem MW {op kJ:CmpOp} {r r':R2} (ho:cP X (compareOp op) r) (jn:cP X (compareOp kJ) r') (ha:PE X a ta) (hb:PE X b tb) (hc:PE X c tc)
  (hm:lastMarks [op,kJ] [b,c]=false:=by with_unfolding_all rfl):PE X (.Compare a [op,kJ] [b,c] pos) (EI r r' ta tb tc):=by
 intro pins s σ H Q I h
 refine Compare_chain (a0 (ha pins s σ H _ I h) fun v s1 h0_ => el5 h0_ fun x H1 I1 r1 q1 =>chain_link (a0 (hb pins s1 σ H1 _ I1 q1) fun u s2 h0_ => el5 h0_ fun y H2 I2 r2 q2 =>
  a0 (ho pins s2 σ H2 x y v u _ I2 r1 r2 q2) fun d s3 ⟨z,H3,I3,r3,k,e,q3⟩ => ?_)) hm
 subst e;cases r3
 refine Zc ?_
 cases k with
 | false=>exact ite_ff ⟨.bl false,H3,I3,rfl,q3⟩
 | true=>exact ite_tt (chain_last (a0 (hc pins s3 σ H3 _ I3 q3) fun w' s4 ⟨z',H4,I4,r4,q4⟩=>jn pins s4 σ H4 y z' u w' Q I4 r2 r4 q4))
theorem sg:(sizeLine:Nat) < 2 ^ 63:=by rw[YR];decide
theorem MX:cP X (binaryOp .Add) (fun x y H Q=>∃ i j,x = .str i/\y = .str j/\i.length + j.length <= sizeLine/\Q (.str (i ++ j)) H):=by
 intro pins s σ H x y v u Q I rx ry h;obtain⟨i,j,rfl,rfl,hz,q⟩:=h;obtain⟨t,rfl⟩:=rx;obtain⟨t',rfl⟩:=ry;exact add_str (fun t' tk=>⟨.str (i ++ j),H,I.tok _,⟨_,rfl⟩,q⟩) hz
theorem vals1 {x:V} {us:List Value} (r:Vals [x] us):∃ u,us=[u]/\RelV x u:=by
 cases r with
 | cons r1 r2=>cases r2;exact⟨_,rfl,r1⟩
theorem vals2 {x y:V} {us:List Value} (r:Vals [x,y] us):∃ u w',us=[u,w']/\RelV x u/\RelV y w':=by
 cases r with
 | cons r1 r2 =>
  cases r2 with
  | cons r3 r4=>cases r4;exact⟨_,_,rfl,r1,r3⟩
theorem MY (hc:X.calm=true):gu X (.builtin "max") (fun xs H Q=>∃ i j,xs=[.int i,.int j]/\Q (.int (if j > i then j else i)) H):=by
 intro pins s σ H xs us Q I r h;obtain⟨i,j,rfl,q⟩:=h;obtain⟨u,w',rfl,⟨t,rfl⟩,⟨t',rfl⟩⟩:=vals2 r;refine max_two_ints (I.ok.hd hc) fun h' tk k=>⟨_,H,I.kept k,?_,q⟩
 by_cases hj:j > i
 ·rw[Xs hj,Xs hj];exact⟨_,rfl⟩
 ·rw[NM hj,NM hj];exact⟨_,rfl⟩
theorem MZ (hc:X.calm=true):gu X (.builtin "min") (fun xs H Q=>∃ i j,xs=[.int i,.int j]/\Q (.int (if j < i then j else i)) H):=by
 intro pins s σ H xs us Q I r h;obtain⟨i,j,rfl,q⟩:=h;obtain⟨u,w',rfl,⟨t,rfl⟩,⟨t',rfl⟩⟩:=vals2 r;refine min_two_ints (I.ok.hd hc) fun h' tk k=>⟨_,H,I.kept k,?_,q⟩
 by_cases hj:j < i
 ·rw[Xs hj,Xs hj];exact⟨_,rfl⟩
 ·rw[NM hj,NM hj];exact⟨_,rfl⟩
end
structure qh (h:Heap) (x dx C:Addr) (mA:Str->Option Value):Prop where
 obj:h.get? x=some (PySem.W.instObj C dx)
 ns:h.Ns1 dx mA
 ne:dx≠x
theorem M0 {h:Heap} {dx:Addr} {mA:Str->Option Value} (n:h.Ns1 dx mA):∃ od,h.get? dx=some od/\∀ name,PySem.W.lookIn name od=some (mA name):=by
 obtain⟨o,es,ep,ho,hd,hk,_,hm⟩:=n;refine⟨o,ho,fun name => ?_⟩;have e:=hm name;unfold nsFind findBy at e;rw[<-Array.find?_toList] at e;unfold PySem.W.lookIn;rw[hd];dsimp only;split
 ·rename_i y q
  rw[q] at e;exact congrArg some e
 ·rename_i q
  rw[q] at e
  have a:es.toList.any (·.refKey)=false:=by
   rw[Zm];intro y hy;obtain⟨z,t,zr⟩:=hk y (q0T.mp hy);simp[DictEntry.refKey,zr]
  have a':¬ es.toList.any (·.refKey)=true:=by rw[a];exact X8
  rw[NM a'];exact congrArg some e
theorem qh.look {h:Heap} {x dx C:Addr} {mA:Str->Option Value} (I:qh h x dx C mA):∃ od,PySem.W.InstAt h x (PySem.W.instObj C dx) C (some od)/\∀ name,PySem.W.lookIn name od=some (mA name) :=
 let ⟨od,ho,hl⟩:=M0 I.ns
 ⟨od,⟨I.obj,rfl,rfl,ho⟩,hl⟩
section
variable {prog:Program} {w:World} {A:Around} {E:Value->Shared->Prop} {s:Shared} {K:PySem.W.Frag} {x dx C f:Addr} {mA:Str->Option Value} {name:Str} {v:Value}
end
theorem dZ.some_of {v:V} {o:Option Value} (r:dZ (some v) o):∃ u,o=some u/\RelV v u:=by
 cases o with
 | none=>exact (show False from r).elim
 | some u=>exact⟨u,rfl,r⟩
section
variable {P:Program} {w:World} {H H':Hp} {h h':Heap} {a C dx:Addr} {fs LZ:List (Str × V)}
theorem M1 (aM:dG P w H h) (e:H a=some (.ins C dx fs)):∃ mA,qh h a dx C mA/\(∀ f,dZ (fs.lookup f) (mA f))/\PySem.Within mA (fs.map (·.1))/\fs.length <= 1000/\H dx=some (.own a):=by
 obtain⟨d,z,ne,ob,mA,n,r,q⟩:=(show aO P w H h a (.ins C dx fs) from aM a _ e);exact⟨mA,⟨ob,n,ne⟩,r,q,z,d⟩
end
structure zt (K:PySem.W.Frag) (C:Addr):Prop where
 pg:PySem.W.plainGet K C Str.empty=true
 hd:PySem.W.hasDictIn K C=true
 po:PySem.W.plainOver K C=true
 sa:PySem.W.findIn K (.ref C) "__setattr__" = some (some (.builtin "object.__setattr__"))
theorem zt.get {K:PySem.W.Frag} {C:Addr} (c:zt K C) (f:Str):PySem.W.plainGet K C f=true:=c.pg
section
variable {X:Cx} {pins:List (Addr × Obj)} {σ : St} {H:Hp} {s:Shared} {a C dx:Addr} {fs:List (Str × V)} {f:Str} {v:V} {A:Around} {E:Value->Shared->Prop}
end
section
variable {X:Cx} {o e value:Expr} {f:Str} {pos pos' zu:Pos} {ta tv:TE}
end
section
variable {X:Cx} {pins:List (Addr × Obj)} {σ : St} {H:Hp} {s:Shared} {A:Around} {E:Value->Shared->Prop} {Q:Value->Shared->Prop} {c:Value} {b:Bool}
inductive dM (K:PySem.W.Frag) (H:Hp):V->Value->Prop where
 | non:dM K H .non (.type "NoneType")
 | bl (x:Bool):dM K H (.bl x) (.type "bool")
 | int (i:Int):dM K H (.int i) (.type "int")
 | str (x:Str):dM K H (.str x) (.type "str")
 | flt (x:UInt64):dM K H (.flt x) (.type "float")
 | lst {a:Addr} {xs:List V} (e:H a=some (.lst xs)):dM K H (.ref a) (.type "list")
 | frz {a:Addr} {o:Obj} {xs:List V} (e:H a=some (.frz o (.lst xs))):dM K H (.ref a) (.type "list")
 | tup {a:Addr} {xs:List V} (e:H a=some (.tup xs)):dM K H (.ref a) (.type "tuple")
 | dK {a:Addr} {af:List (Key × V)} (e:H a=some (.dK af)):dM K H (.ref a) (.type "dict")
 | dT {a:Addr} {af:List (List Key × V)} (e:H a=some (.dT af)):dM K H (.ref a) (.type "dict")
 | ins {a C dx:Addr} {fs:List (Str × V)} (e:H a=some (.ins C dx fs)) (cl:zt K C) (ha:PySem.W.findIn K (.ref C) "__class__" = some (some (.builtin "object.__class__")))
   (hn:PySem.W.specialIn K (.builtin "object.__class__") "__get__" = some (some (.builtin "getset_descriptor.__get__"))) (EJ:PySem.W.takesIn K (.builtin "object.__class__")=some true)
   (hm:PySem.W.mroIn K C (.type "object")=some true):dM K H (.ref a) (.ref C)
theorem M3 {x:V} {u t:Value} (I:Inv X pins σ H s) (rx:RelV x u) (ty:dM X.K H x t) (e:PySem.W.kitOne X.K t c=some b) (h:∀ tk,Q (.bool b) { s with toks:=tk }) :
  wpAny (model X.prog X.w) A (call (.builtin "isinstance") [u,c]) Q E s:=by
 cases ty with
 | non=>cases (show u=Value.none from rx);exact Y7 PySem.W.kitx_none I.gW True.intro e (fun z=>nomatch z) h
 | bl y=>cases (show u=Value.bool y from rx);exact Y7 PySem.W.kitx_bool I.gW True.intro e (fun z=>nomatch z) h
 | int i=>obtain⟨t,q⟩:=(show ∃ t,u=Value.int i t from rx);cases q;exact Y7 PySem.W.kitx_int I.gW True.intro e (fun z=>nomatch z) h
 | str y=>obtain⟨t,q⟩:=(show ∃ t,u=Value.str y t from rx);cases q;exact Y7 PySem.W.kitx_str I.gW True.intro e (fun z=>nomatch z) h
 | flt y=>obtain⟨t,q⟩:=(show ∃ t,u=Value.float y t from rx);cases q;exact Y7 PySem.W.kitx_float I.gW True.intro e (fun z=>nomatch z) h
 | @lst a xs ea =>
  cases (show u=Value.ref a from rx)
  obtain⟨_,_,n,_,h1⟩:=(show aO X.prog X.w H s.heap a (.lst xs) from I.aM a _ ea);exact Y7 PySem.W.kitx_list I.gW ⟨_,h1,rfl⟩ e (fun z=>nomatch z) h
 | @frz a ob xs ea =>
  cases (show u=Value.ref a from rx)
  obtain⟨_,_,_,n,_,h1⟩:=(show aO X.prog X.w H s.heap a (.frz ob (.lst xs)) from I.aM a _ ea);exact Y7 PySem.W.kitx_list I.gW ⟨_,h1,rfl⟩ e (fun z=>nomatch z) h
 | @tup a xs ea =>
  cases (show u=Value.ref a from rx)
  obtain⟨_,_,_,p⟩:=(show aO X.prog X.w H s.heap a (.tup xs) from I.aM a _ ea);obtain⟨o,h1,h2,_⟩:=p;exact Y7 PySem.W.kitx_tuple I.gW ⟨o,h1,h2⟩ e (fun z=>nomatch z) h
 | @dK a af ea =>
  cases (show u=Value.ref a from rx)
  obtain⟨_,_,vs,_,p⟩:=(show aO X.prog X.w H s.heap a (.dK af) from I.aM a _ ea);obtain⟨o,es,ep,h1,h2,_⟩:=p;exact Y7 PySem.W.kitx_dict I.gW ⟨o,h1,h2.1⟩ e (fun z=>nomatch z) h
 | @dT a af ea =>
  cases (show u=Value.ref a from rx)
  obtain⟨_,_,xs,_,o,es,ep,h1,h2,_⟩:=(show aO X.prog X.w H s.heap a (.dT af) from I.aM a _ ea);exact Y7 PySem.W.kitx_dict I.gW ⟨o,h1,h2.1⟩ e (fun z=>nomatch z) h
 | @ins a C dx fs ea cl ha hn EJ hm =>
  cases (show u=Value.ref a from rx)
  obtain⟨mA,O,_⟩:=M1 I.aM ea;obtain⟨od,J,_⟩:=O.look;exact Y7 (PySem.W.kitx_own (cl.get _) cl.hd ha hn EJ hm) I.gW J e (fun z=>nomatch z) h
end
structure bh (k:Nat) (A:Around):Prop where
 hd:A.handled=none
 dp:A.depth + 3 * k + 5 < recursionLimit
 un:A.units + 16 * k + 200 < cLine
theorem bh.mono {j k:Nat} {A:Around} (r:bh k A) (h:j <= k):bh j A:=⟨r.hd,by have:=r.dp;omega,by have:=r.un;omega⟩
theorem bh.deeper {k:Nat} {A:Around} (r:bh (k + 1) A) (env:Env):bh k (A.deeper env) :=
 ⟨r.hd,by have:=r.dp;show A.depth + 1 + 3 * k + 5 < _;omega,by have:=r.un;show A.units + 3 + 16 * k + 200 < _;omega⟩
theorem bh.in1 {k:Nat} {A:Around} (r:bh (k + 1) A):bh k A.in1 :=
 ⟨r.hd,by have:=r.dp;show A.depth + 3 * k + 5 < _;omega,by have:=r.un;show A.units + 1 + 16 * k + 200 < _;omega⟩
theorem bh.depth {k:Nat} {A:Around} (r:bh k A):A.depth < recursionLimit:=by have:=r.dp;omega
theorem bh.units {k:Nat} {A:Around} (r:bh k A):A.units + 64 < cLine:=by have:=r.un;omega
noncomputable def jr:TA:=fun _ H Q=>Q [] H
noncomputable def fR (ta:TE) (tr:TA):TA:=fun σ H Q=>ta σ H fun x H1=>tr σ H1 fun xs H2=>Q (x :: xs) H2
section
variable {X:Cx} {e:Expr} {es:List Expr} {te:TE} {t:TA} {pos:Pos}
theorem M4:PA X [] jr:=fun _ _ _ _ H Q I h=>Calls.spliced_nil ⟨[],H,I,.nil,h⟩
theorem si (ha:PE X e te) (hr:PA X es t) (hs:starEach (e :: es) X.env=(false,eval e X.env) :: starEach es X.env:=by rfl):PA X (e :: es) (fR te t):=by
 intro pos pins s σ H Q I h;rw[hs];show wpAny _ _ (spliced ((false,eval e X.env) :: backTo pos (starEach es X.env))) _ _ s;refine q08 (a0 (ha pins s σ H _ I h) fun u s1 h0_ => el5 h0_ fun x H1 I1 r1 q1 => ?_);exact a0 (hr pos pins s1 σ H1 _ I1 q1) fun us s2 h0_ => el5 h0_ fun xs H2 I2 r2 q2 =>⟨x :: xs,H2,I2,.cons r1 r2,q2⟩
noncomputable def ui (t:TA):TE:=fun σ H Q=>t σ H fun xs H1=>xs.length <= sizeLine/\∀ p,H1 p=none->Q (.ref p) (upd H1 p (.tup xs))
noncomputable def uj (t:TA):TE:=fun σ H Q=>t σ H fun xs H1=>xs.length <= sizeLine/\∀ p,H1 p=none->Q (.ref p) (upd H1 p (.lst xs))
theorem M5 {x1} (h:PA X es t):PE X (.Tuple es x1 pos) (ui t):=by
 intro pins s σ H Q I hq;refine wpAny_Tuple_spliced (a0 (h pos pins s σ H _ I hq) fun us s1 ⟨xs,H1,I1,r,z,q⟩=>⟨by rw[<-r.length];exact z,?_⟩);have hf:H1 s1.heap.objs.size=none:=I1.aM.fresh (uu _);refine⟨.ref s1.heap.objs.size,upd H1 s1.heap.objs.size (.tup xs),I1.laid (t':=s1.toks) (fun b u e=>qw _ e) (uu _) ?_,rfl,q _ hf⟩;exact⟨z,us,r,⟨_,Xr _ rfl,rfl,_,rfl⟩⟩
theorem M6 (h:PA X es t):PE X (.List es pos) (uj t):=by
 intro pins s σ H Q I hq;refine wpAny_List_spliced (a0 (h pos pins s σ H _ I hq) fun us s1 ⟨xs,H1,I1,r,z,q⟩=>⟨by rw[<-r.length];exact z,?_⟩);have hf:H1 s1.heap.objs.size=none:=I1.aM.fresh (uu _);refine⟨.ref s1.heap.objs.size,upd H1 s1.heap.objs.size (.lst xs),I1.laid (t':=s1.toks) (fun b u e=>qw _ e) (uu _) ?_,rfl,q _ hf⟩;exact⟨z,us,0,r,Xr _ rfl⟩
end
noncomputable abbrev Sp:=List V->Hp->VK->XK->Prop
noncomputable abbrev ju:=List Env->Hp->Shared->XK->Value->Shared->Prop
structure mU (P:Program) (w:World) (K:PySem.W.Frag) (mg:Str->Option Value) (base:Heap) (A:Around) (outer:List Env) (s:Shared) (H:Hp):Prop where
 frames:A.frames=some outer
 mod:Mod K mg base
 bs:∀ b o,base.get? b=some o->s.heap.get? b=some o/\H b=none
 o7:base.objs.size <= s.heap.objs.size
 eJ:s.heap.FunFrames base outer
 p_:∀ b∈jX outer,H b=none
 aM:dG P w H s.heap
 bare:AllBare s.gens
noncomputable def CE (outer:List Env) (P:Program) (w:World) (H:Hp) (s:Shared) (Q:VK) (u:Value) (s':Shared):Prop :=
 ∃ v H',s'.os=s.os/\AllBare s'.gens/\Un (jX outer) [] H H' s.heap s'.heap/\dG P w H' s'.heap/\RelV v u/\Q v H'
noncomputable def CR (CX:ju) (outer:List Env) (P:Program) (w:World) (H:Hp) (s:Shared) (Q:VK) (E:XK) (r:Result) (s':Shared):Prop :=
 match r with
 | .ok (.ret u)=>CE outer P w H s Q u s'
 | .ok _=>False
 | .error e=>CX outer H s E e s'
structure cS (P:Program) (w:World) (K:PySem.W.Frag) (mg:Str->Option Value) (base:Heap) (CX:ju) (k:Nat) (f:Addr) (fd:FuncData) (ps:List Str) (sp:Sp):Prop where
 len:∀ vs H Q E,sp vs H Q E->vs.length=ps.length
 run:∀ (A:Around) (outer:List Env) (s:Shared) (H:Hp) (args:Args) (us:List Value) (vs:List V) (Q:VK) (E:XK),bh k A->mU P w K mg base A outer s H->BindsTo s fd args (ps.zip us)->Vals vs us->sp vs H Q E →
  codeAny (model P w) A (.call (.ref f) args) (CR CX outer P w H s Q E) s
section
variable {X:Cx} {pins:List (Addr × Obj)} {σ : St} {H:Hp} {s s':Shared}
theorem Inv.uk (I:Inv X pins σ H s):mU X.prog X.w X.K X.mg X.base X.A X.stack s H :=
 ⟨I.ok.frames,I.ok.mod,I.bs,Yw I.ok.o7 I.sz,I.stack,I.i5,I.aM,I.bare⟩
theorem Inv.after {Q:VK} {u:Value} (I:Inv X pins σ H s) (h:CE X.stack X.prog X.w H s Q u s'):EP X pins σ Q u s':=by
 obtain⟨v,H',os,bare,un,aM,r,q⟩:=h;obtain⟨hh,g,d,t,zv⟩:=s';obtain rfl:zv=s.os:=os;exact⟨v,H',I.call (h':=hh) (g':=g) (d':=d) (t':=t) (ch:=[]) un aM bare (fun b z=>absurd z (by simp)),r,q⟩
end
noncomputable def sj (sp:Sp) (kK:List V) (E:XK) (t:TA):TE:=fun σ H Q=>t σ H fun vs H1=>sp (vs ++ kK) H1 Q E
noncomputable def Binds (K:PySem.W.Frag) (fd:FuncData) (ps:List Str) (ds:List Value):Prop :=
 ∀ (s:Shared) (us:List Value),K.In s.heap->(us ++ ds).length=ps.length->BindsTo s fd ⟨us,[]⟩ (ps.zip (us ++ ds))
theorem Binds.all {K:PySem.W.Frag} {fd:FuncData} {ps:List Str} (h:∀ us:List Value,us.length=ps.length->bindArgs fd ⟨us,[]⟩=pure (ps.zip us)):Binds K fd ps []:=fun s us _ hl=>by
 rw[q0Z] at hl ⊢;exact .of_eq (h us hl)
noncomputable def wK (CX:ju) (X:Cx) (E:XK):Prop:=∀ (pins:List (Addr × Obj)) (σ : St) (H:Hp) (s:Shared) (e:Value) (s':Shared),Inv X pins σ H s->CX X.stack H s E e s'->X.xe e s'
section
variable {X:Cx} {CX:ju} {k:Nat} {f C:Addr} {fd:FuncData} {ps:List Str} {sp:Sp} {kK:List V} {ds:List Value} {E:XK} {x m:Str} {p pos apos:Pos} {e o:Expr} {es:List Expr} {ta:TE} {t:TA}
theorem M7 {pins:List (Addr × Obj)} {σ : St} {H:Hp} {s:Shared} {Q:VK} {us:List Value} {vs:List V} (F:cS X.prog X.w X.K X.mg X.base CX k f fd ps sp) (hr:bh k X.A) (hb:Binds X.K fd ps ds) (hd:Vals kK ds) (hx:wK CX X E)
  (I:Inv X pins σ H s) (r:Vals vs us) (h:sp (vs ++ kK) H Q E):wpAny (model X.prog X.w) X.A (call (.ref f) us) (EP X pins σ Q) X.xe s:=by
 have r2:Vals (vs ++ kK) (us ++ ds):=r.append hd;have hl:(us ++ ds).length=ps.length:=by rw[<-r2.length];exact F.len _ _ _ _ h
 refine wpAny_call (q04 (F.run X.A X.stack s H ⟨us,[]⟩ (us ++ ds) (vs ++ kK) Q E hr I.uk (hb s us I.gW hl) r2 h) fun r s' hq => ?_)
 cases r with
 | error e=>exact hx pins σ H s e s' I hq
 | ok fl =>
  cases fl with
  | ret u=>exact I.after hq
  | next=>exact False.elim hq
  | brk=>exact False.elim hq
  | cont=>exact False.elim hq
theorem M8 (F:cS X.prog X.w X.K X.mg X.base CX k f fd ps sp) (hr:bh k X.A) (hg:Gl X x) (hm:X.mg x=some (.ref f)) (hk:PySem.W.keepIn X.K (.ref f)=true) (hb:Binds X.K fd ps ds) (hd:Vals kK ds) (hx:wK CX X E)
  (ha:PA X (e :: es) t) (eM:(x == ("__debug__" : Str))=false:=by decide) (he:starEach (e :: es) X.env=(false,eval e X.env) :: starEach es X.env:=by rfl) (eE:(backTo pos (starEach es X.env)).any (·.1)=false:=by rfl) :
  PE X (.Call (.Name x p) (e :: es) [] pos) (sj sp kK E t):=by
 intro pins s σ H Q I h;refine Z8 (Es I hg hm ?_ eM);refine PySem.W.callWith_K (h₀ := X.base) I.ok.mod.o6 hk (a0 (ha pos pins s σ H _ I h) fun us s1 h0_ => el5 h0_ fun vs H1 I1 r q =>⟨I1.gW,?_⟩) he eE;exact M7 F hr hb hd hx I1 r q
end
section
variable {X:Cx} {CX:ju} {k:Nat} {f C:Addr} {fd:FuncData} {ps ks:List Str} {sp:Sp} {E:XK} {x m:Str} {p pos apos fq:Pos} {e o:Expr} {es:List Expr} {Xm:List Keyword} {te ta:TE} {t tk:TA} {nm:Option Str}
variable {g:List Value->List Value->List Value} {gV:List V->List V->List V}
end
structure mV (N P:List Str) (sc:Scope):Prop where
 kind:sc.kind = .function
 co:sc.isCoroutine=false
 gen:sc.isGenerator=false
 nd:N.Nodup
 pre:N.take P.length=P
 par:∀ x∈P,sc.names.lookup x=some .local\/sc.names.lookup x=some .cell
 qi:∀ y∈sc.names,y.2 ≠ .free
theorem EK {kindOf:Str->Option NameKind} {x:Str}:∀ {binds:List (Str × Value)} {m:Str->Option Value},(∀ v,(x,v)∉binds)->bindL kindOf binds m x=m x
 | [],_,_=>rfl
 | (n,v) :: r,m,h=>by
  unfold bindL;rw[EK fun w hw=>h w (Xu _ hw)];split
  ·have:x≠n:=by rintro rfl;exact h v NO
   simp[this]
  ·rfl
theorem EL {kindOf:Str->Option NameKind} {x:Str}:∀ {binds:List (Str × Value)} {m:Str->Option Value},(∀ v,(x,v)∉binds)->bindC kindOf binds m x=m x
 | [],_,_=>rfl
 | (n,v) :: r,m,h=>by
  unfold bindC;rw[EL fun w hw=>h w (Xu _ hw)];split
  ·rfl
  ·have:x≠n:=by rintro rfl;exact h v NO
   simp[this]
theorem EM {kindOf:Str->Option NameKind} {x:Str} {v:Value}:∀ {P:List Str} {vs:List Value} {i:Nat} {m:Str->Option Value},P.Nodup->P[i]? = some x->vs[i]? = some v->kindOf x=some .local →
  bindL kindOf (P.zip vs) m x=some v
 | [],_,_,_,_,h,_,_=>by simp at h
 | _ :: _,[],_,_,_,_,h,_=>by simp at h
 | p :: P,w :: vs,0,m,nd,h1,h2,hk=>by
  simp at h1 h2;subst h1;subst h2;show bindL kindOf ((p,w) :: P.zip vs) m p=_;unfold bindL;rw[EK fun v hv=>(q0a.mp nd).1 (q1N hv).1,Xs hk];simp
 | p :: P,w :: vs,i + 1,m,nd,h1,h2,hk=>by
  show bindL kindOf ((p,w) :: P.zip vs) m x=_;unfold bindL;exact EM (i:=i) (q0a.mp nd).2 (by simpa using h1) (by simpa using h2) hk
theorem EN {kindOf:Str->Option NameKind} {x:Str} {v:Value}:∀ {P:List Str} {vs:List Value} {i:Nat} {m:Str->Option Value},P.Nodup->P[i]? = some x->vs[i]? = some v->kindOf x≠some .local →
  bindC kindOf (P.zip vs) m x=some v
 | [],_,_,_,_,h,_,_=>by simp at h
 | _ :: _,[],_,_,_,_,h,_=>by simp at h
 | p :: P,w :: vs,0,m,nd,h1,h2,hk=>by
  simp at h1 h2;subst h1;subst h2;show bindC kindOf ((p,w) :: P.zip vs) m p=_;unfold bindC;rw[EL fun v hv=>(q0a.mp nd).1 (q1N hv).1,NM hk];simp
 | p :: P,w :: vs,i + 1,m,nd,h1,h2,hk=>by
  show bindC kindOf ((p,w) :: P.zip vs) m x=_;unfold bindC;exact EN (i:=i) (q0a.mp nd).2 (by simpa using h1) (by simpa using h2) hk
noncomputable def start (N:List Str) (vs:List V):St:=vs.map some ++ List.replicate (N.length - vs.length) none
noncomputable def eN (CX:ju) (P:Program) (w:World) (K:PySem.W.Frag) (mg:Str->Option Value) (base:Heap) (N:List Str) (qual:Str) (scope:Scope) (f:Addr) (cd:Value) (A:Around) (outer:List Env) (s:Shared) (H:Hp) (E:XK):Cx where
 prog:=P
 w:=w
 K:=K
 mg:=mg
 base:=base
 A:=A.deeper (envOfC qual scope s.heap.objs.size f cd)
 N:=N
 s₀ := s
 H₀ := H
 env:=envOfC qual scope s.heap.objs.size f cd
 outer:=outer
 stack:=envOfC qual scope s.heap.objs.size f cd :: outer
 ex:=[]
 calm:=true
 fn:=fun _=>true
 pn:=[]
 xe:=fun e s'=>wpAny (model P w) (A.deeper (envOfC qual scope s.heap.objs.size f cd)) (leaving (envOfC qual scope s.heap.objs.size f cd) e) (fun _ iJ=>CX outer H s E e iJ) (fun e' iJ=>CX outer H s E e' iJ) s'
theorem EO {sc:Scope} {n:Nat} {x:Str} (h:sc.names.lookup x=some .cell):∃ c,(cellsFrom n sc.names []).lookup x=some c:=by
 have q:=q0E sc.names n [] (.inl h);exact Zv.mp q
theorem M9 {CX:ju} {P:Program} {w:World} {K:PySem.W.Frag} {mg:Str->Option Value} {base:Heap} {N ps:List Str} {qual:Str} {scope:Scope} {f:Addr} {cd:Value} {A:Around} {outer:List Env} {s s1:Shared} {H:Hp} {E:XK} {us:List Value} {vs:List V}
  (S:mV N ps scope) (hd:A.handled=none) (e0:mU P w K mg base A outer s H) (hl:vs.length=ps.length) (r:Vals vs us)
  (x:InCallC s s.heap.objs.size (bindL (envOfC qual scope s.heap.objs.size f cd).kindOf (ps.zip us) fun _=>none) (cellsFrom (s.heap.objs.size + 1) scope.names []) (bindC (envOfC qual scope s.heap.objs.size f cd).kindOf (ps.zip us) fun _=>none) s1) :
  Inv (eN CX P w K mg base N qual scope f cd A outer s H E) [] (start N vs) H s1:=by
 have eE:ps.length <= N.length:=by have:=congrArg List.length S.pre;rw[Yr] at this;omega
 obtain⟨h1,tk,rfl,hk⟩:=x.done;have mW:∀ b:Addr,b∉(eN CX P w K mg base N qual scope f cd A outer s H E).ex:=fun b z=>absurd (show b∈([]:List Addr) from z) (by simp)
 refine⟨⟨e0.mod,S.kind,rfl,rfl,uu _,fun y z c h1 h2 => ?_,fun y hy => ?_,fun y c _ h => ?_,fun _=>hd,Around.frames_deeper e0.frames,.inr ⟨rfl,rfl⟩,fun b z=>absurd z (mW b),e0.bs,e0.o7,fun b _ _=>mW b,fun b z=>absurd z (mW b),e0.eJ,e0.p_⟩,
  rfl,e0.bare,Un.kept hk,⟨_,x.toInCall.ns,fun i y v h1 h2 h3 => ?_⟩,fun y c h=>⟨_,x.cell y c h⟩,e0.aM.fresh (uu _),fun y c h => ?_,fun p hp=>absurd (show p∈([]:List (Addr × Obj)) from hp) (by simp),e0.aM.kept hk,?_⟩
 ·exact name_of_addr x.apart (YW h1) (YW h2)
 ·have hy:scope.names.lookup y=some .cell\/scope.names.lookup y=some .free:=hy
  rcases hy with hy | hy
  ·exact EO hy
  ·exact absurd rfl (S.qi _ (YW hy))
 ·exact Zg (x.above y c (YW h))
 ·have hi:i < vs.length:=by
   unfold start at h2
   by_cases hi:i < vs.length
   ·exact hi
   ·rw[X7 (by simpa using hi)] at h2
    rw[q0x] at h2;split at h2<;>cases h2
  have ha:vs[i]? = some v:=by
   unfold start at h2;rw[X1 (by simpa using hi),My] at h2
   cases e:vs[i]? with
   | none=>rw[e] at h2;cases h2
   | some a=>rw[e] at h2;cases h2;rfl
  obtain⟨u,hu,rv⟩:=r.get ha
  have hp:ps[i]? = some y:=by
   rw[<-S.pre,YA (by omega)];exact h1
  have ER:ps.Nodup:=by rw[<-S.pre];exact S.nd.sublist (List.take_sublist _ _)
  refine⟨u,rv,?_⟩;rcases S.par y (Yf hp) with k | k
  ·exact .inl ⟨k,EM ER hp hu k⟩
  ·obtain⟨c,e⟩:=EO (n:=s.heap.objs.size + 1) k
   refine .inr ⟨.inl k,c,e,?_⟩;have q:=x.cell y c e;rw[EN ER hp hu (by show scope.names.lookup y≠_;rw[k];decide)] at q;exact q
 ·exact e0.aM.fresh (Zg (x.above y c (YW h)))
 ·unfold start
  show _=N.length;rw[Fv,qx,q0J];omega
theorem ES {CX:ju} {P:Program} {w:World} {K:PySem.W.Frag} {mg:Str->Option Value} {base:Heap} {k:Nat} {f:Addr} {name qual:Str} {params:Arguments} {body:List Stmt} {scope:Scope} {dV kV doc pm ba ct oc:Value} {an od:Option Addr}
  {mX:Array (Option Value)} {N ps:List Str} {sp:Sp} (lk:K.lookup f=some ⟨oc,od,.func (PySem.W.fnOf name qual params body scope dV kV doc pm an ba ct),mX⟩) (fh:PySem.W.codeIn K ba qual=true) (S:mV N ps scope)
  (len:∀ vs H Q E,sp vs H Q E->vs.length=ps.length)
  (dO:∀ (A:Around) (outer:List Env) (s:Shared) (H:Hp) (vs:List V) (Q:VK) (E:XK),bh k (A.deeper (envOfC qual scope s.heap.objs.size f ba))->sp vs H Q E →
   ∃ t,gP (eN CX P w K mg base N qual scope f ba A outer s H E) body t/\t { nx:=fun _ H'=>Q .non H',rt:=Q } (start N vs) H) :
  cS P w K mg base CX (k + 1) f (PySem.W.fnOf name qual params body scope dV kV doc pm an ba ct) ps sp:=by
 refine⟨len,fun A outer s H args us vs Q E hr e0 hb r o_ => ?_⟩;have hl:=len _ _ _ _ o_;have KX:K.In s.heap:=e0.mod.o6.keeps fun b o e=>(e0.bs b o e).1;have lim:s.heap.NoLimit:=e0.mod.nolimit.keeps fun b o e=>(e0.bs b o e).1
 have um:∀ y∈ps.zip us,scope.names.lookup y.1=some .local\/(scope.names.lookup y.1=some .cell/\((cellsFrom (s.heap.objs.size + 1) scope.names []).lookup y.1).isSome=true):=fun ⟨n,v⟩ hy=>by
  rcases S.par n (q1N hy).1 with q | q
  ·exact .inl q
  ·exact .inr ⟨q,q0E _ _ _ (.inl q)⟩
 refine codeAny_call_function hr.depth (KX _ _ lk) rfl S.co S.gen rfl (PySem.W.codeRec_of KX fh) (hb _ _ _ _ ?_);refine wpAny_newFunctionEnv_cells S.kind um fun env he s1 x => ?_;subst he;refine⟨lim.keeps x.toInCall.keep,codeAny_func ?_⟩;obtain⟨t,ht,hq⟩:=dO A outer s H vs Q E (hr.deeper _) o_;have I:Inv (eN CX P w K mg base N qual scope f ba A outer s H E) [] (start N vs) H s1:=M9 S hr.hd e0 hl r x;refine Y3 (ht [] s1 (start N vs) H _ I hq) (fun fl s' hs => ?_) fun e s' hs=>hs
 have fin:∀ {σ':St} {H':Hp} {v:V} {u:Value},Inv (eN CX P w K mg base N qual scope f ba A outer s H E) [] σ' H' s'->RelV v u->Q v H'->CE outer P w H s Q u s' :=
  fun {σ' H' v u} J rv q=>⟨v,H',J.os,J.bare,J.base,J.aM,rv,q⟩
 cases fl with
 | ret u =>
  obtain⟨v,σ',H',J,rv,q⟩:=hs;exact fin J rv q
 | next =>
  obtain⟨σ',H',J,q⟩:=hs;exact fin (v:=V.non) (u:=Value.none) J rfl q
 | brk =>
  obtain⟨_,_,_,q⟩:=hs;exact False.elim q
 | cont =>
  obtain⟨_,_,_,q⟩:=hs;exact False.elim q
section
variable {X:Cx} {x:Str} {p pos:Pos} {e:Expr} {es:List Expr} {t:TA} {id T:String} {r:List V->Hp->VK->Prop}
noncomputable def sk (r:List V->Hp->VK->Prop) (t:TA):TE:=fun σ H Q=>t σ H fun vs H1=>r vs H1 Q
theorem M_ (hc:gu X (.builtin id) r) (hg:Gl X x) (hm:X.mg x=none) (hv:bootBuiltins x=some (.builtin id)) (ha:PA X (e :: es) t) (hn:x ≠ "__name__" := by decide) (eM:(x == ("__debug__" : Str))=false:=by decide)
  (he:starEach (e :: es) X.env=(false,eval e X.env) :: starEach es X.env:=by rfl) (eE:(backTo pos (starEach es X.env)).any (·.1)=false:=by rfl):PE X (.Call (.Name x p) (e :: es) [] pos) (sk r t):=by
 intro pins s σ H Q I h;refine Z8 (l9 I hg hm hv ?_ hn eM);exact PyProof.Rows.callWith_builtin1 (a0 (ha pos pins s σ H _ I h) fun us s1 h0_ => el5 h0_ fun vs H1 I1 r1 q1 =>hc pins s1 σ H1 vs us Q I1 r1 q1) he eE
theorem Na (hc:gu X (.type T) r) (hg:Gl X x) (hm:X.mg x=none) (hv:bootBuiltins x=some (.type T)) (ha:PA X (e :: es) t) (hn:x ≠ "__name__" := by decide) (eM:(x == ("__debug__" : Str))=false:=by decide)
  (he:starEach (e :: es) X.env=(false,eval e X.env) :: starEach es X.env:=by rfl) (eE:(backTo pos (starEach es X.env)).any (·.1)=false:=by rfl):PE X (.Call (.Name x p) (e :: es) [] pos) (sk r t):=by
 intro pins s σ H Q I h;refine Z8 (l9 I hg hm hv ?_ hn eM);exact YZ (a0 (ha pos pins s σ H _ I h) fun us s1 h0_ => el5 h0_ fun vs H1 I1 r1 q1 =>hc pins s1 σ H1 vs us Q I1 r1 q1) he eE
end
end L2
namespace HT
open PySem PyProof.Rows
noncomputable def lexLt:List Int->List Int->Bool
 | [],[]=>false
 | [],_ :: _=>true
 | _ :: _,[]=>false
 | x :: xs,y :: ys=>if x=y then lexLt xs ys else decide (x < y)
theorem mY (x y:Int) (xs ys:List Int):lexLt (x :: xs) (y :: ys)=if x=y then lexLt xs ys else decide (x < y):=rfl
theorem EU:lexLt [] []=false:=rfl
theorem EV (y:Int) (ys:List Int):lexLt [] (y :: ys)=true:=rfl
theorem EW (x:Int) (xs:List Int):lexLt (x :: xs) []=false:=rfl
theorem zw (A:Around) (s:Shared) (a:Int) (t:Tok) (c:Int) (u:Tok):∃ e,SeqAt.EqAt A s (.int a t) (.int c u) e/\(e=true↔a=c) :=
 ⟨(a == c),SeqAt.EqAt.int_int a t c u,by simp⟩
theorem Nc (A:Around) (s:Shared) (a:Int) (t:Tok) (c:Int) (u:Tok) (prog:Program) (w:World) (E:Value->Shared->Prop) (Q:Value->Shared->Prop) (h:Q (.bool (decide (a < c))) s) :
  wpAny (model prog w) A (richCompare .Lt (.int a t) (.int c u)) Q E s :=
 (q02 h:wpAny (model prog w) A (compareOp .Lt (.int a t) (.int c u)) Q E s)
section
open PySem.SeqAt
open PySem.AutoSeq1 (wpAny_loadPart')
open PySem.MeetsSeq PySem.MeetsSeq2 PySem.MeetsSeq3
theorem Nd (l b:Addr) (items aE:Array Value) (n n2:Nat) (dd ig:Option Addr) (sl ik:Array (Option Value)) (ns ms:List Int) (hi:IntsAre items.toList ns) (hj:IntsAre aE.toList ms) :
  Meets (Builtin.«tuple.__lt__» ⟨[.ref l,.ref b],[]⟩)
   (fun _ R s=>s.heap.get? l=some { cls := .type "tuple",dict:=dd,data := .seq items n,slots:=sl }/\s.heap.get? b=some { cls := .type "tuple",dict:=ig,data := .seq aE n2,slots:=ik } ∧
    R (.ok (.ret (.bool (lexLt ns ms)))) s) :=
 .of_wp fun prog w A R s h=>by
  obtain⟨hp,g,d,tk,os⟩:=s;obtain⟨hl,hb,h⟩:=h;have f2:=q0p;have z1:items.size=ns.length:=by rw[<-hi.length];simp
  have z2:aE.size=ms.length:=by rw[<-hj.length];simp
  wp_walk using YB hl,YB hb,Z2 _ (fun rest b s'=>b.1=none/\s'=⟨hp,g,d,tk,os⟩/\∃ (vs ws:List Value) (fG jw:List Int),rest=vs.zip ws ∧
   IntsAre vs fG/\IntsAre ws jw/\fG.length + aE.size=jw.length + items.size/\R (.ok (.ret (.bool (lexLt fG jw)))) ⟨hp,g,d,tk,os⟩) _
  case turn =>
   rintro ⟨y,x⟩ rest b s' ⟨hb',rfl,vs,ws,fG,jw,hz,qj,mZ,hlen,hR⟩
   cases qj with
   | nil=>rw[q0k] at hz;cases hz
   | cons a t qk =>
    cases mZ with
    | nil=>rw[q09] at hz;cases hz
    | cons c u ql =>
     rw[Y4] at hz;injection hz with uo gY;injection uo with hy hx;subst hy hx;rw[mY] at hR;simp only[Fq] at hlen;obtain⟨e,he,iK⟩:=zw A.in1 ⟨hp,g,d,tk,os⟩ a t c u;refine ni (he prog w _ _ ?_)
     cases e with
     | true =>
      rw[Xs (iK.mp rfl)] at hR
      wp_walk
      exact⟨rfl,rfl,_,_,_,_,gY,qk,ql,by omega,hR⟩
     | false =>
      rw[NM (fun q=>absurd (iK.mpr q) X8)] at hR;have uq:=Nc A.in1 ⟨hp,g,d,tk,os⟩ a t c u prog w
      wp_walk using uq
      exact⟨_,rfl,by simpa using hR⟩
  case fin =>
   rintro ⟨b1,b2⟩ s' ⟨hb',rfl,vs,ws,fG,jw,hz,qj,mZ,hlen,hR⟩;simp only at hb';subst hb'
   have hv:lexLt fG jw=decide (items.size < aE.size):=by
    cases qj with
    | nil =>
     cases mZ with
     | nil =>
      simp only[Y8] at hlen;rw[EU];exact (Xp (by omega)).symm
     | cons c u hw =>
      simp only[Y8,Fq] at hlen;rw[EV];exact (NN (by omega)).symm
    | cons a t hv =>
     cases mZ with
     | nil =>
      simp only[Y8,Fq] at hlen;rw[EW];exact (Xp (by omega)).symm
     | cons c u hw =>
      rw[Y4] at hz;cases hz
   rw[hv] at hR
   wp_walk
   exact⟨_,rfl,by simpa [Builtin.Tuple.tupleCompareSizes] using hR⟩
  case h =>
   exact⟨rfl,rfl,items.toList,aE.toList,ns,ms,rfl,hi,hj,by omega,h⟩
end
section
variable {prog:Program} {w:World} {A:Around} {E:Value->Shared->Prop} {s:Shared}
theorem zy {l b:Addr} {items aE:Array Value} {ns ms:List Int} {Q:Value->Shared->Prop} (hl:IsTup s.heap l items) (hb:IsTup s.heap b aE) (hi:IntsAre items.toList ns) (hj:IntsAre aE.toList ms)
  (hu:A.units < cLine) (h:Q (.bool (lexLt ns ms)) s):wpAny (model prog w) A (compareOp .Lt (.ref l) (.ref b)) Q E s:=by
 obtain⟨⟨cls,dd,data,sl⟩,ho,hc,n,hd⟩:=id hl;obtain⟨⟨m8,ig,data2,ik⟩,d6,eZ,n2,hd2⟩:=id hb;simp only at hc hd eZ hd2;subst hc hd eZ hd2
 exact q0F (op := .Lt) ⟨_,ho,rfl⟩ ⟨_,d6,rfl⟩ PySem.F.slot_tuple_lt PySem.F.entry_tuple_lt (PySem.F.args_tuple_lt_2 _ _) (Nd l b items aE n n2 dd ig sl ik ns ms hi hj)
  ⟨ho,d6,show Value.bool (lexLt ns ms)≠Value.notImplemented/\Q (.bool (lexLt ns ms)) s from ⟨(fun x=>nomatch x),h⟩⟩ hu
theorem Nf {t b:Addr} {vs ws:List Value} {Q:Value->Shared->Prop} (ht:IsTup s.heap t vs.toArray) (hb:IsTup s.heap b ws.toArray) (hv:vs≠[])
  (h1:ws=[]->Q (.ref t) s) (h2:ws≠[]->Q (.ref s.heap.objs.size) { s with heap:=s.heap.push { cls := .type "tuple",data := .seq (vs ++ ws).toArray } })
  (hsz:vs.length + ws.length <= sizeLine):wpAny (model prog w) A (binaryOp .Add (.ref t) (.ref b)) Q E s:=by
 obtain⟨⟨cls,dd,data,sl⟩,ho,hc,n,hd⟩:=id ht;obtain⟨⟨m8,ig,data2,ik⟩,d6,eZ,n2,hd2⟩:=id hb;simp only at hc hd eZ hd2;subst hc hd eZ hd2;have e:vs.toArray ++ ws.toArray=(vs ++ ws).toArray:=by simp
 by_cases hw:ws=[]
 ·exact concat_meets ⟨_,ho,rfl⟩ ⟨_,d6,rfl⟩ noFill_tuple_add seq_tuple_add q0G q0y (q0q _ _)
   (tuple_addW1 t b vs.toArray ws.toArray n n2 dd ig sl ik (by simpa using hv) (by simp[hw])) ⟨ho,d6,h1 hw⟩
 ·refine concat_meets ⟨_,ho,rfl⟩ ⟨_,d6,rfl⟩ noFill_tuple_add seq_tuple_add q0G q0y (q0q _ _)
   (tuple_addW2 t b vs.toArray ws.toArray n n2 dd ig sl ik (by simpa using hv) (by simpa using hw) (by rw[wO,wO];exact hsz)) ⟨ho,d6,?_⟩
  rw[e];exact h2 hw
noncomputable def bj (n d:Nat):Option Int->Nat
 | none=>d
 | some v=>if v < 0 then (v + (n:Int)).toNat else min v.toNat n
theorem EX (n d:Nat):bj n d none=d:=rfl
theorem wL (n d k:Nat):bj n d (some (k:Int))=min k n:=by
 show (if (k:Int) < 0 then ((k:Int) + (n:Int)).toNat else min (k:Int).toNat n)=min k n;rw[NM (by omega),Ya]
theorem Ng (n d:Nat) (hd:d <= n) (o:Option Int):bj n d o <= n:=by
 cases o with
 | none=>exact hd
 | some v =>
  show (if v < 0 then (v + (n:Int)).toNat else min v.toNat n) <= n
  by_cases hv:v < 0
  ·rw[Xs hv];omega
  ·rw[NM hv];exact Nat.min_le_right _ _
theorem EY (v:Int) (n d:Nat):(if v < 0 then max (v + (n:Int)) 0 else min v (n:Int))=((bj n d (some v):Nat):Int):=by
 show (if v < 0 then max (v + (n:Int)) 0 else min v (n:Int))=(((if v < 0 then (v + (n:Int)).toNat else min v.toNat n):Nat):Int)
 by_cases hv:v < 0
 ·simp only[Xs hv];omega
 ·simp only[NM hv];omega
theorem Nh (lo hi:Option Int) (n:Nat):Builtin.Slice.sliceAdjust lo hi 1 (n:Int)=(((bj n 0 lo:Nat):Int),((bj n n hi:Nat):Int)):=by
 have h1:¬ ((1:Int) < 0):=by omega
 unfold Builtin.Slice.sliceAdjust;simp only[h1,YS];refine Prod.ext ?_ ?_
 ·cases lo with
  | none=>rfl
  | some v=>exact EY v n 0
 ·cases hi with
  | none=>rfl
  | some v=>exact EY v n n
theorem Ni (i j:Nat):Builtin.Slice.slicePlaces (i:Int) (j:Int) 1=j - i:=by
 unfold Builtin.Slice.slicePlaces;have h1:(1:Int) > 0:=by omega
 simp only[h1,Z0,Int.ediv_one];split<;>omega
theorem EZ {v:Value} {o:Option Int} {Q:Option Int->Shared->Prop} (p:IsPart v o) (h:Q o s):wpAny (model prog w) A (Builtin.Slice.slicePartIndex v) Q E s:=by
 cases p with
 | none=>exact slicePart_none h
 | int i t=>exact slicePart_int h
theorem E5 {sl:Addr} {vl vu:Value} {lo hi:Option Int} {n:Nat} {Q:Int × Int × Nat->Shared->Prop} (hs:s.heap.IsSliceOf sl vl vu .none) (pl:IsPart vl lo) (pu:IsPart vu hi)
  (h:Q (((bj n 0 lo:Nat):Int),1,bj n n hi - bj n 0 lo) s):wpAny (model prog w) A (Builtin.Slice.sliceApplied (.ref sl) (pure (n:Int))) Q E s:=by
 obtain⟨os,qm,so,ur⟩:=id hs;unfold Builtin.Slice.sliceApplied Builtin.Slice.sliceFields;refine ni (ni (Zd qm ur (x:=vl) rfl (ni (Zd qm ur (x:=vu) rfl (ni (Zd qm ur (x := .none) rfl (zR ?_)))))));refine ni (slicePart_none ?_);show wpAny _ _ (if ((1:Int) == 0)=true then _ else _) _ _ s;rw[NM (by decide)];refine ni (EZ pl (ni (EZ pu (ni (zR ?_)))))
 show wpAny _ _ (match Builtin.Slice.sliceAdjust lo hi 1 (n:Int) with | (lo,hi)=>pure (lo,(1:Int),Builtin.Slice.slicePlaces lo hi 1)) _ _ s;rw[Nh lo hi n];show wpAny _ _ (pure (((bj n 0 lo:Nat):Int),(1:Int),Builtin.Slice.slicePlaces ((bj n 0 lo:Nat):Int) ((bj n n hi:Nat):Int) 1)) _ _ s;rw[Ni];exact zR h
theorem Nj (xs:Array Value) (i k:Nat):((List.range k).filterMap fun (m:Nat)=>xs[((i:Int) + (m:Int) * 1).toNat]?).toArray=((xs.toList.drop i).take k).toArray:=by
 have e:(fun (m:Nat)=>xs[((i:Int) + (m:Int) * 1).toNat]?)=fun m=>xs[i + m]? := by
  funext m;have:((i:Int) + (m:Int) * 1).toNat=i + m:=by omega
  rw[this]
 rw[e];have:=pick_run xs i k;rw[List.filterMap_map] at this;have e2:((fun x=>xs[x]?) ∘ fun x=>i + x)=fun m=>xs[i + m]? := rfl;rw[e2] at this;rw[this]
theorem Nk {t sl:Addr} {items:Array Value} {vl vu:Value} {lo hi:Option Int} {Q:Value->Shared->Prop} (ht:IsTup s.heap t items) (hs:s.heap.IsSliceOf sl vl vu .none) (pl:IsPart vl lo) (pu:IsPart vu hi)
  (hw:¬ (bj items.size 0 lo=0/\bj items.size items.size hi=items.size))
  (h:Q (.ref s.heap.objs.size) { s with heap:=s.heap.push { cls := .type "tuple",data := .seq ((items.toList.drop (bj items.size 0 lo)).take (bj items.size items.size hi - bj items.size 0 lo)).toArray } })
  (hsz:items.size <= sizeLine):wpAny (model prog w) A (getItem (.ref t) (.ref sl)) Q E s:=by
 have i8:sizeOk (.seq ((items.toList.drop (bj items.size 0 lo)).take (bj items.size items.size hi - bj items.size 0 lo)).toArray):=by
  show ((items.toList.drop (bj items.size 0 lo)).take (bj items.size items.size hi - bj items.size 0 lo)).toArray.size <= sizeLine;rw[wO,Yr,Zt,Fu];omega
 have hj:bj items.size items.size hi <= items.size:=Ng _ _ (uu _) hi;obtain⟨os,qm,so,ur⟩:=id hs;have zA:s.TypeIs (.ref sl) "slice" := ⟨os,qm,so⟩;unfold getItem
 try with_reducible refine Yp ?_
 first | refine ni (zR ?_) | skip
 refine ni (wpAny_sequenceKey ht.typeIs (by decide) ?_)
 refine ni (Zi (name:=Str.ofString "__getitem__") ht.typeIs YL
  (ZK YL ht.typeIs entry_tuple_getitem ?_ (args_tuple_getitem _ _)))
 show wpAny _ _ (Builtin.Tuple.tupleItemsOf (.ref t) >>= _) _ _ s;refine ni (tupleItemsOf_ ht ?_);refine ni (q1A zA ?_);rw[Xs (by decide)];refine ni (E5 hs pl pu ?_)
 have Nl:¬ ((((bj items.size 0 lo:Nat):Int) == 0 && (1:Int) == 1 && (bj items.size items.size hi - bj items.size 0 lo) == items.size)=true):=by
  intro q;rw[Yl,Yl] at q;have q1:((bj items.size 0 lo:Nat):Int)=0:=Y_ q.1.1;have q2:bj items.size items.size hi - bj items.size 0 lo=items.size:=Y_ q.2;exact hw ⟨by omega,by omega⟩
 show wpAny _ _ (if (((bj items.size 0 lo:Nat):Int) == 0 && (1:Int) == 1 && (bj items.size items.size hi - bj items.size 0 lo) == items.size)=true then _ else _) _ _ s;rw[NM Nl,Nj]
 first
  | exact ni (m:=Builtin.Tuple.tupleExact _) (Zn (zR ⟨_,rfl,zR h⟩) i8)
  | exact ni (m:=Builtin.Tuple.tupleExact _) (Zn (ni (zR (zR ⟨_,rfl,zR h⟩))) i8)
  | exact ni (ni (m:=Builtin.Tuple.tupleExact _) (Zn (zR (zR ⟨_,rfl,zR h⟩)) i8))
  | exact ni (ni (m:=Builtin.Tuple.tupleExact _) (Zn (zR ⟨_,rfl,zR h⟩) i8))
end
end HT
namespace L2
open PySem PySem.Spec PyProof.Rows
noncomputable abbrev TO:=St->Hp->(Option Int->Hp->Prop)->Prop
noncomputable def PO (X:Cx) (e:Option Expr) (t:TO):Prop :=
 ∀ (pins:List (Addr × Obj)) (s:Shared) (σ : St) (H:Hp) (Q:Option Int->Hp->Prop),Inv X pins σ H s->t σ H Q →
  wpAny (model X.prog X.w) X.A (evalPart e X.env) (fun u s'=>∃ o H',Inv X pins σ H' s'/\IsPart u o/\Q o H') X.xe s
noncomputable def Nm:TO:=fun _ H Q=>Q none H
noncomputable def Nn (t:TE):TO:=fun σ H Q=>t σ H fun x H1=>∃ i,x = .int i/\Q (some i) H1
theorem intsAre_of {ns:List Int}:∀ {us:List Value},Vals (ns.map V.int) us->IntsAre us ns:=by
 induction ns with
 | nil=>intro us r;rw[Zw] at r;cases r;exact .nil
 | cons n ns ih =>
  intro us r;rw[Yd] at r
  cases r with
  | cons r1 r2 =>
   obtain⟨t,e⟩:=r1;subst e;exact .cons n t (ih r2)
section
variable {X:Cx} {e:Expr} {te:TE} {lo hi:Option Expr} {tl th:TO} {pos p2:Pos}
theorem E6:PO X none Nm:=by
 intro pins s σ H Q I h;rw[evalPart_none];exact zR ⟨none,H,I,.none,h⟩
theorem wM (h:PE X e te):PO X (some e) (Nn te):=by
 intro pins s σ H Q I hw;rw[evalPart_some];refine a0 (h pins s σ H _ I hw) fun u s1 h0_ => el5 h0_ fun x H1 I1 r1 q1 => ?_;obtain⟨i,rfl,q⟩:=q1;obtain⟨t,rfl⟩:=r1;exact⟨some i,H1,I1,.int i t,q⟩
noncomputable def m9 (X:Cx) (r:V->Option Int->Option Int->Hp->VK->Prop):Prop :=
 ∀ (pins:List (Addr × Obj)) (s:Shared) (σ : St) (H:Hp) (x:V) (v vl vu:Value) (lo hi:Option Int) (sl:Addr) (Q:VK),Inv X pins σ H s->RelV x v->s.heap.IsSliceOf sl vl vu .none->IsPart vl lo->IsPart vu hi->r x lo hi H Q →
  ∃ T id,typeLookup (.type T) "__getitem__" = pure (some (.builtin id))/\s.TypeIs v T/\wpAny (model X.prog X.w) X.A (getItem v (.ref sl)) (EP X pins σ Q) X.xe s
theorem m9.or {r r':V->Option Int->Option Int->Hp->VK->Prop} (h:m9 X r) (h':m9 X r'):m9 X (fun x lo hi H Q=>r x lo hi H Q\/r' x lo hi H Q):=by
 intro pins s σ H x v vl vu lo hi sl Q I rx hs pl pu q;rcases q with q | q
 ·exact h pins s σ H x v vl vu lo hi sl Q I rx hs pl pu q
 ·exact h' pins s σ H x v vl vu lo hi sl Q I rx hs pl pu q
noncomputable def E7 (r:V->Option Int->Option Int->Hp->VK->Prop) (te:TE) (tl th:TO):TE:=fun σ H Q=>te σ H fun x H1=>tl σ H1 fun l H2=>th σ H2 fun u H3=>r x l u H3 Q
theorem Np {r:V->Option Int->Option Int->Hp->VK->Prop} (hr:m9 X r) (he:PE X e te) (hl:PO X lo tl) (hu:PO X hi th):PE X (.Subscript e (.Slice lo hi none p2) pos) (E7 r te tl th):=by
 intro pins s σ H Q I h;refine Subscript_ (a0 (he pins s σ H _ I h) fun v s1 h0_ => el5 h0_ fun x H1 I1 r1 q1 => ?_);refine wpAny_Slice (a0 (hl pins s1 σ H1 _ I1 q1) fun vl s2 h0_ => el5 h0_ fun l H2 I2 pl q2 =>a0 (hu pins s2 σ H2 _ I2 q2) fun vu s3 h0_ => el5 h0_ fun u H3 I3 pu q3 => ?_);rw[evalPart_none];refine zR ?_;have I4:Inv X pins σ H3 { s3 with heap:=s3.heap.push { cls := .type "slice",data := .fields #[vl,vu,.none] } }:=I3.kept (t':=s3.toks) fun b ob q=>qw _ q;obtain⟨T,id,hT,ht,hg⟩:=hr pins { s3 with heap:=s3.heap.push { cls := .type "slice",data := .fields #[vl,vu,.none] } } σ H3 x v vl vu l u s3.heap.objs.size Q I4 r1 (Heap.IsSliceOf.new ..) pl pu q3
 show wpAny (model X.prog X.w) X.A (subscriptTail e (.Slice lo hi none p2) v (.ref s3.heap.objs.size)) (EP X pins σ Q) X.xe { s3 with heap:=s3.heap.push { cls := .type "slice",data := .fields #[vl,vu,.none] } };exact tail_any (ops:=[.ref s3.heap.objs.size,v]) ht hT hg (by with_unfolding_all rfl)
noncomputable def cU (xs:List V) (lo hi:Option Int):List V:=(xs.drop (HT.bj xs.length 0 lo)).take (HT.bj xs.length xs.length hi - HT.bj xs.length 0 lo)
theorem E8 (xs:List V) (lo hi:Option Int):(cU xs lo hi).length <= xs.length:=by
 unfold cU;rw[Yr,Zt];omega
noncomputable def zB (K:PySem.W.Frag):V->Option Int->Option Int->Hp->VK->Prop:=fun x lo hi H Q=>∃ a xs,x = .ref a/\bF K H a xs ∧
 ¬ (HT.bj xs.length 0 lo=0/\HT.bj xs.length xs.length hi=xs.length)/\∀ p,H p=none->Q (.ref p) (upd H p (.tup (cU xs lo hi)))
theorem Nq:m9 X (zB X.K):=by
 intro pins s σ H x v vl vu lo hi sl Q I rx hs pl pu h;obtain⟨a,xs,rfl,hx,hw,q⟩:=h;cases rx
 obtain⟨aq,r,ht,hz⟩:=I.tuple hx;have hlen:aq.toArray.size=xs.length:=by rw[wO];exact r.length.symm
 refine⟨"tuple",_,YL.lookup,ht.typeIs,?_⟩;refine HT.Nk ht hs pl pu (by rw[hlen];exact hw) ?_ (by rw[hlen];exact hz);rw[hlen];refine⟨.ref s.heap.objs.size,_,I.laid (t':=s.toks) (o := .tup (cU xs lo hi)) (fun b ob q=>qw _ q) (uu _) ?_,rfl,q _ (I.aM.fresh (uu _))⟩;exact⟨Yw (E8 xs lo hi) hz,_,(r.drop (HT.bj xs.length 0 lo)).take (HT.bj xs.length xs.length hi - HT.bj xs.length 0 lo),IsTup.new _ _⟩
noncomputable def zC (K:PySem.W.Frag):R2:=fun x y H Q=>∃ a b ns ms,x = .ref a/\y = .ref b/\bF K H a (ns.map V.int)/\bF K H b (ms.map V.int)/\Q (.bl (HT.lexLt ns ms)) H
theorem Nr (hu:X.A.units < cLine):cP X (compareOp .Lt) (zC X.K):=by
 intro pins s σ H x y v u Q I rx ry h;obtain⟨a,b,ns,ms,rfl,rfl,ha,hb,q⟩:=h;cases rx
 cases ry
 obtain⟨aq,r1,p1,_⟩:=I.tuple ha;obtain⟨bc,r2,p2,_⟩:=I.tuple hb;have i1:IntsAre aq.toArray.toList ns:=intsAre_of r1;have i2:IntsAre bc.toArray.toList ms:=intsAre_of r2;exact HT.zy p1 p2 i1 i2 hu ⟨.bl (HT.lexLt ns ms),H,I,rfl,q⟩
noncomputable def Nt (K:PySem.W.Frag):R2:=fun x y H Q=>∃ a b xs ys,x = .ref a/\y = .ref b/\bF K H a xs/\bF K H b ys/\xs≠[]/\xs.length + ys.length <= sizeLine ∧
 (ys=[]->Q (.ref a) H)/\(ys≠[]->∀ p,H p=none->Q (.ref p) (upd H p (.tup (xs ++ ys))))
theorem Vals.e7 {xs:List V} {us:List Value} (r:Vals xs us):us=[]↔xs=[]:=by
 cases r with
 | nil=>simp
 | cons _ _=>simp
theorem Nu:cP X (binaryOp .Add) (Nt X.K):=by
 intro pins s σ H x y v u Q I rx ry h;obtain⟨a,b,xs,ys,rfl,rfl,ha,hb,hx,hz,q1,q2⟩:=h;cases rx
 cases ry
 obtain⟨aq,r1,p1,_⟩:=I.tuple ha;obtain⟨bc,r2,p2,_⟩:=I.tuple hb;refine HT.Nf p1 p2 (fun z=>hx (r1.e7.mp z)) (fun z=>⟨.ref a,H,I,rfl,q1 (r2.e7.mp z)⟩) (fun z => ?_) (by rw[<-r1.length,<-r2.length];exact hz);refine⟨.ref s.heap.objs.size,_,I.laid (t':=s.toks) (o := .tup (xs ++ ys)) (fun b ob q=>qw _ q) (uu _) ?_,rfl,q2 (fun w=>z (r2.e7.mpr w)) _ (I.aM.fresh (uu _))⟩;exact⟨by rw[Fv];exact hz,_,r1.append r2,IsTup.new _ _⟩
end
noncomputable def i9 (n:Nat) (i:Int):Option Nat:=if 0 <= i then (if i < n then some i.toNat else none) else if -(n:Int) <= i then some (i + n).toNat else none
noncomputable def eO {α : Type} (xs:List α) (i:Int):Option α := (i9 xs.length i).bind fun j=>xs[j]?
theorem E9 {n:Nat} {i:Int} {j:Nat} (h:i9 n i=some j):seqIndex? i n=some j/\j < n /\ -(n:Int) <= i/\i < n:=by
 unfold i9 at h
 by_cases h0:0 <= i
 ·rw[Xs h0] at h
  by_cases h1:i < n
  ·rw[Xs h1] at h
   have e:i.toNat=j:=Yh h;exact⟨by rw[seqIndex_of h0 h1,e],by omega,by omega,h1⟩
  ·rw[NM h1] at h;cases h
 ·rw[NM h0] at h
  by_cases h1 : -(n:Int) <= i
  ·rw[Xs h1] at h
   have e:(i + n).toNat=j:=Yh h;exact⟨by rw[seqIndex_neg (by omega) h1,e],by omega,h1,by omega⟩
  ·rw[NM h1] at h;cases h
theorem zD {α : Type} {xs:List α} {i:Int} {v : α} (h:eO xs i=some v):∃ j,seqIndex? i xs.length=some j/\xs[j]? = some v/\j < xs.length /\ -(xs.length:Int) <= i/\i < xs.length:=by
 unfold eO at h
 cases e:i9 xs.length i with
 | none=>rw[e] at h;cases h
 | some j =>
  rw[e] at h;obtain⟨h1,h2,h3,h4⟩:=E9 e;exact⟨j,h1,h,h2,h3,h4⟩
theorem pb {α : Type} {xs:List α} {j:Nat} {v : α} (h:xs[j]? = some v):eO xs (j:Int)=some v:=by
 have hj:j < xs.length:=(sA.mp h).1
 have e:i9 xs.length (j:Int)=some j:=by
  unfold i9;rw[Xs (by omega),Xs (by omega)];simp
 unfold eO;rw[e];exact h
noncomputable def zE (b:Expr):Prop:=∀ o i,subscripted b false o i=operate [o,i] (getItem o i)
noncomputable def sv (X:Cx) (r:R2):Prop :=
 ∀ (value slice:Expr) (pins:List (Addr × Obj)) (s:Shared) (σ : St) (H:Hp) (x y:V) (v u:Value) (Q:VK),Inv X pins σ H s->RelV x v->RelV y u->r x y H Q →
  subscripted slice false v u=operate [v,u] (getItem v u)->wpAny (model X.prog X.w) X.A (subscriptTail value slice v u) (EP X pins σ Q) X.xe s
noncomputable def zF (X:Cx) (id:String) (r:V->List V->Hp->VK->Prop):Prop :=
 ∀ (pins:List (Addr × Obj)) (s:Shared) (σ : St) (H:Hp) (x:V) (xs:List V) (v:Value) (us:List Value) (Q:VK),Inv X pins σ H s->RelV x v->Vals xs us->r x xs H Q →
  wpAny (model X.prog X.w) X.A (call (.builtin id) (v :: us)) (EP X pins σ Q) X.xe s
section
variable {X:Cx} {a b:Expr} {ta tb:TE} {pos:Pos}
theorem Nv {r:R2} (hr:sv X r) (ha:PE X a ta) (hb:PE X b tb) (hs:zE b):PE X (.Subscript a b pos) (kH r ta tb):=by
 intro pins s σ H Q I h;exact Subscript_ (qg ha hb I h fun v u s2 x y H2 I2 rx ry q=>hr a b pins s2 σ H2 x y v u Q I2 rx ry q (hs _ _))
noncomputable def zG (K:PySem.W.Frag):R2:=fun x y H Q=>∃ p xs i v,x = .ref p/\y = .int i/\bz K H p xs/\eO xs i=some v/\Q v H
noncomputable def qo (K:PySem.W.Frag):R2:=fun x y H Q=>∃ p xs i v,x = .ref p/\y = .int i/\bF K H p xs/\eO xs i=some v/\Q v H
noncomputable def zH:R2:=fun x y H Q=>∃ z i c,x = .str z/\y = .int i/\z.length <= sizeLine/\eO z.cps.toList i=some c/\Q (.str ⟨#[c]⟩) H
theorem E_:sv X (zG X.K):=by
 intro value slice pins s σ H x y v u Q I rx ry h hs;obtain⟨p,xs,i,z,rfl,rfl,hq,he,q⟩:=h;cases rx
 obtain⟨t,rfl⟩:=ry;obtain⟨aq,r,pl,hz⟩:=I.list hq;obtain⟨j,h1,h2,h3,h4,h5⟩:=zD he;obtain⟨w,ew,jx⟩:=r.get h2;have hl:=r.length;have hn:=sg;have fin:EP X pins σ Q w s:=⟨z,H,I,jx,q⟩
 by_cases h0:0 <= i
 ·have hj:i.toNat=j:=by
   rw[seqIndex_of h0 h5] at h1;exact Yh h1
  exact item_listR pl.isList h0 (by omega) (by rw[hj];simpa using ew) fin hs
 ·have hj:(i + (aq.toArray.size:Int)).toNat=j:=by
   rw[seqIndex_neg (by omega) h4] at h1;rw[wO,<-hl];exact Yh h1
  exact subscriptTail_builtinR (x:=w) pl.isList.typeIs slot_list_getitem.lookup
   (wpAny_getItem_list_neg (Q:=fun r s'=>r=w/\EP X pins σ Q r s') pl.isList (by omega) (by rw[wO]<;>omega) (by omega) (by rw[hj];simpa using ew) ⟨rfl,fin⟩) hs
theorem Fb:sv X (qo X.K):=by
 intro value slice pins s σ H x y v u Q I rx ry h hs;obtain⟨p,xs,i,z,rfl,rfl,hq,he,q⟩:=h;cases rx
 obtain⟨t,rfl⟩:=ry;obtain⟨aq,r,pl,hz⟩:=I.tuple hq;obtain⟨j,h1,h2,h3,h4,h5⟩:=zD he;obtain⟨w,ew,jx⟩:=r.get h2;have hl:=r.length;have hn:=sg;have fin:EP X pins σ Q w s:=⟨z,H,I,jx,q⟩
 exact subscriptTail_builtinR (x:=w) pl.typeIs slot_tuple_getitem.lookup
  (getItem_tuple (j:=j) (Q:=fun r s'=>r=w/\EP X pins σ Q r s') pl (by omega) (by omega) (by rw[wO,<-hl];exact h1) (by simpa using ew) ⟨rfl,fin⟩) hs
theorem Nx:sv X zH:=by
 intro value slice pins s σ H x y v u Q I rx ry h hs;obtain⟨z,i,c,rfl,rfl,hz,he,q⟩:=h;obtain⟨t,rfl⟩:=rx;obtain⟨t',rfl⟩:=ry;obtain⟨j,h1,h2,h3,h4,h5⟩:=zD he;have hl:z.cps.toList.length=z.length:=by simp[Str.length]
 rw[hl] at h1 h4 h5;have hn:=sg
 exact tail_any (typeIs_str s z t) slot_str_getitem.lookup (getItem_str (c:=c) (by
  have e1:decide (i < -(2 ^ 63:Int))=false:=Xp (by omega);have e2:decide (i ≥ 2 ^ 63)=false:=Xp (by omega)
  rw[e1,e2,Bool.or_false]) (by rw[h1];simpa using h2) ⟨.str ⟨#[c]⟩,H,I.tok _,⟨_,rfl⟩,q⟩) hs
theorem Ny (aq:List Value) (n j:Nat) (u:Value):Obj.mapSeq (·.setIfInBounds j u) { cls := .type "list",data := .seq aq.toArray n }={ cls := .type "list",data := .seq (aq.set j u).toArray n }:=by
 simp[Obj.mapSeq]
theorem Inv.lst {pins:List (Addr × Obj)} {σ : St} {H:Hp} {s:Shared} {p:Addr} {xs:List V} (I:Inv X pins σ H s) (h:H p=some (.lst xs)) :
  ∃ (aq:List Value) (n:Nat),Vals xs aq/\s.heap.get? p=some { cls := .type "list",data := .seq aq.toArray n }/\xs.length <= sizeLine:=by
 obtain⟨z,aq,n,r,e⟩:=I.aM p _ h;exact⟨aq,n,r,e,z⟩
theorem Inv.qp {pins:List (Addr × Obj)} {σ : St} {H:Hp} {s:Shared} {p:Addr} {xs ys:List V} {aq its':List Value} {n n':Nat} {f:Obj->Obj} (I:Inv X pins σ H s) (h:H p=some (.lst xs))
  (ho:s.heap.get? p=some { cls := .type "list",data := .seq aq.toArray n }) (hf:f { cls := .type "list",data := .seq aq.toArray n }={ cls := .type "list",data := .seq its'.toArray n' }) (r:Vals ys its') (hz:ys.length <= sizeLine) (t:Nat) :
  Inv X pins σ (upd H p (.lst ys)) { s with heap:=s.heap.update p f,toks:=t }:=by
 have e:(s.heap.update p f).get? p=some { cls := .type "list",data := .seq its'.toArray n' }:=by
  rw[q0g f ho (by rw[hf]<;>rfl),hf]
 refine I.write (x:=p) (e:=p) (by rw[h];trivial) (.inl rfl) (fun b u hb q=>(Heap.get?_update_other _ _ (q0j hb)).trans q) ⟨_,e⟩ ?_;exact⟨hz,its',n',r,e⟩
noncomputable def Fc:V->V->V->Hp->(Hp->Prop)->Prop:=fun o i v H Q=>∃ p xs k j,o = .ref p/\i = .int k/\H p=some (.lst xs)/\i9 xs.length k=some j/\Q (upd H p (.lst (xs.set j v)))
theorem set_list:qd X Fc:=by
 intro pins s σ H o i v ov iv u Q I ro ri rv h;obtain⟨p,xs,k,j,rfl,rfl,hp,hj,q⟩:=h;cases ro
 obtain⟨t,rfl⟩:=ri;obtain⟨aq,n,r,ho,hz⟩:=I.lst hp;obtain⟨h1,h2,h3,h4⟩:=E9 hj;have hl:=r.length;have hn:=sg
 have I':Inv X pins σ (upd H p (.lst (xs.set j v))) { s with heap:=s.heap.update p (Obj.mapSeq (·.setIfInBounds j u)) } :=
  I.qp hp ho (Ny aq n j u) (r.set rv j) (by rw[Y9];exact hz) s.toks
 by_cases h0:0 <= k
 ·have hk:k.toNat=j:=by
   rw[seqIndex_of h0 h4] at h1;exact Yh h1
  exact PySem.W.ki_setAt ho h0 (by omega) (by rw[wO,<-hl];exact h4) (by rw[hk];exact⟨_,I',q⟩)
 ·have hk:(k + (aq.toArray.size:Int)).toNat=j:=by
   rw[seqIndex_neg (by omega) h3] at h1;rw[wO,<-hl];exact Yh h1
  exact PySem.W.ki_setBack ho (by omega) (by rw[wO,<-hl];exact h3) (by omega) (by rw[hk];exact⟨_,I',q⟩)
theorem Nz (lo hi:Option Int) (n:Nat):(sliceBounds lo hi none n).1=((HT.bj n 0 lo:Nat):Int)/\(sliceBounds lo hi none n).2.1=((HT.bj n n hi:Nat):Int)/\(sliceBounds lo hi none n).2.2=1:=by
 refine⟨?_,?_,rfl⟩
 ·cases lo with
  | none=>simp[sliceBounds,HT.bj]
  | some i =>
   simp only[sliceBounds,HT.bj,q0O,show (1:Int) > 0 by decide,Z0]
   by_cases h:i < 0
   ·simp only[h,Z0]<;>omega
   ·simp only[h,YS]<;>omega
 ·cases hi with
  | none=>simp[sliceBounds,HT.bj]
  | some i =>
   simp only[sliceBounds,HT.bj,q0O,show (1:Int) > 0 by decide,Z0]
   by_cases h:i < 0
   ·simp only[h,Z0]<;>omega
   ·simp only[h,YS]<;>omega
theorem NA (aq:List Value) (lo hi:Option Int):slicePick aq.toArray lo hi none=((aq.drop (HT.bj aq.length 0 lo)).take (HT.bj aq.length aq.length hi - HT.bj aq.length 0 lo)).toArray:=by
 obtain⟨h1,h2,h3⟩:=Nz lo hi aq.toArray.size;unfold slicePick;rw[h1,h2,h3];simp only[sliceRange_one,pick_run,wO]<;>rfl
noncomputable def zI (K:PySem.W.Frag):V->Option Int->Option Int->Hp->VK->Prop:=fun x lo hi H Q=>∃ a xs,x = .ref a/\bz K H a xs/\∀ p,H p=none->Q (.ref p) (upd H p (.lst (cU xs lo hi)))
theorem gw:m9 X (zI X.K):=by
 intro pins s σ H x v vl vu lo hi sl Q I rx hs pl pu h;obtain⟨a,xs,rfl,hx,q⟩:=h;cases rx
 obtain⟨aq,r,ht,hz⟩:=I.list hx;have hlen:=r.length;refine⟨"list",_,slot_list_getitem.lookup,ht.isList.typeIs,?_⟩;refine wpAny_getItem_list_slice ht.isList hs pl pu .none (by simp) ?_ (by rw[wO]<;>omega);rw[NA,<-hlen];refine⟨.ref s.heap.objs.size,_,I.laid (t':=s.toks) (o := .lst (cU xs lo hi)) (fun b ob q=>qw _ q) (uu _) ?_,rfl,q _ (I.aM.fresh (uu _))⟩;exact⟨Yw (E8 xs lo hi) hz,_,0,(r.drop (HT.bj xs.length 0 lo)).take (HT.bj xs.length xs.length hi - HT.bj xs.length 0 lo),Xr _ rfl⟩
theorem Fd:gu X (.builtin "len") (fun xs H Q=>∃ p ys,xs=[.ref p]/\(bz X.K H p ys\/bF X.K H p ys)/\Q (.int ys.length) H):=by
 intro pins s σ H xs us Q I r h;obtain⟨p,ys,rfl,hq,q⟩:=h;obtain⟨u,rfl,rx⟩:=vals1 r;cases rx
 have hn:=sg;rcases hq with hq | hq
 ·obtain⟨aq,r',pl,hz⟩:=I.list hq
  have hlen:=r'.length;exact Calls.call_len_list pl.isList (by simp only[wO]<;>omega) ⟨.int ys.length,H,I.tok _,⟨s.toks + 1,by rw[wO,hlen]⟩,q⟩
 ·obtain⟨aq,r',pl,hz⟩:=I.tuple hq
  have hlen:=r'.length;exact len_tuple pl (by simp only[wO]<;>omega) ⟨.int ys.length,H,I.tok _,⟨s.toks + 1,by rw[wO,hlen]⟩,q⟩
theorem NB:gu X (.builtin "len") (fun xs H Q=>∃ z,xs=[.str z]/\z.length <= sizeLine/\Q (.int z.length) H):=by
 intro pins s σ H xs us Q I r h;obtain⟨z,rfl,hz,q⟩:=h;obtain⟨u,rfl,t,rfl⟩:=vals1 r;have hn:=sg;exact len_str (by omega) ⟨.int z.length,H,I.tok _,⟨_,rfl⟩,q⟩
theorem NC:gu X (.type "list") (fun xs H Q=>∃ p ys,xs=[.ref p]/\(bz X.K H p ys\/bF X.K H p ys)/\∀ l,H l=none->Q (.ref l) (upd H l (.lst ys))):=by
 intro pins s σ H xs us Q I r h;obtain⟨p,ys,rfl,hq,q⟩:=h;obtain⟨u,rfl,rx⟩:=vals1 r;cases rx
 have fin:∀ (aq:List Value),Vals ys aq->ys.length <= sizeLine->∀ (h':Heap) (c':Nat),(∀ b o',s.heap.get? b=some o'->h'.get? b=some o') →
   h'.get? s.heap.objs.size=some { cls := .type "list",dict:=none,data := .seq aq.toArray c',slots := #[] }->EP X pins σ Q (.ref s.heap.objs.size) { s with heap:=h' }:=fun aq r' hz h' c' kp e =>
  ⟨.ref s.heap.objs.size,_,I.laid (t':=s.toks) kp (uu _) (show aO X.prog X.w _ h' _ (.lst ys) from ⟨hz,aq,c',r',e⟩),rfl,q _ (I.aM.fresh (uu _))⟩
 rcases hq with hq | hq
 ·obtain⟨aq,r',pl,hz⟩:=I.list hq
  have hlen:=r'.length;obtain⟨o,ho,hc,n,hd⟩:=pl.isList;exact call_list_seq p (.inl rfl) ho hc hd (fun h' c' kp e=>fin aq r' hz h' c' kp e) (by simp only[wO]<;>omega)
 ·obtain⟨aq,r',pl,hz⟩:=I.tuple hq
  have hlen:=r'.length;obtain⟨o,ho,hc,n,hd⟩:=pl;exact call_list_seq p (.inr rfl) ho hc hd (fun h' c' kp e=>fin aq r' hz h' c' kp e) (by simp only[wO]<;>omega)
theorem Fe:gu X (.type "tuple") (fun xs H Q=>∃ p ys,xs=[.ref p]/\((bz X.K H p ys/\∀ l,H l=none->Q (.ref l) (upd H l (.tup ys)))\/(bF X.K H p ys/\Q (.ref p) H))):=by
 intro pins s σ H xs us Q I r h;obtain⟨p,ys,rfl,h⟩:=h;obtain⟨u,rfl,rx⟩:=vals1 r;cases rx
 rcases h with⟨hq,q⟩ | ⟨hq,q⟩
 ·obtain⟨aq,r',pl,hz⟩:=I.list hq
  have hlen:=r'.length;refine call_tuple_list pl.isList (fun h' kp => ?_) (by simp only[wO]<;>omega);have I1:Inv X pins σ H { s with heap:=h' }:=I.kept (t':=s.toks) kp
  have I2:Inv X pins σ (upd H h'.objs.size (.tup ys)) { s with heap:=h'.push { cls := .type "tuple",data := .seq aq.toArray } } :=
   I1.laid (t':=s.toks) (fun b o e=>qw _ e) (uu _) (show aO X.prog X.w _ _ _ (.tup ys) from ⟨hz,aq,r',IsTup.new _ _⟩)
  exact⟨.ref h'.objs.size,_,I2,rfl,q _ (I1.aM.fresh (uu _))⟩
 ·obtain⟨aq,r',pl,hz⟩:=I.tuple hq
  exact call_tuple_same pl ⟨.ref p,H,I,rfl,q⟩
noncomputable def Ff (K:PySem.W.Frag) (T:String) (x:V) (H:Hp):Prop:=match x with
 | .str _=>T = "str"
 | .int _=>T = "int"
 | .ref p=>(T = "list" /\ ∃ xs,bz K H p xs)\/(T = "tuple" /\ ∃ o,K.lookup p=some o/\o.cls = .type "tuple" /\ o.dict=none) ∨
   (T = "dict" /\ ((∃ af,H p=some (.dK af))\/∃ af,H p=some (.dT af)))\/(T = "set" /\ ∃ S n,H p=some (.set S n))
 | _=>False
theorem ND {pins:List (Addr × Obj)} {σ : St} {H:Hp} {s:Shared} {T:String} {x:V} {v:Value} (I:Inv X pins σ H s) (r:RelV x v) (ty:Ff X.K T x H) :
  s.TypeIs v T/\∀ a,v = .ref a->∃ ob,s.heap.get? a=some ob/\ob.dict=none:=by
 cases x with
 | str z =>
  obtain⟨t,rfl⟩:=r;cases (show T = "str" from ty)
  exact⟨typeIs_str s z t,fun _ e=>nomatch e⟩
 | int i =>
  obtain⟨t,rfl⟩:=r;cases (show T = "int" from ty)
  exact⟨typeIs_int s i t,fun _ e=>nomatch e⟩
 | ref p =>
  cases r
  rcases ty with⟨rfl,xs,hq⟩ | ⟨rfl,o,hk,hc,hd⟩ | ⟨rfl,hk⟩ | ⟨rfl,S,n,hk⟩
  ·obtain⟨aq,_,pl,_⟩:=I.list hq
   refine⟨pl.isList.typeIs,fun a e => ?_⟩;cases e
   obtain⟨o,n,e,c,hd,_⟩:=pl;exact⟨o,e,hd⟩
  ·refine⟨⟨o,I.gW p o hk,hc⟩,fun a e => ?_⟩
   cases e
   exact⟨o,I.gW _ o hk,hd⟩
  ·have z:∃ o,s.heap.get? p=some o/\o.ExactDict:=by
    rcases hk with⟨af,hk⟩ | ⟨af,hk⟩
    ·obtain⟨_,_,_,_,o,_,_,e,ex,_⟩:=I.aM p _ hk
     exact⟨o,e,ex⟩
    ·obtain⟨_,_,_,_,o,_,_,e,ex,_⟩:=I.aM p _ hk
     exact⟨o,e,ex⟩
   obtain⟨o,e,ex⟩:=z;refine⟨⟨o,e,ex.1⟩,fun a e2 => ?_⟩;cases e2
   exact⟨o,e,ex.2.1⟩
  ·obtain⟨o,_,_,_,e,ex,_⟩:=I.aM p _ hk
   refine⟨⟨o,e,ex.1⟩,fun a e2 => ?_⟩;cases e2
   exact⟨o,e,ex.2.1⟩
 | _=>exact False.elim ty
noncomputable def qq (K:PySem.W.Frag) (T:String) (r:V->List V->Hp->VK->Prop) (to:TE) (t:TA):TE:=fun σ H Q=>to σ H fun x H1=>Ff K T x H1/\t σ H1 fun xs H2=>r x xs H2 Q
variable {o e:Expr} {es:List Expr} {to:TE} {t:TA} {name:Str} {apos bQ:Pos} {T id:String} {r:V->List V->Hp->VK->Prop}
theorem NF (pa:PlainAttrs T) (slot:Slot T name id) (zJ:typeOf (.builtin id)=pure (.type "method_descriptor")) (hm:zF X id r) (ho:PE X o to) (ha:PA X (e :: es) t)
  (kL:attributeBase o name X.env (eval o X.env)=eval o X.env:=by rfl)
  (qr:((backTo bQ (starEach (e :: es) X.env)).all (fun x => !x.1) && (backToKw bQ (keywordEach [] X.env)).all (fun x=>x.1.isSome)
   && decide ((e :: es).length + ([]:List Keyword).length + (if ([]:List Keyword).isEmpty then 0 else 1) < 30))=true:=by rfl)
  (kM:(apos.endLine == bQ.line)=true:=by rfl) (hs:starEach (e :: es) X.env=(false,eval e X.env) :: starEach es X.env:=by rfl) (hplain:(backTo bQ (starEach es X.env)).any (·.1)=false:=by rfl) :
  PE X (.Call (.Attribute o name apos) (e :: es) [] bQ) (qq X.K T r to t):=by
 intro pins s σ H Q I h;refine wpAny_Call_method_late kL qr kM rfl (a0 (ho pins s σ H _ I h) fun v s1 ⟨x,H1,I1,r1,ty,q1⟩ => ?_);obtain⟨h1,h2⟩:=ND I1 r1 ty;refine⟨T,id,pa,slot,zJ,h1,h2,?_⟩;have hA:=ha bQ pins s1 σ H1 _ I1 q1;rw[hs] at hA ⊢;refine Calls.callWith_builtin (by show (false || (backTo bQ (starEach es X.env)).any (·.1))=false;rw[hplain]<;>rfl) (Calls.evalArgs_plain ?_);exact a0 hA fun us s2 h0_ => el5 h0_ fun vs H2 I2 r2 q2 =>hm pins s2 σ H2 x vs v us Q I2 r1 r2 q2
end
noncomputable def zK (X:Cx) (id:String) (r:V->List V->Hp->VK->Prop):Prop :=
 ∀ (pins:List (Addr × Obj)) (s:Shared) (σ : St) (H:Hp) (x:V) (xs:List V) (v:Value) (us:List Value) (Q:VK),Inv X pins σ H s->RelV x v->Vals xs us->r x xs H Q →
  wpAny (model X.prog X.w) X.A (call (.builtin id) (v :: us)) (EP X pins σ Q) X.xe s
theorem Vals.one:∀ {x:V} {us:List Value},Vals [x] us->∃ u,us=[u]/\RelV x u:=by
 intro x us h
 cases h with
 | cons r h=>cases h;exact⟨_,rfl,r⟩
theorem Vals.two:∀ {x y:V} {us:List Value},Vals [x,y] us->∃ u v,us=[u,v]/\RelV x u/\RelV y v:=by
 intro x y us h
 cases h with
 | cons r h =>
  obtain⟨v,rfl,q⟩:=Vals.one h;exact⟨_,_,rfl,r,q⟩
theorem Vals.eraseIdx:∀ {xs:List V} {us:List Value} (i:Nat),Vals xs us->Vals (xs.eraseIdx i) (us.eraseIdx i)
 | _,_,_,.nil => .nil
 | _,_,0,.cons _ t=>t
 | _,_,i + 1,.cons r t => .cons r (Vals.eraseIdx i t)
theorem Vals.rep {xs:List V} {us:List Value} (h:Vals xs us):∀ k:Nat,Vals (List.replicate k xs).flatten (List.replicate k us).flatten
 | 0 => .nil
 | k + 1=>by
  rw[YX,YX,ZW,ZW];exact Vals.append h (Vals.rep h k)
theorem Fg {α : Type}:∀ (l:List α) (i:Nat),(l.eraseIdx i).length <= l.length
 | [],_=>uu _
 | _ :: _,0=>q1f _
 | _ :: r,i + 1=>Nat.succ_le_succ (Fg r i)
theorem foldl_rep (aq:List Value):∀ (k:Nat) (acc:List Value),
  List.foldl (fun x1 x2=>x1 ++ x2) acc.toArray (List.replicate k aq.toArray)=(acc ++ (List.replicate k aq).flatten).toArray
 | 0,acc=>by simp
 | k + 1,acc=>by
  have e:acc.toArray ++ aq.toArray=(acc ++ aq).toArray:=by simp
  have e2:(acc ++ aq) ++ (List.replicate k aq).flatten=acc ++ (List.replicate (k + 1) aq).flatten:=by
   rw[YX,ZW,ZC]
  rw[<-e2,<-foldl_rep aq k (acc ++ aq),<-e,YX,ZS]
section
variable {X:Cx} {pins:List (Addr × Obj)} {σ : St} {H:Hp} {s:Shared} {l b:Addr} {xs ys zs:List V}
theorem Inv.qt {aq its':List Value} {n:Nat} {f:Array Value->Array Value} {t':Nat} (I:Inv X pins σ H s) (hH:H l=some (.lst xs))
  (e:s.heap.get? l=some { cls := .type "list",data := .seq aq.toArray n }) (hf:f aq.toArray=its'.toArray) (hv:Vals ys its') (hz:ys.length <= sizeLine) :
  Inv X pins σ (upd H l (.lst ys)) { s with heap:=s.heap.update l (Obj.mapSeq f),toks:=t' }:=by
 have q:=PySem.IsL.update e f;rw[hf] at q;refine I.write (x:=l) (e:=l) (by rw[hH];exact trivial) (.inl rfl) (fun b' u hb hu=>(Heap.get?_update_other s.heap (Obj.mapSeq f) (q0j hb)).trans hu) ⟨_,q⟩ ?_;exact⟨hz,its',_,hv,q⟩
theorem Inv.cA {aq:List Value} {t':Nat} (I:Inv X pins σ H s) (hv:Vals ys aq) (hz:ys.length <= sizeLine) :
  Inv X pins σ (upd H s.heap.objs.size (.lst ys)) { s with heap:=s.heap.push { cls := .type "list",data := .seq aq.toArray },toks:=t' } :=
 I.laid (fun _ _ q=>qw _ q) (uu _) ⟨hz,aq,0,hv,Xr _ rfl⟩
theorem Inv.fresh (I:Inv X pins σ H s):H s.heap.objs.size=none:=I.aM.fresh (uu _)
theorem Inv.iL (I:Inv X pins σ H s) (hH:H l=some (.lst xs)):xs.length <= sizeLine/\∃ (aq:List Value) (n:Nat),Vals xs aq/\xs.length=aq.length/\s.heap.get? l=some { cls := .type "list",data := .seq aq.toArray n }:=by
 obtain⟨z,aq,n,r,e⟩:=I.aM l _ hH;exact⟨z,aq,n,r,r.length,e⟩
theorem Fh {n:Nat} (h:n <= sizeLine):Builtin.List.listTooLong n=false:=by
 unfold Builtin.List.listTooLong;exact Xp (by omega)
end
section
variable {X:Cx}
noncomputable def wN:V->List V->Hp->VK->Prop:=fun x vs H Q=>∃ l xs y,x = .ref l/\vs=[y]/\H l=some (.lst xs)/\xs.length < sizeLine/\Q .non (upd H l (.lst (xs ++ [y])))
theorem sx:zK X "list.append" wN:=by
 intro pins s σ H x vs v us Q I rx rv h;obtain⟨l,xs,y,rfl,rfl,hH,hz,q⟩:=h;cases rx
 obtain⟨u,rfl,ru⟩:=rv.one;obtain⟨z,aq,n,r,hl,e⟩:=I.iL hH;refine q1E F.slot_list_append ⟨_,e,rfl⟩ F.entry_list_append (F.args_list_append_2 _ _) (PySem.list_append l aq.toArray n u (by rw[wO];omega)) ⟨e,?_⟩;refine⟨.non,_,I.qt (its':=aq ++ [u]) hH e (by simp) (r.append (.cons ru .nil)) ?_,rfl,q⟩;rw[Fv,Yi];omega
noncomputable def Fi:V->List V->Hp->VK->Prop:=fun x vs H Q=>∃ l b xs zs,x = .ref l/\vs=[.ref b]/\H l=some (.lst xs)/\H b=some (.lst zs)/\xs.length + zs.length <= sizeLine/\Q .non (upd H l (.lst (xs ++ zs)))
theorem NG:zK X "list.extend" Fi:=by
 intro pins s σ H x vs v us Q I rx rv h;obtain⟨l,b,xs,zs,rfl,rfl,hH,hB,hz,q⟩:=h;cases rx
 obtain⟨u,rfl,ru⟩:=rv.one;cases ru
 obtain⟨z,aq,n,r,hl,e⟩:=I.iL hH;obtain⟨z2,bc,n2,r2,sy,e2⟩:=I.iL hB;have hsz:aq.toArray.size + bc.toArray.size <= sizeLine:=by rw[wO,wO];omega
 have kN:¬ (!aq.toArray.isEmpty && Builtin.List.listTooLong (aq.toArray.size + bc.toArray.size))=true:=by
  rw[Fh hsz,Bool.and_false];exact X8
 refine q1E F.slot_list_extend ⟨_,e,rfl⟩ F.entry_list_extend (F.args_list_extend_2 _ _)
  (AutoSeq1.list_extend_list_list_0 l aq.toArray n b bc.toArray n2 kN (by rw[wO];omega) (by omega)) ⟨e,e2,?_⟩
 refine⟨.non,_,I.qt (its':=aq ++ bc) hH e (by simp) (r.append r2) ?_,rfl,q⟩;rw[Fv];omega
noncomputable def Fj:V->List V->Hp->VK->Prop:=fun x vs H Q=>∃ l xs i k y,x = .ref l/\vs=[.int i]/\H l=some (.lst xs) /\ -(2 ^ 63) <= i/\i < 2 ^ 63/\seqIndex? i xs.length=some k/\xs[k]? = some y/\Q y (upd H l (.lst (xs.eraseIdx k)))
theorem Fl:zK X "list.pop" Fj:=by
 intro pins s σ H x vs v us Q I rx rv h;obtain⟨l,xs,i,k,y,rfl,rfl,hH,h1,h2,hk,hy,q⟩:=h;cases rx
 obtain⟨u,rfl,ru⟩:=rv.one;obtain⟨t,rfl⟩:=ru;obtain⟨z,aq,n,r,hl,e⟩:=I.iL hH;obtain⟨w,hw,jx⟩:=r.get hy
 refine q1E F.slot_list_pop ⟨_,e,rfl⟩ F.entry_list_pop (F.args_list_pop_2 _ _)
  (MeetsSeq.list_pop_at l aq.toArray n i t k w (fitsIndex_both h1 h2) (by rw[wO,<-hl];exact hk) (by rw[<-Yg];exact hw) (by rw[wO];omega)) ⟨e,?_⟩
 refine⟨y,_,I.qt (its':=aq.eraseIdx k) hH e ?_ (r.eraseIdx k) ?_,jx,q⟩
 ·show aq.toArray.eraseIdxIfInBounds k=(aq.eraseIdx k).toArray
  rw[List.eraseIdxIfInBounds_toArray]
 ·have:=Fg xs k
  omega
noncomputable def zL:R2:=fun x y H Q=>∃ l b xs zs,x = .ref l/\y = .ref b/\H l=some (.lst xs)/\H b=some (.lst zs)/\xs.length + zs.length <= sizeLine/\∀ p,H p=none->Q (.ref p) (upd H p (.lst (xs ++ zs)))
theorem Fm:cP X (binaryOp .Add) zL:=by
 intro pins s σ H x y v u Q I rx ry h;obtain⟨l,b,xs,zs,rfl,rfl,hH,hB,hz,q⟩:=h;cases rx
 cases ry
 obtain⟨z,aq,n,r,hl,e⟩:=I.iL hH;obtain⟨z2,bc,n2,r2,sy,e2⟩:=I.iL hB;refine PySem.P.add_list e e2 ?_ (by rw[wO,wO];omega);have ea:aq.toArray ++ bc.toArray=(aq ++ bc).toArray:=by simp
 rw[ea];exact⟨.ref _,_,I.cA (t':=s.toks) (r.append r2) (by rw[Fv];omega),rfl,q _ I.fresh⟩
noncomputable def zM:R2:=fun x y H Q=>∃ l k xs,x = .ref l/\y = .int k/\H l=some (.lst xs) /\ -(2 ^ 63) <= k/\k < 2 ^ 63/\xs.length * k.toNat <= sizeLine ∧
 ∀ p,H p=none->Q (.ref p) (upd H p (.lst (List.replicate k.toNat xs).flatten))
theorem len_rep {α : Type} (xs:List α) (k:Nat):(List.replicate k xs).flatten.length=k * xs.length:=by
 induction k with
 | zero=>simp
 | succ k ih=>rw[YX,ZW,Fv,ih,Nat.succ_mul,Nat.add_comm]
theorem NH:cP X (binaryOp .Mult) zM:=by
 intro pins s σ H x y v u Q I rx ry h;obtain⟨l,k,xs,rfl,rfl,hH,h1,h2,hz,q⟩:=h;cases rx
 obtain⟨t,rfl⟩:=ry;obtain⟨z,aq,n,r,hl,e⟩:=I.iL hH;have hlen:aq.toArray.size * k.toNat <= sizeLine:=by rw[wO,<-hl];exact hz
 have zN:¬ aq.toArray.size * k.toNat > (2 ^ 63 - 1) / 8:=by
  have:(sizeLine:Nat) <= (2 ^ 63 - 1) / 8:=by decide
  omega
 have zO:¬ (!Builtin.List.listFitsIndex k)=true:=by
  rw[fitsIndex_both h1 h2];exact X8
 have kN:¬ Builtin.List.listTooLong (aq.toArray.size * k.toNat)=true:=by
  rw[Fh hlen];exact X8
 have zP:List.foldl (fun x1 x2=>x1 ++ x2) #[] (List.replicate (if aq.toArray.isEmpty=true then 0 else k.toNat) aq.toArray)=(List.replicate k.toNat aq).flatten.toArray:=by
  have f0:∀ m:Nat,List.foldl (fun x1 x2=>x1 ++ x2) #[] (List.replicate m aq.toArray)=(List.replicate m aq).flatten.toArray:=fun m=>by
   have:=foldl_rep aq m [];rw[List.nil_append] at this;exact this
  rw[f0]
  cases aq with
  | nil=>simp
  | cons a r'=>rw[NM (by simp)]
 refine wpAny_binaryOp_repeat_ref (T := "list") (U := "int") (by decide) ⟨_,e,rfl⟩ (fun s'=>typeIs_int s' k t) noFill_list_mul F.fills_int_mul F.slot_int_rmul repeat_list F.slot_int_index.lookup
  (q1E F.slot_int_rmul (typeIs_int s k t) F.entry_int_rmul (F.args_int_rmul_2 _ _) (int___rmul___int_list k t l aq.toArray n)
   ⟨e,rfl,⟨_,e,rfl⟩,q1E F.slot_list_mul ⟨_,e,rfl⟩ F.entry_list_mul (F.args_list_mul_2 _ _) (AutoListH.list___mul___list_int_3 l aq.toArray n k t zO zN kN) ⟨e,?_⟩⟩)
 rw[zP];exact⟨.ref _,_,I.cA (t':=s.toks) (r.rep k.toNat) (by rw[len_rep,Nat.mul_comm];exact hz),rfl,q _ I.fresh⟩
end
section
variable {prog:Program} {w:World} {A:Around} {E:Value->Shared->Prop} {s:Shared}
end
section
variable {X:Cx}
end
end L2
namespace Att
open PySem PySem.W PySem.Calls PyProof.Rows
theorem eQ {P:Params} {h:Heap}:∀ (ns:List Int) (vs:List Value),WellAll P h vs (ns.map WData.int)->IntsAre vs ns:=by
 intro ns
 induction ns with
 | nil =>
  intro vs w;rw[Zw] at w;cases w
  exact .nil
 | cons n ns ih =>
  intro vs w;rw[Yd] at w
  cases w with
  | cons a b =>
   cases a
   exact .cons _ _ (ih _ b)
theorem jy {l:OpenLaw} {n:Nat} (hn:l.most=some n) {P:Params} {h:Heap} {args:List WData} {vals:List Value}
  (m_:l.row.toRowW.claim.pre args=true) (zQ:WellAll P h vals args) :
  ∃ a vs ns,vals=[Value.ref a]/\args=[WData.list (ns.map WData.int)]/\h.get? a=some { cls := .type "list",data := .seq vs.toArray }/\IntsAre vs ns/\ns.length <= n:=by
 have NI:WShape.hasAll [] args [.list .int]=true:=(pre_splitW m_).1;have hc:l.pre.holds [] { args:=args }=true:=(pre_splitW m_).2;obtain⟨d,r,rfl,h1,h2⟩:=hasAllW_cons NI;obtain rfl:=hasAllW_nil h2;obtain⟨xs,rfl,h3⟩:=hasW_list h1;obtain⟨ns,rfl⟩:=items_int h3
 have hlen:ns.length <= n:=by
  unfold OpenLaw.pre at hc
  have h4:(WTm.not (.lt (.lit (.int (n:Int))) (.len (.arg 0)))).holds [] { args:=[.list (ns.map .int)] }=true:=by
   have h4:=(holds_andW hc).1;rw[hn] at h4;exact h4
  have h5:=condW_of h4 (w_not (w_lt w_lit (w_len_list (w_arg rfl))));rw[qx] at h5;refine q1n fun q => ?_;have q':(n:Int) < ((ns.length:Nat):Int):=by omega
  first
   | (rw[NN q'] at h5;exact absurd h5 (by decide))
   | (simp at h5;omega)
 cases zQ with
 | cons w1 w2 =>
  cases w2
  cases w1 with
  | list ho dI=>exact⟨_,_,ns,rfl,rfl,ho,eQ ns _ dI,hlen⟩
theorem jz (l:OpenLaw) (args:List WData):l.row.toRowW.claim.post args (.bool true) args=true :=
 postW_of (r:=l.row.toRowW) (X:=(true == true))
  (show WShape.has [] (.bool true) .bool=true by first | rfl | decide | simp[WShape.has,WShape.arms,WShape.armsAll])
  (show (WTm.eq .res (.lit (.bool true))).value [] { args:=args,res:=some (.bool true),after:=args }=some (.bool (true == true)) from w_eq_bool (w_res rfl) w_lit) rfl
theorem gZ {l:OpenLaw} {n:Nat} {q:Program} {loose:List Str} {XP:(Str->Option Value)->Heap->Prop} {YP:World->Heap->Prop} {d:DefRec}
  (hn:l.most=some n) (uv:d.params.defaults=[])
  (call:∀ (w:World) (s₀ s₁ : Shared) (mg mb:Str->Option Value) (fa:Addr) (o:Obj) (pm cd doc:Value) (a:Addr) (vs:List Value) (ns:List Int),
   Ground q loose [] XP w s₀ mg mb s₁.heap->YP w s₁.heap →
   s₁.heap.get? fa=some o->o.data = .func (docDef d.name d.params d.body d.scope pm cd doc)->s₁.heap.CodeRec cd d.name->mg d.name=some (.ref fa) →
   s₁.heap.get? a=some { cls := .type "list",data := .seq vs.toArray }->IntsAre vs ns->ns.length <= n->s₁.gens = #[] →
   codeAny (model l.prog w) callerA (.call (.ref fa) ⟨[.ref a],[]⟩) (fun r s'=>r = .ok (.ret (.bool true))/\OldK s₁.heap s'.heap/\s'.os=s₁.os/\AllBare s'.gens) s₁) :
  WalkO q loose XP YP l.row.toRowW d [] (fun f vs=>PySem.call f vs):=by
 intro w s₀ s₁ mg mb G Y fa o pm cd doc dV kV ho hd fh hD nh hg args vals as m_ NJ Xn zQ Xo;obtain rfl:dV = .none:=Dflts.none hD uv;obtain rfl:kV = .none:=Dflts.noKw hD;obtain⟨a,vs,ns,rfl,rfl,qu,hints,hlen⟩:=jy hn m_ zQ;refine enter_call (q04 (call w s₀ s₁ mg mb fa o pm cd doc a vs ns G Y ho (fd_plain hd) fh nh qu hints hlen hg) fun r s' hq => ?_);obtain⟨rfl,h2,h3,h4⟩:=hq;exact⟨.inl ⟨.bool true,.bool true,[],rfl,fun _=>rfl,.bool true,jz l _,fun _=>⟨List.Pairwise.nil,fun _ hm=>(nomatch hm)⟩⟩,h2,h3,h4⟩
section
variable {prog:Program} {w:World} {A:Around} {E:Value->Shared->Prop} {s:Shared} {K:Frag}
end
end Att
namespace L2
open PySem PySem.Spec PyProof.Rows
theorem Fp:∀ {vs:List Value} {ns:List Int},IntsAre vs ns->Vals (ns.map V.int) vs
 | _,_,.nil => .nil
 | _,_,.cons n t h => .cons ⟨t,rfl⟩ (Fp h)
noncomputable def jY (s:Stmt):Arguments:=match s with
 | .FunctionDef _ a _ _ _ _ _ _ _ _=>a
 | _=>{ posonlyargs:=[],args:=[],vararg:=none,kwonlyargs:=[],kw_defaults:=[],kwarg:=none,defaults:=[] }
noncomputable def gx (s:Stmt):List Stmt:=match s with
 | .FunctionDef _ _ b _ _ _ _ _ _ _=>b
 | _=>[]
noncomputable def cV (s:Stmt):Scope:=match s with
 | .FunctionDef _ _ _ _ _ _ sc _ _ _=>sc
 | _=>{ kind := .function,names:=[],isGenerator:=false,isCoroutine:=false }
noncomputable abbrev f9:ju:=fun _ _ _ _ _ _=>False
noncomputable abbrev E0:XK:=fun _ _ _=>False
theorem wQ {X:Cx}:wK f9 X E0:=fun _ _ _ _ _ _ _ h=>h.elim
structure g5 (K:PySem.W.Frag) (x qual:Str) (st:Stmt) (f:Addr) (fd:FuncData):Prop where
 ex:∃ (oc:Value) (od:Option Addr) (kV doc pm:Value) (an:Option Addr) (ba ct:Value) (mX:Array (Option Value)),
  fd=PySem.W.fnOf x qual (jY st) (gx st) (cV st) .none kV doc pm an ba ct/\K.lookup f=some ⟨oc,od,.func fd,mX⟩/\PySem.W.codeIn K ba qual=true
 kp:PySem.W.keepIn K (.ref f)=true
section
variable {P:Program} {w:World} {K:PySem.W.Frag} {mg:Str->Option Value} {base:Heap}
theorem g5.ok {x qual:Str} {st:Stmt} {f:Addr} {fd:FuncData} {N ps:List Str} {k:Nat} {sp:Sp} (F:g5 K x qual st f fd) (S:mV N ps (cV st)) (len:∀ vs H Q E,sp vs H Q E->vs.length=ps.length)
  (dO:∀ (ba:Value) (A:Around) (outer:List Env) (s:Shared) (H:Hp) (vs:List V) (Q:VK) (E:XK),bh k (A.deeper (envOfC qual (cV st) s.heap.objs.size f ba))->sp vs H Q E →
   ∃ t,gP (eN f9 P w K mg base N qual (cV st) f ba A outer s H E).kE (gx st) t/\t { nx:=fun _ H'=>Q .non H',rt:=Q } (start N vs) H):cS P w K mg base f9 (k + 1) f fd ps sp:=by
 obtain⟨oc,od,kV,doc,pm,an,ba,ct,mX,rfl,lk,fh⟩:=F.ex;refine ES lk fh S len fun A outer s H vs Q E hr o_ => ?_;obtain⟨t,h,q⟩:=dO ba A outer s H vs Q E hr o_;exact⟨t,h.kE,q⟩
theorem g5.binds {x qual:Str} {st:Stmt} {f:Addr} {fd:FuncData} {ps:List Str} (F:g5 K x qual st f fd)
  (h:∀ (kV doc pm:Value) (an:Option Addr) (ba ct:Value) (us:List Value),us.length=ps.length->bindArgs (PySem.W.fnOf x qual (jY st) (gx st) (cV st) .none kV doc pm an ba ct) ⟨us,[]⟩=pure (ps.zip us)):Binds K fd ps []:=by
 obtain⟨oc,od,kV,doc,pm,an,ba,ct,mX,rfl,lk,fh⟩:=F.ex;exact .all (h kV doc pm an ba ct)
theorem Fw {x qual:Str} {st:Stmt} {f:Addr} {oc:Value} {od an:Option Addr} {mX:Array (Option Value)} {kV doc pm ba ct:Value} (l:K.lookup f=some ⟨oc,od,.func (PySem.W.fnOf x qual (jY st) (gx st) (cV st) .none kV doc pm an ba ct),mX⟩)
  (c:PySem.W.codeIn K ba qual=true) (k:PySem.W.keepIn K (.ref f)=true):g5 K x qual st f (PySem.W.fnOf x qual (jY st) (gx st) (cV st) .none kV doc pm an ba ct):=⟨⟨oc,od,kV,doc,pm,an,ba,ct,mX,rfl,l,c⟩,k⟩
end
theorem qy {n:Nat} (h:n <= 1000):n < sizeLine:=q0u h (by decide)
section
variable {X:Cx}
theorem pv (i:Nat) {x:Str} {pos:Pos} (hN:X.N[i]? = some x:=by rfl) (hv:p9 X.env.scope x:=by first | exact Or.inl rfl | exact Or.inr (Or.inl rfl) | exact Or.inr (Or.inr rfl)) (hd:(x == ("__debug__" : Str))=false:=by decide)
  (fh:(x == ("__classdict__" : Str))=false:=by decide):PE X (.Name x pos) (eK i):=Er hN hv hd fh
end
noncomputable def aF (H H':Hp):Prop:=∀ b o,H b=some o->H' b=some o
theorem aF.trans {H H1 H2:Hp} (a:aF H H1) (b:aF H1 H2):aF H H2:=fun c o h=>b c o (a c o h)
theorem aF.free {H H':Hp} (e:aF H H') {l:Addr} (h:H' l=Option.none):H l=Option.none:=by
 cases q:H l with
 | none=>rfl
 | some o =>
  rw[e l o q] at h;cases h
theorem aF.seq {K:PySem.W.Frag} {H H':Hp} {a:Addr} {xs:List V} (e:aF H H') (h:bz K H a xs):bz K H' a xs:=by
 rcases h with (h | ⟨o,h⟩) | h
 ·exact .inl (.inl (e _ _ h))
 ·exact .inl (.inr ⟨o,e _ _ h⟩)
 ·exact .inr h
theorem NP {prog:Program} {w:World} {A:Around} {R:Result->Shared->Prop} {s:Shared} {elt target iter:Expr} {ifs:List Expr} {scope:Scope} {pos:Pos} {it acc:Value} {env:Env} (I:Nat->Shared->Prop)
  (turn:∀ n s,I n s->wpAny (model prog w) A (pyNext it) (fun r s₁ => match r with
   | none=>R (.ok .next) s₁
   | some v=>wpAny (model prog w) A (letOwnedTupleGo target it v) (fun _ s₂ => wpAny (model prog w) A (assign target env v) (fun _ s₃ =>
     wpAny (model prog w) A (forIn ifs true fun c r=>if r=true then do let ok <- isTrue c env (eval c env);pure (ForInStep.yield ok) else pure (ForInStep.yield r)) (fun ok s₄ =>
      if ok=true then wpAny (model prog w) A (eval elt env) (fun x s₅ =>
       wpAny (model prog w) A (call (.builtin "list.append") [acc,x]) (fun _ s₆ => ∃ m,m < n/\I m s₆) (fun _ _=>False) s₅) (fun _ _=>False) s₄
      else ∃ m,m < n/\I m s₄) (fun _ _=>False) s₃) (fun _ _=>False) s₂) (fun _ _=>False) s₁) (fun _ _=>False) s)
  (n:Nat) (h:I n s) :
  codeAny (model prog w) A (.compLoop (.ListComp elt [⟨target,iter,ifs,0⟩] scope pos) 0 it acc env) R s:=by
 refine codeAny_loop rfl I (fun n s hI => ?_) n h;show wpAny _ A ((compTurn (.ListComp elt [⟨target,iter,ifs,0⟩] scope pos) 0 it acc env).onRaise (fun x=>do noteFrame x env;theTreesLotGoes x)) _ _ s;refine wpAny_noted ?_;rw[compTurn_list];refine ni (q0f (ni (Y3 (turn n s hI) (fun r s₁ h₁ => ?_) fun _ _ h'=>False.elim h')))
 cases r with
 | none=>exact zR h₁
 | some v =>
  refine ni (Y3 h₁ (fun _ s₂ h₂ => ?_) fun _ _ h'=>False.elim h');refine ni (Y3 h₂ (fun _ s₃ h₃ => ni (Y3 h₃ (fun ok s₄ h₄ => ?_) fun _ _ h'=>False.elim h')) fun _ _ h'=>False.elim h')
  cases ok with
  | false=>exact zR ⟨rfl,h₄⟩
  | true =>
   exact ni (ni (Y3 h₄ (fun x s₄ h₄ => ni (Y3 h₄ (fun _ s₅ h₅ => zR (zR ⟨rfl,h₅⟩)) fun _ _ h'=>False.elim h')) fun _ _ h'=>False.elim h'))
theorem zS {env:Env}:∀ (names:List (Str × NameKind)) (acc:List (Str × Addr)),(∀ y∈names,y.2 = .free->∃ c,env.cells.lookup y.1=some c)->(∀ x c,acc.lookup x=some c->env.cells.lookup x=some c) →
  ∃ cl,(forIn names acc (fun (x:Str × NameKind) (cs:List (Str × Addr))=>if x.2 == NameKind.free then cellOf env x.1 >>= fun a=>pure (ForInStep.yield ((x.1,a) :: cs)) else pure (ForInStep.yield cs)):Sem (List (Str × Addr)))=pure cl ∧
   (∀ x c,cl.lookup x=some c->env.cells.lookup x=some c)/\(∀ y∈names,y.2 = .free->∃ c,cl.lookup y.1=some c)/\(∀ x c,acc.lookup x=some c->∃ c,cl.lookup x=some c)
 | [],acc,_,h2=>⟨acc,rfl,h2,fun _ hy=>absurd hy (by simp),fun x c e=>⟨c,e⟩⟩
 | (n,k) :: r,acc,h1,h2=>by
  rw[q1O]
  by_cases hk:k = .free
  ·subst hk
   obtain⟨c,hc⟩:=h1 (n,.free) NO rfl;have gX:env.cells.lookup n=some c:=hc;have ec:cellOf env n=pure c:=by unfold cellOf;rw[gX]
   have gy:∀ x d,((n,c) :: acc).lookup x=some d->env.cells.lookup x=some d:=fun x d e=>by
    rw[Yk] at e
    cases q:x == n with
    | true =>
     rw[q] at e;cases e
     rw[Y_ q];exact gX
    | false =>
     rw[q] at e;exact h2 x d e
   obtain⟨cl,e,p1,p2,p3⟩:=zS r ((n,c) :: acc) (fun y hy=>h1 y (Xu _ hy)) gy;refine⟨cl,?_,p1,fun y hy hf => ?_,fun x d e => ?_⟩
   ·dsimp only
    rw[Xs (by decide),ec];exact e
   ·rcases Xq.mp hy with rfl | hy
    ·exact p3 n c (by simp)
    ·exact p2 y hy hf
   ·cases q:x == n with
    | true=>exact p3 x c (by rw[Yk,q])
    | false=>exact p3 x d (by rw[Yk,q];exact e)
  ·obtain⟨cl,e,p1,p2,p3⟩:=zS r acc (fun y hy=>h1 y (Xu _ hy)) h2
   refine⟨cl,?_,p1,fun y hy hf => ?_,p3⟩
   ·dsimp only
    rw[NM (by simpa using hk)];exact e
   ·rcases Xq.mp hy with rfl | hy
    ·exact absurd hf hk
    ·exact p2 y hy hf
theorem zT {scope:Scope} {env:Env} (h:∀ y∈scope.names,y.2 = .free->∃ c,env.cells.lookup y.1=some c) :
  ∃ cl,closureFor scope env=pure cl/\(∀ x c,cl.lookup x=some c->env.cells.lookup x=some c)/\∀ y∈scope.names,y.2 = .free->∃ c,cl.lookup y.1=some c:=by
 obtain⟨cl,e,p1,p2,_⟩:=zS scope.names [] h (fun x c e=>by simp at e);refine⟨cl,?_,p1,p2⟩;have e':closureFor scope env=(forIn scope.names ([]:List (Str × Addr)) (fun (x:Str × NameKind) (cs:List (Str × Addr))=>if x.2 == NameKind.free then cellOf env x.1 >>= fun a=>pure (ForInStep.yield ((x.1,a) :: cs)) else pure (ForInStep.yield cs)):Sem (List (Str × Addr))) >>= pure:=rfl;rw[e',e];rfl
structure BD where
 cl:List (Str × Addr)
 C:Addr
 s:Shared
 H:Hp
 fp:List Addr
@[reducible] noncomputable def cD (X:Cx) (scope:Scope) (Nb:List Str) (d:BD):Cx where
 prog:=X.prog
 w:=X.w
 K:=X.K
 mg:=X.mg
 base:=X.base
 A:=X.A
 N:=Nb
 s₀ := d.s
 H₀ := d.H
 env:=compEnvC scope d.cl d.C X.env
 outer:=X.stack
 stack:=X.stack
 ex:=d.fp
 fn:=fun x=>decide (scope.names.lookup x=some .cell)
 calm:=X.calm
 pn:=[]
 xe:=fun _ _=>False
noncomputable def ip (cp:List (Option Nat)) (σ : St):St:=cp.map fun o=>match o with
 | some i=>(σ[i]?).join
 | none=>none
noncomputable def me (N:List Str) (wR scope:Scope) (Nb:List Str) (cp:List (Option Nat)):Bool :=
 (scope.names.all fun y=>(decide (y.2 ≠ .cell) || decide (scope.names.lookup y.1=some .cell)) && (decide (y.2 ≠ .local) || decide (scope.names.lookup y.1=some .local)) && (decide (y.2 ≠ .free) || decide (wR.names.lookup y.1=some .cell) || decide (wR.names.lookup y.1=some .free))) &&
 decide (cp.length=Nb.length) && (cp.zip Nb).all fun z=>match z.1 with
  | none=>true
  | some i=>decide (N[i]? = some z.2) && decide (scope.names.lookup z.2=some .free)
structure wU (X:Cx) (scope:Scope) (Nb:List Str) (cp:List (Option Nat)):Prop where
 kind:scope.kind = .function
 cell:∀ y∈scope.names,y.2 = .cell->scope.names.lookup y.1=some .cell
 names:∀ y∈scope.names,y.2 = .local->scope.names.lookup y.1=some .local
 free:∀ y∈scope.names,y.2 = .free->(X.env.kindOf y.1=some .cell\/X.env.kindOf y.1=some .free)
 len:cp.length=Nb.length
 uw:∀ (j i:Nat) (x:Str),cp[j]? = some (some i)->Nb[j]? = some x->X.N[i]? = some x/\scope.names.lookup x=some .free
theorem x0p {X:Cx} {scope:Scope} {Nb:List Str} {cp:List (Option Nat)} (hk:scope.kind = .function) (h:me X.N X.env.scope scope Nb cp=true):wU X scope Nb cp:=by
 unfold me at h;simp only[Yl,YV,Bool.or_eq_true,Y0] at h;obtain⟨⟨h1,h2⟩,h3⟩:=h;refine⟨hk,fun y hy e=>(h1 y hy).1.1.resolve_left (fun z=>z e),fun y hy e => ?_,fun y hy e => ?_,h2,fun j i x e1 e2 => ?_⟩
 ·rcases (h1 y hy).1.2 with z | z
  ·exact absurd e z
  ·exact z
 ·rcases (h1 y hy).2 with (z | z) | z
  ·exact absurd e z
  ·exact .inl z
  ·exact .inr z
 ·have hm:(some i,x)∈cp.zip Nb:=by
   have:(cp.zip Nb)[j]? = some (some i,x):=by
    rw[List.getElem?_zip_eq_some];exact⟨e1,e2⟩
   exact Yf this
  have:=h3 _ hm;simpa using this
theorem zU {env:Env} {x:Str}:∀ {names:List (Str × NameKind)} {k:NameKind},names.lookup x=some k →
  (names.map fun (n,k)=>if (k == NameKind.free && env.scope.kind == .function && env.kindOf n == some .cell) then (n,NameKind.cell) else (n,k)).lookup x =
   some (if (k == NameKind.free && env.scope.kind == .function && env.kindOf x == some .cell) then NameKind.cell else k)
 | [],k,h=>by simp at h
 | (n,k') :: r,k,h=>by
  have ih:=@zU env x r k;show List.lookup x ((if (k' == NameKind.free && env.scope.kind == .function && env.kindOf n == some .cell)=true then (n,NameKind.cell) else (n,k')) :: _)=_
  cases hx:x == n with
  | true =>
   simp only[Yk,hx] at h;cases h
   have e:x=n:=Y_ hx;subst e
   by_cases hc:(k' == NameKind.free && env.scope.kind == .function && env.kindOf x == some .cell)=true
   ·rw[Xs hc,Xs hc];simp[Yk]
   ·rw[NM hc,NM hc];simp[Yk]
  | false =>
   simp only[Yk,hx] at h
   by_cases hc:(k' == NameKind.free && env.scope.kind == .function && env.kindOf n == some .cell)=true
   ·rw[Xs hc];simp only[Yk,hx];exact ih h
   ·rw[NM hc];simp only[Yk,hx];exact ih h
theorem Fy {env:Env} {x:Str}:∀ {names:List (Str × NameKind)},names.lookup x=none →
  (names.map fun (n,k)=>if (k == NameKind.free && env.scope.kind == .function && env.kindOf n == some .cell) then (n,NameKind.cell) else (n,k)).lookup x=none
 | [],h=>by simp
 | (n,k') :: r,h=>by
  have ih:=@Fy env x r;show List.lookup x ((if (k' == NameKind.free && env.scope.kind == .function && env.kindOf n == some .cell)=true then (n,NameKind.cell) else (n,k')) :: _)=_
  cases hx:x == n with
  | true=>simp only[Yk,hx] at h;cases h
  | false =>
   simp only[Yk,hx] at h
   by_cases hc:(k' == NameKind.free && env.scope.kind == .function && env.kindOf n == some .cell)=true
   ·rw[Xs hc];simp only[Yk,hx];exact ih h
   ·rw[NM hc];simp only[Yk,hx];exact ih h
noncomputable def PF (X:Cx) (ifs:List Expr) (t:TT):Prop :=
 ∀ (pins:List (Addr × Obj)) (s:Shared) (σ : St) (H:Hp) (Q:Bool->Hp->Prop),Inv X pins σ H s->t σ H Q →
  wpAny (model X.prog X.w) X.A (forIn ifs true fun c r=>if r=true then do let ok <- isTrue c X.env (eval c X.env);pure (ForInStep.yield ok) else pure (ForInStep.yield r)) (TP X pins σ Q) X.xe s
noncomputable def ux:TT:=fun _ H Q=>Q true H
theorem NQ {X:Cx}:PF X [] ux:=fun _ _ _ H _ I h=>wpAny_tests_nil ⟨H,I,h⟩
theorem NR {X:Cx} {c:Expr} {t:TT} (h:PT X c t):PF X [c] t:=fun pins s σ H Q I hw=>wpAny_tests_one (h pins s σ H Q I hw)
noncomputable def NS (g:TG) (tf:TT) (te:TE) (l:Addr) (x:V) (τ : St) (H:Hp) (N:St->Hp->Prop):Prop :=
 g x τ H fun τ2 H2=>tf τ2 H2 fun b H3=>if b=true then te τ2 H3 fun y H4=>∃ ys,H4 l=some (.lst ys)/\ys.length < sizeLine/\N τ2 (upd H4 l (.lst (ys ++ [y]))) else N τ2 H3
noncomputable def FA (J:It) (g:TG) (tf:TT) (te:TE) (l:Addr) (τ0:St) (H0:Hp) (Q:VK):Prop :=
 ∃ W:Nat->Nat->St->Hp->Prop,(∃ m,W 0 m τ0 H0)/\∀ i m τ H,W i m τ H →
  (J.stop i H/\Q (.ref l) H)\/(J.go i H/\∃ N:St->Hp->Prop,(∀ τ' H',N τ' H'->∃ m',m' < m/\W (i + 1) m' τ' H')/\∀ x H',J.sd i H x H'->NS g tf te l x τ H' N)
noncomputable def qA (wi:TI) (cp:List (Option Nat)) (g:BD->TG) (tf:BD->TT) (te:BD->TE):TE:=fun σ H Q=>wi σ H fun J H1=>∀ (d:BD) (l:Addr),H1 l=none->FA J (g d) (tf d) (te d) l (ip cp σ) (upd H1 l (.lst [])) Q
theorem sC:∀ {names:List (Str × NameKind)} {n:Nat} {acc:List (Str × Addr)} {x:Str} {c:Addr},(cellsFrom n names acc).lookup x=some c->acc.lookup x=some c\/(n <= c/\(x,NameKind.cell)∈names)
 | [],n,acc,x,c,h => .inl h
 | (y,k) :: r,n,acc,x,c,h=>by
  unfold cellsFrom at h;split at h
  ·rename_i hk
   have ek:k = .cell:=Y_ hk;subst ek;rcases sC h with h | ⟨h,m⟩
   ·rw[Yk] at h
    cases q:x == y with
    | true=>rw[q] at h;cases h;rw[Y_ q];exact .inr ⟨uu _,NO ..⟩
    | false=>rw[q] at h;exact .inl h
   ·exact .inr ⟨by omega,Xu _ m⟩
  ·rcases sC h with h | ⟨h,m⟩
   ·exact .inl h
   ·exact .inr ⟨h,Xu _ m⟩
theorem zV:∀ {names:List (Str × NameKind)} {n:Nat} {acc:List (Str × Addr)} {x:Str} {c:Addr},(x,NameKind.cell)∈names->(cellsFrom n names acc).lookup x=some c->n <= c
 | [],n,acc,x,c,m,h=>by cases m
 | (y,k) :: r,n,acc,x,c,m,h=>by
  unfold cellsFrom at h
  by_cases mr:(x,NameKind.cell)∈r
  ·split at h
   ·have:=zV mr h;omega
   ·exact zV mr h
  ·have e:(x,NameKind.cell)=(y,k):=by
    rcases Xq.mp m with e | e
    ·exact e
    ·exact absurd e mr
   cases e
   rw[Xs (by decide)] at h;rcases sC h with h | ⟨h,_⟩
   ·rw[Yk,beq_self_eq_true] at h
    cases h;exact uu _
   ·omega
theorem zW:∀ {names:List (Str × NameKind)} {n:Nat} {acc:List (Str × Addr)} {x y:Str} {c:Addr},(∀ u v c,acc.lookup u=some c->acc.lookup v=some c->u=v)->(∀ u c,acc.lookup u=some c->c < n)->(cellsFrom n names acc).lookup x=some c->(cellsFrom n names acc).lookup y=some c->x=y
 | [],n,acc,x,y,c,hi,_,h1,h2=>hi x y c h1 h2
 | (z,k) :: r,n,acc,x,y,c,hi,hb,h1,h2=>by
  unfold cellsFrom at h1 h2;split at h1
  ·rename_i hk
   rw[Xs hk] at h2;refine zW (fun u v c q1 q2 => ?_) (fun u c q => ?_) h1 h2
   ·rw[Yk] at q1 q2
    cases e1:u == z with
    | true =>
     rw[e1] at q1;cases q1
     cases e2:v == z with
     | true=>rw[Y_ e1,Y_ e2]
     | false=>rw[e2] at q2;exact absurd (hb v _ q2) (Zf _)
    | false =>
     rw[e1] at q1
     cases e2:v == z with
     | true=>rw[e2] at q2;cases q2;exact absurd (hb u _ q1) (Zf _)
     | false=>rw[e2] at q2;exact hi u v c q1 q2
   ·rw[Yk] at q
    cases e1:u == z with
    | true=>rw[e1] at q;cases q;exact Zs _
    | false=>rw[e1] at q;exact Zb (hb u c q)
  ·rename_i hk
   rw[NM hk] at h2;exact zW hi hb h1 h2
theorem zX:∀ {names:List (Str × NameKind)} {n:Nat} {acc:List (Str × Addr)} {x:Str},(x,NameKind.cell)∉names->(cellsFrom n names acc).lookup x=acc.lookup x
 | [],n,acc,x,_=>rfl
 | (y,k) :: r,n,acc,x,m=>by
  unfold cellsFrom;split
  ·rename_i hk
   have ek:k = .cell:=Y_ hk;subst ek;rw[zX fun z=>m (Xu _ z),Yk]
   cases q:x == y with
   | true=>exact absurd (by rw[Y_ q];exact NO ..) m
   | false=>rfl
  ·exact zX fun z=>m (Xu _ z)
theorem zY:∀ {names:List (Str × NameKind)} {h:Heap} {acc:List (Str × Addr)} {x:Str} {c:Addr},(∀ u c,acc.lookup u=some c->∃ v,h.IsCell c v)->(cellsFrom h.objs.size names acc).lookup x=some c->∃ v,(pushCells h names).IsCell c v
 | [],h,acc,x,c,hc,e=>hc x c e
 | (y,k) :: r,h,acc,x,c,hc,e=>by
  unfold cellsFrom at e;unfold pushCells;split at e
  ·rename_i hk
   rw[Xs hk];have hz:(h.push { cls := .type "cell",data := .cell none }).objs.size=h.objs.size + 1:=Zo ..;rw[<-hz] at e;refine zY (fun u c q => ?_) e;rw[Yk] at q
   cases e1:u == y with
   | true=>rw[e1] at q;cases q;exact⟨none,_,Xr _ rfl,rfl⟩
   | false =>
    rw[e1] at q;obtain⟨v,o,g1,g2⟩:=hc u c q;exact⟨v,o,qw _ g1,g2⟩
  ·rename_i hk
   rw[NM hk];exact zY hc e
theorem NT {M:Model} {A:Around} {E:Value->Shared->Prop} {s:Shared} {scope:Scope} {g:Addr} {cl:List (Str × Addr)} {qual:Str} {env:Env} {Q:Env->Shared->Prop}
  (h:Q (newEnv scope s.heap.objs.size g (cellsFrom (s.heap.objs.size + 1) scope.names cl) qual none .none (some env) builtinsNs) { s with heap:=pushCells (s.heap.push { cls := .type "dict",data := .dict #[] }) scope.names }) :
  wpAny M A (newFunctionEnv scope g cl [] qual none .none (some env)) Q E s:=by
 simp only[newFunctionEnv,Option.isSome_some,Z0];refine ni (wpAny_alloc ?_);refine ni (wpAny_layCells _ (fun name kind cells=>by cases NU:kind == NameKind.cell<;>simp[NU]) _ _ _ _ ?_);rw[show ({ s with heap:=s.heap.push { cls := .type "dict",data := .dict #[] } }:Shared).heap.objs.size=s.heap.objs.size + 1 from Zo ..];refine ni ?_;rw[q13];exact zR (zR h)
section
variable {X:Cx} {elt tg iter:Expr} {ifs:List Expr} {scope:Scope} {pos:Pos} {Nb:List Str} {cp:List (Option Nat)} {wi:TI} {g:BD->TG} {tf:BD->TT} {te:BD->TE}
variable {pins:List (Addr × Obj)} {σ : St} {H:Hp} {s:Shared}
noncomputable abbrev uy (scope:Scope) (s:Shared) (cl:List (Str × Addr)):List (Str × Addr):=cellsFrom (s.heap.objs.size + 1) scope.names cl
theorem NV {fp:List Addr} {cl:List (Str × Addr)} (S:wU X scope Nb cp) (I:Inv X pins σ H s) (hf:∀ b∈fp,a_ X pins H b) (ho:∀ b∈fp,∃ o,s.heap.get? b=some o)
  (c1:∀ x c,cl.lookup x=some c->X.env.cells.lookup x=some c) (c2:∀ y∈scope.names,y.2 = .free->∃ c,cl.lookup y.1=some c):(cD X scope Nb ⟨uy scope s cl,s.heap.objs.size,s,H,fp⟩).Ok:=by
 have NW:∀ b∈fp,b∉jX X.stack:=fun b hb z=>by
  obtain⟨_,f1,f2,_⟩:=hf b hb;rcases Xq.mp (I.gr b z) with e | e
  ·exact f1 e
  ·exact f2 e
 have lt:∀ u c,cl.lookup u=some c->c < s.heap.objs.size:=fun u c e=>by
  obtain⟨v,q⟩:=I.cell u c (c1 _ _ e);exact q.lt
 refine⟨I.ok.mod,?_,I.ok.glob,I.ok.blt,uu _,fun x y c h1 h2 => ?_,fun x hx => ?_,fun x c h hc => ?_,I.ok.hd,I.ok.frames,.inl rfl,fun b hb=>⟨?_,fun x c e => ?_⟩,I.bs,Yw I.ok.o7 I.sz,fun b o e hb => ?_,NW,I.stack,I.i5⟩
 ·exact S.kind
 ·exact zW (fun u v c q1 q2=>I.ok.inj u v c (c1 _ _ q1) (c1 _ _ q2)) (fun u c e=>Zb (lt u c e)) h1 h2
 ·cases q:scope.names.lookup x with
  | none =>
   have z:(relabel scope X.env).names.lookup x=none:=Fy q;have gz:(relabel scope X.env).names.lookup x=some .cell\/(relabel scope X.env).names.lookup x=some .free:=hx;rw[z] at gz;rcases gz with h | h<;>cases h
  | some k =>
   have hm:=YW q;have z:(relabel scope X.env).names.lookup x=_:=zU (env:=X.env) q;have gz:(relabel scope X.env).names.lookup x=some .cell\/(relabel scope X.env).names.lookup x=some .free:=hx;rw[z] at gz
   have kf:k = .free\/k = .cell:=by
    by_cases hk:k = .free
    ·exact .inl hk
    ·have:(k == NameKind.free)=false:=by simpa using hk
     simp only[this,q12,Ye,YS] at gz;rcases gz with h | h
     ·exact .inr (Yh h)
     ·exact absurd (Yh h) hk
   refine Zv.mp (q0E scope.names _ cl ?_);rcases kf with rfl | rfl
   ·obtain⟨c,e⟩:=c2 (x,.free) hm rfl
    exact .inr (by rw[show cl.lookup x=some c from e];rfl)
   ·exact .inl q
 ·have hl:scope.names.lookup x=some .cell:=YQ h
  have:=zV (YW hl) hc;exact Nat.le_of_succ_le this
 ·obtain⟨o,e⟩:=ho b hb
  exact Yb (NL e)
 ·rcases sC e with e | ⟨e,_⟩
  ·exact (hf b hb).2.2.2.2.1 x c (c1 _ _ e)
  ·obtain⟨o,eo⟩:=ho b hb
   have zZ:=NL eo;intro z;subst z;exact absurd (Nat.lt_of_succ_le e) (Nat.not_lt.mpr (Zg zZ))
 ·rcases (hf b hb).2.2.2.1 with z | z
  ·exact I.ok.kC b o e z
  ·exact absurd (Yc (NL (I.ok.bs b o e).1) z) (Zf _)
theorem NX {cp:List (Option Nat)} {σ : St} {j:Nat} {v:V} (h:(ip cp σ)[j]? = some (some v)):∃ i,cp[j]? = some (some i) /\ σ[i]? = some (some v):=by
 unfold ip at h;rw[My] at h
 cases e:cp[j]? with
 | none=>rw[e] at h;cases h
 | some o =>
  rw[e] at h
  cases o with
  | none=>cases h
  | some i =>
   refine⟨i,rfl,?_⟩;have h':(σ[i]?).join=some v:=Yh h
   cases q : σ[i]? with
   | none=>rw[q] at h';cases h'
   | some z =>
    rw[q] at h';have:z=some v:=h';rw[this]
theorem NY {fp:List Addr} {cl:List (Str × Addr)} {h1:Heap} {tk:Nat} (S:wU X scope Nb cp) (I:Inv X pins σ H s) (hf:∀ b∈fp,a_ X pins H b) (ho:∀ b∈fp,∃ o,s.heap.get? b=some o)
  (c1:∀ x c,cl.lookup x=some c->X.env.cells.lookup x=some c) (c2:∀ y∈scope.names,y.2 = .free->∃ c,cl.lookup y.1=some c)
  (hn:h1.Ns s.heap.objs.size (fun x=>([]:List (Str × Value)).reverse.lookup x)) (hk:∀ b o,s.heap.get? b=some o->h1.get? b=some o) (so:∀ x c,(uy scope s cl).lookup x=some c->∃ v,h1.IsCell c v) :
  Inv (cD X scope Nb ⟨uy scope s cl,s.heap.objs.size,s,H,fp⟩) [] (ip cp σ) H { s with heap:=h1,toks:=tk }:=by
 refine⟨NV S I hf ho c1 c2,rfl,I.bare,Un.kept hk,⟨_,hn,fun j x v e1 e2 e3 => ?_⟩,so,I.aM.fresh (uu _),fun x c e => ?_,fun p hp=>absurd (show p∈([]:List (Addr × Obj)) from hp) (by simp),I.aM.kept hk,?_⟩
 ·obtain⟨i,q1,q2⟩:=NX e2
  obtain⟨q3,q4⟩:=S.uw j i x q1 e1;have hm:=YW q4;have pd:=S.free _ hm rfl;obtain⟨m,_,hl⟩:=I.loc
  have NZ:p9 X.env.scope x:=by
   rcases pd with h | h
   ·exact .inr (.inl h)
   ·exact .inr (.inr h)
  obtain⟨u,ru,lk⟩:=hl i x v q3 q2 NZ;refine⟨u,ru,?_⟩
  have nl:X.env.kindOf x≠some .local:=by
   rcases pd with h | h
   ·intro z;rw[h] at z;cases z
   ·intro z;rw[h] at z;cases z
  rcases lk with⟨k,_⟩ | ⟨_,c,ec,hc⟩
  ·exact absurd k nl
  ·obtain⟨c',FC⟩:=c2 (x,.free) hm rfl
   have FD:=c1 _ _ FC;rw[ec] at FD;cases FD;have nc:(x,NameKind.cell)∉scope.names:=fun z=>by have:=S.cell _ z rfl;rw[show scope.names.lookup x=some .free from q4] at this;cases this
   refine .inr ⟨?_,c,(zX nc).trans FC,?_⟩
   ·have z:(relabel scope X.env).names.lookup x=_:=zU (env:=X.env) q4
    show (relabel scope X.env).names.lookup x=some .cell\/(relabel scope X.env).names.lookup x=some .free;rw[z];split
    ·exact .inl rfl
    ·exact .inr rfl
   ·obtain⟨o,e,d⟩:=hc
    exact⟨o,hk _ _ e,d⟩
 ·rcases sC e with e | ⟨e,_⟩
  ·exact I.cH x c (c1 _ _ e)
  ·exact I.aM.fresh (Nat.le_of_succ_le e)
 ·unfold ip
  rw[qx];exact S.len
theorem N0 {fp:List Addr} {d:BD} {it l:Addr} {tn:Nat->Heap->Prop} {J:It} {R:Result->Shared->Prop} {Q:VK} {H1:Hp} {s1:Shared} {τ : St} (hc:X.calm=true)
  (hg:PG (cD X scope Nb d) tg (g d)) (hf:PF (cD X scope Nb d) ifs (tf d)) (he:PE (cD X scope Nb d) elt (te d)) (T:Turn X.prog X.w X.K tg J fp it tn)
  (Xv:d.fp=fp) (I1:Inv (cD X scope Nb d) [] τ H1 s1) (kF:tn 0 s1.heap) (FE:∀ b∈fp,a_ (cD X scope Nb d) [] H1 b)
  (W:Nat->Nat->St->Hp->Prop) (w0:∃ m,W 0 m τ H1)
  (turn:∀ i m τ H,W i m τ H->(J.stop i H/\Q (.ref l) H)\/(J.go i H/\∃ N:St->Hp->Prop,(∀ τ' H',N τ' H'->∃ m',m' < m/\W (i + 1) m' τ' H')/\∀ x H',J.sd i H x H'->g d x τ H' fun τ2 H2=>tf d τ2 H2 fun b H3 =>
   if b=true then te d τ2 H3 fun y H4=>∃ ys,H4 l=some (.lst ys)/\ys.length < sizeLine/\N τ2 (upd H4 l (.lst (ys ++ [y]))) else N τ2 H3))
  (fin:∀ τ' H' s',Inv (cD X scope Nb d) [] τ' H' s'->Q (.ref l) H'->R (.ok .next) s') :
  codeAny (model X.prog X.w) X.A (.compStart (.ListComp elt [⟨tg,iter,ifs,0⟩] scope pos) 0 (.ref it) (.ref l) (compEnvC scope d.cl d.C X.env)) R s1:=by
 have iI:∀ {H':Hp},(∀ b∈fp,H' b=none)->∀ b∈fp,a_ (cD X scope Nb d) [] H' b:=fun hn b hb=>⟨hn b hb,(FE b hb).2⟩
 have loop:codeAny (model X.prog X.w) X.A (.compLoop (.ListComp elt [⟨tg,iter,ifs,0⟩] scope pos) 0 (.ref it) (.ref l) (compEnvC scope d.cl d.C X.env)) R s1:=by
  obtain⟨m0,w0⟩:=w0;refine NP (fun n s'=>∃ i τ' H',Inv (cD X scope Nb d) [] τ' H' s'/\tn i s'.heap/\(∀ b∈fp,H' b=none)/\W i n τ' H') ?_ m0 ⟨0,τ,H1,I1,kF,fun b hb=>(FE b hb).1,w0⟩;rintro n s3 ⟨i,σ3,H3,I3,kG,uf,w3⟩;rcases turn i n σ3 H3 w3 with⟨stop,qn⟩ | ⟨go,N,hN,step⟩
  ·refine a0 (T.done (cD X scope Nb d) rfl rfl rfl hc i [] s3 σ3 H3 (fun _ _=>False) I3 (iI uf) kG stop) fun r s4 ⟨hr,I4⟩ => ?_
   subst hr;exact fin σ3 H3 s4 I4 qn
  ·refine a0 (T.item (cD X scope Nb d) rfl rfl rfl hc i [] s3 σ3 H3 (fun _ _=>False) I3 (iI uf) kG go) fun r s4 ⟨u,hr,h4⟩ => ?_
   subst hr;refine a0 h4 fun _ s5 ⟨x,H5,I5,r5,y5,qf,zk⟩ => ?_;have zo:=I5.pinned (iI zk) (T.obj _ _ qf);refine a0 (hg _ s5 σ3 H5 x u _ zo r5 (step x H5 y5)) fun _ s6 ⟨σ6,H6,I6,q6⟩ => ?_
   have again:∀ {σ7:St} {H7:Hp} {s7:Shared} {m':Nat},Inv (cD X scope Nb d) ([] ++ ue fp s5.heap) σ7 H7 s7->m' < n->W (i + 1) m' σ7 H7->∃ m,m < n/\∃ i σ' H',Inv (cD X scope Nb d) [] σ' H' s7/\tn i s7.heap/\(∀ b∈fp,H' b=none)/\W i m σ' H':=fun {σ7 H7 s7 m'} I7 hm w7=>by
    refine⟨m',hm,i + 1,σ7,H7,I7.dJ,T.keep _ _ _ qf fun b hb o e=>(I7.pin (b,o) (NK _ (NK _ (wI hb e)))).1,fun b hb => ?_,w7⟩;obtain⟨o,e,d⟩:=T.obj _ _ qf b hb;exact (I7.pin (b,o) (NK _ (NK _ (wI hb e)))).2.1
   refine a0 (hf _ s6 σ6 H6 _ I6 q6) fun ok s7 h0_ => el3 h0_ fun H7 I7 q7 => ?_
   cases ok with
   | false =>
    rw[NM X8] at q7 ⊢;obtain⟨m',hm,w7⟩:=hN _ _ q7;exact again I7 hm w7
   | true =>
    rw[Xs rfl] at q7 ⊢;refine a0 (he _ s7 σ6 H7 _ I7 q7) fun y s8 ⟨yv,H8,I8,r8,ys,hy,hz,q8⟩ => ?_;obtain⟨m',hm,w8⟩:=hN _ _ q8;refine a0 (sx _ s8 σ6 H8 (.ref l) [yv] (.ref l) [y] (fun _ H9=>H9=upd H8 l (.lst (ys ++ [yv]))) I8 rfl (.cons r8 .nil) ⟨l,ys,yv,rfl,rfl,hy,hz,rfl⟩) fun _ s9 h0_ => el5 h0_ fun _ H9 I9 _ e9 => ?_;subst e9;exact again I9 hm w8
 exact codeAny_compStart_list loop (T.self _ 0 s1 _ _ kF loop)
theorem N4 {fp:List Addr} {d:BD} {τ : St} {H1 H':Hp} {s1 s':Shared} (I1:Inv X pins σ H1 s1) (hs:d.s=s1) (hH:d.H=H1) (hd:d.fp=fp) (hf:∀ b∈fp,a_ X pins H1 b) (J:Inv (cD X scope Nb d) [] τ H' s'):Inv X pins σ H' s':=by
 subst hs hH hd;exact I1.t7 (ch:=d.fp) J.os J.base J.aM J.bare fun b hb=>⟨(hf b hb).2.2.2.1,(hf b hb).2.1,(hf b hb).2.2.2.2.1,(hf b hb).2.2.2.2.2⟩
theorem FF {use:Option (Value->Sem Unit)} {P:Value->Shared->Prop} {Q:VK} (hc:X.calm=true) (S:wU X scope Nb cp) (hi:PI X tg iter wi) (hg:∀ d,PG (cD X scope Nb d) tg (g d)) (hf:∀ d,PF (cD X scope Nb d) ifs (tf d)) (he:∀ d,PE (cD X scope Nb d) elt (te d))
  (hs:∀ x,foldedSetIterable iter X.env x=pure x) (I:Inv X pins σ H s) (h:qA wi cp g tf te σ H Q)
  (fin:∀ (l C:Addr) (H':Hp) (s':Shared) (m:Str->Option Value),Inv X pins σ H' s'->a_ X pins H' C->(∀ p c,X.env.cells.lookup p=some c->c≠C)->s'.heap.Ns C m->Q (.ref l) H'->compPost (model X.prog X.w) X.A X.xe use P (.ref l) C (.ok .next) s') :
  wpAny (model X.prog X.w) X.A (comprehension (.ListComp elt [⟨tg,iter,ifs,0⟩] scope pos) scope X.env (firstIterPos [⟨tg,iter,ifs,0⟩] pos) (newList []) false (eval iter X.env) use) P X.xe s:=by
 obtain⟨cl,N5,c1,c2⟩:=zT (scope:=scope) (env:=X.env) fun y hy N6=>by
  rcases S.free y hy N6 with z | z
  ·exact I.ok.has _ (.inl z)
  ·exact I.ok.has _ (.inr z)
 refine wpAny_comprehension_free (cl:=cl) rfl hs N5 S.kind S.names (a0 (hi pins s σ H _ I h) fun v s1 h1=>a0 h1 fun zi s2 h2 => ?_);obtain⟨it,fp,tn,J,H2,e,I2,T,ie,f2,q2⟩:=h2;subst e;refine Zn ?_;have hl:H2 s2.heap.objs.size=none:=I2.fresh;have I3:Inv X pins σ (upd H2 s2.heap.objs.size (.lst [])) { s2 with heap:=s2.heap.push { cls := .type "list",data := .seq ([]:List Value).toArray } }:=I2.cA (t':=s2.toks) (ys:=[]) .nil (Yy _);have k3:∀ b o,s2.heap.get? b=some o->(s2.heap.push { cls := .type "list",data := .seq ([]:List Value).toArray }).get? b=some o:=fun b o e=>qw _ e
 have f3:∀ b∈fp,a_ X pins (upd H2 s2.heap.objs.size (.lst [])) b:=fun b hb=>by
  obtain⟨o,e,_⟩:=T.obj _ _ ie b hb;refine⟨?_,(f2 b hb).2⟩;rw[aS (Yb (NL e))];exact (f2 b hb).1
 generalize N7:upd H2 s2.heap.objs.size (.lst [])=H3 at I3 f3;generalize N8:({ s2 with heap:=s2.heap.push { cls := .type "list",data := .seq ([]:List Value).toArray } }:Shared)=s3 at I3;have FG:∀ b o,s2.heap.get? b=some o->s3.heap.get? b=some o:=by rw[<-N8];exact k3
 have o3:∀ b∈fp,∃ o,s3.heap.get? b=some o:=fun b hb=>let ⟨o,e,_⟩:=T.obj _ _ ie b hb; ⟨o,FG b o e⟩;refine NT ?_;have k4:∀ b o,s3.heap.get? b=some o->(pushCells (s3.heap.push { cls := .type "dict",data := .dict #[] }) scope.names).get? b=some o:=fun b o e=>pushCells_keeps _ _ _ _ (qw _ e);have uz:(pushCells (s3.heap.push { cls := .type "dict",data := .dict #[] }) scope.names).Ns s3.heap.objs.size (fun x=>([]:List (Str × Value)).reverse.lookup x):=(Heap.Ns.new s3.heap (.type "dict")).keeps (pushCells_keeps _ _)
 have I4:=NY (Nb:=Nb) (tk:=s3.toks) S I3 f3 o3 c1 c2 uz k4 fun x c e=>by
  have hz:(s3.heap.push { cls := .type "dict",data := .dict #[] }).objs.size=s3.heap.objs.size + 1:=Zo ..;have e':(cellsFrom (s3.heap.push { cls := .type "dict",data := .dict #[] }).objs.size scope.names cl).lookup x=some c:=by rw[hz];exact e
  refine zY (fun u c q => ?_) e';obtain⟨v,o,g1,g2⟩:=I3.cell u c (c1 _ _ q);exact⟨v,o,qw _ g1,g2⟩
 generalize Xw:pushCells (s3.heap.push { cls := .type "dict",data := .dict #[] }) scope.names=h₁ at k4 uz I4 ⊢;obtain⟨W,w0,turn⟩:=q2 ⟨uy scope s3 cl,s3.heap.objs.size,s3,H3,fp⟩ s2.heap.objs.size hl;rw[N7] at w0;refine N0 (d:=⟨uy scope s3 cl,s3.heap.objs.size,s3,H3,fp⟩) (fp:=fp) (tn:=tn) (J:=J) (Q:=Q) hc (hg _) (hf _) (he _) T rfl I4 (T.keep _ _ _ ie fun b hb o e=>k4 b o (FG b o e)) (fun b hb => ?_) W w0 turn fun τ' H' s' I5 q5 => ?_
 ·obtain⟨o,e⟩:=o3 b hb
  refine⟨(f3 b hb).1,Yb (NL e),fun z => ?_,.inl hb,fun x c ec => ?_,fun p hp=>absurd (show p∈([]:List (Addr × Obj)) from hp) (by simp)⟩
  ·rcases Xq.mp (I3.gr b z) with r | r
   ·exact (f3 b hb).2.1 r
   ·exact (f3 b hb).2.2.1 r
  ·rcases sC ec with q | ⟨q,_⟩
   ·exact (f3 b hb).2.2.2.2.1 x c (c1 _ _ q)
   ·have zZ:=NL e
    intro z;subst z;exact absurd (Nat.lt_of_succ_le q) (Nat.not_lt.mpr (Zg zZ))
 ·have I6:Inv X pins σ H' s':=N4 I3 rfl rfl rfl f3 I5
  obtain⟨m,hn,_⟩:=I5.loc;have fC:a_ X pins H' s3.heap.objs.size:=I3.d5 (uu _) I5.free;exact fin _ _ _ _ m I6 fC (fun p c e=>fC.2.2.2.2.1 p c e) hn q5
theorem N9 (cp:List (Option Nat)) (Nb:List Str) (hc:X.calm=true) (hi:PI X tg iter wi) (hg:∀ d,PG (cD X scope Nb d) tg (g d)) (hf:∀ d,PF (cD X scope Nb d) ifs (tf d)) (he:∀ d,PE (cD X scope Nb d) elt (te d))
  (hk:scope.kind = .function:=by rfl) (ho:me X.N X.env.scope scope Nb cp=true:=by first | rfl | kernel_rfl) (hs:∀ x,foldedSetIterable iter X.env x=pure x:=by intro _;rfl) :
  PE X (.ListComp elt [⟨tg,iter,ifs,0⟩] scope pos) (qA wi cp g tf te):=by
 intro pins s σ H Q I h;rw[eval_ListComp];refine FF (use:=none) hc (x0p hk ho) hi hg hf he hs I h fun l C H' s' m I' fC hcc hn q=>⟨m,hn,fun h' uA=>⟨.ref l,H',?_,rfl,q⟩⟩;exact I'.turned (t':=s'.toks) (fun b o hb e=>(uA.2 b hb).trans e) fC.1 fC.2.1 fC.2.2.2.1 fC.2.2.2.2.1 fC.2.2.2.2.2
theorem N_ (cp:List (Option Nat)) (Nb:List Str) {i:Nat} {x:Str} {pos' g6:Pos} (hN:X.N.Nodup) (hi:X.N[i]? = some x) (hx:Loc X.env.scope x) (hc:X.calm=true) (hit:PI X tg iter wi) (hg:∀ d,PG (cD X scope Nb d) tg (g d)) (hf:∀ d,PF (cD X scope Nb d) ifs (tf d)) (he:∀ d,PE (cD X scope Nb d) elt (te d))
  (hk:scope.kind = .function:=by rfl) (ho:me X.N X.env.scope scope Nb cp=true:=by first | rfl | kernel_rfl) (hs:∀ x,foldedSetIterable iter X.env x=pure x:=by intro _;rfl)
  (uB:swapsWith (.ListComp elt [⟨tg,iter,ifs,0⟩] scope pos) (some (.Name x pos')) g6.line X.env=pure true:=by rfl)
  (mP:X.fn x=true\/X.env.scope.names.lookup x=some .local:=by first | exact .inl rfl | exact .inr rfl | assumption) :
  PS X (.Assign [.Name x pos'] (.ListComp elt [⟨tg,iter,ifs,0⟩] scope pos) g6) (fQ (qA wi cp g tf te) (mR i)):=by
 intro pins s σ H D I h;rw[exec_Assign_Name_used _ _ _ _ uB];refine ni (q0f (ni ?_));show wpAny _ X.A (do let _ <- comprehension (.ListComp elt [⟨tg,iter,ifs,0⟩] scope pos) scope X.env _ (newList []) false (eval iter X.env) (some (assign (.Name x pos') X.env))) _ _ s;refine ni (a0 (FF (use:=some (assign (.Name x pos') X.env)) (P:=fun _ s'=>SP X pins D .next s') hc (x0p hk ho) hit hg hf he hs I h fun l C H' s' m I' fC hcc hn q => ?_) fun _ s' hq=>zR (zR hq));show wpAny _ X.A (assign (.Name x pos') X.env (.ref l)) _ _ s';refine wpAny_assign_Name (En I' hN hi hx (v := .ref l) rfl (fun iJ Oa ⟨a,sb,ha⟩ => ?_) mP)
 have nC:C≠a:=by
  rcases ha with e | e
  ·rw[e];exact fC.2.1
  ·exact q0j (hcc _ _ e)
 refine⟨m,hn.sameBut sb nC,fun h' uA=>⟨_,H',?_,q⟩⟩;exact Oa.turned (t':=iJ.toks) (fun b o hb e=>(uA.2 b hb).trans e) fC.1 fC.2.1 fC.2.2.2.1 fC.2.2.2.2.1 fC.2.2.2.2.2
end
section
variable {g:TG} {tf:TT} {te:TE}
end
section
variable {X:Cx} {pins:List (Addr × Obj)} {σ : St} {H:Hp} {s:Shared} {h':Heap} {T:Addr} {o:HO} {ch:List Addr} {t':Nat}
theorem Inv.ft (I:Inv X pins σ H s) (hf:∀ b∈ch,a_ X pins H b) (k:∀ b u,b∉ch->s.heap.get? b=some u->h'.get? b=some u) (hT:s.heap.objs.size <= T) (new:aO X.prog X.w (upd H T o) h' T o) :
  Inv X pins σ (upd H T o) { s with heap:=h',toks:=t' }:=by
 have hn:H T=none:=I.aM.fresh hT;have kD:∀ b u,H b=some u->b∉ch:=fun b u e hb=>by rw[(hf b hb).1] at e;cases e
 refine I.step (g':=s.gens) (d':=s.drawn) (ch:=ch) (fun b hb=>⟨(hf b hb).2.2.2.1,(hf b hb).2.1,(hf b hb).2.2.2.2.1,(hf b hb).2.2.2.2.2⟩) (fun b u _ _ hc e _=>k b u hc e) (fun b u _ _ hc e _=>⟨u.slots,k b u hc e⟩)
  (fun b u _ e n=>by rw[aS (Yb (Yc (NL e) hT))];exact n) (fun b u hc e=>⟨u,k b u hc e⟩) (fun b xs e=>by rw[aS (c6 e hn)];exact e)
  (fun b u xs e=>by rw[aS (c6 e hn)];exact e) (fun b ps e=>⟨#[],by rw[aS (c6 e hn),e];simp⟩) (fun m hm => ?_) (fun b u e => ?_) I.bare
 ·obtain⟨u,es,ep,ho,r⟩:=hm
  exact⟨u,es,ep,k _ u (fun hb=>(hf _ hb).2.1 rfl) ho,r⟩
 ·by_cases hb:b=T
  ·subst hb;rw[bZ] at e;cases e;exact new
  ·rw[aS hb] at e
   refine (I.aM b u e).ff (fun c v hc q=>k c v ?_ q) (fun c q=>by rw[aS (c6 q hn)];exact q) fun c xs q=>by rw[aS (c6 q hn)];exact q
   rcases hc with z | z
   ·rw[z];exact kD b u e
   ·exact kD c _ z
theorem Inv.jA (I:Inv X pins σ H s) (hf:∀ b∈ch,a_ X pins H b) (k:∀ b u,b∉ch->s.heap.get? b=some u->h'.get? b=some u):Inv X pins σ H { s with heap:=h',toks:=t' }:=by
 have kD:∀ b u,H b=some u->b∉ch:=fun b u e hb=>by rw[(hf b hb).1] at e;cases e
 refine I.step (g':=s.gens) (d':=s.drawn) (ch:=ch) (fun b hb=>⟨(hf b hb).2.2.2.1,(hf b hb).2.1,(hf b hb).2.2.2.2.1,(hf b hb).2.2.2.2.2⟩) (fun b u _ _ hc e _=>k b u hc e) (fun b u _ _ hc e _=>⟨u.slots,k b u hc e⟩)
  (fun b u _ e n=>n) (fun b u hc e=>⟨u,k b u hc e⟩) (fun b xs e=>e)
  (fun b u xs e=>e) (fun b ps e=>⟨#[],by rw[e];simp⟩) (fun m hm => ?_) (fun b u e => ?_) I.bare
 ·obtain⟨u,es,ep,ho,r⟩:=hm
  exact⟨u,es,ep,k _ u (fun hb=>(hf _ hb).2.1 rfl) ho,r⟩
 ·refine (I.aM b u e).ff (fun c v hc q=>k c v ?_ q) (fun c q=>q) fun c xs q=>q
  rcases hc with z | z
  ·rw[z];exact kD b u e
  ·exact kD c _ z
end
noncomputable def sD (K:PySem.W.Frag) (a:Addr):It :=
 ⟨fun i H=>∃ xs x,bz K H a xs/\xs[i]? = some x,fun i H x H'=>∃ T v,x = .ref T/\H T=none/\H'=upd H T (.tup [.int (i:Nat),v])/\∀ xs,bz K H a xs->xs[i]? = some v,fun i H=>∃ xs,bz K H a xs/\xs.length <= i⟩
theorem FH {P:Program} {w:World} {K:PySem.W.Frag} {elts:List Expr} {x1} {tp:Pos} (a e it:Addr) (gQ:e≠it) :
  Turn P w K (.Tuple elts x1 tp) (sD K a) [e,it] e (fun i h=>(∃ old,IsEnum h e it (i:Nat) old)/\h.IsListIter it a i) where
 mem:=by simp
 obj:=fun i h st b hb=>by
  obtain⟨⟨old,he⟩,o,hi,hc,hd⟩:=st;rcases Xq.mp hb with rfl | hb
  ·exact⟨_,he,fun v z=>by cases z⟩
  ·have z:b=it:=by simpa using hb
   subst z;exact⟨o,hi,fun v z=>by rw[hd] at z;cases z⟩
 keep:=fun i h h' st k=>by
  obtain⟨⟨old,he⟩,hi⟩:=st;exact⟨⟨old,k e (by simp) _ he⟩,hi.at fun o q=>k it (by simp) o q⟩
 item:=by
  intro X hP hw hK hc i pins s σ H E I hf st hg;subst hP hw hK;obtain⟨⟨old,he⟩,hi⟩:=st;obtain⟨xs,x,hq,hx⟩:=hg;obtain⟨aq,rv,p,hz⟩:=I.list hq;obtain⟨u,hu,ru⟩:=rv.get hx;refine wpAny_pyNext_enum_item he hi p.isList (x:=u) (by simpa using hu) gQ fun h1 l6 uC uD hsz hk=>⟨_,rfl,?_⟩;refine wpAny_letOwnedTupleGo_enum l6 fun h2 uE dY => ?_;have hT:s.heap.objs.size≠e:=ZI (NL he);have jB:h2.get? s.heap.objs.size=some { cls := .type "tuple",data := .seq #[.int i s.toks,u] }:=(dY.2 _ hT).trans uD
  have k2:∀ b o,b∉[e,it]->s.heap.get? b=some o->h2.get? b=some o:=fun b o hb q=>by
   have nq:b≠e:=fun z=>hb (by simp[z]);have gy:b≠it:=fun z=>hb (by simp[z]);exact (dY.2 _ nq).trans (hk b o nq gy q)
  have hn:H s.heap.objs.size=none:=I.aM.fresh (uu _);refine⟨.ref s.heap.objs.size,upd H s.heap.objs.size (.tup [.int i,x]),I.ft (ch:=[e,it]) (t':=s.toks + 1) hf k2 (uu _) ?_,rfl,⟨_,x,rfl,hn,rfl,fun ys hy=>by rw[I.fm hy hq];exact hx⟩,⟨⟨u,?_⟩,?_⟩,fun b hb => ?_⟩
  ·exact⟨by show 2 <= sizeLine;decide,[.int i s.toks,u],.cons ⟨_,rfl⟩ (.cons ru .nil),_,jB,rfl,_,rfl⟩
  ·have e3:((i:Int) + 1)=(((i + 1:Nat)):Int):=by omega
   rw[e3] at uE;exact uE
  ·exact uC.at fun o q=>(dY.2 _ (q0j gQ)).trans q
  ·have:b < s.heap.objs.size:=by
    obtain⟨o,q,_⟩:=hi;rcases Xq.mp hb with rfl | hb
    ·exact NL he
    ·have z:b=it:=by simpa using hb
     subst z;exact NL q
   rw[aS (Yb this)];exact (hf b hb).1
 done:=by
  intro X hP hw hK hc i pins s σ H E I hf st hg;subst hP hw hK;obtain⟨⟨old,he⟩,hi⟩:=st;obtain⟨xs,hq,hx⟩:=hg;obtain⟨aq,rv,p,hz⟩:=I.list hq;have hl:=rv.length;refine wpAny_pyNext_enum_end (I.ok.hd hc) he hi p.isList (by simp;omega) fun h1 eb=>⟨rfl,?_⟩;obtain⟨f0,f1,f2,f3,f4,f5⟩:=hf it (by simp);exact I.turned (t':=s.toks) (fun b o hb q=>eb b o hb q) f0 f1 f3 f4 f5
 self:=fun A i s Q E st h=>by
  obtain⟨⟨old,he⟩,hi⟩:=st;have hT:s.TypeIs (.ref e) "enumerate" := ⟨_,he,rfl⟩;exact ZD he h
section
variable {X:Cx} {elts:List Expr} {x1:Nat} {tp:Pos}
noncomputable def FI (K:PySem.W.Frag) (ta:TA):TI:=fun σ H R=>ta σ H fun vs H1=>∃ a,vs=[.ref a]/\(∃ xs,bz K H1 a xs)/\R (sD K a) H1
theorem FJ:bootBuiltins "enumerate" = some (.type "enumerate"):=by decide +kernel
theorem Ob:bootBuiltins "zip" = some (.type "zip"):=by decide +kernel
theorem Oc {a:Expr} {ta:TA} {p pos:Pos} (hg:Gl X "enumerate") (hm:X.mg "enumerate" = none) (ha:PA X [a] ta) (hs:starEach [a] X.env=[(false,eval a X.env)]:=by rfl) :
  PI X (.Tuple elts x1 tp) (.Call (.Name "enumerate" p) [a] [] pos) (FI X.K ta):=by
 intro pins s σ H R I h;refine Call_ (l9 I hg hm FJ (YZ (a0 (ha pos pins s σ H _ I h) fun us s1 h0_ => el5 h0_ fun vs H1 I1 r1 q1 => ?_) hs rfl));obtain⟨l,e,⟨xs,hq⟩,q⟩:=q1;subst e
 cases r1 with
 | cons r rr =>
  cases rr
  cases r
  obtain⟨aq,rv,p,hz⟩:=I1.list hq;refine call_enumerate_list p.isList fun h' he hi hsz hk => ?_;have I2:Inv X pins σ H1 { s1 with heap:=h' }:=I1.kept (t':=s1.toks) hk;refine ZD he ?_;refine⟨_,_,_,_,H1,rfl,I2,FH l (s1.heap.objs.size + 1) s1.heap.objs.size (q1q _),⟨⟨_,he⟩,hi⟩,fun b hb => ?_,q⟩
  have hb':s1.heap.objs.size <= b:=by
   rcases Xq.mp hb with rfl | hb
   ·exact q1f _
   ·have z:b=s1.heap.objs.size:=by simpa using hb
    rw[z];exact uu _
  exact I1.d5 hb' (I1.aM.fresh hb')
end
section
variable {X:Cx} {nm:Str} {tp:Pos}
end
end L2
namespace L2
open PySem PySem.Spec PyProof.Rows PySem.W
open Builtin Builtin.ObjectAttr
section
variable {prog:Program} {w:World} {A:Around} {E:Value->Shared->Prop} {s:Shared} {K:Frag} {x D:Addr} {ox:Obj} {Xx:Option Obj} {name:Str}
variable {h:Heap} {g:Array GenState} {d:Drawn} {t:Nat} {os:OsState} {nm q:Str} {C N:Addr} {bs bm Xy:List Value} {Od:Bool} {sn:List Str} {sub:List Value} {ab:Bool} {col:Option Bool} {dd:Option Addr} {k0 k1 k2 k3 k5:Option Value} {B newId z0:String}
end
end L2
namespace L2
open PySem PySem.Spec PyProof.Rows
section
variable {X:Cx} {pins:List (Addr × Obj)} {σ : St} {H:Hp} {s:Shared} {C f:Addr} {CX:ju} {k:Nat} {fd:FuncData} {ps:List Str} {sp:Sp} {E:XK} {x:Str} {p pos pos':Pos} {e o value:Expr} {es:List Expr} {ta tv:TE} {t:TA}
end
section
variable {X:Cx}
noncomputable def uF:V->Option Value
 | .ty n=>some (.type n)
 | .ref a=>some (.ref a)
 | _=>none
theorem Oe {y:V} {u c:Value} (r:RelV y u) (e:uF y=some c):u=c:=by
 cases y with
 | ty n=>cases e;exact r
 | ref a=>cases e;exact r
 | _=>cases e
theorem Of:gu X (.builtin "isinstance") (fun xs H Q=>∃ x y c t b,xs=[x,y]/\uF y=some c/\dM X.K H x t/\PySem.W.kitOne X.K t c=some b/\Q (.bl b) H):=by
 intro pins s σ H xs us Q I rv h;obtain⟨x,y,c,t,b,rfl,hc,ty,e,q⟩:=h;obtain⟨u,w',rfl,rx,ry⟩:=rv.two;rw[Oe ry hc];exact M3 I rx ty e fun tk=>⟨.bl b,H,I.tok tk,rfl,q⟩
end
theorem Og {K:PySem.W.Frag} {a:Addr} {xs:List V} {g:TG} {tb:TS} {D:Ends} {σ : St} {H:Hp} (Pv:Nat->St->Hp->Prop) (h0:Pv 0 σ H) (hl:∀ i σ H,i <= xs.length->Pv i σ H->bz K H a xs)
  (hs:∀ i x T σ H,xs[i]? = some x->Pv i σ H->H T=none->g (.ref T) σ (upd H T (.tup [.int (i:Nat),x])) fun σ2 H2=>tb { D with nx:=Pv (i + 1),ct:=Pv (i + 1),bk:=D.nx } σ2 H2) (hd:∀ σ H,Pv xs.length σ H->D.nx σ H) :
  ∃ W:Nat->Nat->St->Hp->Prop,(∃ m,W 0 m σ H)/\∀ i m σ H,W i m σ H →
   ((sD K a).stop i H/\D.nx σ H)\/((sD K a).go i H/\∃ N:St->Hp->Prop,(∀ σ' H',N σ' H'->∃ m',m' < m/\W (i + 1) m' σ' H')/\∀ x H',(sD K a).sd i H x H'->g x σ H' fun σ2 H2=>tb { D with nx:=N,ct:=N,bk:=D.nx } σ2 H2):=by
 refine⟨fun i m σ H=>m=xs.length - i/\i <= xs.length/\Pv i σ H,⟨xs.length,by simp,Yy _,h0⟩,?_⟩;rintro i m σ H ⟨rfl,hi,p⟩;have q:=hl i σ H hi p
 by_cases c5:i < xs.length
 ·refine .inr ⟨⟨xs,xs[i],q,by simp[c5]⟩,Pv (i + 1),fun σ' H' p'=>⟨xs.length - (i + 1),by omega,rfl,c5,p'⟩,fun x H' y => ?_⟩
  obtain⟨T,v,rfl,hT,rfl,y⟩:=y;exact hs i v T σ H (y xs q) p hT
 ·have e:i=xs.length:=by omega
  subst e;exact .inl ⟨⟨xs,q,uu _⟩,hd σ H p⟩
section
variable {g:TG} {tf:TT} {te:TE} {l:Addr} {τ0:St} {H0:Hp} {Q:VK}
end
section
variable {X:Cx} {es:List Expr} {te:TE} {t:TA}
theorem z6 {c j p} (ha:PE X (.Constant c j p) te) (hr:PA X es t):PA X (.Constant c j p :: es) (fR te t):=si ha hr rfl
theorem z9 {x p} (ha:PE X (.Name x p) te) (hr:PA X es t):PA X (.Name x p :: es) (fR te t):=si ha hr rfl
theorem z_ {f a k p} (ha:PE X (.Call f a k p) te) (hr:PA X es t):PA X (.Call f a k p :: es) (fR te t):=si ha hr rfl
theorem Aa {a k p} (ha:PE X (.Tuple a k p) te) (hr:PA X es t):PA X (.Tuple a k p :: es) (fR te t):=si ha hr rfl
theorem Ab {a k p} (ha:PE X (.Subscript a k p) te) (hr:PA X es t):PA X (.Subscript a k p :: es) (fR te t):=si ha hr rfl
end
inductive D where
 | non | bl (b:Bool) | int (i:Int) | str (x:Str) | tup (xs:List D) | lst (xs:List D)
mutual
noncomputable def Is (H:Hp):D->V->Prop
 | .non,v=>v = .non
 | .bl b,v=>v = .bl b
 | .int i,v=>v = .int i
 | .str x,v=>v = .str x
 | .tup ds,v=>∃ a vs,v = .ref a/\H a=some (.tup vs)/\ae H ds vs
 | .lst ds,v=>∃ a vs,v = .ref a/\H a=some (.lst vs)/\ae H ds vs
noncomputable def ae (H:Hp):List D->List V->Prop
 | [],vs=>vs=[]
 | d :: ds,vs=>∃ v r,vs=v :: r/\Is H d v/\ae H ds r
end
mutual
theorem Is.same {H H':Hp} (s:aF H H'):∀ {d:D} {v:V},Is H d v->Is H' d v
 | .non,_,h=>h
 | .bl _,_,h=>h
 | .int _,_,h=>h
 | .str _,_,h=>h
 | .tup _,_,h=>by
  simp only[Is] at h ⊢;obtain⟨a,vs,e,h1,h2⟩:=h;exact⟨a,vs,e,s _ _ h1,ae.same s h2⟩
 | .lst _,_,h=>by
  simp only[Is] at h ⊢;obtain⟨a,vs,e,h1,h2⟩:=h;exact⟨a,vs,e,s _ _ h1,ae.same s h2⟩
theorem ae.same {H H':Hp} (s:aF H H'):∀ {d:List D} {v:List V},ae H d v->ae H' d v
 | [],_,h=>h
 | _ :: _,_,h=>by
  simp only[ae] at h ⊢;obtain⟨v,r,e,h1,h2⟩:=h;exact⟨v,r,e,Is.same s h1,ae.same s h2⟩
end
theorem ae.length {H:Hp}:∀ {ds:List D} {vs:List V},ae H ds vs->vs.length=ds.length
 | [],_,h=>by simp only[ae] at h;rw[h];rfl
 | _ :: _,_,h=>by
  simp only[ae] at h;obtain⟨v,r,rfl,_,h2⟩:=h;rw[Fq,Fq,ae.length h2]
theorem ae.get {H:Hp}:∀ {ds:List D} {vs:List V} {i:Nat} {v:V},ae H ds vs->vs[i]? = some v->∃ d,ds[i]? = some d/\Is H d v
 | [],_,i,v,h,e=>by simp only[ae] at h;rw[h] at e;simp at e
 | d :: ds,_,i,v,h,e=>by
  simp only[ae] at h;obtain⟨v',r,rfl,h1,h2⟩:=h
  cases i with
  | zero=>simp at e;subst e;exact⟨d,rfl,h1⟩
  | succ i=>simp at e;simpa using ae.get h2 e
theorem ae.nil {H:Hp}:ae H [] []:=by simp only[ae]
theorem ae.cons {H:Hp} {d:D} {ds:List D} {v:V} {vs:List V} (h:Is H d v) (r:ae H ds vs):ae H (d :: ds) (v :: vs):=by
 simp only[ae];exact⟨v,vs,rfl,h,r⟩
theorem ae.snoc {H:Hp} {d:D} {v:V}:∀ {ds:List D} {vs:List V},ae H ds vs->Is H d v->ae H (ds ++ [d]) (vs ++ [v])
 | [],_,h,q=>by simp only[ae] at h;subst h;exact .cons q .nil
 | _ :: _,_,h,q=>by
  simp only[ae] at h;obtain⟨v',r,rfl,h1,h2⟩:=h;exact .cons h1 (ae.snoc h2 q)
mutual
noncomputable def dep:D->Nat
 | .tup ds=>bw ds + 1
 | .lst ds=>bw ds + 1
 | _=>0
noncomputable def bw:List D->Nat
 | []=>0
 | d :: ds=>max (dep d) (bw ds)
end
mutual
noncomputable def Oh:D->Bool
 | .tup _=>false
 | .lst ds=>decide (ds.length <= 1000) && FK ds
 | _=>true
noncomputable def FK:List D->Bool
 | []=>true
 | d :: ds=>Oh d && FK ds
end
theorem Ac:∀ {ds:List D} {i:Nat} {d:D},ds[i]? = some d->dep d <= bw ds
 | [],i,d,e=>by simp at e
 | d' :: ds,0,d,e=>by simp at e;subst e;simp only[bw];exact Nat.le_max_left _ _
 | d' :: ds,i + 1,d,e=>by simp at e;simp only[bw];exact Yw (Ac e) (Nat.le_max_right _ _)
noncomputable def cf:D->String
 | .non => "NoneType" | .bl _ => "bool" | .int _ => "int" | .str _ => "str" | .tup _ => "tuple" | .lst _ => "list"
theorem Is.ty {K:PySem.W.Frag} {H:Hp}:∀ {d:D} {v:V},Is H d v->dM K H v (.type (cf d))
 | .non,_,h=>by cases (show _=_ from h);exact .non
 | .bl b,_,h=>by cases (show _=_ from h);exact .bl b
 | .int i,_,h=>by cases (show _=_ from h);exact .int i
 | .str x,_,h=>by cases (show _=_ from h);exact .str x
 | .tup _,_,h=>by
  simp only[Is] at h;obtain⟨a,vs,rfl,h1,_⟩:=h;exact .tup h1
 | .lst _,_,h=>by
  simp only[Is] at h;obtain⟨a,vs,rfl,h1,_⟩:=h;exact .lst h1
noncomputable def aV (T c:String):Bool:=T == c || (T == "bool" && c == "int")
section
variable {K:PySem.W.Frag}
theorem Oi:∀ T∈["NoneType", "bool", "int", "str", "tuple", "list"],PySem.W.kitOne K (.type T) (.type "bool")=some (aV T "bool"):=by
 intro T hT;simp only[Xq,Ym,ZX] at hT;rcases hT with rfl | rfl | rfl | rfl | rfl | rfl<;>kernel_rfl
theorem Oj:∀ T∈["NoneType", "bool", "int", "str", "tuple", "list"],PySem.W.kitOne K (.type T) (.type "int")=some (aV T "int"):=by
 intro T hT;simp only[Xq,Ym,ZX] at hT;rcases hT with rfl | rfl | rfl | rfl | rfl | rfl<;>kernel_rfl
theorem Ol:∀ T∈["NoneType", "bool", "int", "str", "tuple", "list"],PySem.W.kitOne K (.type T) (.type "str")=some (aV T "str"):=by
 intro T hT;simp only[Xq,Ym,ZX] at hT;rcases hT with rfl | rfl | rfl | rfl | rfl | rfl<;>kernel_rfl
theorem kit_tuple:∀ T∈["NoneType", "bool", "int", "str", "tuple", "list"],PySem.W.kitOne K (.type T) (.type "tuple")=some (aV T "tuple"):=by
 intro T hT;simp only[Xq,Ym,ZX] at hT;rcases hT with rfl | rfl | rfl | rfl | rfl | rfl<;>kernel_rfl
theorem Om:∀ T∈["NoneType", "bool", "int", "str", "tuple", "list"],PySem.W.kitOne K (.type T) (.type "list")=some (aV T "list"):=by
 intro T hT;simp only[Xq,Ym,ZX] at hT;rcases hT with rfl | rfl | rfl | rfl | rfl | rfl<;>kernel_rfl
theorem uG (d:D):cf d∈["NoneType", "bool", "int", "str", "tuple", "list"]:=by cases d<;>simp[cf]
end
section
variable {X:Cx}
theorem PE.weak {e:Expr} {t t':TE} (h:PE X e t) (k:∀ σ H Q,t' σ H Q->t σ H Q):PE X e t':=fun pins s σ H Q I q=>h pins s σ H Q I (k σ H Q q)
theorem PT.weak {e:Expr} {t t':TT} (h:PT X e t) (k:∀ σ H Q,t' σ H Q->t σ H Q):PT X e t':=fun pins s σ H Q I q=>h pins s σ H Q I (k σ H Q q)
theorem PA.weak {es:List Expr} {t t':TA} (h:PA X es t) (k:∀ σ H Q,t' σ H Q->t σ H Q):PA X es t':=fun pos pins s σ H Q I q=>h pos pins s σ H Q I (k σ H Q q)
theorem PS.weak {st:Stmt} {t t':TS} (h:PS X st t) (k:∀ D σ H,t' D σ H->t D σ H):PS X st t':=fun pins s σ H D I q=>h pins s σ H D I (k D σ H q)
theorem gP.weak {st:List Stmt} {t t':TS} (h:gP X st t) (k:∀ D σ H,t' D σ H->t D σ H):gP X st t':=fun pins s σ H D I q=>h pins s σ H D I (k D σ H q)
end
section
variable {κ : Type} [DecidableEq κ]
noncomputable def dP (af:List (κ × V)) (k : κ):Option V:=(af.find? fun kv=>decide (kv.1=k)).map (·.2)
noncomputable def putK (af:List (κ × V)) (k : κ) (v:V):List (κ × V) :=
 if (af.any fun kv=>decide (kv.1=k))=true then af.map (fun kv=>if kv.1=k then (kv.1,v) else kv) else af ++ [(k,v)]
theorem wV {p : κ × V} {r:List (κ × V)} {k : κ} (e:p.1=k):dP (p :: r) k=some p.2:=by simp[dP,q0b,e]
theorem wW {p : κ × V} {r:List (κ × V)} {k : κ} (e:¬ p.1=k):dP (p :: r) k=dP r k:=by simp[dP,q0b,e]
theorem FL (k : κ):∀ af:List (κ × V),(af.any fun kv=>decide (kv.1=k))=(dP af k).isSome
 | []=>rfl
 | p :: r=>by
  rw[ZJ]
  by_cases e:p.1=k
  ·simp only[wV e,NN e,Bool.true_or,Option.isSome_some]
  ·rw[wW e,Xp e,Bool.false_or];exact FL k r
theorem Ad (af:List (κ × V)) (k : κ) (v:V):(putK af k v).length <= af.length + 1:=by
 unfold putK;split
 ·rw[qx];omega
 ·rw[Fv,Fq,Y8];omega
theorem dZ.d7 {o:Option V} {u:Option Value} (r:dZ o u):o.isSome=u.isSome:=by
 cases o with
 | none=>cases u with
  | none=>rfl
  | some _=>exact (show False from r).elim
 | some _=>cases u with
  | none=>exact (show False from r).elim
  | some _=>rfl
theorem dZ.getD {o:Option V} {u:Option Value} {d:V} {d':Value} (r:dZ o u) (rd:RelV d d'):RelV (o.getD d) (u.getD d'):=by
 cases o with
 | none=>cases u with
  | none=>exact rd
  | some _=>exact (show False from r).elim
 | some _=>cases u with
  | none=>exact (show False from r).elim
  | some _=>exact r
theorem KV.val {af:List (κ × V)} {vs:List (κ × Value)} (r:KV af vs) (k : κ):dZ (dP af k) (valueAt vs k):=by
 unfold KV at r
 induction r with
 | nil=>exact True.intro
 | @cons p q ps qs h t ih =>
  obtain⟨h1,h2⟩:=h
  by_cases e:p.1=k
  ·have e':q.1=k:=h1.symm.trans e
   have b:valueAt (q :: qs) k=some q.2:=by simp[valueAt,q0b,e']
   rw[wV e,b];exact h2
  ·have e':¬ q.1=k:=fun z=>e (h1.trans z)
   have b:valueAt (q :: qs) k=valueAt qs k:=by simp[valueAt,q0b,e']
   rw[wW e,b];exact ih
theorem KV.any {af:List (κ × V)} {vs:List (κ × Value)} (r:KV af vs) (k : κ):(af.any fun kv=>decide (kv.1=k))=vs.any fun kv=>decide (kv.1=k):=by
 unfold KV at r
 induction r with
 | nil=>rfl
 | cons h t ih=>rw[ZJ,ZJ,ih,h.1]
theorem KV.iM {af:List (κ × V)} {vs:List (κ × Value)} (r:KV af vs) (k : κ) {y:V} {u:Value} (ry:RelV y u) :
  KV (af.map fun kv=>if kv.1=k then (kv.1,y) else kv) (vs.map fun kv=>if kv.1=k then (kv.1,u) else kv):=by
 unfold KV at r ⊢
 induction r with
 | nil=>exact .nil
 | @cons p q ps qs h t ih =>
  rw[Yd,Yd];refine .cons ?_ ih;obtain⟨h1,h2⟩:=h
  by_cases e:p.1=k
  ·rw[Xs e,Xs (h1.symm.trans e)];exact⟨h1,ry⟩
  ·rw[NM e,NM (fun z=>e (h1.trans z))];exact⟨h1,h2⟩
theorem KV.put {af:List (κ × V)} {vs:List (κ × Value)} (r:KV af vs) (k : κ) {y:V} {u:Value} (ry:RelV y u):KV (putK af k y) (stored vs k u):=by
 unfold putK stored;rw[r.any k]
 by_cases e:(vs.any fun kv=>decide (kv.1=k))=true
 ·rw[Xs e,Xs e];exact r.iM k ry
 ·rw[NM e,NM e];exact Paired.snoc r ⟨rfl,ry⟩
theorem KV.length {af:List (κ × V)} {vs:List (κ × Value)} (r:KV af vs):af.length=vs.length:=Paired.length r
end
theorem sE {P:Program} {w:World} {k:Key} {u:Value} (r:RelV (kV k) u):(gU P w).is k u=true:=by
 cases k with
 | inl i=>obtain⟨t,e⟩:=(show ∃ t,u=Value.int i t from r);subst e;exact LW P w i t
 | inr x=>obtain⟨t,e⟩:=(show ∃ t,u=Value.str x t from r);subst e;exact LX P w x t
theorem FN {P:Program} {w:World}:∀ {ks:List Key} {us:List Value},Vals (ks.map kV) us->ItemsAre (gU P w) ks us
 | [],_,r=>by rw[Zw] at r;cases r;exact .nil
 | k :: ks,_,r=>by
  rw[Yd] at r
  cases r with
  | cons h t=>exact .cons (sE h) (FN t)
noncomputable abbrev KT (H:Hp):List (List Key × V)->List (List Key × Addr × Value)->Prop:=Paired fun p q=>p.1=q.1/\H q.2.1=some (.tup (p.1.map kV))/\RelV p.2 q.2.2
theorem KT.val {H:Hp} {af:List (List Key × V)} {xs:List (List Key × Addr × Value)} (r:KT H af xs) (k:List Key):dZ (dP af k) ((atKey xs k).map (·.2)):=by
 induction r with
 | nil=>exact True.intro
 | @cons p q ps qs h t ih =>
  obtain⟨h1,_,h2⟩:=h
  by_cases e:p.1=k
  ·have e':q.1=k:=h1.symm.trans e
   have b:atKey (q :: qs) k=some q.2:=by simp[atKey,q0b,e']
   rw[wV e,b];exact h2
  ·have e':¬ q.1=k:=fun z=>e (h1.trans z)
   have b:atKey (q :: qs) k=atKey qs k:=by simp[atKey,q0b,e']
   rw[wW e,b];exact ih
theorem KT.iM {H:Hp} {af:List (List Key × V)} {xs:List (List Key × Addr × Value)} (r:KT H af xs) (k:List Key) {y:V} {u:Value} (ry:RelV y u) :
  KT H (af.map fun kv=>if kv.1=k then (kv.1,y) else kv) (xs.map (putAt k u)):=by
 induction r with
 | nil=>exact .nil
 | @cons p q ps qs h t ih =>
  rw[Yd,Yd];refine .cons ?_ ih;obtain⟨h1,h2,h3⟩:=h;unfold putAt
  by_cases e:p.1=k
  ·rw[Xs e,Xs (h1.symm.trans e)];exact⟨h1,h2,ry⟩
  ·rw[NM e,NM (fun z=>e (h1.trans z))];exact⟨h1,h2,h3⟩
theorem KT.put {H:Hp} {af:List (List Key × V)} {xs:List (List Key × Addr × Value)} (r:KT H af xs) (k:List Key) {b:Addr} {y:V} {u:Value} (hb:H b=some (.tup (k.map kV))) (ry:RelV y u) :
  KT H (putK af k y) (storedH xs k b u):=by
 have e:(af.any fun kv=>decide (kv.1=k))=(atKey xs k).isSome:=by
  rw[FL,(r.val k).d7,q1g]
 unfold putK storedH;rw[e]
 by_cases q:(atKey xs k).isSome=true
 ·rw[Xs q,Xs q];exact r.iM k ry
 ·rw[NM q,NM q];exact Paired.snoc r ⟨rfl,hb,ry⟩
theorem KT.keeps {H H':Hp} {af:List (List Key × V)} {xs:List (List Key × Addr × Value)} (r:KT H af xs) (ht:∀ b ys,H b=some (.tup ys)->H' b=some (.tup ys)):KT H' af xs :=
 Paired.pY r fun _ _ z=>⟨z.1,ht _ _ z.2.1,z.2.2⟩
section
variable {P:Program} {w:World} {H:Hp} {h:Heap} {a:Addr}
theorem FO {u:HO} (ok:dG P w H h) (e:Rd H a u):aO P w H h a u:=e.ok ok
theorem sF {af:List (Key × V)} (ok:dG P w H h) (e:Rd H a (.dK af)):af.length <= sizeLine/\(a == sysModules)=false/\∃ vs,KV af vs/\h.DictOf (gU P w) a vs :=
 show aO P w H h a (.dK af) from FO ok e
theorem FP {af:List (Key × V)} (ok:dG P w H h) (e:H a=some (.dK af)):af.length <= sizeLine/\(a == sysModules)=false/\∃ vs,KV af vs/\h.DictOf (gU P w) a vs:=sF ok (.inl e)
theorem uH {ks:List Key} (ok:dG P w H h) (e:H a=some (.tup (ks.map kV))):(tupleKind (gU P w)).is h ks a:=by
 obtain⟨_,aq,r,o,h1,h2,n,h3⟩:=(show aO P w H h a (.tup (ks.map kV)) from ok a _ e);exact⟨o,aq.toArray,n,h1,h2,h3,by simpa using FN r⟩
theorem sG {af:List (List Key × V)} (ok:dG P w H h) (e:Rd H a (.dT af)):af.length <= sizeLine/\(a == sysModules)=false ∧
  ∃ xs,KT H af xs/\h.DictOfH (tupleKind (gU P w)) a xs:=by
 obtain⟨z,y,xs,r,o,es,ep,h1,h2,h3,h4,h5⟩:=(show aO P w H h a (.dT af) from FO ok e);refine⟨z,y,xs,r,o,es,ep,h1,h2,h3,h4,fun x hx => ?_,h5⟩
 have all:∀ {l:List (List Key × V)} {m:List (List Key × Addr × Value)},KT H l m->∀ x∈m,(tupleKind (gU P w)).is h x.1 x.2.1:=by
  intro l m q
  induction q with
  | nil=>intro x hx;exact nomatch hx
  | @cons p q ps qs hq t ih =>
   intro x hx;rcases Xq.mp hx with e | hx
   ·subst e
    exact uH ok (by rw[<-hq.1];exact hq.2.1)
   ·exact ih x hx
 exact all r x hx
theorem Oo {af:List (List Key × V)} (ok:dG P w H h) (e:H a=some (.dT af)):af.length <= sizeLine/\(a == sysModules)=false ∧
  ∃ xs,KT H af xs/\h.DictOfH (tupleKind (gU P w)) a xs:=sG ok (.inl e)
end
noncomputable def d8 (H:Hp) (a:Addr) (y:V) (r:Option V):Prop :=
 (∃ af k,Rd H a (.dK af)/\y=kV k/\r=dP af k)\/∃ af k b,Rd H a (.dT af)/\y = .ref b/\H b=some (.tup (k.map kV))/\r=dP af k
noncomputable def kO (H:Hp) (a:Addr) (y v:V) (H':Hp):Prop :=
 (∃ af k,H a=some (.dK af)/\y=kV k/\af.length < sizeLine/\H'=upd H a (.dK (putK af k v))) ∨
 ∃ af k b,H a=some (.dT af)/\y = .ref b/\H b=some (.tup (k.map kV))/\af.length < sizeLine/\H'=upd H a (.dT (putK af k v))
theorem d8.k {H:Hp} {a:Addr} {af:List (Key × V)} {k:Key} (e:H a=some (.dK af)):d8 H a (kV k) (dP af k) := .inl ⟨af,k,.inl e,rfl,rfl⟩
theorem kO.k {H:Hp} {a:Addr} {af:List (Key × V)} {k:Key} {v:V} (e:H a=some (.dK af)) (hl:af.length < sizeLine):kO H a (kV k) v (upd H a (.dK (putK af k v))) := .inl ⟨af,k,e,rfl,hl,rfl⟩
section
variable {X:Cx} {pins:List (Addr × Obj)} {σ : St} {H:Hp} {s:Shared} {a:Addr} {y v:V} {u r:Value} {o:Option V} {A:Around} {E:Value->Shared->Prop}
theorem Inv.big (I:Inv X pins σ H s):sysModules < s.heap.objs.size:=by
 have h:mainGlobals < s.heap.objs.size:=(I.mod.glob.keeps I.bk).lt;exact q1w (by decide) h
theorem Oq {Q:Value->Shared->Prop} (hu:A.units + 1 < cLine) (I:Inv X pins σ H s) (g:d8 H a y (some v)) (ry:RelV y u) (h:∀ w' s',Inv X pins σ H s'->RelV v w'->Q w' s') :
  wpAny (model X.prog X.w) A (getItem (.ref a) u) Q E s:=by
 rcases g with⟨af,k,e,ey,l⟩ | ⟨af,k,b,e,ey,eb,l⟩
 ·subst ey
  obtain⟨z,hd,vs,rel,dd⟩:=sF I.aM e;obtain⟨w',hw,jx⟩:=dZ.some_of (v:=v) (o:=valueAt vs k) (by rw[l];exact rel.val k);exact wpAny_getItem_of (sE ry) dd.mapOf hw (h w' _ (I.tok _) jx)
 ·subst ey
  cases (show u=Value.ref b from ry)
  obtain⟨z,hd,xs,rel,dd⟩:=sG I.aM e;obtain⟨w',hw,jx⟩:=dZ.some_of (v:=v) (o:=(atKey xs k).map (·.2)) (by rw[l];exact rel.val k);obtain⟨p,hp,Ot⟩:=Xt.mp hw;refine wpAny_getItem_heap (q0w hu) (uH I.aM eb) dd hp ?_;rw[Ot];exact h w' _ (I.tok _) jx
theorem Ou {Q:Value->Shared->Prop} (hu:A.units + 1 < cLine) (I:Inv X pins σ H s) (g:d8 H a y o) (ry:RelV y u) (h:∀ s',Inv X pins σ H s'->Q (.bool (!o.isSome)) s') :
  wpAny (model X.prog X.w) A (compareOp .NotIn u (.ref a)) Q E s:=by
 rcases g with⟨af,k,e,ey,l⟩ | ⟨af,k,b,e,ey,eb,l⟩
 ·subst ey
  obtain⟨z,hd,vs,rel,dd⟩:=sF I.aM e;refine wpAny_notIn_of (sE ry) hd dd.mapOf ?_;rw[<-(rel.val k).d7,<-l];exact h _ (I.tok _)
 ·subst ey
  cases (show u=Value.ref b from ry)
  obtain⟨z,hd,xs,rel,dd⟩:=sG I.aM e;refine wpAny_notIn_heap (q0w hu) (uH I.aM eb) hd dd ?_;have q:=(rel.val k).d7;rw[q1g] at q;rw[<-q,<-l];exact h _ (I.tok _)
theorem Ae {h':Heap} {t':Nat} {ob:HO} (I:Inv X pins σ H s) (mu:tW (H a)) (hs:Heap.SameBut a s.heap h') (he:∃ q,h'.get? a=some q) (new:aO X.prog X.w (upd H a ob) h' a ob) :
  Inv X pins σ (upd H a ob) { s with heap:=h',toks:=t' } :=
 I.write (x:=a) (e:=a) mu (.inl rfl) (fun b q hb z=>(hs.2 b hb).trans z) he new
theorem FQ {P:Program} {w:World} {H':Hp} {h':Heap} {af:List (Key × V)} {vs:List (Key × Value)} (z:af.length <= sizeLine) (hd:(a == sysModules)=false) (rel:KV af vs) (dd:h'.DictOf (gU P w) a vs) :
  aO P w H' h' a (.dK af):=⟨z,hd,vs,rel,dd⟩
theorem Ov {H':Hp} {Q:Unit->Shared->Prop} (hu:A.units + 1 < cLine) (I:Inv X pins σ H s) (g:kO H a y v H') (ry:RelV y u) (rv:RelV v r) (h:∀ s',Inv X pins σ H' s'->Q () s') :
  wpAny (model X.prog X.w) A (setItem (.ref a) u r) Q E s:=by
 rcases g with⟨af,k,e,ey,l,eH⟩ | ⟨af,k,b,e,ey,eb,l,eH⟩
 ·subst ey eH
  obtain⟨z,hd,vs,rel,dd⟩:=FP I.aM e;have hz:vs.length <= sizeLine:=by rw[<-rel.length];exact z
  have hl:(putK af k v).length <= sizeLine:=by have:=Ad af k v;omega
  refine wpAny_setItem_pairs (hsz:=hz) (sE ry) dd fun h' qB hs=>h _ ?_;have he:∃ q,h'.get? a=some q:=let ⟨q,_,_,hq,_⟩:=qB; ⟨q,hq⟩;exact Ae I (by rw[e];exact True.intro) hs he (FQ hl hd (rel.put k rv) qB)
 ·subst ey eH
  cases (show u=Value.ref b from ry)
  obtain⟨z,hd,xs,rel,dd⟩:=Oo I.aM e;have hz:xs.length <= sizeLine:=by rw[<-Paired.length rel];exact z
  have hl:(putK af k v).length <= sizeLine:=by have:=Ad af k v;omega
  refine wpAny_setItem_heap (hsz:=hz) (q0w hu) (uH I.aM eb) dd fun h' qB hs=>h _ ?_;obtain⟨q,es,ep,hq,h2,h3,h4,_,h5⟩:=qB;refine Ae I (by rw[e];exact True.intro) hs ⟨q,hq⟩ ⟨hl,hd,_,(rel.put k eb rv).keeps fun c ys ec => ?_,q,es,ep,hq,h2,h3,h4,h5⟩;rw[aS (LY ec e (fun z=>nomatch z))];exact ec
end
section
variable {X:Cx} {pins:List (Addr × Obj)} {σ : St} {H:Hp} {s:Shared} {a:Addr} {af:List (Key × V)} {k:Key} {u:Value} {A:Around} {E:Value->Shared->Prop}
end
noncomputable def nv (i:Expr):Prop:=∀ ov iv,subscripted i false ov iv=operate [ov,iv] (getItem ov iv)
theorem Ox {prog:Program} {w:World} {A:Around} {E:Value->Shared->Prop} {s:Shared} {env:Env} {value slice:Expr} {pos:Pos} {T id:String} {Q:Value->Shared->Prop}
  (hl:typeLookup (.type T) "__getitem__" = pure (some (.builtin id))) (hs:nv slice)
  (h:wpAny (model prog w) A (eval value env) (fun o s₁ => wpAny (model prog w) A (eval slice env) (fun i s₂ => s₂.TypeIs o T/\wpAny (model prog w) A (getItem o i) Q E s₂) E s₁) E s) :
  wpAny (model prog w) A (eval (.Subscript value slice pos) env) Q E s:=by
 refine Subscript_ (Y3 h (fun o s₁ h₁ => Y3 h₁ (fun i s₂ h₂ => ?_) fun _ _ x=>x) fun _ _ x=>x);obtain⟨hT,h₂⟩:=h₂;unfold subscriptTail;refine ni ?_;rw[getitemInPython_of_ne hT.not_modules];refine ni (wpAny_specialOf hT hl ?_)
 have fin:wpAny (model prog w) A (subscripted slice false o i) (fun r s₃ => wpAny (model prog w) A (letTemporaryGo value o r >>= fun _=>pure r) Q E s₃) E s₂ := by
  rw[hs o i];exact wpAny_operating (Y3 h₂ (fun r s₃ h₃ => ni (wpAny_letTemporaryGo (zR h₃))) fun _ _ x=>x)
 first
  | exact zR (ni fin)
  | exact ni (zR (ni fin))
  | exact ni fin
theorem Oy {X:Cx} {pins:List (Addr × Obj)} {σ : St} {H:Hp} {s:Shared} {a:Addr} {y:V} {o:Option V} (I:Inv X pins σ H s) (g:d8 H a y o):s.TypeIs (.ref a) "dict" := by
 rcases g with⟨af,k,e,_,_⟩ | ⟨af,k,b,e,_,_,_⟩
 ·obtain⟨_,_,vs,_,dd⟩:=sF I.aM e
  exact dd.typeIs
 ·obtain⟨_,_,xs,_,dd⟩:=sG I.aM e
  exact dd.typeIs
noncomputable def FR (td ty:TE):TE:=fun σ H Q=>td σ H fun x H1=>ty σ H1 fun y H2=>∃ a v,x = .ref a/\d8 H2 a y (some v)/\Q v H2
noncomputable def Af (ty td:TE):TE:=fun σ H Q=>ty σ H fun y H1=>td σ H1 fun x H2=>∃ a o,x = .ref a/\d8 H2 a y o/\Q (.bl (!o.isSome)) H2
noncomputable def FT (td ty tv:TE):TS:=fun D σ H=>tv σ H fun v H1=>td σ H1 fun x H2=>ty σ H2 fun y H3=>∃ a H4,x = .ref a/\kO H3 a y v H4/\D.nx σ H4
section
variable {X:Cx} {o i e value:Expr} {pos pos' zu:Pos} {td ty tv:TE}
theorem Oz (hu:X.A.units + 1 < cLine) (ho:PE X o td) (hi:PE X i ty) (hs:nv i):PE X (.Subscript o i pos) (FR td ty):=by
 intro pins s σ H Q I h;refine Ox PySem.F.slot_dict_getitem.lookup hs (a0 (ho pins s σ H _ I h) fun u s1 h0_ => el5 h0_ fun x H1 I1 rx q1 =>a0 (hi pins s1 σ H1 _ I1 q1) fun iv s2 ⟨y,H2,I2,ry,a,v,ex,g,q2⟩ => ?_);subst ex;obtain rfl:u=Value.ref a:=rx;exact⟨Oy I2 g,Oq hu I2 g ry fun w' s3 I3 jx=>⟨v,H2,I3,jx,q2⟩⟩
theorem OA (hu:X.A.units + 1 < cLine) (hi:PE X i ty) (ho:PE X o td):PC X .NotIn i o (Af ty td):=by
 intro pins s σ H Q I h;refine a0 (hi pins s σ H _ I h) fun iv s1 h0_ => el5 h0_ fun y H1 I1 ry q1 =>a0 (ho pins s1 σ H1 _ I1 q1) fun u s2 ⟨x,H2,I2,rx,a,ov,ex,g,q2⟩ => ?_;subst ex;obtain rfl:u=Value.ref a:=rx;exact Ou hu I2 g ry fun s3 I3=>⟨.bl (!ov.isSome),H2,I3,rfl,q2⟩
theorem OB (hu:X.A.units + 1 < cLine) (ho:PE X o td) (hi:PE X i ty) (hv:PE X value tv) (hs:swapsWith value (some (.Subscript o i pos')) pos.line X.env=pure false) :
  PS X (.Assign [.Subscript o i pos'] value pos) (FT td ty tv):=by
 intro pins s σ H D I h;refine wpAny_Assign_Subscript (a0 (hv pins s σ H _ I h) fun r s1 h0_ => el5 h0_ fun v H1 I1 rv q1 =>a0 (ho pins s1 σ H1 _ I1 q1) fun u s2 h0_ => el5 h0_ fun x H2 I2 rx q2 =>a0 (hi pins s2 σ H2 _ I2 q2) fun iv s3 ⟨y,H3,I3,ry,a,H4,ex,g,q3⟩ => ?_) hs;subst ex;obtain rfl:u=Value.ref a:=rx;exact Ov hu I3 g ry rv fun s4 I4=>⟨σ,H4,I4,q3⟩
end
theorem OC {P:Program} {w:World} {H:Hp} (h:Heap) (hb:sysModules < h.objs.size):aO P w H (h.push { cls := .type "dict",data := .dict #[] }) h.objs.size (.dK []) :=
 ⟨Yy _,beq_eq_false_iff_ne.mpr (q0j (Yb hb)),[],.nil,Heap.DictOf.new h⟩
section
variable {X:Cx} {pos:Pos}
end
noncomputable def Ag:List (TE × TE)->St->Hp->(List (V × V)->Hp->Prop)->Prop
 | [],_,H,Q=>Q [] H
 | (tk,tv) :: r,σ,H,Q=>tk σ H fun x H1=>tv σ H1 fun y H2=>Ag r σ H2 fun ps H3=>Q ((x,y) :: ps) H3
noncomputable abbrev VV:List (V × V)->List (Value × Value)->Prop:=Paired fun p q=>RelV p.1 q.1/\RelV p.2 q.2
noncomputable def uI (X:Cx) (pos:Pos) (keys:List (Option Expr)) (values:List Expr) (jZ:List (TE × TE)):Prop :=
 ∀ (pins:List (Addr × Obj)) (s:Shared) (σ : St) (H:Hp) (Q:List (V × V)->Hp->Prop),Inv X pins σ H s->Ag jZ σ H Q →
  wpAny (model X.prog X.w) X.A (evalPairs (pairTrees keys values X.env pos)) (fun vs s'=>∃ ps H',Inv X pins σ H' s'/\VV ps vs/\Q ps H') X.xe s
theorem OD {X:Cx} {pos:Pos}:uI X pos [] [] []:=fun pins s σ H Q I h=>pairTrees_nil_walk ⟨[],H,I,.nil,h⟩
theorem OE {X:Cx} {pos:Pos} {k v:Expr} {ks:List (Option Expr)} {vs:List Expr} {tk tv:TE} {jZ:List (TE × TE)} (hk:PE X k tk) (hv:PE X v tv) (hr:uI X pos ks vs jZ) :
  uI X pos (some k :: ks) (v :: vs) ((tk,tv) :: jZ):=fun pins s σ H Q I h =>
 pairTrees_cons_walk (a0 (hk pins s σ H _ I h) fun u s1 h0_ => el5 h0_ fun x H1 I1 rx q1 =>a0 (hv pins s1 σ H1 _ I1 q1) fun w2 s2 h0_ => el5 h0_ fun y H2 I2 ry q2 =>
  a0 (hr pins s2 σ H2 _ I2 q2) fun ws s3 h0_ => el5 h0_ fun ps H3 I3 rel q3 =>⟨(x,y) :: ps,H3,I3,.cons ⟨rx,ry⟩ rel,q3⟩)
noncomputable def uJ (af more:List (Key × V)):List (Key × V):=more.foldl (fun acc kv=>putK acc kv.1 kv.2) af
theorem KV.merge:∀ {more:List (Key × V)} {rs:List (Key × Value)} {af:List (Key × V)} {vs:List (Key × Value)},KV more rs->KV af vs->KV (uJ af more) (merged vs rs):=by
 intro more rs af vs r;unfold KV at r
 induction r generalizing af vs with
 | nil=>intro q;exact q
 | @cons p q ps qs h t ih =>
  intro r0
  have e:KV (putK af p.1 p.2) (stored vs q.1 q.2):=by
   have:=r0.put p.1 h.2;rw[<-h.1];exact this
  exact ih e
theorem FU:∀ (more af:List (Key × V)),(uJ af more).length <= af.length + more.length
 | [],af=>by show af.length <= af.length + 0;omega
 | p :: r,af=>by
  have h1:=FU r (putK af p.1 p.2);have h2:=Ad af p.1 p.2;show (uJ (putK af p.1 p.2) r).length <= _;rw[Fq];omega
theorem FV {P:Program} {w:World}:∀ {af:List (Key × V)} {ws:List (Value × Value)},VV (af.map fun kv=>(kV kv.1,kv.2)) ws->∃ rs,Carries (gU P w) ws rs/\KV af rs
 | [],_,r=>by rw[Zw] at r;cases r;exact⟨[],True.intro,.nil⟩
 | p :: af,_,r=>by
  rw[Yd] at r
  cases r with
  | @cons a b as bs h t =>
   obtain⟨rs,c,q⟩:=FV (P:=P) (w:=w) t;obtain⟨b1,b2⟩:=b;exact⟨(p.1,b2) :: rs,⟨sE h.1,rfl,c⟩,.cons ⟨rfl,h.2⟩ q⟩
noncomputable def FW (jZ:List (TE × TE)):TE:=fun σ H Q=>∀ p,H p=none->Ag jZ σ (upd H p (.dK [])) fun ps H2=>H2 p=some (.dK [])/\∃ af:List (Key × V),ps=af.map (fun kv=>(kV kv.1,kv.2))/\af.length <= 15/\Q (.ref p) (upd H2 p (.dK (uJ [] af)))
theorem OF {X:Cx} {pos:Pos} {keys:List (Option Expr)} {values:List Expr} {jZ:List (TE × TE)} (h:uI X pos keys values jZ) (dI:keys.all (·.isSome)=true) (hl:keys.length=values.length) (h0:keys≠[])
  (Ah:keys.length <= 15):PE X (.Dict keys values pos) (FW jZ):=by
 intro pins s σ H Q I q;have hn:=I.aM.fresh (uu s.heap.objs.size);have I1:=I.laid (a:=s.heap.objs.size) (o := .dK []) (h':=s.heap.push { cls := .type "dict",data := .dict #[] }) (t':=s.toks) (fun _ _ q=>qw _ q) (uu _) (OC s.heap I.big);refine wpAny_Dict_walk (knd:=gU X.prog X.w) dI hl h0 Ah (a0 (h pins _ σ _ _ I1 (q _ hn)) fun ws s2 ⟨ps,H2,I2,rel,e,af,ep,lk,q2⟩ => ?_);subst ep;obtain⟨rs,c,rk⟩:=FV (P:=X.prog) (w:=X.w) rel;obtain⟨z,hd,Xz,r0,dd⟩:=FP I2.aM e;cases r0
 refine⟨rs,c,dd,fun h' qB hs=>⟨.ref s.heap.objs.size,_,?_,rfl,q2⟩⟩
 have hz:(uJ [] af).length <= sizeLine:=by
  have h1:=FU af [];rw[Y8] at h1;rw[YR];omega
 have he:∃ q,h'.get? s.heap.objs.size=some q:=let ⟨q,_,_,hq,_⟩:=qB; ⟨q,hq⟩;exact Ae I2 (by rw[e];exact True.intro) hs he (FQ hz hd (rk.merge .nil) qB)
structure M2 (X:Cx) (o:Expr) (m:Str) (apos:Pos) (e f:Expr) (bQ:Pos):Prop where
 base:attributeBase o m X.env (eval o X.env)=eval o X.env
 iH:((backTo bQ (starEach [e,f] X.env)).all (fun x => !x.1) && (backToKw bQ (keywordEach [] X.env)).all (fun x=>x.1.isSome)
  && decide (([e,f]:List Expr).length + ([]:List Keyword).length + (if ([]:List Keyword).isEmpty then 0 else 1) < 30))=true
 line:(apos.endLine == bQ.line)=true
 trees:backTo bQ (starEach [e,f] X.env)=[(false,eval e X.env),(false,eval f X.env)]
noncomputable def FX (H:Hp) (a:Addr):Prop:=(∃ af,Rd H a (.dK af))\/∃ af,Rd H a (.dT af)
theorem OG {X:Cx} {pins:List (Addr × Obj)} {σ : St} {H:Hp} {s:Shared} {a:Addr} (I:Inv X pins σ H s) (d:FX H a) :
  s.TypeIs (.ref a) "dict" /\ (∀ b,Value.ref a = .ref b->∃ ob,s.heap.get? b=some ob/\ob.dict=none)/\(a == sysModules)=false:=by
 rcases d with⟨af,e⟩ | ⟨af,e⟩
 ·obtain⟨_,hd,vs,_,dd⟩:=sF I.aM e
  refine⟨dd.typeIs,fun b q => ?_,hd⟩;cases q
  obtain⟨ob,_,_,h1,h2,_⟩:=dd;exact⟨ob,h1,h2.2.1⟩
 ·obtain⟨_,hd,xs,_,dd⟩:=sG I.aM e
  refine⟨dd.typeIs,fun b q => ?_,hd⟩;cases q
  obtain⟨ob,_,_,h1,h2,_⟩:=dd;exact⟨ob,h1,h2.2.1⟩
section
variable {X:Cx} {pins:List (Addr × Obj)} {σ : St} {H:Hp} {s:Shared} {a:Addr} {y d:V} {u r:Value} {o:Option V} {A:Around} {E:Value->Shared->Prop}
theorem OH {Q:Value->Shared->Prop} (hu:A.units + 1 < cLine) (I:Inv X pins σ H s) (g:d8 H a y o) (ry:RelV y u) (rd:RelV d r) (h:∀ w' s',Inv X pins σ H s'->RelV (o.getD d) w'->Q w' s') :
  wpAny (model X.prog X.w) A (call (.builtin "dict.get") [.ref a,u,r]) Q E s:=by
 rcases g with⟨af,k,e,ey,l⟩ | ⟨af,k,b,e,ey,eb,l⟩
 ·subst ey
  obtain⟨z,hd,vs,rel,dd⟩:=sF I.aM e;refine call_meetsIn q0K dd.typeIs PySem.F.entry_dict_get (PySem.F.args_dict_get_3 _ _ _) (meets_dict_get_default (gU X.prog X.w) a (sE ry) hd r) ⟨_,dd.mapOf,h _ _ (I.tok _) ?_⟩;rw[l];exact (rel.val k).getD rd
 ·subst ey
  cases (show u=Value.ref b from ry)
  obtain⟨z,hd,xs,rel,dd⟩:=sG I.aM e;refine call_meetsIn q0K dd.typeIs PySem.F.entry_dict_get (PySem.F.args_dict_get_3 _ _ _) (meetsH_dict_get_default (tupleKind (gU X.prog X.w)) a b hd r) ⟨q0w hu,k,xs,uH I.aM eb,dd,h _ _ (I.tok _) ?_⟩;rw[l];exact (rel.val k).getD rd
end
noncomputable def FY (td ty tx:TE):TE:=fun σ H Q=>td σ H fun x H1=>∃ a,x = .ref a/\FX H1 a/\ty σ H1 fun y H2=>tx σ H2 fun z H3=>∃ o,d8 H3 a y o/\Q (o.getD z) H3
section
variable {X:Cx} {o e f:Expr} {apos bQ:Pos} {td ty tx:TE}
theorem OI (hu:X.A.units + 1 < cLine) (ho:PE X o td) (he:PE X e ty) (hf:PE X f tx) (m:M2 X o "get" apos e f bQ):PE X (.Call (.Attribute o "get" apos) [e,f] [] bQ) (FY td ty tx):=by
 intro pins s σ H Q I h;refine wpAny_Call_method m.base m.iH m.line PySem.F.plainAttrs_dict q0K PySem.F.type_dict_get (a0 (ho pins s σ H _ I h) fun u s1 ⟨x,H1,I1,rx,a,ex,d,q1⟩ => ?_);subst ex;obtain rfl:u=Value.ref a:=rx;obtain⟨t1,t2,_⟩:=OG I1 d;refine⟨t1,t2,?_⟩;rw[m.trees]
 refine Calls.callWith_builtin rfl (Calls.evalArgs_plain (q08 (a0 (he pins s1 σ H1 _ I1 q1) fun iv s2 h0_ => el5 h0_ fun y H2 I2 ry q2 =>
  q08 (a0 (hf pins s2 σ H2 _ I2 q2) fun fv s3 ⟨z,H3,I3,rz,ov,g,q3⟩=>Calls.spliced_nil ?_))))
 exact OH hu I3 g ry rz fun w' s4 I4 jx=>⟨_,H3,I4,jx,q3⟩
end
section
variable {X:Cx} {pins:List (Addr × Obj)} {σ : St} {H:Hp} {s:Shared} {a:Addr} {af:List (Key × V)} {A:Around} {E:Value->Shared->Prop}
end
section
variable {X:Cx} {pins:List (Addr × Obj)} {σ : St} {H:Hp} {s:Shared} {a:Addr} {y:V} {u:Value} {A:Around} {E:Value->Shared->Prop}
end
end L2
namespace L2
section
variable {κ : Type} [DecidableEq κ]
end
end L2
namespace L2
open PySem PySem.Spec PyProof.Rows
structure JE (X:Cx) (e:Expr) (t:TE):Prop where
 out:PE X e t
structure JT (X:Cx) (e:Expr) (t:TT):Prop where
 out:PT X e t
structure JW (X:Cx) (e:Expr) (t:TT):Prop where
 out:PW X e t
structure JA (X:Cx) (es:List Expr) (t:TA):Prop where
 out:PA X es t
structure JS (X:Cx) (st:Stmt) (t:TS):Prop where
 out:PS X st t
structure eF (X:Cx) (st:List Stmt) (t:TS):Prop where
 out:gP X st t
structure JF (X:Cx) (ifs:List Expr) (t:TT):Prop where
 out:PF X ifs t
structure JG (X:Cx) (tg:Expr) (t:TG):Prop where
 out:PG X tg t
structure j4 (X:Cx) (ts:List Expr) (t:i7):Prop where
 out:t_ X ts t
structure JI (X:Cx) (tg iter:Expr) (wi:TI):Prop where
 out:PI X tg iter wi
structure JC (X:Cx) (op:CmpOp) (a b:Expr) (t:TE):Prop where
 out:PC X op a b t
theorem JE.weak {X:Cx} {e:Expr} {t t':TE} (h:JE X e t) (k:∀ σ H Q,t' σ H Q->t σ H Q):JE X e t':=⟨PE.weak h.out k⟩
theorem JT.weak {X:Cx} {e:Expr} {t t':TT} (h:JT X e t) (k:∀ σ H Q,t' σ H Q->t σ H Q):JT X e t':=⟨PT.weak h.out k⟩
theorem JA.weak {X:Cx} {es:List Expr} {t t':TA} (h:JA X es t) (k:∀ σ H Q,t' σ H Q->t σ H Q):JA X es t':=⟨PA.weak h.out k⟩
theorem JS.weak {X:Cx} {st:Stmt} {t t':TS} (h:JS X st t) (k:∀ D σ H,t' D σ H->t D σ H):JS X st t':=⟨PS.weak h.out k⟩
theorem eF.weak {X:Cx} {st:List Stmt} {t t':TS} (h:eF X st t) (k:∀ D σ H,t' D σ H->t D σ H):eF X st t':=⟨gP.weak h.out k⟩
theorem JW.jt {X:Cx} {e:Expr} {t:TT} (h:JW X e t):JT X e t:=⟨PW.pt h.out⟩
theorem OJ {X:Cx} {i:Nat} {x:Str} {pos:Pos} (hN:X.N[i]? = some x) (hv:p9 X.env.scope x) (hd:(x == ("__debug__" : Str))=false:=by decide) (fh:(x == ("__classdict__" : Str))=false:=by decide):JE X (.Name x pos) (eK i):=⟨L2.Er hN hv hd fh⟩
theorem cg {X:Cx} {i j pos}:JE X (.Constant (.int i) j pos) (tC (.int i)):=⟨L2.L6⟩
theorem OK {X:Cx} {b j pos}:JE X (.Constant (.bool b) j pos) (tC (.bl b)):=⟨L2.L7⟩
theorem OL {X:Cx} {j pos}:JE X (.Constant .none j pos) (tC .non):=⟨L2.L8⟩
theorem OM {X:Cx} {x:Str} {v:V} {u:Value} {pos:Pos} (hg:Gl X x) (hm:X.mg x=some u) (r:RelV v u) (hd:(x == ("__debug__" : Str))=false:=by decide):JE X (.Name x pos) (tC v):=⟨L2.L9 hg hm r hd⟩
theorem ON {X:Cx} {x:Str} {v:V} {u:Value} {pos:Pos} (hg:Gl X x) (hm:X.mg x=none) (hv:bootBuiltins x=some u) (r:RelV v u) (hn:x ≠ "__name__" := by decide) (hd:(x == ("__debug__" : Str))=false:=by decide):JE X (.Name x pos) (tC v):=⟨L2.L_ hg hm hv r hn hd⟩
theorem OO {X:Cx} {a b:Expr} {pos:Pos} {op:CmpOp} {t:TE} (h:JC X op a b t) (h1:behindInMarks op b=false:=by first | exact Mb _ (by decide) (by decide) | rfl):JT X (.Compare a [op] [b] pos) (tB t):=⟨L2.Ma h.out h1⟩
theorem OQ {X:Cx} {e:Expr} {t:TE} (h:JE X e t) (he:∀ whole,isTrue e X.env whole=(do let v <- whole;standAt e.pos;holding [v] (truthy v)):=by intro _;rfl):JT X e (tB t):=⟨L2.Mc h.out he⟩
theorem OR {X:Cx} {a:Expr} {pos:Pos} {tA:TT} (ha:JT X a tA):JW X (.BoolOp .And [a] pos) tA:=⟨L2.Md ha.out⟩
theorem OS {X:Cx} {a:Expr} {pos:Pos} {tA:TT} (ha:JT X a tA):JW X (.BoolOp .Or [a] pos) tA:=⟨L2.Me ha.out⟩
theorem OT {X:Cx} {a b:Expr} {pos:Pos} {tA l_:TT} {rest:List Expr} (ha:JT X a tA) (hb:JW X (.BoolOp .And (b :: rest) pos) l_):JW X (.BoolOp .And (a :: b :: rest) pos) (qc tA l_):=⟨L2.Mf ha.out hb.out⟩
theorem OU {X:Cx} {a b:Expr} {pos:Pos} {tA l_:TT} {rest:List Expr} (ha:JT X a tA) (hb:JW X (.BoolOp .Or (b :: rest) pos) l_):JW X (.BoolOp .Or (a :: b :: rest) pos) (zg tA l_):=⟨L2.Mg ha.out hb.out⟩
theorem OW {X:Cx} {a:Expr} {pos:Pos} {tA:TT} (ha:JT X a tA):JT X (.UnaryOp .Not a pos) (t8 tA):=⟨L2.Mh ha.out⟩
theorem OX {X:Cx} {a:Expr} {pos:Pos} {op} {t:TE} (h:JE X a t):JE X (.BoolOp op [a] pos) t:=⟨L2.Mi h.out⟩
theorem OY {X:Cx} {a b:Expr} {ta tb:TE} {pos:Pos} {rest:List Expr} (ha:JE X a ta) (hb:JE X (.BoolOp .And (b :: rest) pos) tb):JE X (.BoolOp .And (a :: b :: rest) pos) (Et ta tb):=⟨L2.Mj ha.out hb.out⟩
theorem OZ {X:Cx} {a:Expr} {ta:TE} {pos:Pos} (ha:JE X a ta):JE X (.UnaryOp .Not a pos) (Eu ta):=⟨L2.Ml ha.out⟩
theorem O0 {X:Cx} {a b:Expr} {ta tb:TE} {pos:Pos} {tA:TT} {c:Expr} (hc:JT X c tA) (ha:JE X a ta) (hb:JE X b tb):JE X (.IfExp c a b pos) (Ew tA ta tb):=⟨L2.Mm hc.out ha.out hb.out⟩
theorem gA {X:Cx}  : eF X [] r_:=⟨L2.Mn⟩
theorem qC {X:Cx} {st:Stmt} {rest:List Stmt} {t u:TS} (h1:JS X st t) (h2:eF X rest u):eF X (st :: rest) (jo t u):=⟨L2.Mo h1.out h2.out⟩
theorem wX {X:Cx} {st:Stmt} {t:TS} (h1:JS X st t):eF X [st] t:=⟨L2.Mp h1.out⟩
theorem FZ {X:Cx} {e:Expr} {te:TE} {pos:Pos} (he:JE X e te) (hs:swapsWith e none pos.line X.env=pure false:=by rfl):JS X (.Expr e pos) (wH te):=⟨L2.Mq he.out hs⟩
theorem F0 {X:Cx} {e:Expr} {te:TE} {pos:Pos} (he:JE X e te):JS X (.Return (some e) pos) (t9 te):=⟨L2.Mr he.out⟩
theorem Ai {X:Cx} {t u:TS} {pos:Pos} {c:Expr} {a b:List Stmt} {tc:TT} (hc:JT X c tc) (ha:eF X a t) (hb:eF X b u):JS X (.If c a b pos) (jq tc t u):=⟨L2.Ms hc.out ha.out hb.out⟩
theorem Aj {X:Cx} {pos:Pos} {i:Nat} {x:Str} (hN:X.N.Nodup) (hi:X.N[i]? = some x) (hx:Loc X.env.scope x) (hf:X.fn x=true\/X.env.scope.names.lookup x=some .local:=by first | exact .inl rfl | exact .inr rfl | assumption):JG X (.Name x pos) (mR i):=⟨L2.Mt hN hi hx hf⟩
theorem i_ {X:Cx}  : j4 X [] ua:=⟨L2.Mu⟩
theorem Ak {X:Cx} {e:Expr} {es:List Expr} {t:TG} {u:i7} (h1:JG X e t) (h2:j4 X es u) (hs:(assignEach (e :: es) X.env).map (·.2)=assign e X.env :: (assignEach es X.env).map (·.2):=by rfl):j4 X (e :: es) (Ex t u):=⟨L2.Mv h1.out h2.out hs⟩
theorem F7 {X:Cx} {pos:Pos} {es:List Expr} {k:Nat} {t:i7} {n:Nat} (hc:X.calm=true) (h:j4 X es t) (hn:(assignEach es X.env).length=n:=by rfl) (kF:(assignEach es X.env).findIdx? (·.1)=none:=by rfl):JG X (.Tuple es k pos) (ub X.K n t):=⟨L2.Mw hc h.out hn kF⟩
theorem uK {X:Cx} {pos:Pos} {o i:Expr} {to ti:TE} {t:mQ} (ho:JE X o to) (hi:JE X i ti) (hs:qd X t) (ha:∀ v,assign (.Subscript o i pos) X.env v=(do
   let ov <- holding [v] (eval o X.env)
   let iv <- holding [v,ov] (eval i X.env)
   standAt pos
   holding [v,ov,iv] (setItem ov iv v)
   release [v,ov,iv] []):=by intro _;rfl):JG X (.Subscript o i pos) (qe to ti t):=⟨L2.Mx ho.out hi.out hs ha⟩
theorem sH {X:Cx} {pos:Pos} {tg e:Expr} {te:TE} {g:TG} (he:JE X e te) (hg:JG X tg g) (hs:swapsWithSole [tg] e pos.line X.env=pure false:=by rfl) (hw:swappedStores [tg] e X.env=pure none:=by rfl) (h1:(assignEach [tg] X.env).map (·.2)=[assign tg X.env]:=by rfl):JS X (.Assign [tg] e pos) (fQ te g):=⟨L2.Mz he.out hg.out hs hw h1⟩
theorem wY {X:Cx} {pos:Pos} {i:Nat} {x:Str} {e:Expr} {te:TE} {pos':Pos} (hN:X.N.Nodup) (hi:X.N[i]? = some x) (hx:Loc X.env.scope x) (he:JE X e te) (hs:swapsWith e (some (.Name x pos')) pos.line X.env=pure false:=by rfl) (hf:X.fn x=true\/X.env.scope.names.lookup x=some .local:=by first | exact .inl rfl | exact .inr rfl | assumption):JS X (.Assign [.Name x pos'] e pos) (fQ te (mR i)):=⟨L2.MA hN hi hx he.out hs hf⟩
theorem O1 {X:Cx} {pos:Pos} {c:Expr} {body:List Stmt} {tc:TT} {tb:TS} (hp:PassesOwn (model X.prog X.w) X.A X.env X.xe) (hc:JT X c tc) (hb:eF X body tb):JS X (.While c body [] pos) (Ey tc tb):=⟨L2.MB hp hc.out hb.out⟩
theorem O3 {X:Cx} {tg:Expr} {a:Expr} {ta:TA} {p pos:Pos} (hg:Gl X "range") (hm:X.mg "range" = none) (ha:JA X [a] ta) (hs:starEach [a] X.env=[(false,eval a X.env)]:=by rfl):JI X tg (.Call (.Name "range" p) [a] [] pos) (ED ta):=⟨L2.MF hg hm ha.out hs⟩
theorem O4 {X:Cx} {tg:Expr} {a b:Expr} {ta:TA} {p pos:Pos} (hg:Gl X "range") (hm:X.mg "range" = none) (ha:JA X [a,b] ta) (hs:starEach [a,b] X.env=[(false,eval a X.env),(false,eval b X.env)]:=by rfl) (dY:starEach [b] X.env=[(false,eval b X.env)]:=by rfl):JI X tg (.Call (.Name "range" p) [a,b] [] pos) (EE ta):=⟨L2.MG hg hm ha.out hs dY⟩
theorem F8 {X:Cx} {tg:Expr} {iter:Expr} {body:List Stmt} {wi:TI} {g:TG} {tb:TS} {pos:Pos} (hp:PassesOwn (model X.prog X.w) X.A X.env X.xe) (hc:X.calm=true) (hi:JI X tg iter wi) (hg:JG X tg g) (hb:eF X body tb) (hs:∀ x,foldedSetIterable iter X.env x=pure x:=by intro _;rfl):JS X (.For tg iter body [] pos) (ud wi g tb):=⟨L2.MI hp hc hi.out hg.out hb.out hs⟩
theorem uL {X:Cx} {a b:Expr} {ta tb:TE} {pos:Pos} {op:Operator} {r:R2} (ho:cP X (binaryOp op) r) (ha:JE X a ta) (hb:JE X b tb):JE X (.BinOp a op b pos) (kH r ta tb):=⟨L2.MJ ho ha.out hb.out⟩
theorem O5 {X:Cx} {a b:Expr} {ta tb:TE} {pos:Pos} {op:CmpOp} {r:R2} (ho:cP X (compareOp op) r) (ha:JE X a ta) (hb:JE X b tb) (hm:behindInMarks op b=false):JE X (.Compare a [op] [b] pos) (kH r ta tb):=⟨L2.MU ho ha.out hb.out hm⟩
theorem O6 {X:Cx} {a b:Expr} {ta tb:TE} {pos:Pos} {op:CmpOp} {r:R2} (ho:cP X (compareOp op) r) (ha:JE X a ta) (hb:JE X b tb) (hm:behindInMarks op b=false):JT X (.Compare a [op] [b] pos) (EH (kH r ta tb)):=⟨L2.MV ho ha.out hb.out hm⟩
theorem O7 {X:Cx} {a b c:Expr} {ta tb tc:TE} {pos:Pos} {op kJ:CmpOp} {r r':R2} (ho:cP X (compareOp op) r) (jn:cP X (compareOp kJ) r') (ha:JE X a ta) (hb:JE X b tb) (hc:JE X c tc) (hm:lastMarks [op,kJ] [b,c]=false:=by with_unfolding_all rfl):JE X (.Compare a [op,kJ] [b,c] pos) (EI r r' ta tb tc):=⟨L2.MW ho jn ha.out hb.out hc.out hm⟩
theorem bN {X:Cx}  : JA X [] jr:=⟨L2.M4⟩
theorem qD {X:Cx} {e:Expr} {es:List Expr} {te:TE} {t:TA} (ha:JE X e te) (hr:JA X es t) (hs:starEach (e :: es) X.env=(false,eval e X.env) :: starEach es X.env:=by rfl):JA X (e :: es) (fR te t):=⟨L2.si ha.out hr.out hs⟩
theorem O8 {X:Cx} {es:List Expr} {t:TA} {pos:Pos} {x1} (h:JA X es t):JE X (.Tuple es x1 pos) (ui t):=⟨L2.M5 h.out⟩
theorem Al {X:Cx} {es:List Expr} {t:TA} {pos:Pos} (h:JA X es t):JE X (.List es pos) (uj t):=⟨L2.M6 h.out⟩
theorem wZ {X:Cx} {CX:ju} {k:Nat} {f:Addr} {fd:FuncData} {ps:List Str} {sp:Sp} {kK:List V} {ds:List Value} {E:XK} {x:Str} {p pos:Pos} {e:Expr} {es:List Expr} {t:TA} (F:cS X.prog X.w X.K X.mg X.base CX k f fd ps sp) (hr:bh k X.A) (hg:Gl X x) (hm:X.mg x=some (.ref f)) (hk:PySem.W.keepIn X.K (.ref f)=true) (hb:Binds X.K fd ps ds) (hd:Vals kK ds) (hx:wK CX X E) (ha:JA X (e :: es) t) (eM:(x == ("__debug__" : Str))=false:=by decide) (he:starEach (e :: es) X.env=(false,eval e X.env) :: starEach es X.env:=by rfl) (eE:(backTo pos (starEach es X.env)).any (·.1)=false:=by rfl):JE X (.Call (.Name x p) (e :: es) [] pos) (sj sp kK E t):=⟨L2.M8 F hr hg hm hk hb hd hx ha.out eM he eE⟩
theorem w4 {X:Cx} {x:Str} {p pos:Pos} {e:Expr} {es:List Expr} {t:TA} {id:String} {r:List V->Hp->VK->Prop} (hc:gu X (.builtin id) r) (hg:Gl X x) (hm:X.mg x=none) (hv:bootBuiltins x=some (.builtin id)) (ha:JA X (e :: es) t) (hn:x ≠ "__name__" := by decide) (eM:(x == ("__debug__" : Str))=false:=by decide) (he:starEach (e :: es) X.env=(false,eval e X.env) :: starEach es X.env:=by rfl) (eE:(backTo pos (starEach es X.env)).any (·.1)=false:=by rfl):JE X (.Call (.Name x p) (e :: es) [] pos) (sk r t):=⟨L2.M_ hc hg hm hv ha.out hn eM he eE⟩
theorem pe {X:Cx} {x:Str} {p pos:Pos} {e:Expr} {es:List Expr} {t:TA} {T:String} {r:List V->Hp->VK->Prop} (hc:gu X (.type T) r) (hg:Gl X x) (hm:X.mg x=none) (hv:bootBuiltins x=some (.type T)) (ha:JA X (e :: es) t) (hn:x ≠ "__name__" := by decide) (eM:(x == ("__debug__" : Str))=false:=by decide) (he:starEach (e :: es) X.env=(false,eval e X.env) :: starEach es X.env:=by rfl) (eE:(backTo pos (starEach es X.env)).any (·.1)=false:=by rfl):JE X (.Call (.Name x p) (e :: es) [] pos) (sk r t):=⟨L2.Na hc hg hm hv ha.out hn eM he eE⟩
theorem Am {X:Cx} {e:Expr} {te:TE} {lo hi:Option Expr} {tl th:TO} {pos p2:Pos} {r:V->Option Int->Option Int->Hp->VK->Prop} (hr:m9 X r) (he:JE X e te) (hl:PO X lo tl) (hu:PO X hi th):JE X (.Subscript e (.Slice lo hi none p2) pos) (E7 r te tl th):=⟨L2.Np hr he.out hl hu⟩
theorem Ao {X:Cx} {a b:Expr} {ta tb:TE} {pos:Pos} {r:R2} (hr:sv X r) (ha:JE X a ta) (hb:JE X b tb) (hs:zE b):JE X (.Subscript a b pos) (kH r ta tb):=⟨L2.Nv hr ha.out hb.out hs⟩
theorem pf {X:Cx} {o e:Expr} {es:List Expr} {to:TE} {t:TA} {name:Str} {apos bQ:Pos} {T id:String} {r:V->List V->Hp->VK->Prop} (pa:PlainAttrs T) (slot:Slot T name id) (zJ:typeOf (.builtin id)=pure (.type "method_descriptor")) (hm:zF X id r) (ho:JE X o to) (ha:JA X (e :: es) t) (kL:attributeBase o name X.env (eval o X.env)=eval o X.env:=by rfl) (qr:((backTo bQ (starEach (e :: es) X.env)).all (fun x => !x.1) && (backToKw bQ (keywordEach [] X.env)).all (fun x=>x.1.isSome)
   && decide ((e :: es).length + ([]:List Keyword).length + (if ([]:List Keyword).isEmpty then 0 else 1) < 30))=true:=by rfl) (kM:(apos.endLine == bQ.line)=true:=by rfl) (hs:starEach (e :: es) X.env=(false,eval e X.env) :: starEach es X.env:=by rfl) (hplain:(backTo bQ (starEach es X.env)).any (·.1)=false:=by rfl):JE X (.Call (.Attribute o name apos) (e :: es) [] bQ) (qq X.K T r to t):=⟨L2.NF pa slot zJ hm ho.out ha.out kL qr kM hs hplain⟩
theorem jv {X:Cx} (i:Nat) {x:Str} {pos:Pos} (hN:X.N[i]? = some x:=by rfl) (hv:p9 X.env.scope x:=by first | exact Or.inl rfl | exact Or.inr (Or.inl rfl) | exact Or.inr (Or.inr rfl)) (hd:(x == ("__debug__" : Str))=false:=by decide) (fh:(x == ("__classdict__" : Str))=false:=by decide):JE X (.Name x pos) (eK i):=⟨L2.pv i hN hv hd fh⟩
theorem O9 {X:Cx} {o i:Expr} {pos:Pos} {td ty:TE} (hu:X.A.units + 1 < cLine) (ho:JE X o td) (hi:JE X i ty) (hs:nv i):JE X (.Subscript o i pos) (FR td ty):=⟨L2.Oz hu ho.out hi.out hs⟩
theorem O_ {X:Cx} {o i:Expr} {td ty:TE} (hu:X.A.units + 1 < cLine) (hi:JE X i ty) (ho:JE X o td):JC X .NotIn i o (Af ty td):=⟨L2.OA hu hi.out ho.out⟩
theorem Pa {X:Cx} {o i value:Expr} {pos pos':Pos} {td ty tv:TE} (hu:X.A.units + 1 < cLine) (ho:JE X o td) (hi:JE X i ty) (hv:JE X value tv) (hs:swapsWith value (some (.Subscript o i pos')) pos.line X.env=pure false):JS X (.Assign [.Subscript o i pos'] value pos) (FT td ty tv):=⟨L2.OB hu ho.out hi.out hv.out hs⟩
theorem Pb {X:Cx} {pos:Pos} {keys:List (Option Expr)} {values:List Expr} {jZ:List (TE × TE)} (h:uI X pos keys values jZ) (dI:keys.all (·.isSome)=true) (hl:keys.length=values.length) (h0:keys≠[]) (Ah:keys.length <= 15):JE X (.Dict keys values pos) (FW jZ):=⟨L2.OF h dI hl h0 Ah⟩
theorem Pc {X:Cx} {o e f:Expr} {apos bQ:Pos} {td ty tx:TE} (hu:X.A.units + 1 < cLine) (ho:JE X o td) (he:JE X e ty) (hf:JE X f tx) (m:M2 X o "get" apos e f bQ):JE X (.Call (.Attribute o "get" apos) [e,f] [] bQ) (FY td ty tx):=⟨L2.OI hu ho.out he.out hf.out m⟩
theorem qE {X:Cx}:JF X [] ux:=⟨L2.NQ⟩
theorem Pd {X:Cx} {c:Expr} {t:TT} (h:JT X c t):JF X [c] t:=⟨L2.NR h.out⟩
theorem F9 {X:Cx} {elt tg iter:Expr} {ifs:List Expr} {scope:Scope} {pos:Pos} {wi:TI} {g:BD->TG} {tf:BD->TT} {te:BD->TE} (cp:List (Option Nat)) (Nb:List Str) (hc:X.calm=true) (hi:JI X tg iter wi) (hg:∀ d,JG (cD X scope Nb d) tg (g d)) (hf:∀ d,JF (cD X scope Nb d) ifs (tf d)) (he:∀ d,JE (cD X scope Nb d) elt (te d)) (hk:scope.kind = .function:=by rfl) (ho:me X.N X.env.scope scope Nb cp=true:=by first | rfl | kernel_rfl) (hs:∀ x,foldedSetIterable iter X.env x=pure x:=by intro _;rfl):JE X (.ListComp elt [⟨tg,iter,ifs,0⟩] scope pos) (qA wi cp g tf te):=⟨L2.N9 cp Nb hc hi.out (fun dd=>(hg dd).out) (fun dd=>(hf dd).out) (fun dd=>(he dd).out) hk ho hs⟩
theorem Pe {X:Cx} {elt tg iter:Expr} {ifs:List Expr} {scope:Scope} {pos:Pos} {wi:TI} {g:BD->TG} {tf:BD->TT} {te:BD->TE} (cp:List (Option Nat)) (Nb:List Str) {i:Nat} {x:Str} {pos' g6:Pos} (hN:X.N.Nodup) (hi:X.N[i]? = some x) (hx:Loc X.env.scope x) (hc:X.calm=true) (hit:JI X tg iter wi) (hg:∀ d,JG (cD X scope Nb d) tg (g d)) (hf:∀ d,JF (cD X scope Nb d) ifs (tf d)) (he:∀ d,JE (cD X scope Nb d) elt (te d)) (hk:scope.kind = .function:=by rfl) (ho:me X.N X.env.scope scope Nb cp=true:=by first | rfl | kernel_rfl) (hs:∀ x,foldedSetIterable iter X.env x=pure x:=by intro _;rfl) (uB:swapsWith (.ListComp elt [⟨tg,iter,ifs,0⟩] scope pos) (some (.Name x pos')) g6.line X.env=pure true:=by rfl) (mP:X.fn x=true\/X.env.scope.names.lookup x=some .local:=by first | exact .inl rfl | exact .inr rfl | assumption):JS X (.Assign [.Name x pos'] (.ListComp elt [⟨tg,iter,ifs,0⟩] scope pos) g6) (fQ (qA wi cp g tf te) (mR i)):=⟨L2.N_ cp Nb hN hi hx hc hit.out (fun dd=>(hg dd).out) (fun dd=>(hf dd).out) (fun dd=>(he dd).out) hk ho hs uB mP⟩
theorem Pf {X:Cx} {elts:List Expr} {x1:Nat} {tp:Pos} {a:Expr} {ta:TA} {p pos:Pos} (hg:Gl X "enumerate") (hm:X.mg "enumerate" = none) (ha:JA X [a] ta) (hs:starEach [a] X.env=[(false,eval a X.env)]:=by rfl):JI X (.Tuple elts x1 tp) (.Call (.Name "enumerate" p) [a] [] pos) (FI X.K ta):=⟨L2.Oc hg hm ha.out hs⟩
theorem uM {X:Cx} {es:List Expr} {te:TE} {t:TA} {c j p} (ha:JE X (.Constant c j p) te) (hr:JA X es t):JA X (.Constant c j p :: es) (fR te t):=⟨L2.z6 ha.out hr.out⟩
theorem jC {X:Cx} {es:List Expr} {te:TE} {t:TA} {x p} (ha:JE X (.Name x p) te) (hr:JA X es t):JA X (.Name x p :: es) (fR te t):=⟨L2.z9 ha.out hr.out⟩
theorem kP {X:Cx} {es:List Expr} {te:TE} {t:TA} {f a k p} (ha:JE X (.Call f a k p) te) (hr:JA X es t):JA X (.Call f a k p :: es) (fR te t):=⟨L2.z_ ha.out hr.out⟩
theorem Ap {X:Cx} {es:List Expr} {te:TE} {t:TA} {a k p} (ha:JE X (.Tuple a k p) te) (hr:JA X es t):JA X (.Tuple a k p :: es) (fR te t):=⟨L2.Aa ha.out hr.out⟩
theorem Aq {X:Cx} {es:List Expr} {te:TE} {t:TA} {a k p} (ha:JE X (.Subscript a k p) te) (hr:JA X es t):JA X (.Subscript a k p :: es) (fR te t):=⟨L2.Ab ha.out hr.out⟩
theorem g5.Ar {P:Program} {w:World} {K:PySem.W.Frag} {mg:Str->Option Value} {base:Heap} {x qual:Str} {st:Stmt} {f:Addr} {fd:FuncData} {N ps:List Str} {k:Nat} {sp:Sp} (F:g5 K x qual st f fd) (S:mV N ps (cV st)) (len:∀ vs H Q E,sp vs H Q E->vs.length=ps.length)
  (dO:∀ (ba:Value) (A:Around) (outer:List Env) (s:Shared) (H:Hp) (vs:List V) (Q:VK) (E:XK),bh k (A.deeper (envOfC qual (cV st) s.heap.objs.size f ba))->sp vs H Q E →
   ∃ t,eF (eN f9 P w K mg base N qual (cV st) f ba A outer s H E).kE (gx st) t/\t { nx:=fun _ H'=>Q .non H',rt:=Q } (start N vs) H):cS P w K mg base f9 (k + 1) f fd ps sp :=
 F.ok S len fun ba A outer s H vs Q E hr h=>let ⟨t,g,q⟩:=dO ba A outer s H vs Q E hr h; ⟨t,g.out,q⟩
end L2
namespace LJS
open PySem
noncomputable def hp (i j:Int):Int:=reduceHash (Builtin.Tuple.tupleHashOf [hashInt i,hashInt j])
theorem F_ {prog:Program} {w:World} (i j:Int):hT prog w [i,j]=hp i j:=rfl
noncomputable def w5:List (Int × Int):=(List.range 12).flatMap fun j=>(List.range j).map fun i:Nat=>(Int.ofNat i,Int.ofNat j)
theorem Pg:∀ a∈w5,∀ b∈w5,hp a.1 a.2=hp b.1 b.2->a=b:=by decide +kernel
theorem Ga {i j:Int} (h0:0 <= i) (h1:i < j) (h2:j < 12):(i,j)∈w5:=by
 obtain⟨a,rfl⟩:∃ a:Nat,i=a:=⟨i.toNat,by omega⟩;obtain⟨b,rfl⟩:∃ b:Nat,j=b:=⟨j.toNat,by omega⟩;unfold w5;exact List.mem_flatMap.mpr ⟨b,Yq.mpr (by omega),X0.mpr ⟨a,Yq.mpr (by omega),rfl⟩⟩
end LJS
namespace L2
open PySem PySem.Spec PyProof.Rows
noncomputable def kQ (S:Addr) (n:Nat):HO := .ext fun h=>∃ hs:List Int,hs.length=n/\LJS.kB h S hs
theorem Ph {P:Program} {w:World} {H:Hp} {h:Heap} {S:Addr} {hs:List Int} {n:Nat} (e:LJS.kB h S hs) (hn:hs.length=n):aO P w H h S (kQ S n) :=
 ⟨⟨hs,hn,e⟩,let ⟨o,_,_,_,ho,_⟩:=e; ⟨o,ho⟩,fun h1 h2 ⟨w6,en,e1⟩ k=>⟨w6,en,LJS.LN e1 fun o eo=>k o eo⟩⟩
section
variable {X:Cx}
theorem Gb:∀ {ps:List Addr} {aq:List Value},Vals (ps.map V.ref) aq->aq=ps.map Value.ref
 | [],_,.nil=>rfl
 | _ :: _,_,.cons r rs=>by cases r;rw[Gb rs];rfl
theorem Pj:gu X (.builtin "len") (fun xs H Q=>∃ (p:Addr) (n:Nat),xs=[.ref p]/\H p=some (kQ p n)/\n < 1000/\Q (.int n) H):=by
 intro pins s σ H xs us Q I r h;obtain⟨p,n,rfl,hp,hn,q⟩:=h;obtain⟨u,rfl,rx⟩:=vals1 r;cases rx
 obtain⟨⟨hs,hl,o,es,ep,t,ho,hex,hd,T⟩,_⟩:=I.aM p _ hp;have e:es.size=n:=by rw[T.num,hl]
 refine call_len_set ho hex hd T.fits (by omega) ⟨.int n,H,I.tok _,⟨_,by rw[e]⟩,q⟩
theorem Gd:∀ {bs:List Bool} {aq:List Value},Vals (bs.map V.bl) aq->aq=bs.map Value.bool
 | [],_,.nil=>rfl
 | _ :: _,_,.cons r rs=>by cases r;rw[Gd rs];rfl
theorem all_range (bs:List Bool):(List.range bs.length).all (fun i=>bs.getD i true)=bs.all id:=by
 rw[Bool.eq_iff_iff,YV,YV]
 constructor
 ·intro h b hb
  obtain⟨i,hi⟩:=X9.mp hb;have hl:=(sA.mp hi).1;have:=h i (Yq.mpr hl);rw[Fs,hi] at this;exact this
 ·intro h i hi
  have hl:=Yq.mp hi;rw[Fs,qv hl];exact h _ (ZL hl)
theorem Pk (hc:X.calm=true):gu X (.builtin "all") (fun xs H Q=>∃ (l:Addr) (bs:List Bool),xs=[.ref l]/\bz X.K H l (bs.map V.bl)/\Q (.bl (bs.all id)) H):=by
 intro pins s σ H xs us Q I r h;obtain⟨l,bs,rfl,hq,q⟩:=h;obtain⟨u,rfl,rx⟩:=vals1 r;cases rx
 obtain⟨aq,r',pl,_⟩:=I.list hq;obtain rfl:=Gd r';have hL:=pl.isList;have ll:l < s.heap.objs.size:=by obtain⟨o,e,_⟩:=hL;exact NL e
 have nI:l≠s.heap.objs.size:=Yb ll;refine call_all_walk (ZE hL ?_);refine⟨s.heap.objs.size,_,_,_,_,_,fun i=>bs.getD i true,rfl,q0P (by rw[ZN];exact I.ok.hd hc) s.heap.objs.size l nI _,⟨⟨_,Xr _ rfl,rfl,rfl⟩,hL.push _⟩,fun i v s' Q' E' hv w9 => ?_,fun h' tk kp => ?_⟩
 ·have hv:(bs.map Value.bool).toArray[i]? = some v:=hv
  have w9:Q' (bs.getD i true) s':=w9;rw[q0L,My] at hv;obtain⟨b,eb,rfl⟩:=Xt.mp hv;rw[Fs,eb] at w9;exact Zc w9
 ·refine⟨.bl (bs.all id),H,I.kept (t':=tk) fun b o e=>kp b o (fun z => ?_) (qw _ e),?_,q⟩
  ·have:=NL e
   rw[Yn.mp z] at this;exact Zf _ this
  ·show Value.bool _=Value.bool _
   rw[wO,qx,all_range]
end
end L2
namespace LJ
open PySem L2
structure Fn (P:Program) (w:World) (K:PySem.W.Frag) (mg:Str->Option Value) (base:Heap) (k:Nat) (x:Str) (ps:List Str) (sp:Sp) (f:Addr) (fd:FuncData):Prop where
 ok:cS P w K mg base f9 k f fd ps sp
 w_:mg x=some (.ref f)
 kp:PySem.W.keepIn K (.ref f)=true
 bd:Binds K fd ps []
theorem sI:bootBuiltins "bool" = some (.type "bool"):=by decide +kernel
theorem uN:bootBuiltins "int" = some (.type "int"):=by decide +kernel
theorem Ge:bootBuiltins "str" = some (.type "str"):=by decide +kernel
theorem sJ:bootBuiltins "tuple" = some (.type "tuple"):=by decide +kernel
theorem qF:bootBuiltins "list" = some (.type "list"):=by decide +kernel
theorem Pl:bootBuiltins "set" = some (.type "set"):=by decide +kernel
theorem Pn:bootBuiltins "all" = some (.builtin "all"):=by decide +kernel
section
variable {K:PySem.W.Frag}
end
structure bP (many:Int) (ys:List (Int × Int × Int)):Prop where
 m1:1 <= many
 f_:many <= 12
 iq:ys.length <= 30
 ends:∀ y∈ys,0 <= y.1/\y.1 < y.2.1/\y.2.1 < many/\0 <= y.2.2/\y.2.2 <= 1000000000
 unlike:(ys.map fun y=>(y.1,y.2.1)).Nodup
end LJ
namespace L2
open PySem PySem.Spec PyProof.Rows
section
variable {X:Cx}
end
end L2
namespace LJ
open PySem L2
noncomputable def ja:Nat->List (Int × Int)
 | 0=>[]
 | n + 1=>ja n ++ (List.range n).map fun a:Nat=>(Int.ofNat a,Int.ofNat n)
theorem As:∀ {n:Nat} {k:Int × Int},k∈ja n->0 <= k.1/\k.1 < k.2/\k.2 < n
 | 0,_,h=>nomatch h
 | n + 1,k,h=>by
  rcases Ys.mp h with h | h
  ·have:=As h;omega
  ·obtain⟨a,ha,rfl⟩:=X0.mp h
   have:=Yq.mp ha;refine⟨Int.natCast_nonneg a,?_,?_⟩
   ·show (a:Int) < (n:Int);omega
   ·show (n:Int) < ((n + 1:Nat):Int);omega
theorem Gf:∀ n:Nat,(ja n).Nodup
 | 0=>q1a
 | n + 1=>by
  refine Ze.mpr ⟨Gf n,?_,fun k h1 k' h2 e => ?_⟩
  ·refine Zl.mpr (q0M.imp fun {a b} ne e=>ne ?_)
   exact Int.ofNat.inj (congrArg Prod.fst e)
  ·subst e
   obtain⟨a,ha,rfl⟩:=X0.mp h2;have:=(As h1).2.2;have:(n:Int) < (n:Int):=this;omega
theorem Gg:∀ n:Nat,n <= 12->(ja n).length <= 66:=by
 intro n h;rcases n with _ | _ | _ | _ | _ | _ | _ | _ | _ | _ | _ | _ | _ | n
 all_goals first | decide | omega
end LJ
namespace LJ
open PySem
theorem Po {j n:Nat} (h:j < n):seqIndex? (j:Int) n=some j:=by
 unfold seqIndex?
 first | (simp;omega) | skip
end LJ
namespace L2
open PySem PySem.Spec PyProof.Rows
section
variable {X:Cx}
theorem Au:gu X (.type "range") (fun xs H Q=>∃ j:Int,xs=[.int j]/\∀ r,H r=none->Q (.ref r) (upd H r (.rng 0 j))):=by
 intro pins s σ H xs us Q I r h;obtain⟨j,rfl,q⟩:=h;obtain⟨u,rfl,t,rfl⟩:=vals1 r;refine call_range_1 ⟨.ref s.heap.objs.size,_,I.laid (t':=s.toks + 1 + 1) (o := .rng 0 j) (fun b o e=>qw _ e) (uu _) ?_,rfl,q _ (I.aM.fresh (uu _))⟩;exact⟨_,_,_,Xr _ rfl⟩
noncomputable def aR (n:Nat):List Int:=(List.range n).map fun a:Nat=>(a:Int)
theorem Av:∀ {ns:List Int} {us:List Value},us.length=ns.length->(∀ (i:Nat) (u:Value),us[i]? = some u->∃ t,u = .int (ns.getD i 0) t)->Vals (ns.map V.int) us
 | [],[],_,_ => .nil
 | [],_ :: _,h,_=>by simp at h
 | _ :: _,[],h,_=>by simp at h
 | n :: ns,u :: us,h,g=>by
  obtain⟨t,e⟩:=g 0 u rfl;refine .cons ⟨t,e⟩ (Av (by simpa using h) fun i v e2 => ?_);obtain⟨t,e⟩:=g (i + 1) v (by simpa using e2);exact⟨t,by simpa using e⟩
theorem Gh (hc:X.calm=true):gu X (.type "list") (fun xs H Q=>∃ (r:Addr) (n:Nat),xs=[.ref r]/\H r=some (.rng 0 (n:Int))/\n <= 1000/\∀ l,H l=none->Q (.ref l) (upd H l (.lst ((aR n).map V.int)))):=by
 intro pins s σ H xs us Q I r h;obtain⟨a,n,rfl,ha,hn,q⟩:=h;obtain⟨u,rfl,rx⟩:=vals1 r;cases rx
 obtain⟨t,u,v,e⟩:=(show ∃ t u v,s.heap.get? a=some { cls := .type "range",data := .fields #[.int 0 t,.int (n:Int) u,.int 1 v] } from I.aM a _ ha);have hs:Builtin.Range.rangeSize 0 (n:Int) 1=n:=by rw[rangeSize_one];split<;>omega
 refine call_list_range (n:=n) (I.ok.hd hc) e (small_one (by omega) (by omega) (by omega) (by omega)) hs (by omega) fun h' tk acc c' kp e' it => ?_;refine⟨.ref s.heap.objs.size,_,I.laid (t':=tk) (o := .lst ((aR n).map V.int)) kp (uu _) ?_,rfl,q _ (I.aM.fresh (uu _))⟩;refine⟨Zg (qy (by rw[qx,aR,qx,YG];exact hn)),acc.toList,c',?_,by simpa using e'⟩;refine Av ?_ fun i u e => ?_
 ·rw[Fu,it.1,aR,qx,YG]
 ·rw[Yg] at e
  obtain⟨t',e2⟩:=it.2 i u e;have hi:i < n:=by rw[<-it.1];exact (Y1.mp e).1
  refine⟨t',e2.trans ?_⟩;rw[aR,Fs,My,YM hi];show Value.int (0 + (i:Int) * 1) t'=Value.int (i:Int) t';rw[Int.zero_add,Int.mul_one]
theorem Gi:∀ {us:List Value} {ns:List Int},IntsAre us ns->Vals (ns.map V.int) us
 | _,_,.nil => .nil
 | _,_,.cons n t r => .cons ⟨t,rfl⟩ (Gi r)
theorem Gj:gu X (.builtin "sorted") (fun xs H Q=>∃ (l:Addr) (ns:List Int),xs=[.ref l]/\bz X.K H l (ns.map V.int)/\ns.length < 64/\∀ (r:Addr) (fG:List Int),fG.Perm ns->fG.Pairwise (· <= ·)->H r=none->Q (.ref r) (upd H r (.lst (fG.map V.int)))):=by
 intro pins s σ H xs us Q I r h;obtain⟨l,ns,rfl,hq,ir,q⟩:=h;obtain⟨u,rfl,rx⟩:=vals1 r;cases rx
 obtain⟨aq,r',pl,_⟩:=I.list hq;have hl:=r'.length;rw[qx] at hl;refine sorted_ints pl.isList (by simpa using intsAre_of r') (by omega) fun out fG hI pm pw => ?_;have hf:H (s.heap.objs.size + 1)=none:=I.aM.fresh (q1f _);obtain⟨e,he⟩:=sortedAll_at s.heap aq out;refine⟨.ref (s.heap.objs.size + 1),_,I.laid (t':=s.toks) (o := .lst (fG.map V.int)) (fun b o e=>sortedAll_old e) (q1f _) ?_,rfl,q _ fG pm pw hf⟩;refine⟨Zg (qy (by rw[qx,pm.length_eq];omega)),out.toList,e,Gi hI,?_⟩;simpa [seqObj] using he
theorem Gk {prog:Program} {w:World} {A:Around} {E:Value->Shared->Prop} {I l:Addr} {items:Array Value} (W:Walks prog w A I [I,l] [I] items.size (fun i v=>items[i]? = some v) (fun i h=>h.IsListIter I l i/\h.IsList l items)) :
  ∀ (k i:Nat) (s:Shared) (Q:List Value->Shared->Prop),i + k <= items.size->(s.heap.IsListIter I l i/\s.heap.IsList l items) →
   (∀ h' tk,(h'.IsListIter I l (i + k)/\h'.IsList l items)->(∀ b o,b∉[I]->s.heap.get? b=some o->h'.get? b=some o)->Q ((items.toList.drop i).take k) { s with heap:=h',toks:=tk })->wpAny (model prog w) A (draw (.ref I) k) Q E s
 | 0,i,s,Q,_,st,g=>by
  show wpAny _ _ (pure []) Q E s;refine zR ?_;have:=g s.heap s.toks st fun _ _ _ e=>e;rw[q1b] at this;exact this
 | k + 1,i,s,Q,hk,st,g=>by
  have hi:i < items.size:=by omega
  show wpAny _ _ (pyNext (.ref I) >>= _) Q E s;refine ni (W.item i s _ _ hi st fun v h1 jc hv iN Aw => ?_);refine ni (Yp (Gk W k (i + 1) _ _ (by omega) iN fun h2 uO ie Ax=>zR ?_))
  have e:items.toList.drop i=v :: items.toList.drop (i + 1):=by
   rw[ZR (by rw[Fu];exact hi)];congr 1;have Gm:items[i]? = some v:=hv;rw[X_ hi] at Gm;simpa using Gm
  have:=g h2 uO (by rw[show i + (k + 1)=i + 1 + k by omega];exact ie) fun b o hb e=>Ax b o hb (Aw b o hb e);rw[e,List.take_succ_cons] at this;exact this
theorem Pp {prog:Program} {w:World} {A:Around} {E:Value->Shared->Prop} {s:Shared} {l:Addr} {items:Array Value} {Q:List Value->Shared->Prop} (hh:A.handled=none) (hl:s.heap.IsList l items)
  (g:∀ h' tk,(∀ b o,b≠s.heap.objs.size->s.heap.get? b=some o->h'.get? b=some o)->Q items.toList { s with heap:=h',toks:=tk }):wpAny (model prog w) A (unpackItems (.ref l) items.size none) Q E s:=by
 have ll:l < s.heap.objs.size:=by obtain⟨o,e,_⟩:=hl;exact NL e
 have W:=q0P (prog:=prog) (w:=w) hh s.heap.objs.size l (Yb ll) items;unfold unpackItems;refine ni ?_;unfold notIterableAtAll;refine ni (wpAny_specialOf hl.typeIs slot_list_iter.lookup (zR ?_));simp only[Ye,YS];refine ni (Yp (ZE hl ?_));refine ni (Yp (Gk W items.size 0 _ _ (by omega) ⟨⟨_,Xr _ rfl,rfl,rfl⟩,hl.push _⟩ fun h1 jc iN Aw => ?_));rw[q0D,Yv (by rw[Fu];exact uu _),NM (by rw[Fu];exact Zf _)];rw[Yu] at iN;refine ni (Yp (W.done _ _ _ iN fun h2 uO Ax => ?_));simp only[Option.isSome_none,Ye,YS];refine zR (g h2 uO fun b o hb e=>Ax b o (by simpa using hb) (Aw b o (by simpa using hb) (qw _ e)))
noncomputable def Pq (K:PySem.W.Frag) (n:Nat) (t:i7):TG:=fun v σ H Q=>∃ a xs,v = .ref a/\bz K H a xs/\xs.length=n/\t xs σ H Q
theorem Pr {es:List Expr} {k:Nat} {t:i7} {n:Nat} {pos:Pos} (hc:X.calm=true) (h:j4 X es t)
  (hn:(assignEach es X.env).length=n:=by rfl) (kF:(assignEach es X.env).findIdx? (·.1)=none:=by rfl):JG X (.Tuple es k pos) (Pq X.K n t):=by
 refine⟨?_⟩;intro pins s σ H v u Q I r hw;obtain⟨a,xs,e1,hq,hl,hw⟩:=hw;subst e1;cases r
 obtain⟨aq,rv,ht,hz⟩:=I.list hq;have hlen:=rv.length;rw[assign_Tuple];refine ni (q0f ?_);unfold unpack;rw[kF,show (assignEach es X.env).length=aq.toArray.size by rw[hn,<-hl,hlen];simp];refine ni (Yp (Pp (I.ok.hd hc) ht.isList fun h' tk kp => ?_));have I1:Inv X pins σ H { s with heap:=h',toks:=tk }:=I.kept fun b o e=>kp b o (Yb (NL e)) e;exact h.out pins _ σ H xs _ Q I1 (by simpa using rv) hw
end
section
variable {X:Cx} {e:Expr} {te:TE} {pos p2 p3 p4:Pos}
end
inductive DV where
 | p (d:D) | o (k:Nat)
inductive OV where
 | lst (ds:List D) | dct (af:List (Key × D))
structure aA where
 sl:List (Option DV)
 mu:List (Option OV)
noncomputable def fu (F:Hp):List (Key × D)->List (Key × V)->Prop
 | [],ws=>ws=[]
 | kd :: r,ws=>∃ v t,ws=(kd.1,v) :: t/\Is F kd.2 v/\fu F r t
noncomputable def eS (F:Hp):OV->HO->Prop
 | .lst ds,o=>∃ vs,o = .lst vs/\ae F ds vs
 | .dct af,o=>∃ ws,o = .dK ws/\fu F af ws
theorem fu.same {F F':Hp} (s:aF F F'):∀ {fU:List (Key × D)} {ws:List (Key × V)},fu F fU ws->fu F' fU ws
 | [],_,h=>h
 | _ :: _,_,⟨v,t,e,h1,h2⟩=>⟨v,t,e,h1.same s,fu.same s h2⟩
theorem eS.same {F F':Hp} (s:aF F F'):∀ {ov:OV} {o:HO},eS F ov o->eS F' ov o
 | .lst _,_,⟨vs,e,h⟩=>⟨vs,e,h.same s⟩
 | .dct _,_,⟨ws,e,h⟩=>⟨ws,e,h.same s⟩
noncomputable def fw (F:Hp) (ad:List Addr):DV->V->Prop
 | .p d,v=>Is F d v
 | .o k,v=>∃ a,ad[k]? = some a/\v = .ref a
noncomputable def Lv (ad:List Addr) (mu:List (Option OV)) (a:Addr):Prop:=∃ (k:Nat) (ov:OV),ad[k]? = some a/\mu[k]? = some (some ov)
class aK where
 ad:List Addr
 ok:Hp->Prop
 same:∀ {H H':Hp},ok H->aF H H'->ok H'
 put:∀ {H:Hp} {a:Addr} {o o':HO},ok H->H a=some o->((∃ vs,o = .lst vs)\/∃ ws,o = .dK ws)->ok (upd H a o')
 tb:∀ {H:Hp} {a:Addr},ok H->a∈ad->∃ ps,H a=some (.tbl ps)
theorem eS.kind {F:Hp}:∀ {ov:OV} {o:HO},eS F ov o->(∃ vs,o = .lst vs)\/∃ ws,o = .dK ws
 | .lst _,_,⟨vs,e,_⟩ => .inl ⟨vs,e⟩
 | .dct _,_,⟨ws,e,_⟩ => .inr ⟨ws,e⟩
variable [aK]
structure SR (F:Hp) (ad:List Addr) (δ : aA) (σ : St) (H:Hp):Prop where
 sub:aF F H
 off:∀ a,Lv ad δ.mu a->F a=none
 cy:ad.length = δ.mu.length
 inj:∀ (k l:Nat) (a:Addr) (ov ow:OV),ad[k]? = some a->ad[l]? = some a -> δ.mu[k]? = some (some ov) -> δ.mu[l]? = some (some ow)->k=l
 mu:∀ (k:Nat) (ov:OV),δ.mu[k]? = some (some ov)->∃ a o,ad[k]? = some a/\H a=some o/\eS F ov o
 sl:∀ (i:Nat) (x:DV),δ.sl[i]? = some (some x)->∃ v,σ[i]? = some (some v)/\fw F ad x v
 len : σ.length = δ.sl.length
 tab:aK.ok H
 nt:∀ a∈aK.ad,F a=none
structure Ext (F:Hp) (ad:List Addr) (mu:List (Option OV)) (H:Hp) (F':Hp) (aC:List Addr) (cQ:List (Option OV)) (H':Hp):Prop where
 same:aF F F'
 new:∀ a o,F' a=some o->F a=some o\/H a=none\/Lv ad mu a
 keep:∀ a o,H a=some o->¬ Lv ad mu a->a∉aK.ad->H' a=some o
 pre:∀ (k:Nat) (a:Addr),ad[k]? = some a->aC[k]? = some a
 cA:∀ a,Lv aC cQ a->Lv ad mu a\/H a=none
 iw:∀ a o,H a=some o->∃ o',H' a=some o'
section
variable {F F' Gn H H' iy:Hp} {ad aC uP:List Addr} {mu cQ uQ:List (Option OV)} {δ : aA} {σ : St}
theorem c_ {H:Hp} {a:Addr} {o:HO} (h:H a=none):aF H (upd H a o):=fun b u e=>by rw[aS (c6 e h)];exact e
theorem Ext.refl:Ext F ad mu H F ad mu H:=⟨fun _ _ e=>e,fun _ _ e => .inl e,fun _ _ e _ _=>e,fun _ _ e=>e,fun _ e => .inl e,fun _ o e=>⟨o,e⟩⟩
theorem Ext.trans (x:Ext F ad mu H F' aC cQ H') (y:Ext F' aC cQ H' Gn uP uQ iy):Ext F ad mu H Gn uP uQ iy where
 same:=x.same.trans y.same
 new:=fun a o e=>by
  rcases y.new a o e with h | h | h
  ·exact x.new a o h
  ·refine .inr (.inl ?_)
   cases q:H a with
   | none=>rfl
   | some u=>obtain⟨u',h'⟩:=x.iw a u q;rw[h] at h';cases h'
  ·rcases x.cA a h with h | h
   ·exact .inr (.inr h)
   ·exact .inr (.inl h)
 keep:=fun a o e n t=>y.keep a o (x.keep a o e n t) (fun l=>by
  rcases x.cA a l with h | h
  ·exact n h
  ·rw[e] at h;cases h) t
 pre:=fun k a e=>y.pre k a (x.pre k a e)
 cA:=fun a l=>by
  rcases y.cA a l with h | h
  ·exact x.cA a h
  ·refine .inr ?_
   cases q:H a with
   | none=>rfl
   | some u=>obtain⟨u',h'⟩:=x.iw a u q;rw[h] at h';cases h'
 iw:=fun a o e=>let ⟨o1,e1⟩:=x.iw a o e;y.iw a o1 e1
theorem fw.ext {x:DV} {v:V} (h:fw F ad x v) (e:Ext F ad mu H F' aC cQ H'):fw F' aC x v:=by
 cases x with
 | p d=>exact Is.same e.same h
 | o k=>obtain⟨a,h1,h2⟩:=h;exact⟨a,e.pre k a h1,h2⟩
noncomputable def Nw (F H H':Hp):Hp:=fun a=>match H a with
 | none=>H' a
 | some _=>F a
theorem Nw.same (s:aF F H):aF F (Nw F H H'):=fun a o e=>by
 unfold Nw;rw[s a o e];exact e
theorem Nw.sub (s:aF F H) (k:aF H H'):aF (Nw F H H') H':=fun a o e=>by
 unfold Nw at e
 cases q:H a with
 | none=>rw[q] at e;exact e
 | some u=>rw[q] at e;exact k a o (s a o e)
theorem Nw.upd {p:Addr} {o:HO} (s:aF F H) (hp:H p=none):Nw F H (upd H p o)=upd F p o:=by
 funext a;unfold Nw L2.upd
 by_cases c:a=p
 ·subst c;rw[hp,Xs rfl];simp
 ·rw[NM c,NM c]
  cases q:H a with
  | none =>
   cases q2:F a with
   | none=>rfl
   | some u=>rw[s a u q2] at q;cases q
  | some u=>rfl
theorem Nw.refl (s:aF F H):Nw F H H=F:=by
 funext a;unfold Nw
 cases q:H a with
 | none =>
  cases q2:F a with
  | none=>rfl
  | some u=>rw[s a u q2] at q;cases q
 | some u=>rfl
theorem SR.al (S:SR F ad δ σ H) (k:aF H H'):SR (Nw F H H') ad δ σ H':=by
 have sm:=Nw.same (H':=H') S.sub;refine⟨Nw.sub S.sub k,fun a l => ?_,S.cy,S.inj,fun i ov e => ?_,fun i x e => ?_,S.len,aK.same S.tab k,fun a ha=>by obtain⟨ps,q⟩:=aK.tb S.tab ha;unfold Nw;rw[q];exact S.nt a ha⟩
 ·obtain⟨i,ov,e1,e2⟩:=l
  obtain⟨a',o,e3,e4,_⟩:=S.mu i ov e2;rw[e1] at e3;cases e3;unfold Nw;rw[e4];exact S.off a ⟨i,ov,e1,e2⟩
 ·obtain⟨a,o,e1,e2,h⟩:=S.mu i ov e
  exact⟨a,o,e1,k a o e2,h.same sm⟩
 ·obtain⟨v,e1,h⟩:=S.sl i x e
  refine⟨v,e1,?_⟩
  cases x with
  | p d=>exact Is.same sm h
  | o k=>exact h
theorem Ext.al (S:SR F ad δ σ H) (k:aF H H'):Ext F ad δ.mu H (Nw F H H') ad δ.mu H' where
 same:=Nw.same S.sub
 new:=fun a o e=>by
  unfold Nw at e
  cases q:H a with
  | none=>exact .inr (.inl rfl)
  | some u=>rw[q] at e;exact .inl e
 keep:=fun a o e _ _=>k a o e
 pre:=fun _ _ e=>e
 cA:=fun _ l => .inl l
 iw:=fun a o e=>⟨o,k a o e⟩
theorem SR.own {p:Addr} {o:HO} {ov:OV} (S:SR F ad δ σ H) (hp:H p=none) (h:eS F ov o):SR F (ad ++ [p]) ⟨δ.sl,δ.mu ++ [some ov]⟩ σ (upd H p o):=by
 have old:∀ {k:Nat} {w:OV},(δ.mu ++ [some ov])[k]? = some (some w)->(k < δ.mu.length /\ δ.mu[k]? = some (some w))\/(k = δ.mu.length/\w=ov):=fun {k w} e=>by
  by_cases c:k < δ.mu.length
  ·rw[X1 c] at e;exact .inl ⟨c,e⟩
  ·have hl:=(sA.mp e).1
   rw[Fv,Yi] at hl;have ek:k = δ.mu.length:=by omega
   subst ek;rw[X7 (uu _),YI] at e;exact .inr ⟨rfl,by simpa using e.symm⟩
 have pre:∀ {k:Nat},k < δ.mu.length->(ad ++ [p])[k]? = ad[k]? := fun {k} c=>X1 (by rw[S.cy];exact c);have last:(ad ++ [p])[δ.mu.length]? = some p:=by rw[<-S.cy,X7 (uu _),YI];rfl
 have np:∀ {k:Nat} {a:Addr} {w:OV},ad[k]? = some a -> δ.mu[k]? = some (some w)->a≠p:=fun {k a w} e1 e2=>by
  obtain⟨a',u,e3,e4,_⟩:=S.mu k w e2;rw[e1] at e3;cases e3;exact c6 e4 hp
 refine⟨fun a u e => ?_,fun a l => ?_,by rw[Fv,Fv,S.cy];rfl,fun k l a w w' e1 e2 e3 e4 => ?_,fun k w e => ?_,fun i x e => ?_,S.len,aK.same S.tab (c_ hp),S.nt⟩
 ·have:=S.sub a u e
  rw[aS (c6 this hp)];exact this
 ·obtain⟨k,w,e1,e2⟩:=l
  rcases old e2 with⟨c,e3⟩ | ⟨c,e3⟩
  ·rw[pre c] at e1;exact S.off a ⟨k,w,e1,e3⟩
  ·subst c;rw[last] at e1;cases e1
   cases q:F p with
   | none=>rfl
   | some u=>rw[S.sub p u q] at hp;cases hp
 ·rcases old e3 with⟨c,q⟩ | ⟨c,q⟩
  ·rw[pre c] at e1
   rcases old e4 with⟨c',q'⟩ | ⟨c',q'⟩
   ·rw[pre c'] at e2;exact S.inj k l a w w' e1 e2 q q'
   ·subst c';rw[last] at e2;cases e2;exact absurd rfl (np e1 q)
  ·subst c;rw[last] at e1;cases e1
   rcases old e4 with⟨c',q'⟩ | ⟨c',q'⟩
   ·rw[pre c'] at e2;exact absurd rfl (np e2 q')
   ·exact c'.symm
 ·rcases old e with⟨c,q⟩ | ⟨c,q⟩
  ·obtain⟨a,u,e1,e2,h'⟩:=S.mu k w q
   exact⟨a,u,by rw[pre c];exact e1,by rw[aS (np e1 q)];exact e2,h'⟩
  ·subst c;subst q;exact⟨p,o,last,bZ,h⟩
 ·obtain⟨v,e1,h'⟩:=S.sl i x e
  refine⟨v,e1,?_⟩
  cases x with
  | p d=>exact h'
  | o k =>
   obtain⟨a,e2,e3⟩:=h';exact⟨a,by rw[X1 (sA.mp e2).1];exact e2,e3⟩
theorem Ext.own {p:Addr} {o:HO} {ov:OV} (S:SR F ad δ σ H) (hp:H p=none):Ext F ad δ.mu H F (ad ++ [p]) (δ.mu ++ [some ov]) (upd H p o) where
 same:=fun _ _ e=>e
 new:=fun _ _ e => .inl e
 keep:=fun a u e _ _=>by rw[aS (c6 e hp)];exact e
 pre:=fun k a e=>by rw[X1 (sA.mp e).1];exact e
 cA:=fun a l=>by
  obtain⟨k,w,e1,e2⟩:=l
  by_cases c:k < δ.mu.length
  ·rw[X1 c] at e2
   rw[X1 (by rw[S.cy];exact c)] at e1;exact .inl ⟨k,w,e1,e2⟩
  ·have hl:=(sA.mp e2).1
   rw[Fv,Yi] at hl;have ek:k=ad.length:=by rw[S.cy];omega
   subst ek;rw[X7 (uu _),YI] at e1;have:p=a:=by simpa using e1
   subst this;exact .inr hp
 iw:=fun a u e=>⟨u,by rw[aS (c6 e hp)];exact e⟩
theorem SR.put {k:Nat} {a:Addr} {o:HO} {ov ow:OV} (S:SR F ad δ σ H) (hk : δ.mu[k]? = some (some ow)) (ha:ad[k]? = some a) (h:eS F ov o):SR F ad ⟨δ.sl,δ.mu.set k (some ov)⟩ σ (upd H a o):=by
 have kl:=(sA.mp hk).1
 have old:∀ {l:Nat} {w:OV},(δ.mu.set k (some ov))[l]? = some (some w)->(l≠k /\ δ.mu[l]? = some (some w))\/(l=k/\w=ov):=fun {l w} e=>by
  by_cases c:k=l
  ·subst c;rw[Yx kl] at e;exact .inr ⟨rfl,by simpa using e.symm⟩
  ·rw[YH c] at e;exact .inl ⟨fun z=>c z.symm,e⟩
 have lv:∀ {l:Nat} {w:OV} {b:Addr},ad[l]? = some b->(δ.mu.set k (some ov))[l]? = some (some w)->Lv ad δ.mu b:=fun {l w b} e1 e2=>by
  rcases old e2 with⟨_,q⟩ | ⟨c,_⟩
  ·exact⟨l,w,e1,q⟩
  ·subst c;exact⟨l,ow,e1,hk⟩
 have tk:aK.ok (upd H a o):=by
  obtain⟨a',u,e1,e2,h'⟩:=S.mu k ow hk;rw[ha] at e1;cases e1;exact aK.put S.tab e2 h'.kind
 refine⟨fun b u e => ?_,fun b l => ?_,by rw[Y9];exact S.cy,fun l l' b w w' e1 e2 e3 e4 => ?_,fun l w e => ?_,fun i x e => ?_,S.len,tk,S.nt⟩
 ·have nb:b≠a:=fun z=>by
   subst z;rw[S.off b ⟨k,ow,ha,hk⟩] at e;cases e
  rw[aS nb];exact S.sub b u e
 ·obtain⟨l,w,e1,e2⟩:=l
  exact S.off b (lv e1 e2)
 ·have h1:∃ w,δ.mu[l]? = some (some w):=by
   rcases old e3 with⟨_,q⟩ | ⟨c,_⟩
   ·exact⟨_,q⟩
   ·subst c;exact⟨_,hk⟩
  have h2:∃ w,δ.mu[l']? = some (some w):=by
   rcases old e4 with⟨_,q⟩ | ⟨c,_⟩
   ·exact⟨_,q⟩
   ·subst c;exact⟨_,hk⟩
  obtain⟨w1,q1⟩:=h1;obtain⟨w2,q2⟩:=h2;exact S.inj l l' b _ _ e1 e2 q1 q2
 ·rcases old e with⟨c,q⟩ | ⟨c,q⟩
  ·obtain⟨b,u,e1,e2,h'⟩:=S.mu l w q
   have nb:b≠a:=fun z=>by subst z;exact c (S.inj l k b _ _ e1 ha q hk)
   exact⟨b,u,e1,by rw[aS nb];exact e2,h'⟩
  ·subst c;subst q;exact⟨a,o,ha,bZ,h⟩
 ·exact S.sl i x e
theorem Ext.put {k:Nat} {a:Addr} {o:HO} {ov ow:OV} (S:SR F ad δ σ H) (hk : δ.mu[k]? = some (some ow)) (ha:ad[k]? = some a):Ext F ad δ.mu H F ad (δ.mu.set k (some ov)) (upd H a o) where
 same:=fun _ _ e=>e
 new:=fun _ _ e => .inl e
 keep:=fun b u e n _=>by rw[aS fun z=>n (by subst z;exact⟨k,ow,ha,hk⟩)];exact e
 pre:=fun _ _ e=>e
 cA:=fun b l=>by
  obtain⟨l,w,e1,e2⟩:=l
  by_cases c:k=l
  ·subst c;exact .inl ⟨k,ow,e1,hk⟩
  ·rw[YH c] at e2;exact .inl ⟨l,w,e1,e2⟩
 iw:=fun b u e=>by
  by_cases c:b=a
  ·subst c;exact⟨o,bZ⟩
  ·exact⟨u,by rw[aS c];exact e⟩
theorem SR.fix {k:Nat} {a:Addr} {o:HO} {ow:OV} (S:SR F ad δ σ H) (hk : δ.mu[k]? = some (some ow)) (ha:ad[k]? = some a) (ho:H a=some o):SR (upd F a o) ad ⟨δ.sl,δ.mu.set k none⟩ σ H:=by
 have kl:=(sA.mp hk).1;have fa:=S.off a ⟨k,ow,ha,hk⟩;have sm:aF F (upd F a o):=fun b u e=>by rw[aS (c6 e fa)];exact e
 have old:∀ {l:Nat} {w:OV},(δ.mu.set k none)[l]? = some (some w)->l≠k /\ δ.mu[l]? = some (some w):=fun {l w} e=>by
  by_cases c:k=l
  ·subst c;rw[Yx kl] at e;cases e
  ·rw[YH c] at e;exact⟨fun z=>c z.symm,e⟩
 refine⟨fun b u e => ?_,fun b l => ?_,by rw[Y9];exact S.cy,fun l l' b w w' e1 e2 e3 e4=>S.inj l l' b w w' e1 e2 (old e3).2 (old e4).2,fun l w e => ?_,fun i x e => ?_,S.len,S.tab,fun b hb => ?_⟩
 ·by_cases c:b=a
  ·subst c;rw[bZ] at e;cases e;exact ho
  ·rw[aS c] at e;exact S.sub b u e
 ·obtain⟨l,w,e1,e2⟩:=l
  obtain⟨c,q⟩:=old e2;have nb:b≠a:=fun z=>by subst z;exact c (S.inj l k b _ _ e1 ha q hk)
  rw[aS nb];exact S.off b ⟨l,w,e1,q⟩
 ·obtain⟨b,u,e1,e2,h'⟩:=S.mu l w (old e).2
  exact⟨b,u,e1,e2,h'.same sm⟩
 ·obtain⟨v,e1,h'⟩:=S.sl i x e
  refine⟨v,e1,?_⟩
  cases x with
  | p d=>exact Is.same sm h'
  | o k=>exact h'
 ·obtain⟨ps,q⟩:=aK.tb S.tab hb
  have nb:b≠a:=fun z=>by
   subst z;obtain⟨a',u,e1,e2,h'⟩:=S.mu k ow hk;rw[ha] at e1;cases e1;rw[q] at e2;cases e2;rcases h'.kind with⟨_,z⟩ | ⟨_,z⟩<;>cases z
  rw[aS nb];exact S.nt b hb
theorem Ext.fix {k:Nat} {a:Addr} {o:HO} {ow:OV} (S:SR F ad δ σ H) (hk : δ.mu[k]? = some (some ow)) (ha:ad[k]? = some a):Ext F ad δ.mu H (upd F a o) ad (δ.mu.set k none) H where
 same:=fun b u e=>by rw[aS (c6 e (S.off a ⟨k,ow,ha,hk⟩))];exact e
 new:=fun b u e=>by
  by_cases c:b=a
  ·subst c;exact .inr (.inr ⟨k,ow,ha,hk⟩)
  ·rw[aS c] at e;exact .inl e
 keep:=fun b u e _ _=>e
 pre:=fun _ _ e=>e
 cA:=fun b l=>by
  obtain⟨l,w,e1,e2⟩:=l
  by_cases c:k=l
  ·subst c;rw[Yx (sA.mp hk).1] at e2;cases e2
  ·rw[YH c] at e2;exact .inl ⟨l,w,e1,e2⟩
 iw:=fun b u e=>⟨u,e⟩
theorem SR.set {i:Nat} {x:DV} {v:V} (S:SR F ad δ σ H) (h:fw F ad x v):SR F ad ⟨δ.sl.set i (some x),δ.mu⟩ (σ.set i (some v)) H:=by
 refine⟨S.sub,S.off,S.cy,S.inj,S.mu,fun j y e => ?_,by rw[Y9,Y9];exact S.len,S.tab,S.nt⟩
 by_cases c:i=j
 ·subst c
  have hl:=(sA.mp e).1;rw[Y9] at hl;rw[Yx hl] at e;cases e
  exact⟨v,Yx (by rw[S.len];exact hl),h⟩
 ·rw[YH c] at e
  obtain⟨w,e1,h1⟩:=S.sl j y e;exact⟨w,by rw[YH c];exact e1,h1⟩
end
noncomputable abbrev WE:=aA->(DV->aA->Prop)->Prop
noncomputable abbrev WA:=aA->(List DV->aA->Prop)->Prop
noncomputable abbrev WT:=aA->(Bool->aA->Prop)->Prop
noncomputable def du (F:Hp) (ad:List Addr):List DV->List V->Prop
 | [],vs=>vs=[]
 | x :: xs,vs=>∃ v r,vs=v :: r/\fw F ad x v/\du F ad xs r
theorem du.ext {F F' H H':Hp} {ad aC:List Addr} {mu cQ:List (Option OV)} (e:Ext F ad mu H F' aC cQ H'):∀ {xs:List DV} {vs:List V},du F ad xs vs->du F' aC xs vs
 | [],_,h=>h
 | _ :: _,_,⟨v,r,q,h1,h2⟩=>⟨v,r,q,h1.ext e,du.ext e h2⟩
noncomputable def tD (f:WE):TE:=fun σ H Q=>∃ F ad δ K,SR F ad δ σ H/\f δ K/\∀ x δ',K x δ'->∀ v F' aC H',Ext F ad δ.mu H F' aC δ'.mu H'->SR F' aC δ' σ H'->fw F' aC x v->Q v H'
noncomputable def cz (f:WA):TA:=fun σ H Q=>∃ F ad δ K,SR F ad δ σ H/\f δ K/\∀ xs δ',K xs δ'->∀ vs F' aC H',Ext F ad δ.mu H F' aC δ'.mu H'->SR F' aC δ' σ H'->du F' aC xs vs->Q vs H'
noncomputable def cI (f:WT):TT:=fun σ H Q=>∃ F ad δ K,SR F ad δ σ H/\f δ K/\∀ b δ',K b δ'->∀ F' aC H',Ext F ad δ.mu H F' aC δ'.mu H'->SR F' aC δ' σ H'->Q b H'
noncomputable def gR (F H:Hp):D->V->Prop
 | .lst ds,v=>∃ a vs,v = .ref a/\H a=some (.lst vs)/\ae F ds vs
 | d,v=>Is F d v
noncomputable def g7 (x:DV) (δ : aA) (K:D->Prop):Prop:=match x with
 | .p d=>K d
 | .o k=>match δ.mu[k]? with
  | some (some (.lst ds))=>K (.lst ds)
  | _=>False
theorem gR.of {F H:Hp} (s:aF F H):∀ {d:D} {v:V},Is F d v->gR F H d v
 | .lst _,_,h=>by
  simp only[Is] at h;obtain⟨a,vs,e,h1,h2⟩:=h;exact⟨a,vs,e,s _ _ h1,h2⟩
 | .tup _,_,h=>h
 | .non,_,h=>h
 | .bl _,_,h=>h
 | .int _,_,h=>h
 | .str _,_,h=>h
theorem gR.is {F H:Hp} (s:aF F H):∀ {d:D} {v:V},gR F H d v->Is H d v
 | .lst _,_,h=>by
  obtain⟨a,vs,e,h1,h2⟩:=h;simp only[Is];exact⟨a,vs,e,h1,h2.same s⟩
 | .tup _,_,h=>Is.same s h
 | .non,_,h=>Is.same s h
 | .bl _,_,h=>Is.same s h
 | .int _,_,h=>Is.same s h
 | .str _,_,h=>Is.same s h
theorem j5 {F H:Hp} {ad:List Addr} {δ : aA} {σ : St} {x:DV} {v:V} {K:D->Prop} (S:SR F ad δ σ H) (hv:fw F ad x v) (h:g7 x δ K):∃ d,K d/\gR F H d v:=by
 cases x with
 | p d=>exact⟨d,h,gR.of S.sub hv⟩
 | o k =>
  unfold g7 at h;dsimp only at h;split at h
  ·rename_i ds e
   obtain⟨a,e1,rfl⟩:=hv;obtain⟨a',o,e2,e3,vs,rfl,h4⟩:=S.mu k _ e;rw[e1] at e2;cases e2;exact⟨_,h,a,vs,rfl,e3,h4⟩
  ·exact h.elim
noncomputable def kR:List DV->aA->(List D->Prop)->Prop
 | [],_,K=>K []
 | x :: xs,δ,K=>g7 x δ fun d=>kR xs δ fun ds=>K (d :: ds)
noncomputable def g8 (F H:Hp):List D->List V->Prop
 | [],vs=>vs=[]
 | d :: ds,vs=>∃ v r,vs=v :: r/\gR F H d v/\g8 F H ds r
theorem xa {F H:Hp} {ad:List Addr} {δ : aA} {σ : St} (S:SR F ad δ σ H):∀ {xs:List DV} {vs:List V} {K:List D->Prop},du F ad xs vs->kR xs δ K->∃ ds,K ds/\g8 F H ds vs
 | [],_,_,hv,h=>⟨[],h,hv⟩
 | x :: xs,_,_,⟨v,r,rfl,h1,h2⟩,h=>by
  obtain⟨d,h',rd⟩:=j5 S h1 h;obtain⟨ds,sL,qG⟩:=xa S h2 h';exact⟨d :: ds,sL,v,r,rfl,rd,qG⟩
noncomputable abbrev Made (F H:Hp) (K:D->Prop) (Q:VK):Prop:=∀ z v H',K z->aF H H'->Is (Nw F H H') z v->Q v H'
noncomputable def eG (X:Cx) (f:Value->Value->Sem Value) (g:D->D->(D->Prop)->Prop):Prop :=
 cP X f fun x y H Q=>∃ F d e K,aF F H/\gR F H d x/\gR F H e y/\g d e K/\Made F H K Q
noncomputable def Gp (X:Cx) (g:D->D->(D->Prop)->Prop):Prop :=
 sv X fun x y H Q=>∃ F d e K,aF F H/\gR F H d x/\gR F H e y/\g d e K/\Made F H K Q
noncomputable def cW (X:Cx) (f:Value) (g:List D->(D->Prop)->Prop):Prop :=
 gu X f fun xs H Q=>∃ F ds K,aF F H/\g8 F H ds xs/\g ds K/\Made F H K Q
noncomputable def d2 (f g:WE) (op:D->D->(D->Prop)->Prop):WE:=fun δ K=>f δ fun x δ1=>g δ1 fun y δ2=>g7 x δ2 fun d=>g7 y δ2 fun e=>op d e fun z=>K (.p z) δ2
noncomputable def d1 (f:WE) (op:D->(D->Prop)->Prop):WE:=fun δ K=>f δ fun x δ1=>g7 x δ1 fun d=>op d fun z=>K (.p z) δ1
noncomputable def dN (f:WA) (op:List D->(D->Prop)->Prop):WE:=fun δ K=>f δ fun xs δ1=>kR xs δ1 fun ds=>op ds fun z=>K (.p z) δ1
noncomputable def dC (d:D):WE:=fun δ K=>K (.p d) δ
noncomputable def aa (i:Nat):WE:=fun δ K=>match δ.sl[i]? with
 | some (some x)=>K x δ
 | _=>False
noncomputable def ag:WA:=fun δ K=>K [] δ
noncomputable def aj (f:WE) (g:WA):WA:=fun δ K=>f δ fun x δ1=>g δ1 fun xs δ2=>K (x :: xs) δ2
section
variable {X:Cx} {a b c:Expr} {f g h:WE} {fa:WA} {pos:Pos}
theorem xb {e:Expr} {d:D} {v:V} (h:JE X e (tC v)) (hi:∀ F,Is F d v):JE X e (tD (dC d)):=h.weak fun σ H Q h0_ => el7 h0_ fun F ad δ K S q k =>k _ _ q _ _ _ _ .refl S (hi F)
theorem az {i j pos}:JE X (.Constant (.int i) j pos) (tD (dC (.int i))):=xb cg fun _=>rfl
theorem iO {i j pos}:JE X (.Constant (.bool i) j pos) (tD (dC (.bl i))):=xb OK fun _=>rfl
theorem nA {j pos}:JE X (.Constant .none j pos) (tD (dC .non)):=xb OL fun _=>rfl
theorem Pt {x:Str} {i:Int} {u:Value} {pos:Pos} (hg:Gl X x) (hm:X.mg x=some u) (r:RelV (.int i) u) (hd:(x == ("__debug__" : Str))=false:=by decide):JE X (.Name x pos) (tD (dC (.int i))):=xb (OM hg hm r hd) fun _=>rfl
theorem dv (i:Nat) {x:Str} {pos:Pos} (hN:X.N[i]? = some x:=by rfl) (hv:p9 X.env.scope x:=by first | exact Or.inl rfl | exact Or.inr (Or.inl rfl) | exact Or.inr (Or.inr rfl))
  (hd:(x == ("__debug__" : Str))=false:=by decide) (fh:(x == ("__classdict__" : Str))=false:=by decide):JE X (.Name x pos) (tD (aa i)) :=
 (OJ hN hv hd fh).weak fun σ H Q h0_ => el7 h0_ fun F ad δ K S q k =>by
  unfold aa at q;split at q
  ·rename_i x e
   obtain⟨v,e1,h1⟩:=S.sl i x e;exact⟨v,e1,k _ _ q _ _ _ _ .refl S h1⟩
  ·exact q.elim
theorem xc {r:R2} {ta tb:TE} {op:D->D->(D->Prop)->Prop} (hr:∀ x y H Q,(∃ F d e K,aF F H/\gR F H d x/\gR F H e y/\op d e K/\Made F H K Q)->r x y H Q):∀ σ H Q,tD (d2 f g op) σ H Q->kH r (tD f) (tD g) σ H Q:=by
 rintro σ H Q ⟨F,ad,δ,K,S,q,k⟩;refine⟨F,ad,δ,_,S,q,fun x δ1 h1 v1 F1 aP H1 E1 S1 V1=>⟨F1,aP,δ1,_,S1,h1,fun y δ2 h2 v2 F2 bL H2 E2 S2 V2=>hr _ _ _ _ ?_⟩⟩;obtain⟨d,h3,rd⟩:=j5 S2 (V1.ext E2) h2;obtain⟨e,h4,re⟩:=j5 S2 V2 h3;exact⟨F2,d,e,_,S2.sub,rd,re,h4,fun z v H' hz sm is=>k _ _ hz _ _ _ _ ((E1.trans E2).trans (Ext.al S2 sm)) (S2.al sm) is⟩
theorem bC {op:Operator} {o:D->D->(D->Prop)->Prop} (ho:eG X (binaryOp op) o) (ha:JE X a (tD f)) (hb:JE X b (tD g)):JE X (.BinOp a op b pos) (tD (d2 f g o)) :=
 (uL ho ha hb).weak (xc (ta:=tD f) (tb:=tD g) fun _ _ _ _ h=>h)
theorem g9 {op:CmpOp} {o:D->D->(D->Prop)->Prop} (ho:eG X (compareOp op) o) (ha:JE X a (tD f)) (hb:JE X b (tD g)) (hm:behindInMarks op b=false):JE X (.Compare a [op] [b] pos) (tD (d2 f g o)) :=
 (O5 ho ha hb hm).weak (xc (ta:=tD f) (tb:=tD g) fun _ _ _ _ h=>h)
theorem bf {o:D->D->(D->Prop)->Prop} (ho:Gp X o) (ha:JE X a (tD f)) (hb:JE X b (tD g)) (hs:zE b):JE X (.Subscript a b pos) (tD (d2 f g o)) :=
 (Ao ho ha hb hs).weak (xc (ta:=tD f) (tb:=tD g) fun _ _ _ _ h=>h)
theorem aB:JA X [] (cz ag):=bN.weak fun σ H Q h0_ => el7 h0_ fun F ad δ K S q k =>k _ _ q _ _ _ _ .refl S rfl
theorem sM:∀ σ H Q,cz (aj f fa) σ H Q->fR (tD f) (cz fa) σ H Q:=by
 rintro σ H Q ⟨F,ad,δ,K,S,q,k⟩;exact⟨F,ad,δ,_,S,q,fun x δ1 h1 v1 F1 aP H1 E1 S1 V1=>⟨F1,aP,δ1,_,S1,h1,fun xs δ2 h2 vs F2 bL H2 E2 S2 V2=>k _ _ h2 _ _ _ _ (E1.trans E2) S2 ⟨v1,vs,rfl,V1.ext E2,V2⟩⟩⟩
theorem fH {e:Expr} {es:List Expr} (ha:JE X e (tD f)) (hr:JA X es (cz fa)) (hs:starEach (e :: es) X.env=(false,eval e X.env) :: starEach es X.env:=by rfl):JA X (e :: es) (cz (aj f fa)):=(qD ha hr hs).weak sM
theorem br {es:List Expr} {c j p} (ha:JE X (.Constant c j p) (tD f)) (hr:JA X es (cz fa)):JA X (.Constant c j p :: es) (cz (aj f fa)):=(uM ha hr).weak sM
theorem ah {es:List Expr} {x p} (ha:JE X (.Name x p) (tD f)) (hr:JA X es (cz fa)):JA X (.Name x p :: es) (cz (aj f fa)):=(jC ha hr).weak sM
theorem b8 {es:List Expr} {x y k p} (ha:JE X (.Call x y k p) (tD f)) (hr:JA X es (cz fa)):JA X (.Call x y k p :: es) (cz (aj f fa)):=(kP ha hr).weak sM
theorem qH {es:List Expr} {x k p} (ha:JE X (.Tuple x k p) (tD f)) (hr:JA X es (cz fa)):JA X (.Tuple x k p :: es) (cz (aj f fa)):=(Ap ha hr).weak sM
theorem bB {es:List Expr} {x k p} (ha:JE X (.Subscript x k p) (tD f)) (hr:JA X es (cz fa)):JA X (.Subscript x k p :: es) (cz (aj f fa)):=(Aq ha hr).weak sM
theorem Gq {r:List V->Hp->VK->Prop} {op:List D->(D->Prop)->Prop} (hr:∀ xs H Q,(∃ F ds K,aF F H/\g8 F H ds xs/\op ds K/\Made F H K Q)->r xs H Q):∀ σ H Q,tD (dN fa op) σ H Q->sk r (cz fa) σ H Q:=by
 rintro σ H Q ⟨F,ad,δ,K,S,q,k⟩;refine⟨F,ad,δ,_,S,q,fun xs δ1 h1 vs F1 aP H1 E1 S1 V1=>hr _ _ _ ?_⟩;obtain⟨ds,h2,qG⟩:=xa S1 V1 h1;exact⟨F1,ds,_,S1.sub,qG,h2,fun z v H' hz sm is=>k _ _ hz _ _ _ _ (E1.trans (Ext.al S1 sm)) (S1.al sm) is⟩
theorem fx {x:Str} {p:Pos} {e:Expr} {es:List Expr} {id:String} {o:List D->(D->Prop)->Prop} (hc:cW X (.builtin id) o) (hg:Gl X x) (hm:X.mg x=none) (hv:bootBuiltins x=some (.builtin id)) (ha:JA X (e :: es) (cz fa)) (hn:x ≠ "__name__" := by decide) (eM:(x == ("__debug__" : Str))=false:=by decide)
  (he:starEach (e :: es) X.env=(false,eval e X.env) :: starEach es X.env:=by rfl) (eE:(backTo pos (starEach es X.env)).any (·.1)=false:=by rfl):JE X (.Call (.Name x p) (e :: es) [] pos) (tD (dN fa o)) :=
 (w4 hc hg hm hv ha hn eM he eE).weak (Gq fun _ _ _ h=>h)
theorem Gr {x:Str} {p:Pos} {e:Expr} {es:List Expr} {T:String} {o:List D->(D->Prop)->Prop} (hc:cW X (.type T) o) (hg:Gl X x) (hm:X.mg x=none) (hv:bootBuiltins x=some (.type T)) (ha:JA X (e :: es) (cz fa)) (hn:x ≠ "__name__" := by decide) (eM:(x == ("__debug__" : Str))=false:=by decide)
  (he:starEach (e :: es) X.env=(false,eval e X.env) :: starEach es X.env:=by rfl) (eE:(backTo pos (starEach es X.env)).any (·.1)=false:=by rfl):JE X (.Call (.Name x p) (e :: es) [] pos) (tD (dN fa o)) :=
 (pe hc hg hm hv ha hn eM he eE).weak (Gq fun _ _ _ h=>h)
end
noncomputable def Gs (k:Nat) (ds:List D):Option DV->Option DV
 | some (.o j)=>if j=k then some (.p (.lst ds)) else some (.o j)
 | s=>s
noncomputable def aA.fix (δ : aA) (k:Nat) (ds:List D):aA:=⟨δ.sl.map (Gs k ds),δ.mu.set k none⟩
noncomputable def mf (x:DV) (δ : aA) (K:D->aA->Prop):Prop:=match x with
 | .p d=>K d δ
 | .o k=>match δ.mu[k]? with
  | some (some (.lst ds))=>K (.lst ds) (δ.fix k ds)
  | _=>False
noncomputable def jD:List DV->aA->(List D->aA->Prop)->Prop
 | [],δ,K=>K [] δ
 | x :: xs,δ,K=>mf x δ fun d δ1=>jD xs δ1 fun ds δ2=>K (d :: ds) δ2
section
variable {F F' H H':Hp} {ad aC:List Addr} {δ δ':aA} {σ σ':St}
theorem SR.fixed {k:Nat} {a:Addr} {vs:List V} {ds:List D} (S:SR F ad δ σ H) (hk : δ.mu[k]? = some (some (.lst ds))) (ha:ad[k]? = some a) (ho:H a=some (.lst vs)) (hi:ae F ds vs):SR (upd F a (.lst vs)) ad (δ.fix k ds) σ H:=by
 have S1:=S.fix hk ha ho;have sm:aF F (upd F a (.lst vs)):=(Ext.fix (o := .lst vs) S hk ha).same;refine⟨S1.sub,S1.off,S1.cy,S1.inj,S1.mu,fun i x e => ?_,by rw[S.len];unfold aA.fix;rw[qx],S1.tab,S1.nt⟩;unfold aA.fix at e;rw[My] at e;obtain⟨s,e1,e2⟩:=Xt.mp e
 match s,e2 with
 | none,e2=>cases e2
 | some (.p d),e2 =>
  cases (show some (DV.p d)=some x from e2)
  exact S1.sl i _ e1
 | some (.o j),e2 =>
  have e3:(if j=k then some (DV.p (.lst ds)) else some (DV.o j))=some x:=e2;clear e2;obtain⟨v,h1,a',h2,h3⟩:=S.sl i _ e1
  by_cases c:j=k
  ·rw[Xs c] at e3
   subst c;cases e3
   rw[ha] at h2;cases h2;refine⟨v,h1,?_⟩;show Is _ (.lst ds) v;simp only[Is];exact⟨a,vs,h3,bZ,hi.same sm⟩
  ·rw[NM c] at e3
   cases e3
   exact⟨v,h1,a',h2,h3⟩
theorem sN {x:DV} {v:V} {K:D->aA->Prop} (S:SR F ad δ σ H) (hv:fw F ad x v) (h:mf x δ K):∃ d δ' F',K d δ'/\Ext F ad δ.mu H F' ad δ'.mu H/\SR F' ad δ' σ H/\Is F' d v:=by
 cases x with
 | p d=>exact⟨d,δ,F,h,.refl,S,hv⟩
 | o k =>
  unfold mf at h;dsimp only at h;split at h
  ·rename_i ds e
   obtain⟨a,e1,rfl⟩:=hv;obtain⟨a',o,e2,e3,vs,rfl,h4⟩:=S.mu k _ e;rw[e1] at e2;cases e2;refine⟨_,_,_,h,Ext.fix S e e1,S.fixed e e1 e3 h4,?_⟩;simp only[Is];exact⟨a,vs,rfl,bZ,h4.same (Ext.fix (o := .lst vs) S e e1).same⟩
  ·exact h.elim
theorem xf:∀ {xs:List DV} {vs:List V} {δ : aA} {F:Hp} {K:List D->aA->Prop},SR F ad δ σ H->du F ad xs vs->jD xs δ K->∃ ds δ' F',K ds δ'/\Ext F ad δ.mu H F' ad δ'.mu H/\SR F' ad δ' σ H/\ae F' ds vs
 | [],_,δ,F,_,S,hv,h=>⟨[],δ,F,h,.refl,S,by simp only[ae];exact hv⟩
 | x :: xs,_,δ,F,_,S,⟨v,r,e,h1,h2⟩,h=>by
  subst e;obtain⟨d,δ1,F1,h',E1,S1,i1⟩:=sN S h1 h;obtain⟨ds,δ2,F2,sL,E2,S2,i2⟩:=xf S1 (h2.ext E1) h';exact⟨d :: ds,δ2,F2,sL,E1.trans E2,S2,.cons (i1.same E2.same) i2⟩
end
noncomputable def de (fa:WA):WE:=fun δ K=>fa δ fun xs δ1=>jD xs δ1 fun ds δ2=>ds.length <= 1000/\K (.p (.tup ds)) δ2
noncomputable def dw (fa:WA):WE:=fun δ K=>fa δ fun xs δ1=>jD xs δ1 fun ds δ2=>ds.length <= 1000/\K (.p (.lst ds)) δ2
noncomputable def qJ (fa:WA):WE:=fun δ K=>fa δ fun xs δ1=>jD xs δ1 fun ds δ2=>ds.length <= 1000/\K (.o δ2.mu.length) ⟨δ2.sl,δ2.mu ++ [some (.lst ds)]⟩
section
variable {X:Cx} {a b c:Expr} {es:List Expr} {f g h:WE} {fa:WA} {t u:WT} {pos:Pos}
theorem kU {n:Nat} (h:n <= 1000):n <= sizeLine:=Zg (qy h)
theorem jd {x1} (ha:JA X es (cz fa)):JE X (.Tuple es x1 pos) (tD (de fa)):=(O8 ha).weak fun σ H Q h0_ => el7 h0_ fun F ad δ K S q k =>
 ⟨F,ad,δ,_,S,q,fun xs δ1 h1 vs F1 aP H1 E1 S1 V1=>by
  obtain⟨ds,δ2,F2,⟨hl,h2⟩,E2,S2,i2⟩:=xf S1 V1 h1;refine⟨kU (by rw[i2.length];exact hl),fun p hp => ?_⟩;have sm:aF H1 (upd H1 p (.tup vs)):=c_ hp;refine k _ _ h2 _ _ _ _ ((E1.trans E2).trans (Ext.al S2 sm)) (S2.al sm) ?_;show Is _ (.tup ds) _;simp only[Is];rw[Nw.upd S2.sub hp];refine⟨p,vs,rfl,bZ,i2.same fun b o e => ?_⟩
  rw[aS (c6 (S2.sub b o e) hp)];exact e⟩
theorem mi (ha:JA X es (cz fa)):JE X (.List es pos) (tD (dw fa)):=(Al ha).weak fun σ H Q h0_ => el7 h0_ fun F ad δ K S q k =>
 ⟨F,ad,δ,_,S,q,fun xs δ1 h1 vs F1 aP H1 E1 S1 V1=>by
  obtain⟨ds,δ2,F2,⟨hl,h2⟩,E2,S2,i2⟩:=xf S1 V1 h1;refine⟨kU (by rw[i2.length];exact hl),fun p hp => ?_⟩;have sm:aF H1 (upd H1 p (.lst vs)):=c_ hp;refine k _ _ h2 _ _ _ _ ((E1.trans E2).trans (Ext.al S2 sm)) (S2.al sm) ?_;show Is _ (.lst ds) _;simp only[Is];rw[Nw.upd S2.sub hp];refine⟨p,vs,rfl,bZ,i2.same fun b o e => ?_⟩
  rw[aS (c6 (S2.sub b o e) hp)];exact e⟩
theorem uR (ha:JA X es (cz fa)):JE X (.List es pos) (tD (qJ fa)):=(Al ha).weak fun σ H Q h0_ => el7 h0_ fun F ad δ K S q k =>
 ⟨F,ad,δ,_,S,q,fun xs δ1 h1 vs F1 aP H1 E1 S1 V1=>by
  obtain⟨ds,δ2,F2,⟨hl,h2⟩,E2,S2,i2⟩:=xf S1 V1 h1;refine⟨kU (by rw[i2.length];exact hl),fun p hp => ?_⟩;have oi:eS F2 (.lst ds) (.lst vs):=⟨vs,rfl,i2⟩;refine k _ _ h2 _ _ _ _ ((E1.trans E2).trans (Ext.own S2 hp)) (S2.own hp oi) ⟨p,?_,rfl⟩
  rw[<-S2.cy,X7 (uu _),YI];rfl⟩
noncomputable def sO (x:DV) (P:Bool->Prop):Prop:=match x with
 | .p (.bl b)=>P b
 | _=>False
noncomputable def dT (f:WE):WT:=fun δ K=>f δ fun x δ1=>sO x fun b=>K b δ1
noncomputable def gB (t u:WT):WT:=fun δ K=>t δ fun b δ1=>if b=true then u δ1 K else K false δ1
noncomputable def j6 (t u:WT):WT:=fun δ K=>t δ fun b δ1=>if b=true then K true δ1 else u δ1 K
noncomputable def cX (t:WT):WT:=fun δ K=>t δ fun b δ1=>K (!b) δ1
noncomputable def xg (t:WT) (f g:WE):WE:=fun δ K=>t δ fun b δ1=>if b=true then f δ1 K else g δ1 K
noncomputable def iP (f g:WE):WE:=fun δ K=>f δ fun x δ1=>sO x fun b=>if b=true then g δ1 K else K (.p (.bl false)) δ1
noncomputable def xh (f:WE):WE:=fun δ K=>f δ fun x δ1=>sO x fun b=>K (.p (.bl (!b))) δ1
theorem uS {F:Hp} {ad:List Addr} {x:DV} {v:V} {P:Bool->Prop} (hv:fw F ad x v) (h:sO x P):∃ b,v = .bl b/\P b:=by
 unfold sO at h;split at h
 ·rename_i b
  exact⟨b,hv,h⟩
 ·exact h.elim
theorem fV (ha:JE X a (tD f)) (he:∀ whole,isTrue a X.env whole=(do let v <- whole;standAt a.pos;holding [v] (truthy v)):=by intro _;rfl):JT X a (cI (dT f)) :=
 (OQ ha he).weak fun σ H Q h0_ => el7 h0_ fun F ad δ K S q k =>⟨F,ad,δ,_,S,q,fun x δ1 h1 v F1 aP H1 E1 S1 V1=>by
  obtain⟨b,rfl,h2⟩:=uS V1 h1
  exact⟨b,rfl,k _ _ h2 _ _ _ E1 S1⟩⟩
theorem cB {op:CmpOp} {o:D->D->(D->Prop)->Prop} (ho:eG X (compareOp op) o) (ha:JE X a (tD f)) (hb:JE X b (tD g)) (hm:behindInMarks op b=false):JT X (.Compare a [op] [b] pos) (cI (dT (d2 f g o))) :=
 (O6 ho ha hb hm).weak fun σ H Q h0_ => el7 h0_ fun F ad δ K S q k =>xc (ta:=tD f) (tb:=tD g) (fun _ _ _ _ h=>h) σ H _ ⟨F,ad,δ,_,S,q,fun x δ1 h1 v F1 aP H1 E1 S1 V1=>by
  obtain⟨b,rfl,h2⟩:=uS V1 h1
  exact⟨b,rfl,k _ _ h2 _ _ _ E1 S1⟩⟩
theorem iQ (ha:JT X a (cI t)):JT X (.UnaryOp .Not a pos) (cI (cX t)):=(OW ha).weak fun σ H Q h0_ => el7 h0_ fun F ad δ K S q k =>⟨F,ad,δ,_,S,q,fun b δ1 h1 F1 aP H1 E1 S1=>k _ _ h1 _ _ _ E1 S1⟩
theorem Pu:∀ σ H Q,cI (gB t u) σ H Q->qc (cI t) (cI u) σ H Q:=fun σ H Q h0_ => el7 h0_ fun F ad δ K S q k =>⟨F,ad,δ,_,S,q,fun b δ1 h1 F1 aP H1 E1 S1=>by
 cases b with
 | true =>
  rw[Xs rfl] at h1 ⊢;exact⟨F1,aP,δ1,_,S1,h1,fun b δ2 h2 F2 bL H2 E2 S2=>k _ _ h2 _ _ _ (E1.trans E2) S2⟩
 | false =>
  rw[NM X8] at h1 ⊢
  exact k _ _ h1 _ _ _ E1 S1⟩
theorem Pw:∀ σ H Q,cI (j6 t u) σ H Q->zg (cI t) (cI u) σ H Q:=fun σ H Q h0_ => el7 h0_ fun F ad δ K S q k =>⟨F,ad,δ,_,S,q,fun b δ1 h1 F1 aP H1 E1 S1=>by
 cases b with
 | false =>
  rw[NM X8] at h1 ⊢;exact⟨F1,aP,δ1,_,S1,h1,fun b δ2 h2 F2 bL H2 E2 S2=>k _ _ h2 _ _ _ (E1.trans E2) S2⟩
 | true =>
  rw[Xs rfl] at h1 ⊢
  exact k _ _ h1 _ _ _ E1 S1⟩
theorem JW.weak {e:Expr} {t t':TT} (h:JW X e t) (k:∀ σ H Q,t' σ H Q->t σ H Q):JW X e t':=⟨fun wh pins s σ H Q I q=>h.out wh pins s σ H Q I (k σ H Q q)⟩
theorem uT (ha:JT X a (cI t)):JW X (.BoolOp .And [a] pos) (cI t):=OR ha
theorem qK (ha:JT X a (cI t)):JW X (.BoolOp .Or [a] pos) (cI t):=OS ha
theorem uU {rest:List Expr} (ha:JT X a (cI t)) (hb:JW X (.BoolOp .And (b :: rest) pos) (cI u)):JW X (.BoolOp .And (a :: b :: rest) pos) (cI (gB t u)):=(OT ha hb).weak Pu
theorem nB {rest:List Expr} (ha:JT X a (cI t)) (hb:JW X (.BoolOp .Or (b :: rest) pos) (cI u)):JW X (.BoolOp .Or (a :: b :: rest) pos) (cI (j6 t u)):=(OU ha hb).weak Pw
theorem j7 {op} (ha:JE X a (tD f)):JE X (.BoolOp op [a] pos) (tD f):=OX ha
theorem jE {rest:List Expr} (ha:JE X a (tD f)) (hb:JE X (.BoolOp .And (b :: rest) pos) (tD g)):JE X (.BoolOp .And (a :: b :: rest) pos) (tD (iP f g)) :=
 (OY ha hb).weak fun σ H Q h0_ => el7 h0_ fun F ad δ K S q k =>⟨F,ad,δ,_,S,q,fun x δ1 h1 v F1 aP H1 E1 S1 V1=>by
  obtain⟨b,rfl,h2⟩:=uS V1 h1;refine⟨b,rfl,?_⟩
  cases b with
  | true =>
   rw[Xs rfl] at h2 ⊢;exact⟨F1,aP,δ1,_,S1,h2,fun x δ2 h3 v F2 bL H2 E2 S2 V2=>k _ _ h3 _ _ _ _ (E1.trans E2) S2 V2⟩
  | false =>
   rw[NM X8] at h2 ⊢
   exact k _ _ h2 _ _ _ _ E1 S1 rfl⟩
theorem Gu (ha:JE X a (tD f)):JE X (.UnaryOp .Not a pos) (tD (xh f)) :=
 (OZ ha).weak fun σ H Q h0_ => el7 h0_ fun F ad δ K S q k =>⟨F,ad,δ,_,S,q,fun x δ1 h1 v F1 aP H1 E1 S1 V1=>by
  obtain⟨b,rfl,h2⟩:=uS V1 h1
  exact⟨b,rfl,k _ _ h2 _ _ _ _ E1 S1 rfl⟩⟩
theorem Gv (hc:JT X c (cI t)) (ha:JE X a (tD f)) (hb:JE X b (tD g)):JE X (.IfExp c a b pos) (tD (xg t f g)) :=
 (O0 hc ha hb).weak fun σ H Q h0_ => el7 h0_ fun F ad δ K S q k =>⟨F,ad,δ,_,S,q,fun b δ1 h1 F1 aP H1 E1 S1=>by
  cases b with
  | true =>
   rw[Xs rfl] at h1 ⊢;exact⟨F1,aP,δ1,_,S1,h1,fun x δ2 h3 v F2 bL H2 E2 S2 V2=>k _ _ h3 _ _ _ _ (E1.trans E2) S2 V2⟩
  | false =>
   rw[NM X8] at h1 ⊢
   exact⟨F1,aP,δ1,_,S1,h1,fun x δ2 h3 v F2 bL H2 E2 S2 V2=>k _ _ h3 _ _ _ _ (E1.trans E2) S2 V2⟩⟩
end
structure KS where
 nx:aA->Prop
 rt:DV->aA->Prop
 bk:aA->Prop:=fun _=>False
 ct:aA->Prop:=fun _=>False
noncomputable abbrev WS:=KS->aA->Prop
noncomputable def Cn (F:Hp) (ad:List Addr) (mu:List (Option OV)) (H:Hp) (P:aA->Prop) (R:St->Hp->Prop):Prop:=∀ δ',P δ'->∀ F' aC σ' H',Ext F ad mu H F' aC δ'.mu H'->SR F' aC δ' σ' H'->R σ' H'
class mj where
 ok:Nat->Int->Prop
 kp:List Addr->List (Option OV)->Hp->Prop
 st:∀ {F ad mu H F' aC cQ H'},Ext F ad mu H F' aC cQ H'->kp ad mu H->kp aC cQ H'
instance (priority:=low) Px:mj:=⟨fun _ _=>False,fun _ _ _=>True,fun _ _=>trivial⟩
section
variable [mj]
structure xi (F:Hp) (ad:List Addr) (mu:List (Option OV)) (H:Hp) (K:KS) (D:Ends):Prop where
 nx:Cn F ad mu H K.nx D.nx
 bk:Cn F ad mu H K.bk D.bk
 ct:Cn F ad mu H K.ct D.ct
 rt:∀ x δ',K.rt x δ'->∀ v F' aC σ' H',Ext F ad mu H F' aC δ'.mu H'->SR F' aC δ' σ' H'->fw F' aC x v->D.rt v H'
 kp:mj.kp ad mu H
theorem Cn.ext {F F' H H':Hp} {ad aC:List Addr} {mu cQ:List (Option OV)} {P:aA->Prop} {R:St->Hp->Prop} (c:Cn F ad mu H P R) (e:Ext F ad mu H F' aC cQ H'):Cn F' aC cQ H' P R:=fun δ' h _ _ _ _ E S=>c δ' h _ _ _ _ (e.trans E) S
theorem xi.ext {F F' H H':Hp} {ad aC:List Addr} {mu cQ:List (Option OV)} {K:KS} {D:Ends} (c:xi F ad mu H K D) (e:Ext F ad mu H F' aC cQ H'):xi F' aC cQ H' K D :=
 ⟨c.nx.ext e,c.bk.ext e,c.ct.ext e,fun x δ' h _ _ _ _ _ E S V=>c.rt x δ' h _ _ _ _ _ (e.trans E) S V,mj.st e c.kp⟩
noncomputable def dq (G:WS):TS:=fun D σ H=>∃ F ad δ K,SR F ad δ σ H/\G K δ /\ xi F ad δ.mu H K D
noncomputable def ay (G G':WS):WS:=fun K δ => G { K with nx:=G' K } δ
noncomputable def cK:WS:=fun K δ => K.nx δ
noncomputable def aL (i:Nat) (f:WE):WS:=fun K δ => f δ fun x δ1=>K.nx ⟨δ1.sl.set i (some x),δ1.mu⟩
noncomputable def kW (f:WE):WS:=fun K δ => f δ fun _ δ1=>K.nx δ1
noncomputable def aI (f:WE):WS:=fun K δ => f δ fun x δ1=>K.rt x δ1
noncomputable def bo (t:WT) (G G':WS):WS:=fun K δ => t δ fun b δ1=>if b=true then G K δ1 else G' K δ1
section
variable {X:Cx} {e c:Expr} {st:Stmt} {rest:List Stmt} {f:WE} {t:WT} {G G':WS} {pos:Pos}
theorem df:eF X [] (dq cK):=gA.weak fun D σ H h0_ => el7 h0_ fun F ad δ K S q k =>k.nx _ q _ _ _ _ .refl S
theorem aZ (h:JS X st (dq G)):eF X [st] (dq G):=wX h
theorem aY (h:JS X st (dq G)) (r:eF X rest (dq G')):eF X (st :: rest) (dq (ay G G')) :=
 (qC h r).weak fun D σ H h0_ => el7 h0_ fun F ad δ K S q k =>⟨F,ad,δ,_,S,q,⟨fun δ' h _ _ _ _ E S'=>⟨_,_,δ',K,S',h,k.ext E⟩,k.bk,k.ct,k.rt,k.kp⟩⟩
theorem Py {i:Nat}:∀ D σ H,dq (aL i f) D σ H->fQ (tD f) (mR i) D σ H:=fun D σ H h0_ => el7 h0_ fun F ad δ K S q k =>⟨F,ad,δ,_,S,q,fun x δ1 h1 v F1 aP H1 E1 S1 V1=>k.nx _ h1 _ _ _ _ E1 (S1.set V1)⟩
theorem b7 {i:Nat} {x:Str} {pos':Pos} (hN:X.N.Nodup) (hi:X.N[i]? = some x) (hx:Loc X.env.scope x) (he:JE X e (tD f)) (hs:swapsWith e (some (.Name x pos')) pos.line X.env=pure false:=by rfl)
  (hf:X.fn x=true\/X.env.scope.names.lookup x=some .local:=by first | exact .inl rfl | exact .inr rfl | assumption):JS X (.Assign [.Name x pos'] e pos) (dq (aL i f)):=(wY hN hi hx he hs hf).weak Py
theorem ph (he:JE X e (tD f)) (hs:swapsWith e none pos.line X.env=pure false:=by rfl):JS X (.Expr e pos) (dq (kW f)) :=
 (FZ he hs).weak fun D σ H h0_ => el7 h0_ fun F ad δ K S q k =>⟨F,ad,δ,_,S,q,fun x δ1 h1 v F1 aP H1 E1 S1 V1=>k.nx _ h1 _ _ _ _ E1 S1⟩
theorem bD (he:JE X e (tD f)):JS X (.Return (some e) pos) (dq (aI f)) :=
 (F0 he).weak fun D σ H h0_ => el7 h0_ fun F ad δ K S q k =>⟨F,ad,δ,_,S,q,fun x δ1 h1 v F1 aP H1 E1 S1 V1=>k.rt _ _ h1 _ _ _ _ _ E1 S1 V1⟩
theorem c7 {a b:List Stmt} (hc:JT X c (cI t)) (ha:eF X a (dq G)) (hb:eF X b (dq G')):JS X (.If c a b pos) (dq (bo t G G')) :=
 (Ai hc ha hb).weak fun D σ H h0_ => el7 h0_ fun F ad δ K S q k =>⟨F,ad,δ,_,S,q,fun b δ1 h1 F1 aP H1 E1 S1=>by
  cases b with
  | true =>
   rw[Xs rfl] at h1 ⊢;exact⟨F1,aP,δ1,K,S1,h1,k.ext E1⟩
  | false =>
   rw[NM X8] at h1 ⊢
   exact⟨F1,aP,δ1,K,S1,h1,k.ext E1⟩⟩
noncomputable def uV:WS:=fun _ _=>False
noncomputable abbrev WG:=DV->aA->(aA->Prop)->Prop
noncomputable def kX (g:WG):TG:=fun v σ H Q=>∃ F ad δ x K,SR F ad δ σ H/\fw F ad x v/\g x δ K/\Cn F ad δ.mu H K Q
noncomputable abbrev qL:=List D->aA->(aA->Prop)->Prop
noncomputable def nD (g:qL):i7:=fun vs σ H Q=>∃ F ad δ ds K,SR F ad δ σ H/\ae F ds vs/\g ds δ K/\Cn F ad δ.mu H K Q
noncomputable def bG (i:Nat):WG:=fun x δ K=>K ⟨δ.sl.set i (some x),δ.mu⟩
noncomputable def je:qL:=fun ds δ K=>match ds with
 | []=>K δ
 | _=>False
noncomputable def e8 (g:WG) (g':qL):qL:=fun ds δ K=>match ds with
 | d :: r=>g (.p d) δ fun δ1=>g' r δ1 K
 | []=>False
theorem JG.weak {tg:Expr} {t t':TG} (h:JG X tg t) (k:∀ v σ H Q,t' v σ H Q->t v σ H Q):JG X tg t':=⟨fun pins s σ H v u Q I r q=>h.out pins s σ H v u Q I r (k v σ H Q q)⟩
theorem j4.weak {ts:List Expr} {t t':i7} (h:j4 X ts t) (k:∀ v σ H Q,t' v σ H Q->t v σ H Q):j4 X ts t':=⟨fun pins s σ H v u Q I r q=>h.out pins s σ H v u Q I r (k v σ H Q q)⟩
theorem bT {i:Nat} {x:Str} (hN:X.N.Nodup) (hi:X.N[i]? = some x) (hx:Loc X.env.scope x) (hf:X.fn x=true\/X.env.scope.names.lookup x=some .local:=by first | exact .inl rfl | exact .inr rfl | assumption):JG X (.Name x pos) (kX (bG i)) :=
 (Aj hN hi hx hf).weak fun v σ H Q ⟨F,ad,δ,x,K,S,V,q,k⟩=>k _ q _ _ _ _ .refl (S.set V)
theorem nE:j4 X [] (nD je):=i_.weak fun vs σ H Q ⟨F,ad,δ,ds,K,S,V,q,k⟩=>by
 unfold je at q;split at q
 ·simp only[ae] at V
  exact⟨V,k _ q _ _ _ _ .refl S⟩
 ·exact q.elim
theorem gC {es:List Expr} {g:WG} {g':qL} (h1:JG X e (kX g)) (h2:j4 X es (nD g')) (hs:(assignEach (e :: es) X.env).map (·.2)=assign e X.env :: (assignEach es X.env).map (·.2):=by rfl):j4 X (e :: es) (nD (e8 g g')) :=
 (Ak h1 h2 hs).weak fun vs σ H Q ⟨F,ad,δ,ds,K,S,V,q,k⟩=>by
  unfold e8 at q;split at q
  ·rename_i d r
   simp only[ae] at V;obtain⟨v,r',e,i1,i2⟩:=V;exact⟨v,r',e,F,ad,δ,.p d,_,S,i1,q,fun δ' h _ _ _ _ E S'=>⟨_,_,δ',r,K,S',i2.same E.same,h,k.ext E⟩⟩
  ·exact q.elim
noncomputable def jF (n:Nat) (g:qL):WG:=fun x δ K=>g7 x δ fun d=>match d with
 | .tup ds=>ds.length=n/\g ds δ K
 | .lst ds=>ds.length=n/\g ds δ K
 | _=>False
theorem JG.or {tg:Expr} {t t':TG} (h:JG X tg t) (h':JG X tg t'):JG X tg (fun v σ H Q=>t v σ H Q\/t' v σ H Q):=⟨fun pins s σ H v u Q I r q=>q.elim (fun q=>h.out pins s σ H v u Q I r q) fun q=>h'.out pins s σ H v u Q I r q⟩
theorem nG {es:List Expr} {k:Nat} {g:qL} {n:Nat} (hc:X.calm=true) (h:j4 X es (nD g)) (hn:(assignEach es X.env).length=n:=by rfl) (kF:(assignEach es X.env).findIdx? (·.1)=none:=by rfl):JG X (.Tuple es k pos) (kX (jF n g)) :=
 ((F7 hc h hn kF).or (Pr hc h hn kF)).weak fun v σ H Q ⟨F,ad,δ,x,K,S,V,q,k⟩=>by
  obtain⟨d,q,rd⟩:=j5 S V q;split at q
  ·rename_i ds
   have xj:Is F (.tup ds) v:=rd;simp only[Is] at xj;obtain⟨a,vs,e,h1,h2⟩:=xj;exact .inl ⟨a,vs,e,bF.of (S.sub _ _ h1),by rw[h2.length];exact q.1,F,ad,δ,ds,K,S,h2,q.2,k⟩
  ·rename_i ds
   obtain⟨a,vs,e,h1,h2⟩:=rd;exact .inr ⟨a,vs,e,bz.of h1,by rw[h2.length];exact q.1,F,ad,δ,ds,K,S,h2,q.2,k⟩
  ·exact q.elim
noncomputable def jG (f:WE) (g:WG):WS:=fun K δ => f δ fun x δ1=>g x δ1 K.nx
theorem xk {tg:Expr} {g:WG} (he:JE X e (tD f)) (hg:JG X tg (kX g)) (hs:swapsWithSole [tg] e pos.line X.env=pure false:=by rfl) (hw:swappedStores [tg] e X.env=pure none:=by rfl)
  (h1:(assignEach [tg] X.env).map (·.2)=[assign tg X.env]:=by rfl):JS X (.Assign [tg] e pos) (dq (jG f g)) :=
 (sH he hg hs hw h1).weak fun D σ H h0_ => el7 h0_ fun F ad δ K S q k =>⟨F,ad,δ,_,S,q,fun x δ1 h1 v F1 aP H1 E1 S1 V1=>⟨F1,aP,δ1,x,K.nx,S1,V1,h1,k.nx.ext E1⟩⟩
end
end
structure pA where
 items:List D
 bE:aA->Prop
noncomputable abbrev WI:=aA->(pA->aA->Prop)->Prop
noncomputable def qM (F:Hp) (ad:List Addr) (it:pA) (J:It):Prop:=∀ (F':Hp) (aC:List Addr) (δ : aA) (σ : St) (H:Hp),aF F F'->(∀ (k:Nat) (a:Addr),ad[k]? = some a->aC[k]? = some a)->SR F' aC δ σ H->it.bE δ →
 J.stop it.items.length H/\∀ (i:Nat) (d:D),it.items[i]? = some d->J.go i H/\∀ x H',J.sd i H x H'->aF H H'/\Is (Nw F' H H') d x
noncomputable def kY (w:WI):TI:=fun σ H R=>∃ F ad δ K,SR F ad δ σ H/\w δ K/\∀ it δ',K it δ'->∀ J F' aC H',Ext F ad δ.mu H F' aC δ'.mu H'->SR F' aC δ' σ H'->qM F' aC it J->R J H'
noncomputable def xm (n:Nat):Option DV->Option DV->Option DV
 | none,_=>none
 | some _,some (.o k)=>if k < n then some (.o k) else none
 | some _,s=>s
noncomputable def fW (n:Nat):List (Option DV)->List (Option DV)->List (Option DV)
 | s0 :: r0,s :: r=>xm n s0 s :: fW n r0 r
 | [],_ :: r=>none :: fW n [] r
 | _,[]=>[]
noncomputable def aA.trim (δ0 δ : aA):aA:=⟨fW δ0.mu.length δ0.sl δ.sl,δ.mu.take δ0.mu.length⟩
theorem Az {n:Nat}:∀ (l0 l:List (Option DV)),(fW n l0 l).length=l.length
 | _ :: r0,_ :: r=>by rw[fW,Fq,Fq,Az r0 r]
 | [],_ :: r=>by rw[fW,Fq,Fq,Az [] r]
 | [],[]=>rfl
 | _ :: _,[]=>rfl
theorem AA {n:Nat}:∀ {l0 l:List (Option DV)} {i:Nat} {x:DV},(fW n l0 l)[i]? = some (some x)->l[i]? = some (some x)/\∀ k,x = .o k->k < n
 | s0 :: r0,s :: r,0,x,h=>by
  have h:xm n s0 s=some x:=by simpa [fW] using h
  match s0,s,h with
  | none,_,h=>cases h
  | some _,none,h=>cases h
  | some _,some (.p d),h=>cases (show some (DV.p d)=some x from h);exact⟨rfl,fun k e=>nomatch e⟩
  | some _,some (.o k),h =>
   have h:(if k < n then some (DV.o k) else none)=some x:=h
   by_cases c:k < n
   ·rw[Xs c] at h;cases h;exact⟨rfl,fun k' e=>by cases e;exact c⟩
   ·rw[NM c] at h;cases h
 | s0 :: r0,s :: r,i + 1,x,h=>by
  have h:(fW n r0 r)[i]? = some (some x):=by simpa [fW] using h
  simpa using AA h
 | [],s :: r,0,x,h=>by simp[fW] at h
 | [],s :: r,i + 1,x,h=>by
  have h:(fW n [] r)[i]? = some (some x):=by simpa [fW] using h
  simpa using AA h
 | [],[],i,x,h=>by simp[fW] at h
 | _ :: _,[],i,x,h=>by simp[fW] at h
section
variable {F F' H H':Hp} {ad aC:List Addr} {δ δ' δ0:aA} {σ σ' τ : St} {mu cQ:List (Option OV)} {l:Addr} {o:HO}
theorem Lv.take {n:Nat} {a:Addr} (h:Lv (ad.take n) (mu.take n) a):Lv ad mu a:=by
 obtain⟨k,ov,e1,e2⟩:=h
 have hk:k < n:=by
  have:=(sA.mp e1).1;rw[Yr] at this;omega
 rw[YA hk] at e1 e2;exact⟨k,ov,e1,e2⟩
theorem SR.trim (S:SR F ad δ σ H):SR F (ad.take δ0.mu.length) (δ0.trim δ) σ H:=by
 have tk:∀ {k:Nat} {a:Addr},(ad.take δ0.mu.length)[k]? = some a->k < δ0.mu.length/\ad[k]? = some a:=fun {k a} e=>by
  have hk:k < δ0.mu.length:=by
   have:=(sA.mp e).1;rw[Yr] at this;omega
  rw[YA hk] at e;exact⟨hk,e⟩
 have tm:∀ {k:Nat} {w:Option OV},(δ.mu.take δ0.mu.length)[k]? = some w->k < δ0.mu.length /\ δ.mu[k]? = some w:=fun {k w} e=>by
  have hk:k < δ0.mu.length:=by
   have:=(sA.mp e).1;rw[Yr] at this;omega
  rw[YA hk] at e;exact⟨hk,e⟩
 refine⟨S.sub,fun a x=>S.off a x.take,?_,fun k l a w w' e1 e2 e3 e4=>S.inj k l a w w' (tk e1).2 (tk e2).2 (tm e3).2 (tm e4).2,fun k ov e => ?_,fun i x e => ?_,?_,S.tab,S.nt⟩
 ·show (ad.take _).length=(δ.mu.take _).length
  rw[Yr,Yr,S.cy]
 ·obtain⟨a,o,e1,e2,h⟩:=S.mu k ov (tm e).2
  exact⟨a,o,by rw[YA (tm e).1];exact e1,e2,h⟩
 ·obtain⟨e1,e2⟩:=AA e
  obtain⟨v,h1,h2⟩:=S.sl i x e1;refine⟨v,h1,?_⟩
  cases x with
  | p d=>exact h2
  | o k =>
   obtain⟨a,h3,h4⟩:=h2;exact⟨a,by rw[YA (e2 k rfl)];exact h3,h4⟩
 ·show σ.length=(fW _ _ _).length
  rw[Az];exact S.len
theorem Ext.trim {n:Nat} (e:Ext F ad mu H F' aC cQ H') (hn:ad.length=n):Ext F ad mu H F' (aC.take n) (cQ.take n) H' :=
 ⟨e.same,e.new,e.keep,fun k a h=>by rw[YA (by rw[<-hn];exact (sA.mp h).1)];exact e.pre k a h,fun a x=>e.cA a x.take,e.iw⟩
theorem SR.other (S:SR F ad δ σ H) (hf:F l=none) (hl:¬ Lv ad δ.mu l) (tk:aK.ok (upd H l o)):SR F ad δ σ (upd H l o):=by
 refine⟨fun a u e => ?_,S.off,S.cy,S.inj,fun k ov e => ?_,S.sl,S.len,tk,S.nt⟩
 ·rw[aS (c6 e hf)];exact S.sub a u e
 ·obtain⟨a,u,e1,e2,h⟩:=S.mu k ov e
  exact⟨a,u,e1,by rw[aS fun z=>hl (by subst z;exact⟨k,ov,e1,e⟩)];exact e2,h⟩
theorem Ext.other (e:Ext F ad mu H F' aC cQ H') (hl:H l=none):Ext F ad mu H F' aC cQ (upd H' l o) :=
 ⟨e.same,e.new,fun a u h n t=>by rw[aS (c6 h hl)];exact e.keep a u h n t,e.pre,e.cA,fun a u h=>by rw[aS (c6 h hl)];exact e.iw a u h⟩
theorem SR.adopt (S:SR F ad δ σ H) (hf:F l=none) (ho:H l=some o) (hl:¬ Lv ad δ.mu l) (no:∀ ps,o ≠ .tbl ps:=by intro _ z;cases z):SR (upd F l o) ad δ σ H:=by
 have sm:aF F (upd F l o):=c_ hf
 refine⟨fun a u e => ?_,fun a x => ?_,S.cy,S.inj,fun k ov e => ?_,fun i x e => ?_,S.len,S.tab,fun a ha=>by
  obtain⟨ps,q⟩:=aK.tb S.tab ha;rw[aS fun z=>by subst z;rw[ho] at q;exact no ps (Yh q)]
  exact S.nt a ha⟩
 ·by_cases c:a=l
  ·subst c;rw[bZ] at e;cases e;exact ho
  ·rw[aS c] at e;exact S.sub a u e
 ·rw[aS fun z=>hl (by subst z;exact x)];exact S.off a x
 ·obtain⟨a,u,e1,e2,h⟩:=S.mu k ov e
  exact⟨a,u,e1,e2,h.same sm⟩
 ·obtain⟨v,e1,h⟩:=S.sl i x e
  refine⟨v,e1,?_⟩
  cases x with
  | p d=>exact Is.same sm h
  | o k=>exact h
theorem Ext.adopt (e:Ext F ad mu H F' aC cQ H') (hl:H l=none) (hf:F' l=none):Ext F ad mu H (upd F' l o) aC cQ H' :=
 ⟨e.same.trans (c_ hf),fun a u h=>by
  by_cases c:a=l
  ·subst c;exact .inr (.inl hl)
  ·rw[aS c] at h;exact e.new a u h,e.keep,e.pre,e.cA,e.iw⟩
theorem SR.dQ {ov:OV} (S:SR F ad δ σ H) (hf:F l=none) (ho:H l=some o) (hl:¬ Lv ad δ.mu l) (h:eS F ov o):SR F (ad ++ [l]) ⟨δ.sl,δ.mu ++ [some ov]⟩ σ H:=by
 have old:∀ {k:Nat} {w:OV},(δ.mu ++ [some ov])[k]? = some (some w)->(k < δ.mu.length /\ δ.mu[k]? = some (some w))\/(k = δ.mu.length/\w=ov):=fun {k w} e=>by
  by_cases c:k < δ.mu.length
  ·rw[X1 c] at e;exact .inl ⟨c,e⟩
  ·have hl:=(sA.mp e).1
   rw[Fv,Yi] at hl;have ek:k = δ.mu.length:=by omega
   subst ek;rw[X7 (uu _),YI] at e;exact .inr ⟨rfl,by simpa using e.symm⟩
 have pre:∀ {k:Nat},k < δ.mu.length->(ad ++ [l])[k]? = ad[k]? := fun {k} c=>X1 (by rw[S.cy];exact c);have last:(ad ++ [l])[δ.mu.length]? = some l:=by rw[<-S.cy,X7 (uu _),YI];rfl
 refine⟨S.sub,fun a x => ?_,by rw[Fv,Fv,S.cy];rfl,fun k k' a w w' e1 e2 e3 e4 => ?_,fun k w e => ?_,fun i x e => ?_,S.len,S.tab,S.nt⟩
 ·obtain⟨k,w,e1,e2⟩:=x
  rcases old e2 with⟨c,e3⟩ | ⟨c,e3⟩
  ·rw[pre c] at e1;exact S.off a ⟨k,w,e1,e3⟩
  ·subst c;rw[last] at e1;cases e1;exact hf
 ·rcases old e3 with⟨c,q⟩ | ⟨c,q⟩
  ·rw[pre c] at e1
   rcases old e4 with⟨c',q'⟩ | ⟨c',q'⟩
   ·rw[pre c'] at e2;exact S.inj k k' a w w' e1 e2 q q'
   ·subst c';rw[last] at e2;cases e2;exact absurd ⟨k,w,e1,q⟩ hl
  ·subst c;rw[last] at e1;cases e1
   rcases old e4 with⟨c',q'⟩ | ⟨c',q'⟩
   ·rw[pre c'] at e2;exact absurd ⟨k',w',e2,q'⟩ hl
   ·exact c'.symm
 ·rcases old e with⟨c,q⟩ | ⟨c,q⟩
  ·obtain⟨a,u,e1,e2,h'⟩:=S.mu k w q
   exact⟨a,u,by rw[pre c];exact e1,e2,h'⟩
  ·subst c;subst q;exact⟨l,o,last,ho,h⟩
 ·obtain⟨v,e1,h'⟩:=S.sl i x e
  refine⟨v,e1,?_⟩
  cases x with
  | p d=>exact h'
  | o k =>
   obtain⟨a,e2,e3⟩:=h';exact⟨a,by rw[X1 (sA.mp e2).1];exact e2,e3⟩
theorem Ext.dQ {ov:OV} (e:Ext F ad mu H F' aC cQ H') (hl:H l=none) (hm:aC.length=cQ.length):Ext F ad mu H F' (aC ++ [l]) (cQ ++ [some ov]) H' :=
 ⟨e.same,e.new,e.keep,fun k a h=>by rw[X1 (sA.mp (e.pre k a h)).1];exact e.pre k a h,fun a x=>by
  obtain⟨k,w,e1,e2⟩:=x
  by_cases c:k < cQ.length
  ·rw[X1 c] at e2
   rw[X1 (by rw[hm];exact c)] at e1;exact e.cA a ⟨k,w,e1,e2⟩
  ·have iz:=(sA.mp e2).1
   rw[Fv,Yi] at iz;have ek:k=aC.length:=by rw[hm];omega
   subst ek;rw[X7 (uu _),YI] at e1;have:l=a:=by simpa using e1
   subst this;exact .inr hl,e.iw⟩
theorem SR.back {sl:List (Option DV)} (S0:SR F ad δ σ H) (e:Ext F ad δ.mu H F' aC cQ H') (S:SR F' aC ⟨sl,cQ⟩ τ H'):SR F' aC ⟨δ.sl,cQ⟩ σ H' :=
 ⟨S.sub,S.off,S.cy,S.inj,S.mu,fun i x q=>let ⟨v,h1,h2⟩:=S0.sl i x q; ⟨v,h1,h2.ext e⟩,S0.len,S.tab,S.nt⟩
noncomputable def dg (cp:List (Option Nat)) (sl:List (Option DV)):List (Option DV):=cp.map fun o=>match o with
 | some i=>(sl[i]?).join
 | none=>none
theorem SR.qN {cp:List (Option Nat)} (S:SR F ad δ σ H):SR F ad ⟨dg cp δ.sl,δ.mu⟩ (ip cp σ) H:=by
 refine⟨S.sub,S.off,S.cy,S.inj,S.mu,fun j x e => ?_,by unfold ip dg;rw[qx,qx],S.tab,S.nt⟩;unfold dg at e;rw[My] at e;obtain⟨o,e1,e2⟩:=Xt.mp e
 match o,e2 with
 | none,e2=>cases e2
 | some i,e2 =>
  have e2:(δ.sl[i]?).join=some x:=e2
  cases q : δ.sl[i]? with
  | none=>rw[q] at e2;cases e2
  | some z =>
   rw[q] at e2;have e3:z=some x:=e2;subst e3;obtain⟨v,h1,h2⟩:=S.sl i x q;refine⟨v,?_,h2⟩;unfold ip;rw[My,e1];show some ((σ[i]?).join)=some (some v);rw[h1];rfl
end
noncomputable def kZ (δ0:aA) (bE:aA->Prop) (g:WG) (b:WS) (K:KS):List D->aA->Prop
 | [],δ => bE δ /\ K.nx δ
 | d :: r,δ => bE δ /\ g (.p d) δ fun δ1=>b { nx:=fun δ2=>kZ δ0 bE g b K r (δ0.trim δ2),ct:=fun δ2=>kZ δ0 bE g b K r (δ0.trim δ2),bk:=K.nx,rt:=K.rt } δ1
noncomputable def dR (w:WI) (g:WG) (b:WS):WS:=fun K δ => w δ fun it δ1=>kZ δ1 it.bE g b K it.items δ1
noncomputable def jf (δ0:aA) (bE:aA->Prop) (g:WG) (t:WT) (f:WE) (K:List D->aA->Prop):List D->List D->aA->Prop
 | [],acc,δ => bE δ /\ K acc δ
 | d :: r,acc,δ => bE δ /\ g (.p d) δ fun δ1=>t δ1 fun b δ2=>if b=true then f δ2 fun x δ3=>mf x δ3 fun e δ4=>acc.length < 1000/\jf δ0 bE g t f K r (acc ++ [e]) (δ0.trim δ4) else jf δ0 bE g t f K r acc (δ0.trim δ2)
noncomputable def fy (w:WI) (cp:List (Option Nat)) (g:WG) (t:WT) (f:WE):WE:=fun δ K=>w δ fun it δ1=>jf ⟨dg cp δ1.sl,δ1.mu⟩ it.bE g t f (fun acc δ'=>K (.p (.lst acc)) ⟨δ1.sl,δ'.mu⟩) it.items [] ⟨dg cp δ1.sl,δ1.mu⟩
noncomputable def qO (w:WI) (cp:List (Option Nat)) (g:WG) (t:WT) (f:WE):WE:=fun δ K=>w δ fun it δ1=>jf ⟨dg cp δ1.sl,δ1.mu⟩ it.bE g t f (fun acc δ'=>K (.o δ'.mu.length) ⟨δ1.sl,δ'.mu ++ [some (.lst acc)]⟩) it.items [] ⟨dg cp δ1.sl,δ1.mu⟩
section
variable {X:Cx} {tg iter elt:Expr} {body:List Stmt} {w:WI} {g:WG} {b:WS} {pos:Pos} {ifs:List Expr} {t:WT} {f:WE} {scope:Scope}
theorem ml [mj] (hp:PassesOwn (model X.prog X.w) X.A X.env X.xe) (hc:X.calm=true) (hi:JI X tg iter (kY w)) (hg:JG X tg (kX g)) (hb:eF X body (dq b)) (hs:∀ x,foldedSetIterable iter X.env x=pure x:=by intro _;rfl) :
  JS X (.For tg iter body [] pos) (dq (dR w g b)):=(F8 hp hc hi hg hb hs).weak fun D σ H h0_ => el7 h0_ fun F ad δ K S q k =>by
 refine⟨F,ad,δ,_,S,q,fun it δ1 h1 J F1 aP H1 E1 S1 I1 => ?_⟩;have k1:=k.ext E1;refine⟨fun i m σ' H'=>∃ F' aC δ',i + m=it.items.length/\Ext F1 aP δ1.mu H1 F' aC δ'.mu H'/\SR F' aC δ' σ' H'/\kZ δ1 it.bE g b K (it.items.drop i) δ',⟨it.items.length,F1,aP,δ1,by omega,.refl,S1,h1⟩,?_⟩;rintro i m σ' H' ⟨F',aC,δ',hm,E',S',h⟩
 by_cases c5:i < it.items.length
 ·rw[ZR c5] at h
  obtain⟨ck,h⟩:=h;obtain⟨go,yl⟩:=(I1 F' aC δ' σ' H' E'.same E'.pre S' ck).2 i _ (qv c5);refine .inr ⟨go,fun σ2 H2=>∃ F2 bL δ2,Ext F1 aP δ1.mu H1 F2 bL δ2.mu H2/\SR F2 bL δ2 σ2 H2/\kZ δ1 it.bE g b K (it.items.drop (i + 1)) δ2,fun σ2 H2 ⟨F2,bL,δ2,e1,e2,e3⟩=>⟨m - 1,by omega,F2,bL,δ2,by omega,e1,e2,e3⟩,fun x H2 y => ?_⟩;obtain⟨sm,is⟩:=yl x H2 y;have E2:=E'.trans (Ext.al S' sm);refine⟨_,aC,δ',.p _,_,S'.al sm,is,h,fun δ3 h3 F3 nH σ3 H3 E3 S3 => ?_⟩;have uW:=E2.trans E3;refine⟨F3,nH,δ3,_,S3,h3,⟨fun δ4 h4 F4 uX σ4 H4 E4 S4=>⟨F4,_,_,(uW.trans E4).trim S1.cy,S4.trim,h4⟩,k1.nx.ext uW,fun δ4 h4 F4 uX σ4 H4 E4 S4=>⟨F4,_,_,(uW.trans E4).trim S1.cy,S4.trim,h4⟩,(k1.ext uW).rt,(k1.ext uW).kp⟩⟩
 ·have ei:i=it.items.length:=by omega
  subst ei;rw[List.drop_of_length_le (uu _)] at h;obtain⟨ck,h⟩:=h;exact .inl ⟨(I1 F' aC δ' σ' H' E'.same E'.pre S' ck).1,k1.nx _ h _ _ _ _ E' S'⟩
noncomputable def dA:WT:=fun δ K=>K true δ
theorem JF.weak {ifs:List Expr} {t t':TT} (h:JF X ifs t) (k:∀ σ H Q,t' σ H Q->t σ H Q):JF X ifs t':=⟨fun pins s σ H Q I q=>h.out pins s σ H Q I (k σ H Q q)⟩
theorem jH:JF X [] (cI dA):=qE.weak fun σ H Q h0_ => el7 h0_ fun F ad δ K S q k =>k _ _ q _ _ _ .refl S
theorem mn {c:Expr} (h:JT X c (cI t)):JF X [c] (cI t):=Pd h
theorem Gw {J:It} {l:Addr} {F1:Hp} {aP:List Addr} {δ1:aA} {σ : St} {H1:Hp} {it:pA} {cp:List (Option Nat)} {Q:VK} {K:List D->aA->Prop} (S1:SR F1 aP δ1 σ H1) (I1:qM F1 aP it J) (hl:H1 l=none)
  (h:jf ⟨dg cp δ1.sl,δ1.mu⟩ it.bE g t f K it.items [] ⟨dg cp δ1.sl,δ1.mu⟩)
  (fin:∀ acc δ' F' aC τ H' ys,K acc δ'->Ext F1 aP δ1.mu H1 F' aC δ'.mu H'->SR F' aC δ' τ H'->H' l=some (.lst ys)->F' l=none->¬ Lv aC δ'.mu l->ae F' acc ys->Q (.ref l) H') :
  FA J (kX g) (cI t) (tD f) l (ip cp σ) (upd H1 l (.lst [])) Q:=by
 have f1:F1 l=none:=by
  cases q:F1 l with
  | none=>rfl
  | some u=>rw[S1.sub l u q] at hl;cases hl
 have nl:∀ {ad mu},(∀ a,Lv ad mu a->Lv aP δ1.mu a\/H1 a=none)->True:=fun _=>trivial
 have l1:¬ Lv aP δ1.mu l:=fun ⟨k,ov,e1,e2⟩=>by
  obtain⟨a,o,e3,e4,_⟩:=S1.mu k ov e2;rw[e1] at e3;cases e3;rw[hl] at e4;cases e4
 have S0:SR F1 aP ⟨dg cp δ1.sl,δ1.mu⟩ (ip cp σ) (upd H1 l (.lst [])):=S1.qN.other f1 l1 (aK.same S1.tab (c_ hl));refine⟨fun i m τ H'=>∃ F' aC δ' acc ys,i + m=it.items.length/\Ext F1 aP δ1.mu H1 F' aC δ'.mu H'/\SR F' aC δ' τ H'/\H' l=some (.lst ys)/\F' l=none/\¬ Lv aC δ'.mu l/\ae F' acc ys/\jf ⟨dg cp δ1.sl,δ1.mu⟩ it.bE g t f K (it.items.drop i) acc δ',⟨it.items.length,F1,aP,_,[],[],by omega,Ext.refl.other hl,S0,bZ,f1,l1,.nil,h⟩,?_⟩;rintro i m τ H' ⟨F',aC,δ',acc,ys,hm,E',S',iz,nJ,pB,ia,h⟩
 by_cases c5:i < it.items.length
 ·rw[ZR c5] at h
  obtain⟨ck,h⟩:=h;obtain⟨go,yl⟩:=(I1 F' aC δ' τ H' E'.same E'.pre S' ck).2 i _ (qv c5)
  have step:∀ {F2:Hp} {bL:List Addr} {AB:List (Option OV)} {H2:Hp},Ext F' aC δ'.mu H' F2 bL AB H2->H2 l=some (.lst ys)/\F2 l=none/\¬ Lv bL AB l/\ae F2 acc ys:=fun {F2 bL AB H2} e=>by
   refine⟨e.keep _ _ iz pB (fun z=>by obtain⟨ps,q⟩:=aK.tb S1.tab z;rw[hl] at q;cases q),?_,fun z => ?_,ia.same e.same⟩
   ·cases q:F2 l with
    | none=>rfl
    | some u =>
     rcases e.new l u q with z | z | z
     ·rw[nJ] at z;cases z
     ·rw[iz] at z;cases z
     ·exact absurd z pB
   ·rcases e.cA l z with z | z
    ·exact pB z
    ·rw[iz] at z;cases z
  refine .inr ⟨go,fun τ2 H2=>∃ F2 bL δ2 nK xn,Ext F1 aP δ1.mu H1 F2 bL δ2.mu H2/\SR F2 bL δ2 τ2 H2/\H2 l=some (.lst xn)/\F2 l=none/\¬ Lv bL δ2.mu l/\ae F2 nK xn/\jf ⟨dg cp δ1.sl,δ1.mu⟩ it.bE g t f K (it.items.drop (i + 1)) nK δ2,
   fun τ2 H2 ⟨F2,bL,δ2,nK,xn,r⟩=>⟨m - 1,by omega,F2,bL,δ2,nK,xn,by omega,r⟩,fun x H2 y => ?_⟩
  obtain⟨sm,is⟩:=yl x H2 y;have X2:=Ext.al S' sm;refine⟨_,aC,δ',.p _,_,S'.al sm,is,h,fun δ3 h3 F3 nH σ3 H3 X3 S3 => ?_⟩;refine⟨F3,nH,δ3,_,S3,h3,fun bb δ4 h4 F4 uX H4 X4 S4 => ?_⟩;have AD:=(X2.trans X3).trans X4
  cases bb with
  | false =>
   dsimp only at h4 ⊢;rw[NM X8] at h4 ⊢;obtain⟨a1,a2,a3,a4⟩:=step AD;exact⟨F4,_,_,acc,ys,(E'.trans AD).trim S1.cy,S4.trim (δ0:=⟨dg cp δ1.sl,δ1.mu⟩),a1,a2,fun z=>a3 z.take,a4,h4⟩
  | true =>
   dsimp only at h4 ⊢;rw[Xs rfl] at h4 ⊢;refine⟨F4,uX,δ4,_,S4,h4,fun y δ5 h5 v F5 XA H5 X5 S5 V5 => ?_⟩;obtain⟨e,δ6,F6,⟨hlen,h6⟩,X6,S6,i6⟩:=sN S5 V5 h5;have Gx:=(AD.trans X5).trans X6;obtain⟨a1,a2,a3,a4⟩:=step Gx;refine⟨ys,a1,qy (by rw[a4.length];omega),F6,_,_,acc ++ [e],ys ++ [v],?_,(S6.other a2 a3 (aK.put S6.tab a1 (.inl ⟨_,rfl⟩))).trim (δ0:=⟨dg cp δ1.sl,δ1.mu⟩),bZ,a2,fun z=>a3 z.take,a4.snoc i6,h6⟩;exact ((E'.trans Gx).other hl).trim S1.cy
 ·have ei:i=it.items.length:=by omega
  subst ei;rw[List.drop_of_length_le (uu _)] at h;obtain⟨ck,h⟩:=h;exact .inl ⟨(I1 F' aC δ' τ H' E'.same E'.pre S' ck).1,fin _ _ _ _ _ _ _ h E' S' iz nJ pB ia⟩
theorem Gy {cp:List (Option Nat)}:∀ σ H Q,tD (fy w cp g t f) σ H Q->qA (kY w) cp (fun _=>kX g) (fun _=>cI t) (fun _=>tD f) σ H Q:=fun σ H Q h0_ => el7 h0_ fun F ad δ K S q k =>by
 refine⟨F,ad,δ,_,S,q,fun it δ1 h1 J F1 aP H1 E1 S1 I1=>fun d l hl => ?_⟩;refine Gw S1 I1 hl h1 fun acc δ' F' aC τ H' ys hk E' S' iz nJ pB ia => ?_;have sm:aF F' (upd F' l (.lst ys)):=c_ nJ;refine k _ _ hk _ _ _ _ (E1.trans (E'.adopt hl nJ)) (SR.back (sl := δ'.sl) S1 (E'.adopt hl nJ) (S'.adopt nJ iz pB)) ?_;show Is _ (.lst acc) _;simp only[Is];exact⟨l,ys,rfl,bZ,ia.same sm⟩
theorem Pz {cp:List (Option Nat)}:∀ σ H Q,tD (qO w cp g t f) σ H Q->qA (kY w) cp (fun _=>kX g) (fun _=>cI t) (fun _=>tD f) σ H Q:=fun σ H Q h0_ => el7 h0_ fun F ad δ K S q k =>by
 refine⟨F,ad,δ,_,S,q,fun it δ1 h1 J F1 aP H1 E1 S1 I1=>fun d l hl => ?_⟩;refine Gw S1 I1 hl h1 fun acc δ' F' aC τ H' ys hk E' S' iz nJ pB ia => ?_;have S2:=S'.dQ (ov := .lst acc) nJ iz pB ⟨ys,rfl,ia⟩;have E2:=E'.dQ (ov := .lst acc) hl S'.cy;refine k _ _ hk _ _ _ _ (E1.trans E2) (SR.back (sl := δ'.sl) S1 E2 S2) ⟨l,?_,rfl⟩;rw[<-S'.cy,X7 (uu _),YI];rfl
theorem g_ (cp:List (Option Nat)) (Nb:List Str) (hc:X.calm=true) (hi:JI X tg iter (kY w)) (hg:∀ d,JG (cD X scope Nb d) tg (kX g)) (hf:∀ d,JF (cD X scope Nb d) ifs (cI t)) (he:∀ d,JE (cD X scope Nb d) elt (tD f))
  (hk:scope.kind = .function:=by rfl) (ho:me X.N X.env.scope scope Nb cp=true:=by first | rfl | kernel_rfl) (hs:∀ x,foldedSetIterable iter X.env x=pure x:=by intro _;rfl) :
  JE X (.ListComp elt [⟨tg,iter,ifs,0⟩] scope pos) (tD (fy w cp g t f)):=(F9 cp Nb hc hi hg hf he hk ho hs).weak Gy
theorem xp (cp:List (Option Nat)) (Nb:List Str) (hc:X.calm=true) (hi:JI X tg iter (kY w)) (hg:∀ d,JG (cD X scope Nb d) tg (kX g)) (hf:∀ d,JF (cD X scope Nb d) ifs (cI t)) (he:∀ d,JE (cD X scope Nb d) elt (tD f))
  (hk:scope.kind = .function:=by rfl) (ho:me X.N X.env.scope scope Nb cp=true:=by first | rfl | kernel_rfl) (hs:∀ x,foldedSetIterable iter X.env x=pure x:=by intro _;rfl) :
  JE X (.ListComp elt [⟨tg,iter,ifs,0⟩] scope pos) (tD (qO w cp g t f)):=(F9 cp Nb hc hi hg hf he hk ho hs).weak Pz
theorem Gz [mj] (cp:List (Option Nat)) (Nb:List Str) {i:Nat} {x:Str} {pos' g6:Pos} (hN:X.N.Nodup) (hi:X.N[i]? = some x) (hx:Loc X.env.scope x) (hc:X.calm=true) (hit:JI X tg iter (kY w)) (hg:∀ d,JG (cD X scope Nb d) tg (kX g)) (hf:∀ d,JF (cD X scope Nb d) ifs (cI t)) (he:∀ d,JE (cD X scope Nb d) elt (tD f))
  (hk:scope.kind = .function:=by rfl) (ho:me X.N X.env.scope scope Nb cp=true:=by first | rfl | kernel_rfl) (hs:∀ x,foldedSetIterable iter X.env x=pure x:=by intro _;rfl)
  (uB:swapsWith (.ListComp elt [⟨tg,iter,ifs,0⟩] scope pos) (some (.Name x pos')) g6.line X.env=pure true:=by rfl)
  (mP:X.fn x=true\/X.env.scope.names.lookup x=some .local:=by first | exact .inl rfl | exact .inr rfl | assumption) :
  JS X (.Assign [.Name x pos'] (.ListComp elt [⟨tg,iter,ifs,0⟩] scope pos) g6) (dq (aL i (fy w cp g t f))) :=
 (Pe cp Nb hN hi hx hc hit hg hf he hk ho hs uB mP).weak fun D σ H h0_ => el7 h0_ fun F ad δ K S q k =>Gy σ H _ ⟨F,ad,δ,_,S,q,fun x δ1 h1 v F1 aP H1 E1 S1 V1=>k.nx _ h1 _ _ _ _ E1 (S1.set V1)⟩
end
inductive RV where
 | p (d:D) | n (ds:List D) | a (j:Nat)
noncomputable abbrev GD:=List DV->List OV->(RV->List OV->Prop)->Prop
structure AE (F:Hp) (ad:List Addr) (H:Hp) (r:RV) (ows:List OV) (v:V) (F' H':Hp):Prop where
 sub:aF F' H'
 same:aF F F'
 new:∀ a o,F' a=some o->F a=some o\/H a=none
 keep:∀ a o,H a=some o->a∉ad->a∉aK.ad->H' a=some o
 tab:aK.ok H'
 nt:∀ a∈aK.ad,F' a=none
 len:ows.length=ad.length
 own:∀ (j:Nat) (ow:OV),ows[j]? = some ow->∃ a o,ad[j]? = some a/\H' a=some o/\eS F' ow o
 off:∀ a∈ad,F' a=none
 res:match r with
  | .p d=>Is F' d v
  | .n ds=>∃ a vs,v = .ref a/\H a=none/\H' a=some (.lst vs)/\F' a=none/\ae F' ds vs
  | .a j=>∃ a,ad[j]? = some a/\v = .ref a
noncomputable def k6 (G:GD) (n:Nat):Sp:=fun vs H Q _=>vs.length=n/\∃ F ad ys ai K,SR F ad ⟨ys.map some,ai.map some⟩ (vs.map some) H/\G ys ai K/\∀ r ows,K r ows->∀ v F' H',AE F ad H r ows v F' H'->Q v H'
noncomputable def gD (n:Nat) (K:RV->List OV->Prop) (x:DV) (δ : aA):Prop:=∃ ows,δ.mu.take n=ows.map some/\ows.length=n/\match x with
 | .p d=>K (.p d) ows
 | .o k=>if k < n then K (.a k) ows else match δ.mu[k]? with
  | some (some (.lst ds))=>K (.n ds) ows\/K (.p (.lst ds)) ows
  | _=>False
noncomputable def bI (n:Nat) (K:RV->List OV->Prop):KS where
 nx:=gD n K (.p .non)
 rt:=gD n K
section
variable {F F' H H':Hp} {ad aC:List Addr} {σ σ':St}
theorem GA {α : Type} {l:List α} {i:Nat} {x : α} (h:(l.map some)[i]? = some (some x)):l[i]? = some x:=by
 rw[My] at h;obtain⟨y,e,q⟩:=Xt.mp h;cases q;exact e
theorem PB {α : Type} {l:List α} {i:Nat} {x : α} (h:l[i]? = some x):(l.map some)[i]? = some (some x):=by
 rw[My,h];rfl
theorem SR.start {ys:List DV} {mu:List (Option OV)} {vs:List V} {N:List Str} (S:SR F ad ⟨ys.map some,mu⟩ (vs.map some) H):SR F ad ⟨ys.map some ++ List.replicate (N.length - vs.length) none,mu⟩ (start N vs) H:=by
 have hl:vs.length=ys.length:=by
  have:=S.len;rw[qx] at this;show vs.length=ys.length;rw[this];show (ys.map some).length=_;rw[qx]
 refine⟨S.sub,S.off,S.cy,S.inj,S.mu,fun i x e => ?_,?_,S.tab,S.nt⟩
 ·have hi:i < ys.length:=by
   by_cases c:i < ys.length
   ·exact c
   ·rw[X7 (by rw[qx];omega),q0x] at e
    split at e
    ·cases e
    ·cases e
  rw[X1 (by rw[qx];exact hi)] at e;obtain⟨v,h1,h2⟩:=S.sl i x e;exact⟨v,by unfold L2.start;rw[X1 (by rw[qx,hl];exact hi)];exact h1,h2⟩
 ·unfold L2.start
  show _=(ys.map some ++ _).length;rw[Fv,Fv,q0J,q0J,qx,qx,hl]
theorem xq {ai:List OV} {δ : aA} {x:DV} {v:V} {K:RV->List OV->Prop} {Q:VK} {sl:List (Option DV)} {τ : St} (S0:SR F ad ⟨sl,ai.map some⟩ τ H) (E:Ext F ad (ai.map some) H F' aC δ.mu H') (S:SR F' aC δ σ' H') (V:fw F' aC x v)
  (h:gD ai.length K x δ) (k:∀ r ows,K r ows->∀ v F' H',AE F ad H r ows v F' H'->Q v H'):Q v H':=by
 obtain⟨ows,tk,hl,h⟩:=h;have al:ad.length=ai.length:=by have:=S0.cy;rwa [qx] at this
 have lv:∀ (j:Nat) (a:Addr),ad[j]? = some a->∃ ow,ows[j]? = some ow /\ δ.mu[j]? = some (some ow)/\Lv aC δ.mu a:=fun j a e=>by
  have hj:j < ai.length:=by rw[<-al];exact (sA.mp e).1
  have h1:(δ.mu.take ai.length)[j]? = some (some (ows[j]'(by rw[hl];exact hj))):=by
   rw[tk,My,qv (by rw[hl];exact hj)];rfl
  rw[YA hj] at h1;exact⟨_,qv (by rw[hl];exact hj),h1,j,_,E.pre j a e,h1⟩
 have k9:∀ a∈ad,F' a=none:=fun a ha=>by
  obtain⟨j,e⟩:=X9.mp ha;obtain⟨_,_,_,l⟩:=lv j a e;exact S.off a l
 have base:∀ {F2:Hp},aF F' F2->aF F2 H'->(∀ a o,F2 a=some o->F' a=some o\/(H a=none/\¬ a∈ad))->(∀ a∈ad,F2 a=none)->(∀ a∈aK.ad,F2 a=none)->∀ {r:RV},(match r with
   | .p d=>Is F2 d v
   | .n ds=>∃ a vs,v = .ref a/\H a=none/\H' a=some (.lst vs)/\F2 a=none/\ae F2 ds vs
   | .a j=>∃ a,ad[j]? = some a/\v = .ref a)->AE F ad H r ows v F2 H':=fun {F2} s1 s2 n2 o2 PD {r} res=>by
  refine⟨s2,E.same.trans s1,fun a o e => ?_,fun a o e n t => ?_,S.tab,PD,by rw[hl,al],fun j ow e => ?_,o2,res⟩
  ·rcases n2 a o e with e | ⟨e,_⟩
   ·rcases E.new a o e with z | z | ⟨j,ov,z,_⟩
    ·exact .inl z
    ·exact .inr z
    ·rw[k9 a (X9.mpr ⟨j,z⟩)] at e;cases e
   ·exact .inr e
  ·exact E.keep a o e (fun ⟨j,ov,z,_⟩=>n (X9.mpr ⟨j,z⟩)) t
  ·have hj:j < ad.length:=by rw[al,<-hl];exact (sA.mp e).1
   obtain⟨AF,e1,e2,_⟩:=lv j _ (qv hj);rw[e] at e1;cases e1;obtain⟨a,o,e3,e4,h5⟩:=S.mu j _ e2;rw[E.pre j _ (qv hj)] at e3;cases e3
   exact⟨_,o,qv hj,e4,h5.same s1⟩
 cases x with
 | p d=>exact k _ _ h _ _ _ (base (F2:=F') (fun _ _ e=>e) S.sub (fun _ _ e => .inl e) k9 S.nt V)
 | o i =>
  dsimp only at h;obtain⟨a,e1,rfl⟩:=V
  by_cases c:i < ai.length
  ·rw[Xs c] at h
   have ei:ad[i]? = some a:=by
    have:=E.pre i _ (qv (by rw[al];exact c));rw[e1] at this;rw[qv (by rw[al];exact c)];exact this.symm
   exact k _ _ h _ _ _ (base (F2:=F') (fun _ _ e=>e) S.sub (fun _ _ e => .inl e) k9 S.nt ⟨a,ei,rfl⟩)
  ·rw[NM c] at h
   split at h
   ·rename_i ds em
    obtain⟨a',o,e2,e3,vs,rfl,h4⟩:=S.mu i _ em;rw[e1] at e2;cases e2
    have na:a∉ad:=fun z=>by
     obtain⟨j,e⟩:=X9.mp z;obtain⟨ow,_,e5,_⟩:=lv j a e;have:i=j:=S.inj i j a _ _ e1 (E.pre j a e) em e5;subst this;exact c (by rw[<-al];exact (sA.mp e).1)
    have fa:F' a=none:=S.off a ⟨i,_,e1,em⟩
    have ha:H a=none:=by
     rcases E.cA a ⟨i,_,e1,em⟩ with⟨j,ov,z,_⟩ | z
     ·exact absurd (X9.mpr ⟨j,z⟩) na
     ·exact z
    rcases h with h | h
    ·exact k _ _ h _ _ _ (base (F2:=F') (fun _ _ e=>e) S.sub (fun _ _ e => .inl e) k9 S.nt ⟨a,vs,rfl,ha,e3,fa,h4⟩)
    ·refine k _ _ h _ _ _ (base (F2:=upd F' a (.lst vs)) (c_ fa) (fun b o e => ?_) (fun b o e => ?_) (fun b hb => ?_) (fun b hb => ?_) ?_)
     ·by_cases z:b=a
      ·subst z;rw[bZ] at e;cases e;exact e3
      ·rw[aS z] at e;exact S.sub b o e
     ·by_cases z:b=a
      ·subst z;exact .inr ⟨ha,na⟩
      ·rw[aS z] at e;exact .inl e
     ·rw[aS fun z=>na (by subst z;exact hb)];exact k9 b hb
     ·obtain⟨ps,q⟩:=aK.tb S.tab hb
      rw[aS fun z=>by subst z;rw[e3] at q;cases q];exact S.nt b hb
     ·show Is _ (.lst ds) _
      simp only[Is];exact⟨a,vs,rfl,bZ,h4.same (c_ fa)⟩
   ·exact h.elim
end
theorem g5.PH {P:Program} {w:World} {K:PySem.W.Frag} {mg:Str->Option Value} {base:Heap} {x qual:Str} {st:Stmt} {f:Addr} {fd:FuncData} {N ps:List Str} {k:Nat} {G:GD} (F:g5 K x qual st f fd) (S:mV N ps (cV st))
  (dO:∀ (ba:Value) (A:Around) (outer:List Env) (s:Shared) (H:Hp) (E:XK),bh k (A.deeper (envOfC qual (cV st) s.heap.objs.size f ba)) →
   ∃ B:WS,eF (eN f9 P w K mg base N qual (cV st) f ba A outer s H E).kE (gx st) (dq B)/\∀ ys ai K',ys.length=ps.length->G ys ai K'->B (bI ai.length K') ⟨ys.map some ++ List.replicate (N.length - ps.length) none,ai.map some⟩) :
  cS P w K mg base f9 (k + 1) f fd ps (k6 G ps.length) :=
 F.Ar S (fun vs H Q E h=>h.1) fun ba A outer s H vs Q E hr h=>by
  obtain⟨hl,Fz,ad,ys,ai,K',S0,g,kk⟩:=h;obtain⟨B,jb,hb⟩:=dO ba A outer s H E hr
  have hy:ys.length=ps.length:=by
   have:=S0.len;rw[qx] at this;rw[<-hl,this];show _=(ys.map some).length;rw[qx]
  refine⟨_,jb,Fz,ad,⟨ys.map some ++ List.replicate (N.length - ps.length) none,ai.map some⟩,bI ai.length K',by rw[<-hl];exact S0.start,hb ys ai K' hy g,⟨fun δ' h F' aC σ' H' E' S' => ?_,fun δ' h=>h.elim,fun δ' h=>h.elim,fun y δ' h v F' aC σ' H' E' S' V => ?_,trivial⟩⟩
  ·exact xq (σ' := σ') S0 E' S' (x := .p .non) (v := .non) rfl h kk
  ·exact xq (σ' := σ') S0 E' S' V h kk
noncomputable def passes (mu:List (Option OV)):List DV->Nat->Option (List DV × List (Nat × OV))
 | [],_=>some ([],[])
 | .p d :: xs,j=>match passes mu xs j with
  | some r=>some (.p d :: r.1,r.2)
  | none=>none
 | .o k :: xs,j=>match mu[k]? with
  | some (some ov)=>match passes mu xs (j + 1) with
   | some r=>some (.o j :: r.1,(k,ov) :: r.2)
   | none=>none
  | _=>none
noncomputable def fJ (mu:List (Option OV)):List (Nat × OV)->List OV->List (Option OV)
 | (k,_) :: r,ow :: ows=>fJ (mu.set k (some ow)) r ows
 | _,_=>mu
noncomputable def k_:List (Nat × OV)->Bool
 | []=>true
 | (k,_) :: r => !(r.any fun e=>e.1 == k) && k_ r
noncomputable def nL (δ : aA) (gb:List (Nat × OV)) (K:DV->aA->Prop) (r:RV) (ows:List OV):Prop:=match r with
 | .p d=>K (.p d) ⟨δ.sl,fJ δ.mu gb ows⟩
 | .n ds=>K (.p (.lst ds)) ⟨δ.sl,fJ δ.mu gb ows⟩
 | .a j=>match gb[j]? with
  | some ko=>K (.o ko.1) ⟨δ.sl,fJ δ.mu gb ows⟩
  | none=>False
noncomputable def qP (δ : aA) (gb:List (Nat × OV)) (K:DV->aA->Prop) (r:RV) (ows:List OV):Prop:=match r with
 | .n ds=>K (.o (fJ δ.mu gb ows).length) ⟨δ.sl,fJ δ.mu gb ows ++ [some (.lst ds)]⟩
 | _=>False
noncomputable def au (n:Nat) (G:GD) (fa:WA):WE:=fun δ K=>fa δ fun xs δ1=>match passes δ1.mu xs 0 with
 | some r=>(k_ r.2=true/\r.1.length=n)/\G r.1 (r.2.map (·.2)) (nL δ1 r.2 K)
 | none=>False
noncomputable def uY (n:Nat) (G:GD) (fa:WA):WE:=fun δ K=>fa δ fun xs δ1=>match passes δ1.mu xs 0 with
 | some r=>(k_ r.2=true/\r.1.length=n)/\G r.1 (r.2.map (·.2)) (qP δ1 r.2 K)
 | none=>False
section
variable {F F' H H':Hp} {ad aC:List Addr} {δ : aA} {σ σ':St}
theorem xr {mu:List (Option OV)} (hm:∀ (k:Nat) (ov:OV),mu[k]? = some (some ov)->∃ a o,ad[k]? = some a/\H a=some o/\eS F ov o):∀ {xs:List DV} {vs:List V} {j:Nat} {r:List DV × List (Nat × OV)},passes mu xs j=some r->du F ad xs vs →
  ∃ as:List Addr,as.length=r.2.length/\(∀ (i:Nat) (ko:Nat × OV),r.2[i]? = some ko->mu[ko.1]? = some (some ko.2)/\∃ a o,as[i]? = some a/\ad[ko.1]? = some a/\H a=some o/\eS F ko.2 o) ∧
   ∀ (pre:List Addr),pre.length=j->∃ _u:Unit,vs.length=r.1.length/\∀ (i:Nat) (y:DV),r.1[i]? = some y->∃ v,vs[i]? = some v/\fw F (pre ++ as) y v
 | [],vs,j,r,h,hv=>by
  cases h
  have:vs=[]:=hv;subst this;exact⟨[],rfl,fun i ko e=>by simp at e,fun pre _=>⟨(),rfl,fun i y e=>by simp at e⟩⟩
 | .p d :: xs,_,j,r,h,⟨v,t,e,h1,h2⟩=>by
  subst e;unfold passes at h;split at h
  ·rename_i r' hr
   cases h
   obtain⟨as,l,b,c⟩:=xr hm hr h2;refine⟨as,l,b,fun pre hp=>⟨(),?_,fun i y e => ?_⟩⟩
   ·obtain⟨_,c1,_⟩:=c pre hp
    rw[Fq,Fq,c1]
   ·obtain⟨_,_,c2⟩:=c pre hp
    cases i with
    | zero=>cases (show some (DV.p d)=some y by simpa using e);exact⟨v,rfl,h1⟩
    | succ i=>simpa using c2 i y (by simpa using e)
  ·cases h
 | .o k :: xs,_,j,r,h,⟨v,t,e,h1,h2⟩=>by
  subst e;unfold passes at h;split at h
  ·rename_i ov hk
   split at h
   ·rename_i r' hr
    cases h
    obtain⟨as,l,b,c⟩:=xr hm hr h2;obtain⟨a,e1,rfl⟩:=h1;obtain⟨a',o,e2,e3,e4⟩:=hm k ov hk;rw[e1] at e2;cases e2;refine⟨a :: as,by rw[Fq,Fq,l],fun i ko e => ?_,fun pre hp=>⟨(),?_,fun i y e => ?_⟩⟩
    ·cases i with
     | zero=>cases (show some (k,ov)=some ko by simpa using e);exact⟨hk,a,o,rfl,e1,e3,e4⟩
     | succ i=>simpa using b i ko (by simpa using e)
    ·obtain⟨_,c1,_⟩:=c (pre ++ [a]) (by rw[Fv,hp];rfl)
     rw[Fq,Fq,c1]
    ·obtain⟨_,_,c2⟩:=c (pre ++ [a]) (by rw[Fv,hp];rfl)
     cases i with
     | zero =>
      cases (show some (DV.o j)=some y by simpa using e)
      refine⟨_,rfl,a,?_,rfl⟩;rw[X7 (by omega),hp,YI];rfl
     | succ i =>
      obtain⟨v',c3,c4⟩:=c2 i y (by simpa using e);exact⟨v',by simpa using c3,by rw[ZC] at c4;exact c4⟩
   ·cases h
  ·cases h
theorem GB:∀ {gb:List (Nat × OV)},k_ gb=true->∀ (i j:Nat) (k:Nat) (a b:OV),gb[i]? = some (k,a)->gb[j]? = some (k,b)->i=j
 | [],_,i,j,k,a,b,e,_=>by simp at e
 | (k',ov) :: r,h,i,j,k,a,b,e1,e2=>by
  unfold k_ at h;simp only[Yl,q0l] at h
  have no:∀ (m:Nat) (c:OV),r[m]? = some (k',c)->False:=fun m c e=>by
   have:=Zm.mp h.1 _ (X9.mpr ⟨m,e⟩);exact this (by simp)
  cases i with
  | zero =>
   cases (show some (k',ov)=some (k,a) by simpa using e1)
   cases j with
   | zero=>rfl
   | succ j=>exact (no j b (by simpa using e2)).elim
  | succ i =>
   cases j with
   | zero=>cases (show some (k',ov)=some (k,b) by simpa using e2);exact (no i a (by simpa using e1)).elim
   | succ j=>rw[GB h.2 i j k a b (by simpa using e1) (by simpa using e2)]
theorem GC:∀ (gb:List (Nat × OV)) (ows:List OV) (mu:List (Option OV)),(fJ mu gb ows).length=mu.length
 | (k,_) :: r,ow :: ows,mu=>by rw[fJ,GC r ows,Y9]
 | [],_,_=>rfl
 | _ :: _,[],_=>rfl
theorem xt:∀ (gb:List (Nat × OV)) (ows:List OV) (mu:List (Option OV)) (l:Nat),(∀ ko∈gb,ko.1≠l)->(fJ mu gb ows)[l]? = mu[l]?
 | (k,_) :: r,ow :: ows,mu,l,h=>by
  rw[fJ,xt r ows _ l fun ko hk=>h ko (Xu _ hk),YH (h _ NO)]
 | [],_,_,_,_=>rfl
 | _ :: _,[],_,_,_=>rfl
theorem GF:∀ {gb:List (Nat × OV)} {ows:List OV} {mu:List (Option OV)} {i:Nat} {ko:Nat × OV} {ow:OV},k_ gb=true->gb[i]? = some ko->ows[i]? = some ow->ko.1 < mu.length->(fJ mu gb ows)[ko.1]? = some (some ow)
 | (k,ov) :: r,AF :: ows,mu,0,ko,ow,h,e1,e2,hl=>by
  cases (show some (k,ov)=some ko by simpa using e1)
  cases (show some AF=some ow by simpa using e2)
  unfold k_ at h;simp only[Yl,q0l] at h;rw[fJ,xt r ows _ k fun ko hk z=>absurd (by simpa using z) (Zm.mp h.1 ko hk),Yx hl]
 | (k,ov) :: r,AF :: ows,mu,i + 1,ko,ow,h,e1,e2,hl=>by
  unfold k_ at h;simp only[Yl,q0l] at h;rw[fJ];exact GF h.2 (by simpa using e1) (by simpa using e2) (by rw[Y9];exact hl)
 | [],_,_,i,_,_,_,e1,_,_=>by simp at e1
 | _ :: _,[],_,i,_,_,_,_,e2,_=>by simp at e2
theorem GG {xs:List DV} {vs:List V} {r:List DV × List (Nat × OV)} {G:GD} {n:Nat} {Q:VK} {E:XK} {K:RV->List OV->Prop} (S:SR F ad δ σ H) (V:du F ad xs vs) (hn:vs.length=n) (hp:passes δ.mu xs 0=some r) (nd:k_ r.2=true) (g:G r.1 (r.2.map (·.2)) K)
  (fin:∀ res ows v F' H',K res ows->Ext F ad δ.mu H F' ad (fJ δ.mu r.2 ows) H'->SR F' ad ⟨δ.sl,fJ δ.mu r.2 ows⟩ σ H'->(match res with
   | .p d=>Is F' d v
   | .n ds=>∃ a vs,v = .ref a/\H a=none/\H' a=some (.lst vs)/\F' a=none/\ae F' ds vs
   | .a j=>∃ ko a,r.2[j]? = some ko/\ad[ko.1]? = some a/\v = .ref a)->Q v H'):k6 G n vs H Q E:=by
 obtain⟨as,al,b,c⟩:=xr S.mu hp V;obtain⟨_,c1,c2⟩:=c [] rfl
 have sP:∀ (i:Nat) (a:Addr),as[i]? = some a->Lv ad δ.mu a/\∃ ko,r.2[i]? = some ko/\ad[ko.1]? = some a /\ δ.mu[ko.1]? = some (some ko.2):=fun i a e=>by
  have hi:i < r.2.length:=by rw[<-al];exact (sA.mp e).1
  obtain⟨m1,a',o,e1,e2,_,_⟩:=b i _ (qv hi);rw[e] at e1;cases e1;exact⟨⟨_,_,e2,m1⟩,_,qv hi,e2,m1⟩
 refine⟨hn,F,as,r.1,r.2.map (·.2),K,⟨S.sub,fun a ⟨i,ov,e1,e2⟩=>S.off a (sP i a e1).1,by rw[al];show _=((r.2.map (·.2)).map some).length;rw[qx,qx],fun i j a ov ow e1 e2 _ _ => ?_,fun i ov e => ?_,fun i y e => ?_,?_,S.tab,S.nt⟩,g,fun res ows hk v F' H' P => ?_⟩
 ·obtain⟨_,ko,k1,k2,k3⟩:=sP i a e1
  obtain⟨_,kp,p1,p2,p3⟩:=sP j a e2;have:ko.1=kp.1:=S.inj _ _ a _ _ k2 p2 k3 p3;exact GB nd i j ko.1 ko.2 kp.2 k1 (by rw[this];exact p1)
 ·have e:=GA e
  rw[My] at e;obtain⟨ko,e1,rfl⟩:=Xt.mp e;obtain⟨_,a,o,e2,_,e4,e5⟩:=b i ko e1;exact⟨a,o,e2,e4,e5⟩
 ·obtain⟨v,e1,e2⟩:=c2 i y (GA e)
  exact⟨v,PB e1,by simpa using e2⟩
 ·show (vs.map some).length=(r.1.map some).length
  rw[qx,qx,c1]
 ·have ol:ows.length=r.2.length:=by rw[P.len,al]
  have o6:∀ (l:Nat) (ow:OV),(fJ δ.mu r.2 ows)[l]? = some (some ow)->(∃ (i:Nat) (ko:Nat × OV),r.2[i]? = some ko/\ko.1=l/\ows[i]? = some ow)\/((∀ ko∈r.2,ko.1≠l) /\ δ.mu[l]? = some (some ow)):=fun l ow e=>by
   by_cases z:∃ ko∈r.2,ko.1=l
   ·obtain⟨ko,hk,rfl⟩:=z
    obtain⟨i,hi⟩:=X9.mp hk;have qQ:i < ows.length:=by rw[ol];exact (sA.mp hi).1
    have:=GF (mu := δ.mu) nd hi (qv qQ) (sA.mp (b i ko hi).1).1;rw[e] at this;cases this
    exact .inl ⟨i,ko,hi,rfl,qv qQ⟩
   ·have z':∀ ko∈r.2,ko.1≠l:=fun ko hk q=>z ⟨ko,hk,q⟩
    rw[xt _ _ _ _ z'] at e;exact .inr ⟨z',e⟩
  have GH:∀ (l:Nat) (ow:OV) (a:Addr),ad[l]? = some a->(fJ δ.mu r.2 ows)[l]? = some (some ow)->Lv ad δ.mu a:=fun l ow a e1 e2=>by
   rcases o6 l ow e2 with⟨i,ko,hi,rfl,_⟩ | ⟨_,q⟩
   ·exact⟨_,_,e1,(b i ko hi).1⟩
   ·exact⟨_,_,e1,q⟩
  have PJ:∀ a,a∈as->Lv ad δ.mu a:=fun a ha=>by
   obtain⟨i,e⟩:=X9.mp ha;exact (sP i a e).1
  have ex:Ext F ad δ.mu H F' ad (fJ δ.mu r.2 ows) H':=by
   refine⟨P.same,fun a o e => ?_,fun a o e n t=>P.keep a o e (fun z=>n (PJ a z)) t,fun _ _ e=>e,fun a ⟨l,ow,e1,e2⟩ => .inl (GH l ow a e1 e2),fun a o e => ?_⟩
   ·rcases P.new a o e with z | z
    ·exact .inl z
    ·exact .inr (.inl z)
   ·by_cases z:a∈as
    ·obtain⟨i,e1⟩:=X9.mp z
     have hi:i < ows.length:=by rw[P.len];exact (sA.mp e1).1
     obtain⟨a',o',e2,e3,_⟩:=P.own i _ (qv hi);rw[e1] at e2;cases e2;exact⟨o',e3⟩
    ·by_cases t:a∈aK.ad
     ·obtain⟨ps,q⟩:=aK.tb P.tab t
      exact⟨_,q⟩
     ·exact⟨o,P.keep a o e z t⟩
  have AG:∀ a,Lv ad δ.mu a->F' a=none:=fun a l=>by
   by_cases z:a∈as
   ·exact P.off a z
   ·cases q:F' a with
    | none=>rfl
    | some u =>
     rcases P.new a u q with y | y
     ·rw[S.off a l] at y;cases y
     ·obtain⟨k,ov,e1,e2⟩:=l
      obtain⟨a',o,e3,e4,_⟩:=S.mu k ov e2;rw[e1] at e3;cases e3;rw[y] at e4;cases e4
  have sr:SR F' ad ⟨δ.sl,fJ δ.mu r.2 ows⟩ σ H':=by
   refine⟨P.sub,fun a ⟨l,ow,e1,e2⟩=>AG a (GH l ow a e1 e2),by rw[S.cy];exact (GC _ _ _).symm,fun k l a ov ow e1 e2 e3 e4 => ?_,fun l ow e => ?_,fun i y e => ?_,S.len,P.tab,P.nt⟩
   ·have h3:∃ w,δ.mu[k]? = some (some w):=by
     rcases o6 k ov e3 with⟨i,ko,hi,rfl,_⟩ | ⟨_,q⟩
     ·exact⟨_,(b i ko hi).1⟩
     ·exact⟨_,q⟩
    have h4:∃ w,δ.mu[l]? = some (some w):=by
     rcases o6 l ow e4 with⟨i,ko,hi,rfl,_⟩ | ⟨_,q⟩
     ·exact⟨_,(b i ko hi).1⟩
     ·exact⟨_,q⟩
    obtain⟨_,h3⟩:=h3;obtain⟨_,h4⟩:=h4;exact S.inj k l a _ _ e1 e2 h3 h4
   ·rcases o6 l ow e with⟨i,ko,hi,rfl,ho⟩ | ⟨z,q⟩
    ·obtain⟨_,a,o,e1,e2,_,_⟩:=b i ko hi
     obtain⟨a',o',e3,e4,h5⟩:=P.own i ow ho;rw[e1] at e3;cases e3;exact⟨a,o',e2,e4,h5⟩
    ·obtain⟨a,o,e1,e2,h⟩:=S.mu l ow q
     refine⟨a,o,e1,P.keep a o e2 (fun y => ?_) (fun t => ?_),h.same P.same⟩
     ·obtain⟨i,e3⟩:=X9.mp y
      obtain⟨_,ko,k1,k2,k3⟩:=sP i a e3;exact z ko (X9.mpr ⟨i,k1⟩) (S.inj _ _ a _ _ k2 e1 k3 q)
     ·obtain⟨ps,q2⟩:=aK.tb S.tab t
      rw[e2] at q2;cases q2
      rcases h.kind with⟨_,z⟩ | ⟨_,z⟩<;>cases z
   ·obtain⟨v,e1,h⟩:=S.sl i y e
    exact⟨v,e1,h.ext ex⟩
  refine fin res ows v F' H' hk ex sr ?_;have qR:=P.res
  cases res with
  | p d=>exact qR
  | n ds=>exact qR
  | a j =>
   obtain⟨a,e1,e2⟩:=qR;obtain⟨_,ko,k1,k2,_⟩:=sP j a e1;exact⟨ko,a,k1,k2,e2⟩
end
section
variable {X:Cx} {fa:WA} {G:GD} {pos:Pos}
theorem GI {F1 F2 H1 H2:Hp} {aP:List Addr} {δ1:aA} {σ : St} {xs:List DV} {vs:List V} {r:List DV × List (Nat × OV)} {ows:List OV} {a:Addr} (S1:SR F1 aP δ1 σ H1) (V1:du F1 aP xs vs) (hp:passes δ1.mu xs 0=some r) (n1:H1 a=none):¬ Lv aP (fJ δ1.mu r.2 ows) a:=fun ⟨k,ov,e1,e2⟩=>by
 have c:∃ ov,δ1.mu[k]? = some (some ov):=by
  by_cases y:∃ ko∈r.2,ko.1=k
  ·obtain⟨ko,d9,rfl⟩:=y
   obtain⟨as,_,b,_⟩:=xr S1.mu hp V1;obtain⟨i,hi⟩:=X9.mp d9;exact⟨_,(b i ko hi).1⟩
  ·rw[xt _ _ _ _ fun ko d9 q=>y ⟨ko,d9,q⟩] at e2
   exact⟨_,e2⟩
 obtain⟨PK,c⟩:=c;obtain⟨a',o,e3,e4,_⟩:=S1.mu k PK c;rw[e1] at e3;cases e3;rw[n1] at e4;cases e4
theorem du.length {F:Hp} {ad:List Addr}:∀ {xs:List DV} {vs:List V},du F ad xs vs->vs.length=xs.length
 | [],vs,h=>by have h:vs=[]:=h;rw[h];rfl
 | x :: xs,vs,⟨v,r,e,_,h2⟩=>by rw[e,Fq,Fq,du.length h2]
theorem xu {mu:List (Option OV)}:∀ {xs:List DV} {j:Nat} {r:List DV × List (Nat × OV)},passes mu xs j=some r->r.1.length=xs.length
 | [],j,r,h=>by cases h;rfl
 | .p d :: xs,j,r,h=>by
  unfold passes at h;split at h
  ·rename_i r' hr;cases h;show (DV.p d :: r'.1).length=_;rw[Fq,Fq,xu hr]
  ·cases h
 | .o k :: xs,j,r,h=>by
  unfold passes at h;split at h
  ·split at h
   ·rename_i r' hr;cases h;show (DV.o j :: r'.1).length=_;rw[Fq,Fq,xu hr]
   ·cases h
  ·cases h
section
variable {k:Nat} {f:Addr} {fd:FuncData} {ps:List Str} {x:Str} {p:Pos} {e:Expr} {es:List Expr} {n:Nat}
theorem PL {E:XK} {F F1 H H1:Hp} {ad aP:List Addr} {δ δ1:aA} {σ : St} {K:DV->aA->Prop} {Q:VK} {xs:List DV} {vs:List V} (kk:∀ x δ',K x δ'->∀ v F' aC H',Ext F ad δ.mu H F' aC δ'.mu H'->SR F' aC δ' σ H'->fw F' aC x v->Q v H') (h1:match passes δ1.mu xs 0 with
 | some r=>(k_ r.2=true/\r.1.length=n)/\G r.1 (r.2.map (·.2)) (nL δ1 r.2 K)
 | none=>False) (E1:Ext F ad δ.mu H F1 aP δ1.mu H1) (S1:SR F1 aP δ1 σ H1) (V1:du F1 aP xs vs):k6 G n (vs ++ []) H1 Q E:=by
 split at h1
 ·rename_i r hp
  obtain⟨⟨nd,hn⟩,h1⟩:=h1;rw[q0Z];refine GG S1 V1 (by rw[V1.length,<-xu hp,hn]) hp nd h1 fun res ows v F2 H2 hk E2 S2 la => ?_;unfold nL at hk
  cases res with
  | p d=>exact kk _ _ hk _ _ _ _ (E1.trans E2) S2 la
  | n ds =>
   obtain⟨a,us,rfl,n1,n2,n3,n4⟩:=la;refine kk _ _ hk _ _ _ _ (E1.trans (E2.adopt (o := .lst us) n1 n3)) (S2.adopt n3 n2 (GI (F2:=F2) (H2:=H2) S1 V1 hp n1)) ?_;show Is _ (.lst ds) _;simp only[Is];exact⟨a,us,rfl,bZ,n4.same (c_ n3)⟩
  | a j =>
   obtain⟨ko,a,h1,h2,h3⟩:=la;dsimp only at hk;rw[h1] at hk;exact kk _ _ hk _ _ _ _ (E1.trans E2) S2 ⟨a,h2,h3⟩
 ·exact h1.elim
theorem PM {E:XK}:∀ σ H Q,tD (au n G fa) σ H Q->sj (k6 G n) [] E (cz fa) σ H Q:=fun σ H Q h0_ => el7 h0_ fun F ad δ K S q kk =>
 ⟨F,ad,δ,_,S,q,fun xs δ1 h1 vs F1 aP H1 E1 S1 V1=>PL kk h1 E1 S1 V1⟩
theorem PN {E:XK}:∀ σ H Q,tD (uY n G fa) σ H Q->sj (k6 G n) [] E (cz fa) σ H Q:=fun σ H Q h0_ => el7 h0_ fun F ad δ K S q kk =>by
 refine⟨F,ad,δ,_,S,q,fun xs δ1 h1 vs F1 aP H1 E1 S1 V1 => ?_⟩;split at h1
 ·rename_i r hp
  obtain⟨⟨nd,hn⟩,h1⟩:=h1;rw[q0Z];refine GG S1 V1 (by rw[V1.length,<-xu hp,hn]) hp nd h1 fun res ows v F2 H2 hk E2 S2 la => ?_;unfold qP at hk
  cases res with
  | p d=>exact hk.elim
  | n ds =>
   obtain⟨a,us,rfl,n1,n2,n3,n4⟩:=la;have oi:eS F2 (.lst ds) (.lst us):=⟨us,rfl,n4⟩;refine kk _ _ hk _ _ _ _ (E1.trans (E2.dQ (ov := .lst ds) n1 S2.cy)) (S2.dQ n3 n2 (GI (F2:=F2) (H2:=H2) S1 V1 hp n1) oi) ⟨a,?_,rfl⟩;have:aP.length=(fJ δ1.mu r.2 ows).length:=S2.cy;rw[<-this,X7 (uu _),YI];rfl
  | a j=>exact hk.elim
 ·exact h1.elim
theorem PQ (Fn:cS X.prog X.w X.K X.mg X.base f9 k f fd ps (k6 G n)) (hr:bh k X.A) (hg:Gl X x) (hm:X.mg x=some (.ref f)) (hk:PySem.W.keepIn X.K (.ref f)=true) (hb:Binds X.K fd ps [])
  (ha:JA X (e :: es) (cz fa)) (eM:(x == ("__debug__" : Str))=false:=by decide) (he:starEach (e :: es) X.env=(false,eval e X.env) :: starEach es X.env:=by rfl) (eE:(backTo pos (starEach es X.env)).any (·.1)=false:=by rfl) :
  JE X (.Call (.Name x p) (e :: es) [] pos) (tD (au n G fa)):=(wZ Fn hr hg hm hk hb .nil wQ ha eM he eE).weak PM
theorem PR (Fn:cS X.prog X.w X.K X.mg X.base f9 k f fd ps (k6 G n)) (hr:bh k X.A) (hg:Gl X x) (hm:X.mg x=some (.ref f)) (hk:PySem.W.keepIn X.K (.ref f)=true) (hb:Binds X.K fd ps [])
  (ha:JA X (e :: es) (cz fa)) (eM:(x == ("__debug__" : Str))=false:=by decide) (he:starEach (e :: es) X.env=(false,eval e X.env) :: starEach es X.env:=by rfl) (eE:(backTo pos (starEach es X.env)).any (·.1)=false:=by rfl) :
  JE X (.Call (.Name x p) (e :: es) [] pos) (tD (uY n G fa)):=(wZ Fn hr hg hm hk hb .nil wQ ha eM he eE).weak PN
end
end
end L2
namespace PySem
open Sem (wp)
open AutoSeq1 (wpAny_loadPart')
theorem PU (l:Addr) (items:Array Value) (n:Nat) (dct:Option Addr) (sl:Array (Option Value)) :
  Meets (Builtin.«enumerate.__new__» ⟨[.type "enumerate",.ref l],[]⟩) (fun _ R s=>s.heap.get? l=some { cls := .type "tuple",dict:=dct,data := .seq items n,slots:=sl } ∧
   R (.ok (.ret (.ref (s.heap.push { cls := .type "tuple_iterator",data := .fields #[.ref l,.int 0 0] }).objs.size)))
    { s with heap:=(s.heap.push { cls := .type "tuple_iterator",data := .fields #[.ref l,.int 0 0] }).push { cls := .type "enumerate",data := .fields #[.none,.bool false,.ref s.heap.objs.size,rawInt 0,.none,.none] } }) :=
 .of_wp fun prog w A R s h=>by
  obtain⟨hp,g,d,tk,os⟩:=s;obtain⟨hl,h⟩:=h;have AH:=sub_enumerate;have hL:Heap.IsTuple (Shared.heap ⟨hp,g,d,tk,os⟩) l items:=⟨_,hl,rfl,n,rfl⟩
  wp_walk using YB hl
  refine wpAny_stack_any fun st=>zR ?_;split
  ·rename_i c _ _ _ _ _
   cases (c == Value.type "enumerate")
   ·wp_walk using YB hl,Z9 hL
    exact⟨_,rfl,h⟩
   ·wp_walk using YB hl,Z9 hL
    exact⟨_,rfl,h⟩
  ·wp_walk using YB hl,Z9 hL
   exact⟨_,rfl,h⟩
section
variable {prog:Program} {w:World} {A:Around} {E:Value->Shared->Prop} {s:Shared}
theorem PV {l:Addr} {items:Array Value} {Q:Value->Shared->Prop} (hL:s.heap.IsTuple l items)
  (h:∀ h',IsEnum h' (s.heap.objs.size + 1) s.heap.objs.size 0 .none->h'.IsTupleIter s.heap.objs.size l 0->h'.objs.size=s.heap.objs.size + 2 →
   (∀ b o,s.heap.get? b=some o->h'.get? b=some o)->Q (.ref (s.heap.objs.size + 1)) { s with heap:=h' }) :
  wpAny (model prog w) A (call (.type "enumerate") [.ref l]) Q E s:=by
 obtain⟨⟨c,dct,dt,sl⟩,hl,hc,n,hd⟩:=hL
 replace hc:c = .type "tuple" := hc
 replace hd:dt = .seq items n:=hd
 subst hc hd
 refine callType_new F.called_enumerate (by decide) (F.typeCall_enumerate_1 _) (F.newCall_enumerate_1 _) (fun obj=>F.args_object_init_2 obj _) F.entry_enumerate_new
  (PU l items n dct sl) ⟨hl,?_⟩
 have hz:(s.heap.push { cls := .type "tuple_iterator",data := .fields #[.ref l,.int 0 0] }).objs.size=s.heap.objs.size + 1:=Zo ..;show _/\_;rw[hz]
 have he:IsEnum ((s.heap.push { cls := .type "tuple_iterator",data := .fields #[.ref l,.int 0 0] }).push
   { cls := .type "enumerate",data := .fields #[.none,.bool false,.ref s.heap.objs.size,rawInt 0,.none,.none] }) (s.heap.objs.size + 1) s.heap.objs.size 0 .none:=by
  have:=Xr (s.heap.push { cls := .type "tuple_iterator",data := .fields #[.ref l,.int 0 0] })
   (o:={ cls := .type "enumerate",data := .fields #[.none,.bool false,.ref s.heap.objs.size,rawInt 0,.none,.none] }) rfl
  rw[hz] at this;exact this
 refine⟨⟨_,he,rfl⟩,h _ he ⟨_,qw _ (Xr _ rfl),rfl,rfl⟩ (by rw[Zo,hz]) fun b o x=>qw _ (qw _ x)⟩
theorem PX {it l:Addr} {i:Nat} {items:Array Value} {x:Value} {Q:Value->Shared->Prop} (hit:s.heap.IsTupleIter it l i) (hl:s.heap.IsTuple l items) (hx:items[i]? = some x)
  (hQ:∀ h',h'.IsTupleIter it l (i + 1)->Heap.SameBut it s.heap h'->Q x { s with heap:=h' }):wpAny (model prog w) A (Builtin.SmallTypes.nextOf (.ref it)) Q E s:=by
 obtain⟨o,ho,hc,hd⟩:=id hit;obtain⟨ol,AI,_,nl,AJ⟩:=hl;have nn:¬ ((Value.ref l == Value.none)=true):=X8;unfold Builtin.SmallTypes.nextOf;refine ni (Zi (name:=Str.ofString "__next__") hit.typeIs ZO (ZK ZO hit.typeIs F.entry_tuple_iterator_next ?_ (F.args_tuple_iterator_next_1 _)));show wpAny _ _ (field (.ref it) 0 >>= _) _ _ s;refine ni (Zd ho hd (x := .ref l) rfl ?_);show wpAny _ _ (if (Value.ref l == Value.none)=true then _ else _) _ _ s;rw[NM nn];show wpAny _ _ (field (.ref it) 1 >>= _) _ _ s;refine ni (Zd ho hd (x := .int i 0) rfl ?_);show wpAny _ _ (seqItems? (.ref l) >>= _) _ _ s;refine ni (YN AI AJ ?_)
 simp only[Ya,hx];refine ni (wpAny_setField ho hd (by simp) (zR ⟨x,rfl,zR (hQ _ ⟨_,q0g _ ho (Obj.isFreed_of_fields (Obj.data_mapFields hd _)),(Obj.cls_mapFields ..).trans hc,?_⟩ (Yo ..))⟩));rw[Obj.data_mapFields hd];simp[rawInt]
theorem PY {it l:Addr} {i:Nat} {items:Array Value} {Q:Value->Shared->Prop} (hh:A.handled=none) (hit:s.heap.IsTupleIter it l i) (hl:s.heap.IsTuple l items) (hx:items[i]? = none)
  (hE:∀ h' e,Heap.ExtBut it s.heap h'->(∃ o,h'.get? e=some o/\o.cls = .type "StopIteration")->E (.ref e) { s with heap:=h' }):wpAny (model prog w) A (Builtin.SmallTypes.nextOf (.ref it)) Q E s:=by
 obtain⟨o,ho,hc,hd⟩:=id hit;obtain⟨ol,AI,_,nl,AJ⟩:=hl;have nn:¬ ((Value.ref l == Value.none)=true):=X8;unfold Builtin.SmallTypes.nextOf;refine ni (Zi (name:=Str.ofString "__next__") hit.typeIs ZO (ZK ZO hit.typeIs F.entry_tuple_iterator_next ?_ (F.args_tuple_iterator_next_1 _)));show wpAny _ _ (field (.ref it) 0 >>= _) _ _ s;refine ni (Zd ho hd (x := .ref l) rfl ?_);show wpAny _ _ (if (Value.ref l == Value.none)=true then _ else _) _ _ s;rw[NM nn];show wpAny _ _ (field (.ref it) 1 >>= _) _ _ s;refine ni (Zd ho hd (x := .int i 0) rfl ?_);show wpAny _ _ (seqItems? (.ref l) >>= _) _ _ s;refine ni (YN AI AJ ?_)
 simp only[Ya,hx];refine ni (q0Q (ni (wpAny_setField ho hd (by simp) ?_)));show wpAny _ _ (newExc (.type "StopIteration") [] >>= _) _ _ _;refine ni ?_;simp only[newExc,newTuple];refine ni (Zn ?_ (by size_fits));refine ni (m:=firstArgMember _ _) (wpAny_of_eq (a:=Value.none) (by first | rfl | (simp only[firstArgMember];rfl)) (Zn ?_ (by size_fits)));simp only[raiseNew];refine ni (wpAny_handled ?_)
 first | rw[show A.in1.handled=none from hh] | rw[hh]
 refine ni (zR (wpAny_throw (hE _ _ (((Yo ..).extBut.push _).push _) ⟨_,Xr _ rfl,rfl⟩)))
theorem AK (hh:A.handled=none) (it l:Addr) (gQ:l≠it) (items:Array Value):Draws prog w A it [it,l] items.size (fun i v=>items[i]? = some v) (fun i h=>h.IsTupleIter it l i/\h.IsTuple l items) where
 live:=fun _ _ st=>let ⟨o,ho,_⟩:=st.1; ⟨o,ho⟩
 frame:=fun _ _ _ st hk=>⟨st.1.at fun o e=>hk it (by simp) o e,st.2.at fun o e=>hk l (by simp) o e⟩
 item:=fun i s Q E hi st hQ=>PX st.1 st.2 (x:=items[i]) (by simp[hi]) fun h' AL w6=>hQ _ h' s.toks (by simp[hi]) ⟨AL,st.2.extBut w6.extBut gQ⟩ w6
 done:=fun s Q E st hE=>PY hh st.1 st.2 (by simp) hE
end
end PySem
namespace L2
open PySem PySem.Spec PyProof.Rows
noncomputable def uZ (K:PySem.W.Frag) (a:Addr):It :=
 ⟨fun i H=>∃ xs x,bF K H a xs/\xs[i]? = some x,fun i H x H'=>∃ T v,x = .ref T/\H T=none/\H'=upd H T (.tup [.int (i:Nat),v])/\∀ xs,bF K H a xs->xs[i]? = some v,fun i H=>∃ xs,bF K H a xs/\xs.length=i⟩
theorem PZ {P:Program} {w:World} {K:PySem.W.Frag} {elts:List Expr} {x1} {tp:Pos} (a e it:Addr) (gQ:e≠it) (P0:a≠e) (GJ:a≠it) :
  Turn P w K (.Tuple elts x1 tp) (uZ K a) [e,it] e (fun i h=>(∃ old,IsEnum h e it (i:Nat) old)/\h.IsTupleIter it a i) where
 mem:=by simp
 obj:=fun i h st b hb=>by
  obtain⟨⟨old,he⟩,o,hi,hc,hd⟩:=st;rcases Xq.mp hb with rfl | hb
  ·exact⟨_,he,fun v z=>by cases z⟩
  ·have z:b=it:=by simpa using hb
   subst z;exact⟨o,hi,fun v z=>by rw[hd] at z;cases z⟩
 keep:=fun i h h' st k=>by
  obtain⟨⟨old,he⟩,hi⟩:=st;exact⟨⟨old,k e (by simp) _ he⟩,hi.at fun o q=>k it (by simp) o q⟩
 item:=by
  intro X hP hw hK hc i pins s σ H E I hf st hg;subst hP hw hK;obtain⟨⟨old,he⟩,hi⟩:=st;obtain⟨xs,x,hq,hx⟩:=hg;obtain⟨aq,rv,p,hz⟩:=I.tuple hq;obtain⟨u,hu,ru⟩:=rv.get hx;have D:=AK (prog:=X.prog) (w:=X.w) (A:=X.A.in1) (by rw[ZN];exact I.ok.hd hc) it a GJ aq.toArray;have qQ:i < aq.toArray.size:=by rw[wO];exact (sA.mp hu).1
  refine wpAny_pyNext_enum_itemD D he ⟨hi,p⟩ qQ gQ (by simp[gQ,q0j P0]) fun y h1 tk py l6 uC uD hsz hk=>⟨_,rfl,?_⟩
  have ey:y=u:=by
   have py:aq.toArray[i]? = some y:=py;rw[q0L,hu] at py;cases py;rfl
  subst ey;refine wpAny_letOwnedTupleGo_enum l6 fun h2 uE dY => ?_;have hT:s.heap.objs.size≠e:=ZI (NL he);have jB:h2.get? s.heap.objs.size=some { cls := .type "tuple",data := .seq #[.int i tk,y] }:=(dY.2 _ hT).trans uD
  have k2:∀ b o,b∉[e,it]->s.heap.get? b=some o->h2.get? b=some o:=fun b o hb q=>by
   have nq:b≠e:=fun z=>hb (by simp[z]);have gy:b≠it:=fun z=>hb (by simp[z]);exact (dY.2 _ nq).trans (hk b o nq gy q)
  have hn:H s.heap.objs.size=none:=I.aM.fresh (uu _);refine⟨.ref s.heap.objs.size,upd H s.heap.objs.size (.tup [.int i,x]),I.ft (ch:=[e,it]) (t':=tk + 1) hf k2 (uu _) ?_,rfl,⟨_,x,rfl,hn,rfl,fun ys hy=>by rw[I.d4 hy hq];exact hx⟩,⟨⟨y,?_⟩,?_⟩,fun b hb => ?_⟩
  ·exact⟨by show 2 <= sizeLine;decide,[.int i tk,y],.cons ⟨_,rfl⟩ (.cons ru .nil),_,jB,rfl,_,rfl⟩
  ·have e3:((i:Int) + 1)=(((i + 1:Nat)):Int):=by omega
   rw[e3] at uE;exact uE
  ·exact uC.1.at fun o q=>(dY.2 _ (q0j gQ)).trans q
  ·have:b < s.heap.objs.size:=by
    obtain⟨o,q,_⟩:=hi;rcases Xq.mp hb with rfl | hb
    ·exact NL he
    ·have z:b=it:=by simpa using hb
     subst z;exact NL q
   rw[aS (Yb this)];exact (hf b hb).1
 done:=by
  intro X hP hw hK hc i pins s σ H E I hf st hg;subst hP hw hK;obtain⟨⟨old,he⟩,hi⟩:=st;obtain⟨xs,hq,hx⟩:=hg;obtain⟨aq,rv,p,hz⟩:=I.tuple hq;have D:=AK (prog:=X.prog) (w:=X.w) (A:=X.A.in1) (by rw[ZN];exact I.ok.hd hc) it a GJ aq.toArray;have qQ:aq.toArray.size=i:=by rw[wO,<-rv.length];exact hx
  refine wpAny_pyNext_enum_endD D he (by rw[qQ];exact⟨hi,p⟩) fun h1 eb=>⟨rfl,?_⟩;obtain⟨f0,f1,f2,f3,f4,f5⟩:=hf it (by simp);exact I.turned (t':=s.toks) (fun b o hb q=>eb b o hb q) f0 f1 f3 f4 f5
 self:=fun A i s Q E st h=>by
  obtain⟨⟨old,he⟩,hi⟩:=st;exact ZD he h
section
variable {X:Cx} {elts:List Expr} {x1:Nat} {tp:Pos} {tg:Expr}
noncomputable def P5 (K:PySem.W.Frag) (ta:TA):TI:=fun σ H R=>ta σ H fun vs H1=>∃ a,vs=[.ref a]/\(((∃ xs,bz K H1 a xs)/\R (sD K a) H1)\/((∃ xs,bF K H1 a xs)/\R (uZ K a) H1))
theorem P6 {a:Expr} {ta:TA} {p pos:Pos} (hg:Gl X "enumerate") (hm:X.mg "enumerate" = none) (ha:JA X [a] ta) (hs:starEach [a] X.env=[(false,eval a X.env)]:=by rfl) :
  JI X (.Tuple elts x1 tp) (.Call (.Name "enumerate" p) [a] [] pos) (P5 X.K ta):=by
 refine⟨?_⟩;intro pins s σ H R I h;refine Call_ (l9 I hg hm FJ (YZ (a0 (ha.out pos pins s σ H _ I h) fun us s1 h0_ => el5 h0_ fun vs H1 I1 r1 q1 => ?_) hs rfl));obtain⟨l,e,q⟩:=q1;subst e;obtain⟨u,rfl,rx⟩:=vals1 r1;cases rx
 have fp:∀ b∈[s1.heap.objs.size + 1,s1.heap.objs.size],a_ X pins H1 b:=fun b hb=>by
  have hb':s1.heap.objs.size <= b:=by
   rcases Xq.mp hb with rfl | hb
   ·exact q1f _
   ·have z:b=s1.heap.objs.size:=by simpa using hb
    rw[z];exact uu _
  exact I1.d5 hb' (I1.aM.fresh hb')
 rcases q with⟨⟨xs,hq⟩,q⟩ | ⟨⟨xs,hq⟩,q⟩
 ·obtain⟨aq,rv,p,hz⟩:=I1.list hq
  refine call_enumerate_list p.isList fun h' he hi hsz hk => ?_;have I2:Inv X pins σ H1 { s1 with heap:=h' }:=I1.kept (t':=s1.toks) hk;refine ZD he ?_;exact⟨_,_,_,_,H1,rfl,I2,FH l (s1.heap.objs.size + 1) s1.heap.objs.size (q1q _),⟨⟨_,he⟩,hi⟩,fp,q⟩
 ·obtain⟨aq,rv,p,hz⟩:=I1.tuple hq
  have sQ:l < s1.heap.objs.size:=by obtain⟨o,e,_⟩:=p;exact NL e
  refine PV p fun h' he hi hsz hk => ?_;have I2:Inv X pins σ H1 { s1 with heap:=h' }:=I1.kept (t':=s1.toks) hk;refine ZD he ?_;exact⟨_,_,_,_,H1,rfl,I2,PZ l (s1.heap.objs.size + 1) s1.heap.objs.size (q1q _) (Yb (Zb sQ)) (Yb sQ),⟨⟨_,he⟩,hi⟩,fp,q⟩
noncomputable def AM (K:PySem.W.Frag) (tl:TE):TI:=fun σ H R=>tl σ H fun x H1=>∃ a,x = .ref a/\(((∃ xs,bz K H1 a xs)/\R (EA K a) H1)\/((∃ xs,bF K H1 a xs)/\R (EB K a) H1))
theorem P7 {l:Expr} {tl:TE} (hl:JE X l tl):JI X tg l (AM X.K tl):=by
 refine⟨?_⟩;intro pins s σ H R I h;refine a0 (hl.out pins s σ H _ I h) fun v s1 h0_ => el5 h0_ fun x H1 I1 r1 q1 => ?_;obtain⟨a,e,q⟩:=q1;subst e;cases r1
 have fp:∀ b∈[s1.heap.objs.size],a_ X pins H1 b:=fun b hb=>by
  have e:b=s1.heap.objs.size:=by simpa using hb
  subst e;exact I1.d5 (uu _) (I1.aM.fresh (uu _))
 rcases q with⟨⟨xs,hq⟩,q⟩ | ⟨⟨xs,hq⟩,q⟩
 ·obtain⟨aq,rv,p,hz⟩:=I1.list hq
  exact ZE p.isList ⟨s1.heap.objs.size,[s1.heap.objs.size],_,_,H1,rfl,I1.kept (t':=s1.toks) fun b o e=>qw _ e,MC a _,⟨_,Xr _ rfl,rfl,rfl⟩,fp,q⟩
 ·obtain⟨aq,rv,p,hz⟩:=I1.tuple hq
  exact Z9 (show s1.heap.IsTuple a aq.toArray from p) ⟨s1.heap.objs.size,[s1.heap.objs.size],_,_,H1,rfl,I1.kept (t':=s1.toks) fun b o e=>qw _ e,MD a _,⟨_,Xr _ rfl,rfl,rfl⟩,fp,q⟩
end
variable [aK]
noncomputable def cq (lo:Int) (n:Nat):List D:=(List.range n).map fun i:Nat=>D.int (lo + i)
noncomputable def mq:Nat->List D->List D
 | _,[]=>[]
 | i,d :: r => .tup [.int i,d] :: mq (i + 1) r
noncomputable def cE:List D->List D->List D
 | a :: r,b :: s => .tup [a,b] :: cE r s
 | _,_=>[]
noncomputable def pC (x:DV) (δ : aA) (K:pA->Prop):Prop:=match x with
 | .p (.lst ds)=>K ⟨ds,fun _=>True⟩
 | .p (.tup ds)=>K ⟨ds,fun _=>True⟩
 | .o k=>match δ.mu[k]? with
  | some (some (.lst ds))=>K ⟨ds,fun δ' => δ'.mu[k]? = some (some (.lst ds))⟩
  | _=>False
 | _=>False
noncomputable def bO (f:WE):WI:=fun δ K=>f δ fun x δ1=>pC x δ1 fun it=>K it δ1
noncomputable def nM (fa:WA):WI:=fun δ K=>fa δ fun xs δ1=>match xs with
 | [.p (.int j)]=>(-(2 ^ 62) <= j/\j < 2 ^ 62)/\K ⟨cq 0 j.toNat,fun _=>True⟩ δ1
 | _=>False
noncomputable def AN (fa:WA):WI:=fun δ K=>fa δ fun xs δ1=>match xs with
 | [.p (.int i),.p (.int j)]=>(-(2 ^ 62) <= i/\i < 2 ^ 62 /\ -(2 ^ 62) <= j/\j < 2 ^ 62)/\K ⟨cq i (j - i).toNat,fun _=>True⟩ δ1
 | _=>False
noncomputable def nN (fa:WA):WI:=fun δ K=>fa δ fun xs δ1=>match xs with
 | [x]=>pC x δ1 fun it=>K ⟨mq 0 it.items,it.bE⟩ δ1
 | _=>False
noncomputable def AO (x:DV) (δ : aA) (K:pA->Prop):Prop:=match x with
 | .p (.lst ds)=>K ⟨ds,fun _=>True⟩
 | .o k=>match δ.mu[k]? with
  | some (some (.lst ds))=>K ⟨ds,fun δ' => δ'.mu[k]? = some (some (.lst ds))⟩
  | _=>False
 | _=>False
theorem nP {lo:Int} {n i:Nat} {d:D} (h:(cq lo n)[i]? = some d):i < n/\d = .int (lo + i):=by
 unfold cq at h;rw[My] at h;obtain⟨j,e,rfl⟩:=Xt.mp h;have hj:=(sA.mp e).1;rw[YG] at hj;rw[YM hj] at e;cases e
 exact⟨hj,rfl⟩
theorem mw (lo:Int) (n:Nat):(cq lo n).length=n:=by unfold cq;rw[qx,YG]
theorem xv:∀ (ds:List D) (i:Nat),(mq i ds).length=ds.length
 | [],_=>rfl
 | d :: r,i=>by rw[mq,Fq,Fq,xv r]
theorem u4:∀ {ds:List D} {k i:Nat} {d:D},(mq k ds)[i]? = some d->∃ e,ds[i]? = some e/\d = .tup [.int ((k + i:Nat):Int),e]
 | [],k,i,d,h=>by simp[mq] at h
 | e :: r,k,0,d,h=>by
  cases (show some (D.tup [.int (k:Nat),e])=some d by simpa [mq] using h)
  exact⟨e,rfl,rfl⟩
 | e :: r,k,i + 1,d,h=>by
  obtain⟨e',h1,h2⟩:=u4 (ds:=r) (k:=k + 1) (i:=i) (d:=d) (by simpa [mq] using h);exact⟨e',by simpa using h1,by rw[h2];congr 4;omega⟩
theorem GK:∀ {as bs:List D} {i:Nat} {d:D},(cE as bs)[i]? = some d->∃ a b,as[i]? = some a/\bs[i]? = some b/\d = .tup [a,b]
 | [],_,i,d,h=>by simp[cE] at h
 | _ :: _,[],i,d,h=>by simp[cE] at h
 | a :: r,b :: s,0,d,h=>by
  cases (show some (D.tup [a,b])=some d by simpa [cE] using h)
  exact⟨a,b,rfl,rfl,rfl⟩
 | a :: r,b :: s,i + 1,d,h=>by
  obtain⟨x,y,h1,h2,h3⟩:=GK (as:=r) (bs:=s) (i:=i) (d:=d) (by simpa [cE] using h);exact⟨x,y,by simpa using h1,by simpa using h2,h3⟩
theorem xw:∀ (as bs:List D),(cE as bs).length=min as.length bs.length
 | [],_=>by simp[cE]
 | _ :: _,[]=>by simp[cE]
 | a :: r,b :: s=>by rw[cE,Fq,Fq,Fq,xw r s];omega
section
variable {X:Cx} {tg l a b:Expr} {f:WE} {fa:WA} {F H:Hp} {ad:List Addr} {δ : aA} {σ : St}
theorem JI.weak {iter:Expr} {w w':TI} (h:JI X tg iter w) (k:∀ σ H R,w' σ H R->w σ H R):JI X tg iter w':=⟨fun pins s σ H R I q=>h.out pins s σ H R I (k σ H R q)⟩
theorem pD {ds:List D} {vs:List V} (h:ae F ds vs) {i:Nat} {d:D} (e:ds[i]? = some d):∃ v,vs[i]? = some v/\Is F d v:=by
 have hl:=h.length;have hi:i < vs.length:=by rw[hl];exact (sA.mp e).1
 obtain⟨d',e1,h1⟩:=h.get (qv hi);rw[e] at e1;cases e1;exact⟨_,qv hi,h1⟩
theorem GL {x:DV} {v:V} {K:pA->Prop} (S:SR F ad δ σ H) (V1:fw F ad x v) (h:AO x δ K):∃ a it,v = .ref a/\K it/\(∃ vs,H a=some (.lst vs)) ∧
  ∀ (F':Hp) (aC:List Addr) (δ':aA) (σ':St) (H':Hp),aF F F'->(∀ (k:Nat) (a:Addr),ad[k]? = some a->aC[k]? = some a)->SR F' aC δ' σ' H'->it.bE δ'->∃ vs,H' a=some (.lst vs)/\ae F' it.items vs:=by
 unfold AO at h;split at h
 ·rename_i ds
  have V2:Is F (.lst ds) v:=V1;simp only[Is] at V2;obtain⟨a,vs,rfl,h1,h2⟩:=V2;exact⟨a,_,rfl,h,⟨vs,S.sub _ _ h1⟩,fun F' aC δ' σ' H' s _ S' _=>⟨vs,S'.sub _ _ (s _ _ h1),h2.same s⟩⟩
 ·rename_i k
  split at h
  ·rename_i ds e
   obtain⟨a,e1,rfl⟩:=V1;obtain⟨a',o,e2,e3,vs,rfl,h4⟩:=S.mu k _ e;rw[e1] at e2;cases e2;refine⟨a,_,rfl,h,⟨vs,e3⟩,fun F' aC δ' σ' H' _ pre S' ck => ?_⟩;obtain⟨XB,o,e5,e6,ws,rfl,h7⟩:=S'.mu k _ ck;rw[pre k a e1] at e5;cases e5;exact⟨ws,e6,h7⟩
  ·exact h.elim
 ·exact h.elim
theorem AQ {x:DV} {v:V} {K:pA->Prop} (S:SR F ad δ σ H) (V1:fw F ad x v) (h:pC x δ K):∃ a it,v = .ref a/\K it ∧
  (((∃ vs,H a=some (.lst vs))/\∀ (F':Hp) (aC:List Addr) (δ':aA) (σ':St) (H':Hp),aF F F'->(∀ (k:Nat) (a:Addr),ad[k]? = some a->aC[k]? = some a)->SR F' aC δ' σ' H'->it.bE δ'->∃ vs,H' a=some (.lst vs)/\ae F' it.items vs) ∨
  ((∃ vs,H a=some (.tup vs))/\∀ (F':Hp) (aC:List Addr) (δ':aA) (σ':St) (H':Hp),aF F F'->(∀ (k:Nat) (a:Addr),ad[k]? = some a->aC[k]? = some a)->SR F' aC δ' σ' H'->it.bE δ'->∃ vs,H' a=some (.tup vs)/\ae F' it.items vs)):=by
 unfold pC at h;split at h
 ·rename_i ds
  obtain⟨a,it,e,k,r⟩:=GL (x := .p (.lst ds)) S V1 h;exact⟨a,it,e,k,.inl r⟩
 ·rename_i ds
  have V2:Is F (.tup ds) v:=V1;simp only[Is] at V2;obtain⟨a,vs,rfl,h1,h2⟩:=V2;exact⟨a,_,rfl,h,.inr ⟨⟨vs,S.sub _ _ h1⟩,fun F' aC δ' σ' H' s _ S' _=>⟨vs,S'.sub _ _ (s _ _ h1),h2.same s⟩⟩⟩
 ·rename_i k
  obtain⟨a,it,e,k,r⟩:=GL (x := .o k) S V1 h;exact⟨a,it,e,k,.inl r⟩
 ·exact h.elim
theorem fK (hl:JE X l (tD f)):JI X tg l (kY (bO f)):=(P7 hl).weak fun σ H R h0_ => el7 h0_ fun F ad δ K S q k =>⟨F,ad,δ,_,S,q,fun x δ1 h1 v F1 aP H1 E1 S1 V1=>by
 obtain⟨a,it,rfl,hk,r⟩:=AQ S1 V1 h1;refine⟨a,rfl,?_⟩;rcases r with⟨⟨vs,e⟩,r⟩ | ⟨⟨vs,e⟩,r⟩
 ·refine .inl ⟨⟨vs,bz.of e⟩,k _ _ hk _ _ _ _ E1 S1 fun F' aC δ' σ' H' s pre S' ck => ?_⟩
  obtain⟨ws,e1,e2⟩:=r F' aC δ' σ' H' s pre S' ck;refine⟨⟨ws,bz.of e1,by rw[e2.length];exact uu _⟩,fun i d ed => ?_⟩;obtain⟨w,e3,e4⟩:=pD e2 ed;refine⟨⟨ws,w,bz.of e1,e3⟩,fun y iy ⟨eh,hy⟩ => ?_⟩;subst eh;refine⟨fun _ _ e=>e,?_⟩;have:=hy ws (bz.of e1);rw[e3] at this;cases this;rw[Nw.refl S'.sub];exact e4
 ·refine .inr ⟨⟨vs,bF.of e⟩,k _ _ hk _ _ _ _ E1 S1 fun F' aC δ' σ' H' s pre S' ck => ?_⟩
  obtain⟨ws,e1,e2⟩:=r F' aC δ' σ' H' s pre S' ck;refine⟨⟨ws,bF.of e1,by rw[e2.length];exact uu _⟩,fun i d ed => ?_⟩;obtain⟨w,e3,e4⟩:=pD e2 ed;refine⟨⟨ws,w,bF.of e1,e3⟩,fun y iy ⟨eh,hy⟩ => ?_⟩;subst eh;refine⟨fun _ _ e=>e,?_⟩;have:=hy ws (bF.of e1);rw[e3] at this;cases this
  rw[Nw.refl S'.sub];exact e4⟩
theorem AR {F H:Hp} {T:Addr} {d e:D} {x y:V} (s:aF F H) (hT:H T=none) (h1:Is F d x) (h2:Is F e y):Is (Nw F H (upd H T (.tup [x,y]))) (.tup [d,e]) (.ref T):=by
 rw[Nw.upd s hT]
 have hF:F T=none:=by
  cases q:F T with
  | none=>rfl
  | some u=>rw[s T u q] at hT;cases hT
 have sm:aF F (upd F T (.tup [x,y])):=c_ hF;simp only[Is];exact⟨T,_,rfl,bZ,.cons (h1.same sm) (.cons (h2.same sm) .nil)⟩
theorem GN {elts:List Expr} {x1:Nat} {tp p pos:Pos} (hg:Gl X "enumerate") (hm:X.mg "enumerate" = none) (ha:JA X [a] (cz fa)) (hs:starEach [a] X.env=[(false,eval a X.env)]:=by rfl) :
  JI X (.Tuple elts x1 tp) (.Call (.Name "enumerate" p) [a] [] pos) (kY (nN fa)):=(P6 hg hm ha hs).weak fun σ H R h0_ => el7 h0_ fun F ad δ K S q k =>⟨F,ad,δ,_,S,q,fun xs δ1 h1 vs F1 aP H1 E1 S1 V1=>by
 match xs,h1,V1 with
 | [x],g1,⟨v,r,e,W1,W2⟩ =>
  subst e;have W3:r=[]:=W2;subst W3;obtain⟨a,it,rfl,hk,r⟩:=AQ S1 W1 g1;refine⟨a,rfl,?_⟩;rcases r with⟨⟨vs,e⟩,r⟩ | ⟨⟨vs,e⟩,r⟩
  ·refine .inl ⟨⟨vs,bz.of e⟩,k _ _ hk _ _ _ _ E1 S1 fun F' aC δ' σ' H' s pre S' ck => ?_⟩
   obtain⟨ws,e1,e2⟩:=r F' aC δ' σ' H' s pre S' ck;refine⟨⟨ws,bz.of e1,by rw[e2.length,xv];exact uu _⟩,fun i d ed => ?_⟩;obtain⟨d',AS,rfl⟩:=u4 ed;obtain⟨w,e3,e4⟩:=pD e2 AS;refine⟨⟨ws,w,bz.of e1,e3⟩,fun y iy ⟨T,v,ey,hT,eh,hy⟩ => ?_⟩;subst eh ey;have:=hy ws (bz.of e1);rw[e3] at this;cases this;refine⟨c_ hT,?_⟩;rw[Yu];exact AR S'.sub hT rfl e4
  ·refine .inr ⟨⟨vs,bF.of e⟩,k _ _ hk _ _ _ _ E1 S1 fun F' aC δ' σ' H' s pre S' ck => ?_⟩
   obtain⟨ws,e1,e2⟩:=r F' aC δ' σ' H' s pre S' ck;refine⟨⟨ws,bF.of e1,by rw[e2.length,xv]⟩,fun i d ed => ?_⟩;obtain⟨d',AS,rfl⟩:=u4 ed;obtain⟨w,e3,e4⟩:=pD e2 AS;refine⟨⟨ws,w,bF.of e1,e3⟩,fun y iy ⟨T,v,ey,hT,eh,hy⟩ => ?_⟩;subst eh ey;have:=hy ws (bF.of e1);rw[e3] at this;cases this;refine⟨c_ hT,?_⟩;rw[Yu];exact AR S'.sub hT rfl e4
 | [],h1,_=>exact h1.elim
 | _ :: _ :: _,h1,_=>exact h1.elim⟩
theorem GP {F1:Hp} {aP:List Addr} {lo:Int} {n:Nat}:qM F1 aP ⟨cq lo n,fun _=>True⟩ (uc lo n):=fun F' aC δ' σ' H' s pre S' _=>by
 refine⟨by show n <= (cq lo n).length;rw[mw];exact uu _,fun i d ed => ?_⟩;obtain⟨hi,rfl⟩:=nP ed;refine⟨hi,fun x iy ⟨eh,ex⟩ => ?_⟩;subst eh ex;exact⟨fun _ _ e=>e,rfl⟩
theorem qT {p pos:Pos} (hg:Gl X "range") (hm:X.mg "range" = none) (ha:JA X [a] (cz fa)) (hs:starEach [a] X.env=[(false,eval a X.env)]:=by rfl):JI X tg (.Call (.Name "range" p) [a] [] pos) (kY (nM fa)) :=
 (O3 hg hm ha hs).weak fun σ H R h0_ => el7 h0_ fun F ad δ K S q k =>⟨F,ad,δ,_,S,q,fun xs δ1 h1 vs F1 aP H1 E1 S1 V1=>by
  split at h1
  ·rename_i j
   obtain⟨v,r,e,V1,V2⟩:=V1;have V2:r=[]:=V2;have V1:v = .int j:=V1;subst V2 V1 e;exact⟨j,rfl,h1.1.1,h1.1.2,k _ _ h1.2 _ _ _ _ E1 S1 GP⟩
  ·exact h1.elim⟩
theorem P8 {p pos:Pos} (hg:Gl X "range") (hm:X.mg "range" = none) (ha:JA X [a,b] (cz fa)) (hs:starEach [a,b] X.env=[(false,eval a X.env),(false,eval b X.env)]:=by rfl) (dY:starEach [b] X.env=[(false,eval b X.env)]:=by rfl) :
  JI X tg (.Call (.Name "range" p) [a,b] [] pos) (kY (AN fa)) :=
 (O4 hg hm ha hs dY).weak fun σ H R h0_ => el7 h0_ fun F ad δ K S q k =>⟨F,ad,δ,_,S,q,fun xs δ1 h1 vs F1 aP H1 E1 S1 V1=>by
  split at h1
  ·rename_i i j
   obtain⟨v,r,e,V1,w,r2,e2,V2,V3⟩:=V1;have V3:r2=[]:=V3;have V1:v = .int i:=V1;have V2:w = .int j:=V2;subst V3 V1 V2 e2 e;exact⟨i,j,rfl,h1.1,k _ _ h1.2 _ _ _ _ E1 S1 GP⟩
  ·exact h1.elim⟩
end
end L2
namespace L2
open PySem PySem.Spec PyProof.Rows
mutual
noncomputable def aD:D->D->Bool
 | .non,.non=>true
 | .bl a,.bl b=>a == b
 | .bl a,.int b=>(if a then 1 else 0) == b
 | .int a,.bl b=>a == (if b then 1 else 0)
 | .int a,.int b=>a == b
 | .str a,.str b=>a == b
 | .tup a,.tup b=>bR a b
 | .lst a,.lst b=>bR a b
 | _,_=>false
noncomputable def bR:List D->List D->Bool
 | [],[]=>true
 | a :: r,b :: s=>aD a b && bR r s
 | _,_=>false
end
mutual
theorem eT:∀ d:D,aD d d=true
 | .non=>by simp[aD]
 | .bl a=>by simp[aD]
 | .int a=>by simp[aD]
 | .str a=>by simp[aD]
 | .tup a=>by simp only[aD];exact AU a
 | .lst a=>by simp only[aD];exact AU a
theorem AU:∀ ds:List D,bR ds ds=true
 | []=>by simp[bR]
 | d :: r=>by simp only[bR,eT d,AU r,q1j]
end
mutual
theorem Is.inj {H:Hp}:∀ {d e:D} {v:V},Is H d v->Is H e v->d=e
 | .non,e,v,h,q=>by cases e<;>simp only[Is] at h q<;>first | rfl | (subst h;first | (obtain⟨_,_,z,_⟩:=q;cases z;done) | (cases q;done) | (cases q;rfl))
 | .bl a,e,v,h,q=>by cases e<;>simp only[Is] at h q<;>(subst h;first | (obtain⟨_,_,z,_⟩:=q;cases z;done) | (cases q;done) | (cases q;rfl))
 | .int a,e,v,h,q=>by cases e<;>simp only[Is] at h q<;>(subst h;first | (obtain⟨_,_,z,_⟩:=q;cases z;done) | (cases q;done) | (cases q;rfl))
 | .str a,e,v,h,q=>by cases e<;>simp only[Is] at h q<;>(subst h;first | (obtain⟨_,_,z,_⟩:=q;cases z;done) | (cases q;done) | (cases q;rfl))
 | .tup a,e,v,h,q=>by
  simp only[Is] at h;obtain⟨p,vs,rfl,h1,h2⟩:=h
  cases e with
  | tup b =>
   simp only[Is] at q;obtain⟨p',ws,z,q1,q2⟩:=q;cases z
   rw[h1] at q1;cases q1;rw[ae.inj h2 q2]
  | lst b =>
   simp only[Is] at q;obtain⟨p',ws,z,q1,q2⟩:=q;cases z
   rw[h1] at q1;cases q1
  | non=>simp only[Is] at q;cases q
  | bl _=>simp only[Is] at q;cases q
  | int _=>simp only[Is] at q;cases q
  | str _=>simp only[Is] at q;cases q
 | .lst a,e,v,h,q=>by
  simp only[Is] at h;obtain⟨p,vs,rfl,h1,h2⟩:=h
  cases e with
  | lst b =>
   simp only[Is] at q;obtain⟨p',ws,z,q1,q2⟩:=q;cases z
   rw[h1] at q1;cases q1;rw[ae.inj h2 q2]
  | tup b =>
   simp only[Is] at q;obtain⟨p',ws,z,q1,q2⟩:=q;cases z
   rw[h1] at q1;cases q1
  | non=>simp only[Is] at q;cases q
  | bl _=>simp only[Is] at q;cases q
  | int _=>simp only[Is] at q;cases q
  | str _=>simp only[Is] at q;cases q
theorem ae.inj {H:Hp}:∀ {ds es:List D} {vs:List V},ae H ds vs->ae H es vs->ds=es
 | [],es,vs,h,q=>by
  simp only[ae] at h;subst h
  cases es with
  | nil=>rfl
  | cons _ _=>simp only[ae] at q;obtain⟨_,_,z,_⟩:=q;cases z
 | d :: ds,es,vs,h,q=>by
  simp only[ae] at h;obtain⟨v,r,rfl,h1,h2⟩:=h
  cases es with
  | nil=>simp only[ae] at q;cases q
  | cons e es =>
   simp only[ae] at q;obtain⟨v',r',z,q1,q2⟩:=q;cases z
   rw[Is.inj h1 q1,ae.inj h2 q2]
end
theorem u5:∀ {ds es:List D},ds.length≠es.length->bR ds es=false
 | [],[],h=>absurd rfl h
 | [],_ :: _,_=>by simp[bR]
 | _ :: _,[],_=>by simp[bR]
 | d :: r,e :: s,h=>by simp only[bR];rw[u5 (fun z=>h (by rw[Fq,Fq,z])),Bool.and_false]
noncomputable def qU (ds es:List D) (j:Nat):Bool:=match ds[j]?,es[j]? with
 | some a,some b=>aD a b
 | _,_=>true
theorem u6:∀ {ds es:List D},ds.length=es.length->(List.range ds.length).all (qU ds es)=bR ds es
 | [],[],_=>by simp[bR]
 | [],_ :: _,h=>by simp at h
 | _ :: _,[],h=>by simp at h
 | d :: r,e :: s,h=>by
  have ih:=u6 (ds:=r) (es:=s) (by simpa using h);rw[Fq,List.range_succ_eq_map,List.all_cons,List.all_map];simp only[bR];rw[<-ih];rfl
section
variable {X:Cx} {pins:List (Addr × Obj)} {σ : St} {H:Hp} {s:Shared}
theorem xx {vs:List V} {aq:List Value} (r:Vals vs aq) {j:Nat} (h:j < aq.toArray.size):∃ v,vs[j]? = some v/\RelV v aq.toArray[j]:=by
 have hj:j < aq.length:=by simpa using h
 have hv:j < vs.length:=by rw[r.length];exact hj
 obtain⟨u,e,ru⟩:=r.get (qv hv)
 have:aq.toArray[j]=u:=by
  have:=(sA.mp e).2;simpa using this
 rw[this];exact⟨_,qv hv,ru⟩
theorem dh (I:Inv X pins σ H s) {a:Addr} {vs:List V} (h:H a=some (.lst vs)):∃ aq:List Value,Vals vs aq/\s.heap.IsList a aq.toArray:=by
 obtain⟨aq,r,p,_⟩:=I.list (bz.of h);exact⟨aq,r,p.isList⟩
theorem di (I:Inv X pins σ H s) {a:Addr} {vs:List V} (h:H a=some (.tup vs)):∃ aq:List Value,Vals vs aq/\s.heap.IsTuple a aq.toArray:=by
 obtain⟨aq,r,p,_⟩:=I.tuple (bF.of h);exact⟨aq,r,p⟩
theorem in1_units (A:Around):A.in1.units=A.units + 1:=rfl
theorem xy (I:Inv X pins σ H s):∀ (n:Nat) {A:Around} {d e:D} {v u:V} {x y:Value},dep d <= n->A.units + n < cLine->Is H d v->Is H e u->RelV v x->RelV u y->SeqAt.EqAt A s x y (aD d e)/\SeqAt.RcAt A s x y (aD d e):=by
 intro n
 induction n with
 | zero =>
  intro A d e v u x y hd hu hv hw rv ru;have nz:A.units < cLine:=by omega
  cases d with
  | tup ds=>simp[dep] at hd
  | lst ds=>simp[dep] at hd
  | non =>
   cases (show v = .non from hv);cases rv
   cases e with
   | non=>cases (show u = .non from hw);cases ru;simp only[aD];exact⟨SeqAt.EqAt.same _,SeqAt.RcAt.none_none⟩
   | bl b=>cases (show u = .bl b from hw);cases ru;simp only[aD];exact⟨SeqAt.EqAt.none_bool _,SeqAt.RcAt.none_bool _⟩
   | int b=>cases (show u = .int b from hw);obtain⟨t,rfl⟩:=ru;simp only[aD];exact⟨SeqAt.EqAt.none_int _ _,SeqAt.RcAt.none_int _ _⟩
   | str b=>cases (show u = .str b from hw);obtain⟨t,rfl⟩:=ru;simp only[aD];exact⟨SeqAt.EqAt.none_str _ _,SeqAt.RcAt.none_str _ _⟩
   | tup es=>simp only[Is] at hw;obtain⟨a,vs,rfl,h1,_⟩:=hw;cases ru;obtain⟨_,_,p⟩:=di I h1;simp only[aD];exact⟨SeqAt.EqAt.none_tuple p nz,SeqAt.RcAt.none_tuple p nz⟩
   | lst es=>simp only[Is] at hw;obtain⟨a,vs,rfl,h1,_⟩:=hw;cases ru;obtain⟨_,_,p⟩:=dh I h1;simp only[aD];exact⟨SeqAt.EqAt.none_list p nz,SeqAt.RcAt.none_list p nz⟩
  | bl b0 =>
   cases (show v = .bl b0 from hv);cases rv
   cases e with
   | non=>cases (show u = .non from hw);cases ru;simp only[aD];exact⟨SeqAt.EqAt.bool_none _,SeqAt.RcAt.bool_none _⟩
   | bl b=>cases (show u = .bl b from hw);cases ru;simp only[aD];exact⟨SeqAt.EqAt.bool_bool _ _,SeqAt.RcAt.bool_bool _ _⟩
   | int b=>cases (show u = .int b from hw);obtain⟨t,rfl⟩:=ru;simp only[aD];exact⟨SeqAt.EqAt.bool_int _ _ _,SeqAt.RcAt.bool_int _ _ _⟩
   | str b=>cases (show u = .str b from hw);obtain⟨t,rfl⟩:=ru;simp only[aD];exact⟨SeqAt.EqAt.bool_str _ _ _,SeqAt.RcAt.bool_str _ _ _⟩
   | tup es=>simp only[Is] at hw;obtain⟨a,vs,rfl,h1,_⟩:=hw;cases ru;obtain⟨_,_,p⟩:=di I h1;simp only[aD];exact⟨SeqAt.EqAt.bool_tuple _ p nz,SeqAt.RcAt.bool_tuple _ p nz⟩
   | lst es=>simp only[Is] at hw;obtain⟨a,vs,rfl,h1,_⟩:=hw;cases ru;obtain⟨_,_,p⟩:=dh I h1;simp only[aD];exact⟨SeqAt.EqAt.bool_list _ p nz,SeqAt.RcAt.bool_list _ p nz⟩
  | int b0 =>
   cases (show v = .int b0 from hv);obtain⟨t0,rfl⟩:=rv
   cases e with
   | non=>cases (show u = .non from hw);cases ru;simp only[aD];exact⟨SeqAt.EqAt.int_none _ _,SeqAt.RcAt.int_none _ _⟩
   | bl b=>cases (show u = .bl b from hw);cases ru;simp only[aD];exact⟨SeqAt.EqAt.int_bool _ _ _,SeqAt.RcAt.int_bool _ _ _⟩
   | int b=>cases (show u = .int b from hw);obtain⟨t,rfl⟩:=ru;simp only[aD];exact⟨SeqAt.EqAt.int_int _ _ _ _,SeqAt.RcAt.int_int _ _ _ _⟩
   | str b=>cases (show u = .str b from hw);obtain⟨t,rfl⟩:=ru;simp only[aD];exact⟨SeqAt.EqAt.int_str _ _ _ _,SeqAt.RcAt.int_str _ _ _ _⟩
   | tup es=>simp only[Is] at hw;obtain⟨a,vs,rfl,h1,_⟩:=hw;cases ru;obtain⟨_,_,p⟩:=di I h1;simp only[aD];exact⟨SeqAt.EqAt.int_tuple _ _ p nz,SeqAt.RcAt.int_tuple _ _ p nz⟩
   | lst es=>simp only[Is] at hw;obtain⟨a,vs,rfl,h1,_⟩:=hw;cases ru;obtain⟨_,_,p⟩:=dh I h1;simp only[aD];exact⟨SeqAt.EqAt.int_list _ _ p nz,SeqAt.RcAt.int_list _ _ p nz⟩
  | str b0 =>
   cases (show v = .str b0 from hv);obtain⟨t0,rfl⟩:=rv
   cases e with
   | non=>cases (show u = .non from hw);cases ru;simp only[aD];exact⟨SeqAt.EqAt.str_none _ _,SeqAt.RcAt.str_none _ _⟩
   | bl b=>cases (show u = .bl b from hw);cases ru;simp only[aD];exact⟨SeqAt.EqAt.str_bool _ _ _,SeqAt.RcAt.str_bool _ _ _⟩
   | int b=>cases (show u = .int b from hw);obtain⟨t,rfl⟩:=ru;simp only[aD];exact⟨SeqAt.EqAt.str_int _ _ _ _,SeqAt.RcAt.str_int _ _ _ _⟩
   | str b=>cases (show u = .str b from hw);obtain⟨t,rfl⟩:=ru;simp only[aD];exact⟨SeqAt.EqAt.str_str _ _ _ _,SeqAt.RcAt.str_str _ _ _ _⟩
   | tup es=>simp only[Is] at hw;obtain⟨a,vs,rfl,h1,_⟩:=hw;cases ru;obtain⟨_,_,p⟩:=di I h1;simp only[aD];exact⟨SeqAt.EqAt.str_tuple _ _ p nz,SeqAt.RcAt.str_tuple _ _ p nz⟩
   | lst es=>simp only[Is] at hw;obtain⟨a,vs,rfl,h1,_⟩:=hw;cases ru;obtain⟨_,_,p⟩:=dh I h1;simp only[aD];exact⟨SeqAt.EqAt.str_list _ _ p nz,SeqAt.RcAt.str_list _ _ p nz⟩
 | succ n ih =>
  intro A d e v u x y hd hu hv hw rv ru;have nz:A.units < cLine:=by omega
  have step:∀ {ds es:List D} {vs us:List V} {aq bc:List Value} (r1:Vals vs aq) (r2:Vals us bc),bw ds <= n->ae H ds vs->ae H es us →
    ∀ (j:Nat) (h1:j < aq.toArray.size) (h2:j < bc.toArray.size),SeqAt.EqAt A.in1 s aq.toArray[j] bc.toArray[j] (qU ds es j):=fun {ds es vs us aq bc} r1 r2 hl i1 i2 j h1 h2=>by
   obtain⟨v1,e1,q1⟩:=xx r1 h1;obtain⟨v2,e2,q2⟩:=xx r2 h2;obtain⟨d1,f1,g1⟩:=i1.get e1;obtain⟨d2,f2,g2⟩:=i2.get e2;unfold qU;rw[f1,f2];exact (ih (Yw (Ac f1) hl) (by rw[in1_units];omega) g1 g2 q1 q2).1
  cases d with
  | tup ds =>
   have hl:bw ds <= n:=by simp only[dep] at hd;omega
   have AV:=hv;simp only[Is] at hv;obtain⟨a,vs,rfl,h1,i1⟩:=hv;cases rv
   obtain⟨aq,r1,p1⟩:=di I h1
   cases e with
   | tup es =>
    have AW:=hw;simp only[Is] at hw;obtain⟨b,us,rfl,h2,i2⟩:=hw;cases ru
    obtain⟨bc,r2,p2⟩:=di I h2
    have rc:SeqAt.RcAt A s (.ref a) (.ref b) (aD (.tup ds) (.tup es)):=by
     have:=SeqAt.RcAt.tuples p1 p2 nz (step r1 r2 hl i1 i2);have l1:aq.toArray.size=ds.length:=by rw[wO,<-r1.length,i1.length]
     have l2:bc.toArray.size=es.length:=by rw[wO,<-r2.length,i2.length]
     rw[l1,l2] at this
     have eb:((List.range (min ds.length es.length)).all (qU ds es) && ds.length == es.length)=aD (.tup ds) (.tup es):=by
      simp only[aD]
      by_cases c:ds.length=es.length
      ·rw[<-c,Nat.min_self,u6 c];simp
      ·rw[u5 c];simp[c]
     rw[eb] at this;exact this
    refine⟨?_,rc⟩
    by_cases c:a=b
    ·subst c
     have:=Is.inj AV AW;rw[this,eT];exact SeqAt.EqAt.same _
    ·exact SeqAt.EqAt.of_refs c rc
   | lst es =>
    simp only[Is] at hw;obtain⟨b,us,rfl,h2,i2⟩:=hw;cases ru
    obtain⟨bc,r2,p2⟩:=dh I h2;simp only[aD];exact⟨SeqAt.EqAt.tuple_list p1 p2 nz,SeqAt.RcAt.tuple_list p1 p2 nz⟩
   | non=>cases (show u = .non from hw);cases ru;simp only[aD];exact⟨SeqAt.EqAt.tuple_none p1 nz,SeqAt.RcAt.tuple_none p1 nz⟩
   | bl b=>cases (show u = .bl b from hw);cases ru;simp only[aD];exact⟨SeqAt.EqAt.tuple_bool _ p1 nz,SeqAt.RcAt.tuple_bool _ p1 nz⟩
   | int b=>cases (show u = .int b from hw);obtain⟨t,rfl⟩:=ru;simp only[aD];exact⟨SeqAt.EqAt.tuple_int _ _ p1 nz,SeqAt.RcAt.tuple_int _ _ p1 nz⟩
   | str b=>cases (show u = .str b from hw);obtain⟨t,rfl⟩:=ru;simp only[aD];exact⟨SeqAt.EqAt.tuple_str _ _ p1 nz,SeqAt.RcAt.tuple_str _ _ p1 nz⟩
  | lst ds =>
   have hl:bw ds <= n:=by simp only[dep] at hd;omega
   have AV:=hv;simp only[Is] at hv;obtain⟨a,vs,rfl,h1,i1⟩:=hv;cases rv
   obtain⟨aq,r1,p1⟩:=dh I h1
   cases e with
   | lst es =>
    have AW:=hw;simp only[Is] at hw;obtain⟨b,us,rfl,h2,i2⟩:=hw;cases ru
    obtain⟨bc,r2,p2⟩:=dh I h2;have l1:aq.toArray.size=ds.length:=by rw[wO,<-r1.length,i1.length]
    have l2:bc.toArray.size=es.length:=by rw[wO,<-r2.length,i2.length]
    have rc:SeqAt.RcAt A s (.ref a) (.ref b) (aD (.lst ds) (.lst es)):=by
     by_cases c:ds.length=es.length
     ·have:=SeqAt.RcAt.lists p1 p2 (by rw[l1,l2];exact c) nz (step r1 r2 hl i1 i2)
      rw[l1,u6 c] at this;simp only[aD];exact this
     ·simp only[aD];rw[u5 c]
      exact SeqAt.RcAt.lists_lengths p1 p2 (by rw[l1,l2];simpa using c) nz
    refine⟨?_,rc⟩
    by_cases c:a=b
    ·subst c
     have:=Is.inj AV AW;rw[this,eT];exact SeqAt.EqAt.same _
    ·exact SeqAt.EqAt.of_refs c rc
   | tup es =>
    simp only[Is] at hw;obtain⟨b,us,rfl,h2,i2⟩:=hw;cases ru
    obtain⟨bc,r2,p2⟩:=di I h2;simp only[aD];exact⟨SeqAt.EqAt.list_tuple p1 p2 nz,SeqAt.RcAt.list_tuple p1 p2 nz⟩
   | non=>cases (show u = .non from hw);cases ru;simp only[aD];exact⟨SeqAt.EqAt.list_none p1 nz,SeqAt.RcAt.list_none p1 nz⟩
   | bl b=>cases (show u = .bl b from hw);cases ru;simp only[aD];exact⟨SeqAt.EqAt.list_bool _ p1 nz,SeqAt.RcAt.list_bool _ p1 nz⟩
   | int b=>cases (show u = .int b from hw);obtain⟨t,rfl⟩:=ru;simp only[aD];exact⟨SeqAt.EqAt.list_int _ _ p1 nz,SeqAt.RcAt.list_int _ _ p1 nz⟩
   | str b=>cases (show u = .str b from hw);obtain⟨t,rfl⟩:=ru;simp only[aD];exact⟨SeqAt.EqAt.list_str _ _ p1 nz,SeqAt.RcAt.list_str _ _ p1 nz⟩
  | non=>exact ih (by simp[dep]) (by omega) hv hw rv ru
  | bl b0=>exact ih (by simp[dep]) (by omega) hv hw rv ru
  | int b0=>exact ih (by simp[dep]) (by omega) hv hw rv ru
  | str b0=>exact ih (by simp[dep]) (by omega) hv hw rv ru
theorem P9 (I:Inv X pins σ H s) {A:Around} {d e:D} {v u:V} {x y:Value} (hd:dep d <= 60) (hu:A.units + 61 < cLine) (hv:Is H d v) (hw:Is H e u) (rv:RelV v x) (ru:RelV u y):SeqAt.RcNeAt A s x y (!aD d e):=by
 have nz:A.units < cLine:=by omega
 have step:∀ {ds es:List D} {vs us:List V} {aq bc:List Value} (r1:Vals vs aq) (r2:Vals us bc),bw ds <= 59->ae H ds vs->ae H es us →
   ∀ (j:Nat) (h1:j < aq.toArray.size) (h2:j < bc.toArray.size),SeqAt.EqAt A.in1 s aq.toArray[j] bc.toArray[j] (qU ds es j):=fun {ds es vs us aq bc} r1 r2 hl i1 i2 j h1 h2=>by
  obtain⟨v1,e1,q1⟩:=xx r1 h1;obtain⟨v2,e2,q2⟩:=xx r2 h2;obtain⟨d1,f1,g1⟩:=i1.get e1;obtain⟨d2,f2,g2⟩:=i2.get e2;unfold qU;rw[f1,f2];exact (xy I 59 (Yw (Ac f1) hl) (by rw[in1_units];omega) g1 g2 q1 q2).1
 cases d with
 | tup ds =>
  have hl:bw ds <= 59:=by simp only[dep] at hd;omega
  simp only[Is] at hv;obtain⟨a,vs,rfl,h1,i1⟩:=hv;cases rv
  obtain⟨aq,r1,p1⟩:=di I h1
  cases e with
  | tup es =>
   simp only[Is] at hw;obtain⟨b,us,rfl,h2,i2⟩:=hw;cases ru
   obtain⟨bc,r2,p2⟩:=di I h2;have:=SeqAt.RcNeAt.tuples p1 p2 nz (step r1 r2 hl i1 i2);have l1:aq.toArray.size=ds.length:=by rw[wO,<-r1.length,i1.length]
   have l2:bc.toArray.size=es.length:=by rw[wO,<-r2.length,i2.length]
   rw[l1,l2] at this
   have eb:((List.range (min ds.length es.length)).all (qU ds es) && ds.length == es.length)=aD (.tup ds) (.tup es):=by
    simp only[aD]
    by_cases c:ds.length=es.length
    ·rw[<-c,Nat.min_self,u6 c];simp
    ·rw[u5 c];simp[c]
   rw[eb] at this;exact this
  | lst es=>simp only[Is] at hw;obtain⟨b,us,rfl,h2,i2⟩:=hw;cases ru;obtain⟨bc,r2,p2⟩:=dh I h2;simp only[aD];exact SeqAt.RcNeAt.tuple_list p1 p2 nz
  | non=>cases (show u = .non from hw);cases ru;simp only[aD];exact SeqAt.RcNeAt.tuple_none p1 nz
  | bl b=>cases (show u = .bl b from hw);cases ru;simp only[aD];exact SeqAt.RcNeAt.tuple_bool _ p1 nz
  | int b=>cases (show u = .int b from hw);obtain⟨t,rfl⟩:=ru;simp only[aD];exact SeqAt.RcNeAt.tuple_int _ _ p1 nz
  | str b=>cases (show u = .str b from hw);obtain⟨t,rfl⟩:=ru;simp only[aD];exact SeqAt.RcNeAt.tuple_str _ _ p1 nz
 | lst ds =>
  have hl:bw ds <= 59:=by simp only[dep] at hd;omega
  simp only[Is] at hv;obtain⟨a,vs,rfl,h1,i1⟩:=hv;cases rv
  obtain⟨aq,r1,p1⟩:=dh I h1
  cases e with
  | lst es =>
   simp only[Is] at hw;obtain⟨b,us,rfl,h2,i2⟩:=hw;cases ru
   obtain⟨bc,r2,p2⟩:=dh I h2;have l1:aq.toArray.size=ds.length:=by rw[wO,<-r1.length,i1.length]
   have l2:bc.toArray.size=es.length:=by rw[wO,<-r2.length,i2.length]
   by_cases c:ds.length=es.length
   ·have:=SeqAt.RcNeAt.lists p1 p2 (by rw[l1,l2];exact c) nz (step r1 r2 hl i1 i2)
    rw[l1,u6 c] at this;simp only[aD];exact this
   ·simp only[aD];rw[u5 c]
    exact SeqAt.RcNeAt.lists_lengths p1 p2 (by rw[l1,l2];simpa using c) nz
  | tup es=>simp only[Is] at hw;obtain⟨b,us,rfl,h2,i2⟩:=hw;cases ru;obtain⟨bc,r2,p2⟩:=di I h2;simp only[aD];exact SeqAt.RcNeAt.list_tuple p1 p2 nz
  | non=>cases (show u = .non from hw);cases ru;simp only[aD];exact SeqAt.RcNeAt.list_none p1 nz
  | bl b=>cases (show u = .bl b from hw);cases ru;simp only[aD];exact SeqAt.RcNeAt.list_bool _ p1 nz
  | int b=>cases (show u = .int b from hw);obtain⟨t,rfl⟩:=ru;simp only[aD];exact SeqAt.RcNeAt.list_int _ _ p1 nz
  | str b=>cases (show u = .str b from hw);obtain⟨t,rfl⟩:=ru;simp only[aD];exact SeqAt.RcNeAt.list_str _ _ p1 nz
 | non =>
  cases (show v = .non from hv);cases rv
  cases e with
  | non=>cases (show u = .non from hw);cases ru;simp only[aD];exact SeqAt.RcNeAt.none_none
  | bl b=>cases (show u = .bl b from hw);cases ru;simp only[aD];exact SeqAt.RcNeAt.none_bool _
  | int b=>cases (show u = .int b from hw);obtain⟨t,rfl⟩:=ru;simp only[aD];exact SeqAt.RcNeAt.none_int _ _
  | str b=>cases (show u = .str b from hw);obtain⟨t,rfl⟩:=ru;simp only[aD];exact SeqAt.RcNeAt.none_str _ _
  | tup es=>simp only[Is] at hw;obtain⟨a,vs,rfl,h1,_⟩:=hw;cases ru;obtain⟨_,_,p⟩:=di I h1;simp only[aD];exact SeqAt.RcNeAt.none_tuple p nz
  | lst es=>simp only[Is] at hw;obtain⟨a,vs,rfl,h1,_⟩:=hw;cases ru;obtain⟨_,_,p⟩:=dh I h1;simp only[aD];exact SeqAt.RcNeAt.none_list p nz
 | bl b0 =>
  cases (show v = .bl b0 from hv);cases rv
  cases e with
  | non=>cases (show u = .non from hw);cases ru;simp only[aD];exact SeqAt.RcNeAt.bool_none _
  | bl b=>cases (show u = .bl b from hw);cases ru;simp only[aD];exact SeqAt.RcNeAt.bool_bool _ _
  | int b=>cases (show u = .int b from hw);obtain⟨t,rfl⟩:=ru;simp only[aD];exact SeqAt.RcNeAt.bool_int _ _ _
  | str b=>cases (show u = .str b from hw);obtain⟨t,rfl⟩:=ru;simp only[aD];exact SeqAt.RcNeAt.bool_str _ _ _
  | tup es=>simp only[Is] at hw;obtain⟨a,vs,rfl,h1,_⟩:=hw;cases ru;obtain⟨_,_,p⟩:=di I h1;simp only[aD];exact SeqAt.RcNeAt.bool_tuple _ p nz
  | lst es=>simp only[Is] at hw;obtain⟨a,vs,rfl,h1,_⟩:=hw;cases ru;obtain⟨_,_,p⟩:=dh I h1;simp only[aD];exact SeqAt.RcNeAt.bool_list _ p nz
 | int b0 =>
  cases (show v = .int b0 from hv);obtain⟨t0,rfl⟩:=rv
  cases e with
  | non=>cases (show u = .non from hw);cases ru;simp only[aD];exact SeqAt.RcNeAt.int_none _ _
  | bl b=>cases (show u = .bl b from hw);cases ru;simp only[aD];exact SeqAt.RcNeAt.int_bool _ _ _
  | int b=>cases (show u = .int b from hw);obtain⟨t,rfl⟩:=ru;simp only[aD];exact SeqAt.RcNeAt.int_int _ _ _ _
  | str b=>cases (show u = .str b from hw);obtain⟨t,rfl⟩:=ru;simp only[aD];exact SeqAt.RcNeAt.int_str _ _ _ _
  | tup es=>simp only[Is] at hw;obtain⟨a,vs,rfl,h1,_⟩:=hw;cases ru;obtain⟨_,_,p⟩:=di I h1;simp only[aD];exact SeqAt.RcNeAt.int_tuple _ _ p nz
  | lst es=>simp only[Is] at hw;obtain⟨a,vs,rfl,h1,_⟩:=hw;cases ru;obtain⟨_,_,p⟩:=dh I h1;simp only[aD];exact SeqAt.RcNeAt.int_list _ _ p nz
 | str b0 =>
  cases (show v = .str b0 from hv);obtain⟨t0,rfl⟩:=rv
  cases e with
  | non=>cases (show u = .non from hw);cases ru;simp only[aD];exact SeqAt.RcNeAt.str_none _ _
  | bl b=>cases (show u = .bl b from hw);cases ru;simp only[aD];exact SeqAt.RcNeAt.str_bool _ _ _
  | int b=>cases (show u = .int b from hw);obtain⟨t,rfl⟩:=ru;simp only[aD];exact SeqAt.RcNeAt.str_int _ _ _ _
  | str b=>cases (show u = .str b from hw);obtain⟨t,rfl⟩:=ru;simp only[aD];exact SeqAt.RcNeAt.str_str _ _ _ _
  | tup es=>simp only[Is] at hw;obtain⟨a,vs,rfl,h1,_⟩:=hw;cases ru;obtain⟨_,_,p⟩:=di I h1;simp only[aD];exact SeqAt.RcNeAt.str_tuple _ _ p nz
  | lst es=>simp only[Is] at hw;obtain⟨a,vs,rfl,h1,_⟩:=hw;cases ru;obtain⟨_,_,p⟩:=dh I h1;simp only[aD];exact SeqAt.RcNeAt.str_list _ _ p nz
end
variable [aK]
noncomputable def intsOf:List D->Option (List Int)
 | []=>some []
 | .int i :: r=>match intsOf r with
  | some ns=>some (i :: ns)
  | none=>none
 | _=>none
theorem nQ:∀ ns:List Int,intsOf (ns.map D.int)=some ns
 | []=>rfl
 | n :: r=>by show (match intsOf (r.map D.int) with | some ns=>some (n :: ns) | none=>none)=_;rw[nQ r]
theorem u7:∀ {ds:List D} {ns:List Int},intsOf ds=some ns->ds=ns.map D.int
 | [],ns,h=>by cases h;rfl
 | .int i :: r,ns,h=>by
  unfold intsOf at h;split at h
  ·rename_i ms e;cases h;rw[Yd,u7 e]
  ·cases h
 | .non :: r,ns,h=>by cases h
 | .bl _ :: r,ns,h=>by cases h
 | .str _ :: r,ns,h=>by cases h
 | .tup _ :: r,ns,h=>by cases h
 | .lst _ :: r,ns,h=>by cases h
theorem nU {F:Hp}:∀ {ns:List Int} {vs:List V},ae F (ns.map D.int) vs->vs=ns.map V.int
 | [],vs,h=>by simp only[Zw,ae] at h;exact h
 | n :: r,vs,h=>by
  simp only[Yd,ae] at h;obtain⟨v,t,rfl,h1,h2⟩:=h;have h1:v = .int n:=h1;rw[nU h2,h1];rfl
theorem my {F:Hp}:∀ {ns:List Int},ae F (ns.map D.int) (ns.map V.int)
 | [] => .nil
 | n :: r => .cons (show _=_ from rfl) my
theorem sR {F:Hp}:∀ {as bs:List D} {us vs:List V},ae F as us->ae F bs vs->ae F (as ++ bs) (us ++ vs)
 | [],bs,us,vs,h,q=>by simp only[ae] at h;subst h;exact q
 | a :: r,bs,us,vs,h,q=>by
  simp only[ae] at h;obtain⟨v,t,rfl,h1,h2⟩:=h;exact .cons h1 (sR h2 q)
theorem GQ {F:Hp}:∀ {as:List D} {us:List V} (n:Nat),ae F as us->ae F (as.take n) (us.take n)
 | as,us,0,_=>by rw[q1b,q1b];exact .nil
 | [],us,n + 1,h=>by simp only[ae] at h;subst h;exact .nil
 | a :: r,us,n + 1,h=>by
  simp only[ae] at h;obtain⟨v,t,rfl,h1,h2⟩:=h;exact .cons h1 (GQ n h2)
theorem AX {F:Hp}:∀ {as:List D} {us:List V} (n:Nat),ae F as us->ae F (as.drop n) (us.drop n)
 | as,us,0,h=>h
 | [],us,n + 1,h=>by simp only[ae] at h;subst h;exact .nil
 | a :: r,us,n + 1,h=>by
  simp only[ae] at h;obtain⟨v,t,rfl,h1,h2⟩:=h;exact AX n h2
theorem GR {F:Hp}:∀ {as:List D} {us:List V} (n:Nat) {d:D} {v:V},ae F as us->Is F d v->ae F (as.set n d) (us.set n v)
 | [],us,n,d,v,h,_=>by simp only[ae] at h;subst h;exact .nil
 | a :: r,us,0,d,v,h,q=>by
  simp only[ae] at h;obtain⟨w,t,rfl,h1,h2⟩:=h;exact .cons q h2
 | a :: r,us,n + 1,d,v,h,q=>by
  simp only[ae] at h;obtain⟨w,t,rfl,h1,h2⟩:=h;exact .cons h1 (GR n h2 q)
theorem GS {F:Hp}:∀ {as:List D} {us:List V} (n:Nat),ae F as us->ae F (as.eraseIdx n) (us.eraseIdx n)
 | [],us,n,h=>by simp only[ae] at h;subst h;exact .nil
 | a :: r,us,0,h=>by
  simp only[ae] at h;obtain⟨w,t,rfl,h1,h2⟩:=h;exact h2
 | a :: r,us,n + 1,h=>by
  simp only[ae] at h;obtain⟨w,t,rfl,h1,h2⟩:=h;exact .cons h1 (GS n h2)
theorem qV {F H:Hp} {p:Addr} {ds:List D} {vs:List V} (s:aF F H) (hp:H p=none) (h:ae F ds vs):Is (Nw F H (upd H p (.lst vs))) (.lst ds) (.ref p):=by
 rw[Nw.upd s hp];simp only[Is];exact⟨p,vs,rfl,bZ,h.same (c_ (s.free hp))⟩
theorem AY {F H:Hp} {p:Addr} {ds:List D} {vs:List V} (s:aF F H) (hp:H p=none) (h:ae F ds vs):Is (Nw F H (upd H p (.tup vs))) (.tup ds) (.ref p):=by
 rw[Nw.upd s hp];simp only[Is];exact⟨p,vs,rfl,bZ,h.same (c_ (s.free hp))⟩
theorem u9 {F H:Hp} {d:D} {v:V} (s:aF F H) (h:Is F d v):Is (Nw F H H) d v:=by rw[Nw.refl s];exact h
noncomputable def qW:D->D->(D->Prop)->Prop
 | .int i,.int j,K=>K (.int (i + j))
 | .lst a,.lst b,K=>a.length + b.length <= 1000/\K (.lst (a ++ b))
 | .tup a,.tup b,K=>(a≠[]/\a.length + b.length <= 1000)/\K (.tup (a ++ b))
 | .str a,.str b,K=>a.length + b.length <= 1000/\K (.str (a ++ b))
 | _,_,_=>False
noncomputable def oI (f:Int->Int->D):D->D->(D->Prop)->Prop
 | .int i,.int j,K=>K (f i j)
 | _,_,_=>False
noncomputable def dS (C:Int->Int->Prop) (f:Int->Int->D):D->D->(D->Prop)->Prop
 | .int i,.int j,K=>C i j/\K (f i j)
 | _,_,_=>False
noncomputable def fz:D->D->(D->Prop)->Prop
 | .int i,.int j,K=>kI i j/\K (.int (i * j))
 | .lst a,.int j,K=>(-(2 ^ 63) <= j/\j < 2 ^ 63/\a.length * j.toNat <= 1000)/\K (.lst (List.replicate j.toNat a).flatten)
 | _,_,_=>False
section
variable {X:Cx}
theorem xA {f:Value->Value->Sem Value} {g:Int->Int->V} {h:Int->Int->D} (op:cP X f (mS g)) (hg:∀ F i j,Is F (h i j) (g i j)):eG X f (oI h):=by
 rintro pins s σ H x y v u Q I rx ry ⟨F,d,e,K,sub,rd,re,q,md⟩;unfold oI at q;split at q
 ·rename_i i j
  exact op pins s σ H x y v u Q I rx ry ⟨i,j,rd,re,md _ _ _ q (fun _ _ e=>e) (hg _ i j)⟩
 ·exact q.elim
theorem AZ {f:Value->Value->Sem Value} {C:Int->Int->Prop} {g:Int->Int->V} {h:Int->Int->D} (op:cP X f (rI C g)) (hg:∀ F i j,Is F (h i j) (g i j)):eG X f (dS C h):=by
 rintro pins s σ H x y v u Q I rx ry ⟨F,d,e,K,sub,rd,re,q,md⟩;unfold dS at q;split at q
 ·rename_i i j
  exact op pins s σ H x y v u Q I rx ry ⟨i,j,rd,re,q.1,md _ _ _ q.2 (fun _ _ e=>e) (hg _ i j)⟩
 ·exact q.elim
theorem xB:eG X (binaryOp .Add) qW:=by
 rintro pins s σ H x y v u Q I rx ry ⟨F,d,e,K,sub,rd,re,q,md⟩;unfold qW at q;split at q
 ·rename_i i j
  exact EF pins s σ H x y v u Q I rx ry ⟨i,j,rd,re,md _ _ _ q (fun _ _ e=>e) rfl⟩
 ·rename_i as bs
  obtain⟨a,us,rfl,h1,h2⟩:=rd;obtain⟨b,ws,rfl,h3,h4⟩:=re;refine Fm pins s σ H _ _ v u Q I rx ry ⟨a,b,us,ws,rfl,rfl,h1,h3,kU (by rw[h2.length,h4.length];exact q.1),fun p hp=>md _ _ _ q.2 (c_ hp) (qV sub hp (sR h2 h4))⟩
 ·rename_i as bs
  have c8:Is F (.tup as) x:=rd;have hJ:Is F (.tup bs) y:=re;simp only[Is] at c8 hJ;obtain⟨a,us,rfl,h1,h2⟩:=c8;obtain⟨b,ws,rfl,h3,h4⟩:=hJ;have ne:us≠[]:=fun z=>q.1.1 (Zj.mp (by rw[<-h2.length,z];rfl));refine Nu pins s σ H _ _ v u Q I rx ry ⟨a,b,us,ws,rfl,rfl,bF.of (sub _ _ h1),bF.of (sub _ _ h3),ne,kU (by rw[h2.length,h4.length];exact q.1.2),fun z => ?_,fun z p hp=>md _ _ _ q.2 (c_ hp) (AY sub hp (sR h2 h4))⟩;have:bs=[]:=Zj.mp (by rw[<-h4.length,z];rfl);subst this;refine md _ _ _ q.2 (fun _ _ e=>e) (u9 sub ?_);rw[q0Z];exact rd
 ·rename_i as bs
  have c8:x = .str as:=rd;have hJ:y = .str bs:=re;subst c8 hJ;exact MX pins s σ H _ _ v u Q I rx ry ⟨as,bs,rfl,rfl,kU q.1,md _ _ _ q.2 (fun _ _ e=>e) rfl⟩
 ·exact q.elim
theorem lb:eG X (binaryOp .Sub) (oI fun i j => .int (i - j)):=xA MK fun _ _ _=>rfl
theorem pE:eG X (binaryOp .Mult) fz:=by
 rintro pins s σ H x y v u Q I rx ry ⟨F,d,e,K,sub,rd,re,q,md⟩;unfold fz at q;split at q
 ·rename_i i j
  exact ML pins s σ H x y v u Q I rx ry ⟨i,j,rd,re,q.1,md _ _ _ q.2 (fun _ _ e=>e) rfl⟩
 ·rename_i as j
  obtain⟨a,us,rfl,h1,h2⟩:=rd;refine NH pins s σ H _ _ v u Q I rx ry ⟨a,j,us,rfl,re,h1,q.1.1,q.1.2.1,kU (by rw[h2.length];exact q.1.2.2),fun p hp=>md _ _ _ q.2 (c_ hp) (qV sub hp ?_)⟩
  have:∀ k:Nat,ae F (List.replicate k as).flatten (List.replicate k us).flatten:=fun k=>by
   induction k with
   | zero=>exact .nil
   | succ k ih=>rw[YX,YX,ZW,ZW];exact sR h2 ih
  exact this _
 ·exact q.elim
theorem P_:eG X (binaryOp .FloorDiv) (dS uh fun i j => .int (i.fdiv j)):=AZ MM fun _ _ _=>rfl
theorem jI:eG X (binaryOp .Mod) (dS (fun _ j=>0 < j) fun i j => .int (i % j)):=AZ zp fun _ _ _=>rfl
theorem qX:eG X (binaryOp .Pow) (dS gv fun i j => .int (i ^ j.toNat)):=AZ MN fun _ _ _=>rfl
noncomputable def oEq:D->D->(D->Prop)->Prop:=fun d e K=>dep d <= 60/\K (.bl (aD d e))
noncomputable def jg:D->D->(D->Prop)->Prop:=fun d e K=>dep d <= 60/\K (.bl (!aD d e))
theorem gf (hu:X.A.units + 64 < cLine):eG X (compareOp .Eq) oEq:=by
 rintro pins s σ H x y v u Q I rx ry ⟨F,d,e,K,sub,rd,re,q,md⟩;exact (xy I 60 q.1 (by omega) (rd.is sub) (re.is sub) rx ry).2 _ _ _ _ ⟨.bl _,H,I,rfl,md _ _ _ q.2 (fun _ _ e=>e) rfl⟩
theorem lg (hu:X.A.units + 64 < cLine):eG X (compareOp .NotEq) jg:=by
 rintro pins s σ H x y v u Q I rx ry ⟨F,d,e,K,sub,rd,re,q,md⟩;exact P9 I q.1 (by omega) (rd.is sub) (re.is sub) rx ry _ _ _ _ ⟨.bl _,H,I,rfl,md _ _ _ q.2 (fun _ _ e=>e) rfl⟩
noncomputable def oLt:D->D->(D->Prop)->Prop
 | .int i,.int j,K=>K (.bl (decide (i < j)))
 | .tup a,.tup b,K=>match intsOf a,intsOf b with
  | some ns,some ms=>K (.bl (HT.lexLt ns ms))
  | _,_=>False
 | _,_,_=>False
theorem xC (hu:X.A.units + 64 < cLine):eG X (compareOp .Lt) oLt:=by
 rintro pins s σ H x y v u Q I rx ry ⟨F,d,e,K,sub,rd,re,q,md⟩;unfold oLt at q;split at q
 ·rename_i i j
  exact MO pins s σ H x y v u Q I rx ry ⟨i,j,rd,re,md _ _ _ q (fun _ _ e=>e) rfl⟩
 ·rename_i as bs
  split at q
  ·rename_i ns ms e1 e2
   rw[u7 e1] at rd;rw[u7 e2] at re;have c8:Is F (.tup (ns.map D.int)) x:=rd;have hJ:Is F (.tup (ms.map D.int)) y:=re;simp only[Is] at c8 hJ;obtain⟨a,us,rfl,h1,h2⟩:=c8;obtain⟨b,ws,rfl,h3,h4⟩:=hJ;rw[nU h2] at h1;rw[nU h4] at h3;exact Nr (by omega) pins s σ H _ _ v u Q I rx ry ⟨a,b,ns,ms,rfl,rfl,bF.of (sub _ _ h1),bF.of (sub _ _ h3),md _ _ _ q (fun _ _ e=>e) rfl⟩
  ·exact q.elim
 ·exact q.elim
theorem xD:eG X (compareOp .LtE) (oI fun i j => .bl (decide (i <= j))):=xA MP fun _ _ _=>rfl
theorem sS:eG X (compareOp .Gt) (oI fun i j => .bl (decide (j < i))):=xA MQ fun _ _ _=>rfl
theorem GU:eG X (compareOp .GtE) (oI fun i j => .bl (decide (j <= i))):=xA MR fun _ _ _=>rfl
noncomputable def jJ:D->D->(D->Prop)->Prop
 | .non,.non,K=>K (.bl true)
 | .bl _,.non,K=>K (.bl false)
 | .int _,.non,K=>K (.bl false)
 | .str _,.non,K=>K (.bl false)
 | .tup _,.non,K=>K (.bl false)
 | .lst _,.non,K=>K (.bl false)
 | _,_,_=>False
theorem GV {F H:Hp} {d e:D} {x y:V} {K:D->Prop} (rd:gR F H d x) (re:gR F H e y) (q:jJ d e K):y = .non/\K (.bl (decide (x = .non))):=by
 unfold jJ at q;split at q
 ·have:x = .non:=rd;have h2:y = .non:=re;subst this;exact⟨h2,q⟩
 ·rename_i b;have:x = .bl b:=rd;have h2:y = .non:=re;subst this;exact⟨h2,q⟩
 ·rename_i b;have:x = .int b:=rd;have h2:y = .non:=re;subst this;exact⟨h2,q⟩
 ·rename_i b;have:x = .str b:=rd;have h2:y = .non:=re;subst this;exact⟨h2,q⟩
 ·rename_i b;have rd:Is F (.tup b) x:=rd;simp only[Is] at rd;obtain⟨a,_,rfl,_⟩:=rd;exact⟨re,q⟩
 ·rename_i b;obtain⟨a,_,rfl,_⟩:=rd;exact⟨re,q⟩
 ·exact q.elim
noncomputable def A0:D->D->(D->Prop)->Prop:=fun d e K=>jJ d e fun z=>match z with
 | .bl b=>K (.bl (!b))
 | _=>False
theorem Qa:eG X (compareOp .Is) jJ:=by
 rintro pins s σ H x y v u Q I rx ry ⟨F,d,e,K,sub,rd,re,q,md⟩;obtain⟨h1,h2⟩:=GV rd re q;exact MS pins s σ H x y v u Q I rx ry ⟨h1,md _ _ _ h2 (fun _ _ e=>e) rfl⟩
theorem Qb:eG X (compareOp .IsNot) A0:=by
 rintro pins s σ H x y v u Q I rx ry ⟨F,d,e,K,sub,rd,re,q,md⟩;obtain⟨h1,h2⟩:=GV rd re q;exact MT pins s σ H x y v u Q I rx ry ⟨h1,md _ _ _ h2 (fun _ _ e=>e) rfl⟩
noncomputable def iA (neg:Bool):D->D->(D->Prop)->Prop
 | d,.lst es,K=>bw es <= 55/\K (.bl (if neg then !(es.any fun e=>aD e d) else es.any fun e=>aD e d))
 | d,.tup es,K=>bw es <= 55/\K (.bl (if neg then !(es.any fun e=>aD e d) else es.any fun e=>aD e d))
 | _,_,_=>False
noncomputable def iB (H:Hp) (d:D) (u:Value):Bool:=by
 classical exact if ∃ e v,Is H e v/\RelV v u/\aD e d=true then true else false
theorem GW {H:Hp} {d e:D} {v:V} {u:Value} (h:Is H e v) (r:RelV v u):iB H d u=aD e d:=by
 unfold iB;split
 ·rename_i z
  obtain⟨e',v',h',r',q⟩:=z;have:v'=v:=r'.inj r;subst this;rw[Is.inj h h'];exact q.symm
 ·rename_i z
  cases q:aD e d with
  | false=>rfl
  | true=>exact absurd ⟨e,v,h,r,q⟩ z
theorem u_ {H:Hp} {d:D}:∀ {es:List D} {vs:List V} {us:List Value},ae H es vs->Vals vs us->us.any (iB H d)=es.any fun e=>aD e d
 | [],vs,us,h,r=>by simp only[ae] at h;subst h;cases r;rfl
 | e :: es,vs,us,h,r=>by
  simp only[ae] at h;obtain⟨v,t,rfl,h1,h2⟩:=h
  cases r with
  | cons r1 r2=>rw[ZJ,ZJ,GW h1 r1,u_ h2 r2]
theorem va {pins:List (Addr × Obj)} {σ : St} {H:Hp} {s:Shared} (I:Inv X pins σ H s) {A:Around} (hu:A.units + 60 < cLine) {d:D} {x:V} {w:Value} (hd:Is H d x) (rd:RelV x w):∀ {es:List D} {vs:List V} {us:List Value},bw es <= 55->ae H es vs->Vals vs us->∀ u∈us,SeqAt.EqAt A s u w (iB H d u)
 | [],vs,us,_,h,r=>by simp only[ae] at h;subst h;cases r;intro u hu;cases hu
 | e :: es,vs,us,hp,h,r=>by
  simp only[ae] at h;obtain⟨v,t,rfl,h1,h2⟩:=h;simp only[bw] at hp
  cases r with
  | cons r1 r2 =>
   intro u hu';rcases Xq.mp hu' with rfl | hu'
   ·rw[GW h1 r1];exact (xy I 55 (by omega) (by omega) h1 hd r1 rd).1
   ·exact va I hu hd rd (by omega) h2 r2 u hu'
theorem vc (hu:X.A.units + 64 < cLine):eG X (compareOp .In) (iA false):=by
 rintro pins s σ H x y v u Q I rx ry ⟨F,d,e,K,sub,rd,re,q,md⟩;unfold iA at q;split at q
 ·rename_i es
  obtain⟨a,vs,rfl,h1,h2⟩:=re;cases ry
  obtain⟨aq,r,p⟩:=dh I h1;have gy:=h2.same sub;refine SeqAt.in_listAt (iB H d) p (fun w hw=>va I (by rw[in1_units];omega) (rd.is sub) rx q.1 gy r w (by simpa using hw)) ⟨.bl _,H,I,rfl,?_⟩;rw[show aq.toArray.any (iB H d)=aq.any (iB H d) by simp,u_ gy r];exact md _ _ _ q.2 (fun _ _ e=>e) rfl
 ·rename_i es
  have hJ:Is F (.tup es) y:=re;simp only[Is] at hJ;obtain⟨a,vs,rfl,h1,h2⟩:=hJ;cases ry
  obtain⟨aq,r,p⟩:=di I (sub _ _ h1);have gy:=h2.same sub;refine SeqAt.in_tupleAt (iB H d) p (fun w hw=>va I (by rw[in1_units];omega) (rd.is sub) rx q.1 gy r w (by simpa using hw)) ⟨.bl _,H,I,rfl,?_⟩;rw[show aq.toArray.any (iB H d)=aq.any (iB H d) by simp,u_ gy r];exact md _ _ _ q.2 (fun _ _ e=>e) rfl
 ·exact q.elim
theorem xE (hu:X.A.units + 64 < cLine):eG X (compareOp .NotIn) (iA true):=by
 rintro pins s σ H x y v u Q I rx ry ⟨F,d,e,K,sub,rd,re,q,md⟩;unfold iA at q;split at q
 ·rename_i es
  obtain⟨a,vs,rfl,h1,h2⟩:=re;cases ry
  obtain⟨aq,r,p⟩:=dh I h1;have gy:=h2.same sub;refine SeqAt.notIn_listAt (iB H d) p (fun w hw=>va I (by rw[in1_units];omega) (rd.is sub) rx q.1 gy r w (by simpa using hw)) ⟨.bl _,H,I,rfl,?_⟩;rw[show aq.toArray.any (iB H d)=aq.any (iB H d) by simp,u_ gy r];exact md _ _ _ q.2 (fun _ _ e=>e) rfl
 ·rename_i es
  have hJ:Is F (.tup es) y:=re;simp only[Is] at hJ;obtain⟨a,vs,rfl,h1,h2⟩:=hJ;cases ry
  obtain⟨aq,r,p⟩:=di I (sub _ _ h1);have gy:=h2.same sub;refine SeqAt.notIn_tupleAt (iB H d) p (fun w hw=>va I (by rw[in1_units];omega) (rd.is sub) rx q.1 gy r w (by simpa using hw)) ⟨.bl _,H,I,rfl,?_⟩;rw[show aq.toArray.any (iB H d)=aq.any (iB H d) by simp,u_ gy r];exact md _ _ _ q.2 (fun _ _ e=>e) rfl
 ·exact q.elim
noncomputable def aW:D->D->(D->Prop)->Prop
 | .lst ds,.int i,K=>match eO ds i with
  | some d=>K d
  | none=>False
 | .tup ds,.int i,K=>match eO ds i with
  | some d=>K d
  | none=>False
 | .str z,.int i,K=>z.length <= 1000/\match eO z.cps.toList i with
  | some c=>K (.str ⟨#[c]⟩)
  | none=>False
 | _,_,_=>False
theorem GX {F:Hp} {ds:List D} {vs:List V} {i:Int} {d:D} (h:ae F ds vs) (e:eO ds i=some d):∃ v,eO vs i=some v/\Is F d v:=by
 unfold eO at e ⊢;rw[h.length]
 cases q:i9 ds.length i with
 | none=>rw[q] at e;cases e
 | some j =>
  rw[q] at e;exact pD h (show ds[j]? = some d from e)
theorem bg:Gp X aW:=by
 rintro value slice pins s σ H x y v u Q I rx ry ⟨F,d,e,K,sub,rd,re,q,md⟩ hs;unfold aW at q;split at q
 ·rename_i ds i
  split at q
  ·rename_i d' e1
   obtain⟨a,vs,rfl,h1,h2⟩:=rd;obtain⟨w,e2,h3⟩:=GX h2 e1;exact E_ value slice pins s σ H _ _ v u Q I rx ry ⟨a,vs,i,w,rfl,re,bz.of h1,e2,md _ _ _ q (fun _ _ e=>e) (u9 sub h3)⟩ hs
  ·exact q.elim
 ·rename_i ds i
  split at q
  ·rename_i d' e1
   have c8:Is F (.tup ds) x:=rd;simp only[Is] at c8;obtain⟨a,vs,rfl,h1,h2⟩:=c8;obtain⟨w,e2,h3⟩:=GX h2 e1;exact Fb value slice pins s σ H _ _ v u Q I rx ry ⟨a,vs,i,w,rfl,re,bF.of (sub _ _ h1),e2,md _ _ _ q (fun _ _ e=>e) (u9 sub h3)⟩ hs
  ·exact q.elim
 ·rename_i z i
  obtain⟨hz,q⟩:=q;split at q
  ·rename_i c e1
   have c8:x = .str z:=rd;subst c8;exact Nx value slice pins s σ H _ _ v u Q I rx ry ⟨z,i,c,rfl,re,kU hz,e1,md _ _ _ q (fun _ _ e=>e) rfl⟩ hs
  ·exact q.elim
 ·exact q.elim
noncomputable def cutD (ds:List D) (lo hi:Option Int):List D:=(ds.drop (HT.bj ds.length 0 lo)).take (HT.bj ds.length ds.length hi - HT.bj ds.length 0 lo)
theorem GY {F:Hp} {ds:List D} {vs:List V} (h:ae F ds vs) (lo hi:Option Int):ae F (cutD ds lo hi) (cU vs lo hi):=by
 unfold cutD cU;rw[h.length];exact GQ _ (AX _ h)
noncomputable abbrev WO:=aA->(Option Int->aA->Prop)->Prop
noncomputable def xF (f:WO):TO:=fun σ H Q=>∃ F ad δ K,SR F ad δ σ H/\f δ K/\∀ o δ',K o δ'->∀ F' aC H',Ext F ad δ.mu H F' aC δ'.mu H'->SR F' aC δ' σ H'->Q o H'
noncomputable def hU:WO:=fun δ K=>K none δ
noncomputable def pF (f:WE):WO:=fun δ K=>f δ fun x δ1=>match x with
 | .p (.int i)=>K (some i) δ1
 | _=>False
theorem vd:PO X none (xF hU):=fun pins s σ H Q I h0_ => el7 h0_ fun F ad δ K S q k =>E6 pins s σ H Q I (k _ _ q _ _ _ .refl S)
theorem vf {e:Expr} {f:WE} (h:JE X e (tD f)):PO X (some e) (xF (pF f)):=fun pins s σ H Q I h0_ => el7 h0_ fun F ad δ K S q k =>wM h.out pins s σ H Q I ⟨F,ad,δ,_,S,q,fun x δ1 h1 v F1 aP H1 E1 S1 V1=>by
 split at h1
 ·rename_i i
  exact⟨i,V1,k _ _ h1 _ _ _ E1 S1⟩
 ·exact h1.elim⟩
noncomputable def xG (f g h:WE) (o o':D->D->(D->Prop)->Prop):WE:=fun δ K=>f δ fun x δ1=>g δ1 fun y δ2=>g7 x δ2 fun d=>g7 y δ2 fun e=>o d e fun z=>match z with
 | .bl true=>h δ2 fun w δ3=>g7 y δ3 fun e'=>g7 w δ3 fun c=>o' e' c fun z'=>K (.p z') δ3
 | .bl false=>K (.p (.bl false)) δ2
 | _=>False
theorem GZ {a b c:Expr} {f g h:WE} {op kJ:CmpOp} {o o':D->D->(D->Prop)->Prop} {pos:Pos} (ho:eG X (compareOp op) o) (jn:eG X (compareOp kJ) o') (ha:JE X a (tD f)) (hb:JE X b (tD g)) (hc:JE X c (tD h))
  (hm:lastMarks [op,kJ] [b,c]=false:=by with_unfolding_all rfl):JE X (.Compare a [op,kJ] [b,c] pos) (tD (xG f g h o o')) :=
 (O7 ho jn ha hb hc hm).weak fun σ H Q h0_ => el7 h0_ fun F ad δ K S q k =>by
  refine⟨F,ad,δ,_,S,q,fun x δ1 h1 v1 F1 aP H1 E1 S1 V1=>⟨F1,aP,δ1,_,S1,h1,fun y δ2 h2 v2 F2 bL H2 E2 S2 V2 => ?_⟩⟩;obtain⟨d,h3,rd⟩:=j5 S2 (V1.ext E2) h2;obtain⟨e,h4,re⟩:=j5 S2 V2 h3;refine⟨F2,d,e,_,S2.sub,rd,re,h4,fun z v H' hz sm is => ?_⟩;have S3:=S2.al sm;have E3:=Ext.al S2 sm;split at hz
  ·refine⟨true,is,?_⟩
   rw[Xs rfl];refine⟨_,bL,δ2,_,S3,hz,fun w δ4 h5 v4 F4 uX H4 E4 S4 V4 => ?_⟩;obtain⟨d',h6,xj⟩:=j5 S4 ((V2.ext E3).ext E4) h5;obtain⟨e',h7,xH⟩:=j5 S4 V4 h6;exact⟨F4,d',e',_,S4.sub,xj,xH,h7,fun z v H' hz sm is=>k _ _ hz _ _ _ _ ((((E1.trans E2).trans E3).trans E4).trans (Ext.al S4 sm)) (S4.al sm) is⟩
  ·refine⟨false,is,?_⟩
   rw[NM X8];exact k _ _ hz _ _ _ _ ((E1.trans E2).trans E3) S3 rfl
  ·exact hz.elim
end
noncomputable def sortI (ns:List Int):List Int:=ns.mergeSort fun a b=>decide (a <= b)
theorem sortI_perm (ns:List Int):(sortI ns).Perm ns:=List.mergeSort_perm ns _
theorem Qc (ns:List Int):(sortI ns).Pairwise (· <= ·):=by
 have:=List.pairwise_mergeSort (le:=fun a b:Int=>decide (a <= b)) (fun a b c h1 h2=>by simp at *;omega) (fun a b=>by simp;omega) ns;exact this.imp fun h=>by simpa using h
theorem G0:∀ {as bs:List Int},as.Perm bs->as.Pairwise (· <= ·)->bs.Pairwise (· <= ·)->as=bs
 | [],bs,p,_,_=>p.nil_eq
 | a :: as,[],p,_,_=>absurd p.length_eq (by simp)
 | a :: as,b :: bs,p,s,t=>by
  have e:a=b:=by
   have h1:a <= b:=by
    have hb:b∈a :: as:=p.mem_iff.mpr (NO ..);rcases Xq.mp hb with h | h
    ·omega
    ·exact (Zh.mp s).1 b h
   have h2:b <= a:=by
    have ha:a∈b :: bs:=p.mem_iff.mp (NO ..);rcases Xq.mp ha with h | h
    ·omega
    ·exact (Zh.mp t).1 a h
   omega
  subst e;rw[G0 (List.perm_cons a |>.mp p) (Zh.mp s).2 (Zh.mp t).2]
theorem G1 {as bs:List Int} (p:as.Perm bs) (s:as.Pairwise (· <= ·)):as=sortI bs:=G0 (p.trans (sortI_perm bs).symm) s (Qc bs)
noncomputable def cL:List D->(D->Prop)->Prop
 | [.lst ds],K=>K (.int ds.length)
 | [.tup ds],K=>K (.int ds.length)
 | [.str z],K=>z.length <= 1000/\K (.int z.length)
 | _,_=>False
noncomputable def xI:List D->(D->Prop)->Prop
 | [.lst ds],K=>K (.tup ds)
 | [.tup ds],K=>K (.tup ds)
 | _,_=>False
noncomputable def xJ:List D->(D->Prop)->Prop
 | [.lst ds],K=>match intsOf ds with
  | some ns=>ns.length < 64/\K (.lst ((sortI ns).map D.int))
  | none=>False
 | _,_=>False
noncomputable def qY:List D->Option (List Bool)
 | []=>some []
 | .bl b :: r=>match qY r with
  | some bs=>some (b :: bs)
  | none=>none
 | _=>none
theorem G2:∀ bs:List Bool,qY (bs.map D.bl)=some bs
 | []=>rfl
 | n :: r=>by show (match qY (r.map D.bl) with | some ns=>some (n :: ns) | none=>none)=_;rw[G2 r]
theorem G3:∀ {ds:List D} {bs:List Bool},qY ds=some bs->ds=bs.map D.bl
 | [],ns,h=>by cases h;rfl
 | .bl i :: r,ns,h=>by
  unfold qY at h;split at h
  ·rename_i ms e;cases h;rw[Yd,G3 e]
  ·cases h
 | .non :: r,ns,h=>by cases h
 | .int _ :: r,ns,h=>by cases h
 | .str _ :: r,ns,h=>by cases h
 | .tup _ :: r,ns,h=>by cases h
 | .lst _ :: r,ns,h=>by cases h
theorem G4 {F:Hp}:∀ {bs:List Bool} {vs:List V},ae F (bs.map D.bl) vs->vs=bs.map V.bl
 | [],vs,h=>by simp only[Zw,ae] at h;exact h
 | n :: r,vs,h=>by
  simp only[Yd,ae] at h;obtain⟨v,t,rfl,h1,h2⟩:=h;have h1:v = .bl n:=h1;rw[G4 h2,h1];rfl
noncomputable def nV:List D->(D->Prop)->Prop
 | [.lst ds],K=>match qY ds with
  | some bs=>K (.bl (bs.all id))
  | none=>False
 | _,_=>False
noncomputable def vg:List D->(D->Prop)->Prop
 | [.int i,.int j],K=>K (.int (min i j))
 | _,_=>False
noncomputable def xK:List D->(D->Prop)->Prop
 | [.int i,.int j],K=>K (.int (max i j))
 | _,_=>False
section
variable {X:Cx}
theorem c8 {F H:Hp} {d:D} {xs:List V} (h:g8 F H [d] xs):∃ v,xs=[v]/\gR F H d v:=by
 obtain⟨v,r,rfl,h1,h2⟩:=h;have h2:r=[]:=h2;subst h2;exact⟨v,rfl,h1⟩
theorem G5 {F H:Hp} {d e:D} {xs:List V} (h:g8 F H [d,e] xs):∃ v w,xs=[v,w]/\gR F H d v/\gR F H e w:=by
 obtain⟨v,r,rfl,h1,h2⟩:=h;obtain⟨w,rfl,h3⟩:=c8 h2;exact⟨v,w,rfl,h1,h3⟩
theorem iR:cW X (.builtin "len") cL:=by
 rintro pins s σ H xs us Q I r ⟨F,ds,K,sub,rd,q,md⟩;unfold cL at q;split at q
 ·obtain⟨v,rfl,a,vs,rfl,h1,h2⟩:=c8 rd
  exact Fd pins s σ H _ us Q I r ⟨a,vs,rfl,.inl (bz.of h1),by rw[h2.length];exact md _ _ _ q (fun _ _ e=>e) rfl⟩
 ·rename_i es
  obtain⟨v,rfl,h⟩:=c8 rd;have h:Is F (.tup es) v:=h;simp only[Is] at h;obtain⟨a,vs,rfl,h1,h2⟩:=h;exact Fd pins s σ H _ us Q I r ⟨a,vs,rfl,.inr (bF.of (sub _ _ h1)),by rw[h2.length];exact md _ _ _ q (fun _ _ e=>e) rfl⟩
 ·rename_i z
  obtain⟨v,rfl,h⟩:=c8 rd;have h:v = .str z:=h;subst h;exact NB pins s σ H _ us Q I r ⟨z,rfl,kU q.1,md _ _ _ q.2 (fun _ _ e=>e) rfl⟩
 ·exact q.elim
theorem Qd:cW X (.type "tuple") xI:=by
 rintro pins s σ H xs us Q I r ⟨F,ds,K,sub,rd,q,md⟩;unfold xI at q;split at q
 ·obtain⟨v,rfl,a,vs,rfl,h1,h2⟩:=c8 rd
  exact Fe pins s σ H _ us Q I r ⟨a,vs,rfl,.inl ⟨bz.of h1,fun l hl=>md _ _ _ q (c_ hl) (AY sub hl h2)⟩⟩
 ·rename_i es
  obtain⟨v,rfl,h⟩:=c8 rd;have h0:Is F (.tup es) v:=h;have h:Is F (.tup es) v:=h;simp only[Is] at h;obtain⟨a,vs,rfl,h1,h2⟩:=h;exact Fe pins s σ H _ us Q I r ⟨a,vs,rfl,.inr ⟨bF.of (sub _ _ h1),md _ _ _ q (fun _ _ e=>e) (u9 sub h0)⟩⟩
 ·exact q.elim
theorem Qe:cW X (.builtin "sorted") xJ:=by
 rintro pins s σ H xs us Q I r ⟨F,ds,K,sub,rd,q,md⟩;unfold xJ at q;split at q
 ·rename_i es
  split at q
  ·rename_i ns e
   obtain⟨v,rfl,a,vs,rfl,h1,h2⟩:=c8 rd;rw[u7 e] at h2;rw[nU h2] at h1;refine Gj pins s σ H _ us Q I r ⟨a,ns,rfl,bz.of h1,q.1,fun l fG pm pw hl => ?_⟩;rw[G1 pm pw];exact md _ _ _ q.2 (c_ hl) (qV sub hl my)
  ·exact q.elim
 ·exact q.elim
theorem Qf (hc:X.calm=true):cW X (.builtin "all") nV:=by
 rintro pins s σ H xs us Q I r ⟨F,ds,K,sub,rd,q,md⟩;unfold nV at q;split at q
 ·rename_i es
  split at q
  ·rename_i bs e
   obtain⟨v,rfl,a,vs,rfl,h1,h2⟩:=c8 rd;rw[G3 e] at h2;rw[G4 h2] at h1;exact Pk hc pins s σ H _ us Q I r ⟨a,bs,rfl,bz.of h1,md _ _ _ q (fun _ _ e=>e) rfl⟩
  ·exact q.elim
 ·exact q.elim
theorem G6 (hc:X.calm=true):cW X (.builtin "min") vg:=by
 rintro pins s σ H xs us Q I r ⟨F,ds,K,sub,rd,q,md⟩;unfold vg at q;split at q
 ·rename_i i j
  obtain⟨v,w,rfl,h1,h2⟩:=G5 rd;have h1:v = .int i:=h1;have h2:w = .int j:=h2;subst h1 h2;refine MZ hc pins s σ H _ us Q I r ⟨i,j,rfl,?_⟩;have:(if j < i then j else i)=min i j:=by split<;>omega
  rw[this];exact md _ _ _ q (fun _ _ e=>e) rfl
 ·exact q.elim
theorem Qg (hc:X.calm=true):cW X (.builtin "max") xK:=by
 rintro pins s σ H xs us Q I r ⟨F,ds,K,sub,rd,q,md⟩;unfold xK at q;split at q
 ·rename_i i j
  obtain⟨v,w,rfl,h1,h2⟩:=G5 rd;have h1:v = .int i:=h1;have h2:w = .int j:=h2;subst h1 h2;refine MY hc pins s σ H _ us Q I r ⟨i,j,rfl,?_⟩;have:(if j > i then j else i)=max i j:=by split<;>omega
  rw[this];exact md _ _ _ q (fun _ _ e=>e) rfl
 ·exact q.elim
noncomputable def vh (fa:WA):WE:=fun δ K=>fa δ fun xs δ1=>match xs with
 | [.p (.int j)]=>(0 <= j/\j <= 1000)/\K (.p (.lst (cq 0 j.toNat))) δ1
 | _=>False
theorem nW (n:Nat):cq 0 n=(aR n).map D.int:=by
 unfold cq aR;rw[Yj];refine YY fun i _ => ?_;show D.int (0 + (i:Int))=D.int (i:Int);rw[Int.zero_add]
theorem A2 {a:Expr} {fa:WA} {p1 p2 q1 q2:Pos} (hc:X.calm=true) (vi:Gl X "list") (hl:X.mg "list" = none) (vj:bootBuiltins "list" = some (.type "list")) (nX:Gl X "range") (hr:X.mg "range" = none) (nY:bootBuiltins "range" = some (.type "range")) (ha:JA X [a] (cz fa))
  (he:starEach [a] X.env=[(false,eval a X.env)]:=by rfl) (vk:starEach [.Call (.Name "range" p2) [a] [] q2] X.env=[(false,eval (.Call (.Name "range" p2) [a] [] q2) X.env)]:=by rfl):JE X (.Call (.Name "list" p1) [.Call (.Name "range" p2) [a] [] q2] [] q1) (tD (vh fa)) :=
 (pe (Gh hc) vi hl vj (kP (pe Au nX hr nY ha (he:=he)) bN) (he:=vk)).weak fun σ H Q h0_ => el7 h0_ fun F ad δ K S q k =>⟨F,ad,δ,_,S,q,fun xs δ1 h1 vs F1 aP H1 E1 S1 V1=>by
  split at h1
  ·rename_i j
   obtain⟨v,r,e,W1,W2⟩:=V1;have W2:r=[]:=W2;have W1:v = .int j:=W1;subst W2 W1 e;refine⟨j,rfl,fun rr vn=>⟨rr,j.toNat,rfl,by rw[bZ,ZH h1.1.1],by omega,fun l hl => ?_⟩⟩;have s1:aF H1 (upd H1 rr (.rng 0 j)):=c_ vn;have S2:=S1.al s1;have E2:=Ext.al S1 s1;refine k _ _ h1.2 _ _ _ _ ((E1.trans E2).trans (Ext.al S2 (c_ hl))) (S2.al (c_ hl)) ?_;have:Is (Nw (Nw F1 H1 (upd H1 rr (.rng 0 j))) (upd H1 rr (.rng 0 j)) (upd (upd H1 rr (.rng 0 j)) l (.lst ((aR j.toNat).map V.int)))) (.lst ((aR j.toNat).map D.int)) (.ref l):=qV S2.sub hl my;rw[nW];exact this
  ·exact h1.elim⟩
noncomputable def b9 (T:String):D->(D->Prop)->Prop:=fun d K=>K (.bl (aV (cf d) T))
theorem gg {T:String} {t:Str} {a:Expr} {f:WE} {p p2 pos:Pos} (hk:∀ d:D,PySem.W.kitOne X.K (.type (cf d)) (.type T)=some (aV (cf d) T)) (hg:Gl X "isinstance") (hm:X.mg "isinstance" = none) (Qh:Gl X t) (Qi:X.mg t=none) (Qj:bootBuiltins t=some (.type T)) (ha:JE X a (tD f))
  (uD:t ≠ "__name__" := by decide) (jB:(t == ("__debug__" : Str))=false:=by decide) (he:starEach [a,.Name t p2] X.env=(false,eval a X.env) :: starEach [.Name t p2] X.env:=by rfl):JE X (.Call (.Name "isinstance" p) [a,.Name t p2] [] pos) (tD (d1 f (b9 T))) :=
 (w4 Of hg hm PyProof.Rows.boot_isinstance (qD ha (jC (ON Qh Qi Qj (v := .ty T) rfl uD jB) bN) he) (he:=he)).weak fun σ H Q h0_ => el7 h0_ fun F ad δ K S q k =>⟨F,ad,δ,_,S,q,fun x δ1 h1 v F1 aP H1 E1 S1 V1=>by
  obtain⟨d,h2,rd⟩:=j5 S1 V1 h1
  refine⟨v,.ty T,.type T,.type (cf d),_,rfl,rfl,Is.ty (rd.is S1.sub),hk d,k _ _ h2 _ _ _ _ E1 S1 rfl⟩⟩
theorem xM {K:PySem.W.Frag}:∀ d:D,PySem.W.kitOne K (.type (cf d)) (.type "int")=some (aV (cf d) "int"):=fun d=>Oj _ (uG d)
theorem sT {K:PySem.W.Frag}:∀ d:D,PySem.W.kitOne K (.type (cf d)) (.type "bool")=some (aV (cf d) "bool"):=fun d=>Oi _ (uG d)
theorem G7 {K:PySem.W.Frag}:∀ d:D,PySem.W.kitOne K (.type (cf d)) (.type "str")=some (aV (cf d) "str"):=fun d=>Ol _ (uG d)
theorem vo {K:PySem.W.Frag}:∀ d:D,PySem.W.kitOne K (.type (cf d)) (.type "tuple")=some (aV (cf d) "tuple"):=fun d=>kit_tuple _ (uG d)
theorem A3 {K:PySem.W.Frag}:∀ d:D,PySem.W.kitOne K (.type (cf d)) (.type "list")=some (aV (cf d) "list"):=fun d=>Om _ (uG d)
noncomputable def fX (x:DV) (δ : aA) (K:Nat->List D->Prop):Prop:=match x with
 | .o k=>match δ.mu[k]? with
  | some (some (.lst ds))=>K k ds
  | _=>False
 | _=>False
theorem qZ {F H:Hp} {ad:List Addr} {δ : aA} {σ : St} {x:DV} {v:V} {K:Nat->List D->Prop} (S:SR F ad δ σ H) (V1:fw F ad x v) (h:fX x δ K):∃ k ds a vs,x = .o k/\K k ds/\v = .ref a/\ad[k]? = some a/\H a=some (.lst vs)/\ae F ds vs /\ δ.mu[k]? = some (some (.lst ds)):=by
 unfold fX at h;split at h
 ·rename_i k
  split at h
  ·rename_i ds e
   obtain⟨a,e1,rfl⟩:=V1;obtain⟨a',o,e2,e3,vs,rfl,h4⟩:=S.mu k _ e;rw[e1] at e2;cases e2;exact⟨k,ds,a,vs,rfl,h,rfl,e1,e3,h4,e⟩
  ·exact h.elim
 ·exact h.elim
noncomputable def iS (f:WE) (fa:WA):WE:=fun δ K=>f δ fun x δ1=>fX x δ1 fun _ _=>fa δ1 fun ys δ2=>match ys with
 | [y]=>mf y δ2 fun d δ3=>fX x δ3 fun k ds=>ds.length < 1000/\K (.p .non) ⟨δ3.sl,δ3.mu.set k (some (.lst (ds ++ [d])))⟩
 | _=>False
theorem xN {f:WE} {fa:WA} {K0:PySem.W.Frag}:∀ σ H Q,tD (iS f fa) σ H Q->qq K0 "list" wN (tD f) (cz fa) σ H Q:=fun σ H Q h0_ => el7 h0_ fun F ad δ K S q k =>⟨F,ad,δ,_,S,q,fun x δ1 h1 v F1 aP H1 E1 S1 V1=>by
 obtain⟨k0,G8,a,vs,rfl,h2,rfl,e1,e2,i1,m1⟩:=qZ S1 V1 h1;refine⟨.inl ⟨rfl,vs,bz.of e2⟩,F1,aP,δ1,_,S1,h2,fun ys δ2 h3 us F2 bL H2 E2 S2 V2 => ?_⟩
 match ys,h3,V2 with
 | [y],g3,⟨u,r,e,W1,W2⟩ =>
  have W3:r=[]:=W2;subst W3 e;obtain⟨d,δ3,F3,h4,E3,S3,i3⟩:=sN S2 W1 g3;obtain⟨k1,ds,b,ws,ek,h5,eb,e3,e4,i4,m4⟩:=qZ (x := .o k0) S3 ((V1.ext E2).ext E3) h4;cases ek
  have vp:a=b:=by injection eb
  subst vp;have oi:eS F3 (.lst (ds ++ [d])) (.lst (ws ++ [u])):=⟨_,rfl,i4.snoc i3⟩;refine⟨a,ws,u,rfl,rfl,e4,qy (by rw[i4.length];omega),?_⟩;exact k _ _ h5.2 _ _ _ _ (((E1.trans E2).trans E3).trans (Ext.put S3 m4 e3)) (S3.put m4 e3 oi) rfl
 | [],g3,_=>exact g3.elim
 | _ :: _ :: _,g3,_=>exact g3.elim⟩
noncomputable def q9 (f:WE) (fa:WA):WE:=fun δ K=>f δ fun x δ1=>fX x δ1 fun _ _=>fa δ1 fun ys δ2=>match ys with
 | [.p (.lst es)]=>fX x δ2 fun k ds=>ds.length + es.length <= 1000/\K (.p .non) ⟨δ2.sl,δ2.mu.set k (some (.lst (ds ++ es)))⟩
 | _=>False
theorem Qk {f:WE} {fa:WA} {K0:PySem.W.Frag}:∀ σ H Q,tD (q9 f fa) σ H Q->qq K0 "list" Fi (tD f) (cz fa) σ H Q:=fun σ H Q h0_ => el7 h0_ fun F ad δ K S q k =>⟨F,ad,δ,_,S,q,fun x δ1 h1 v F1 aP H1 E1 S1 V1=>by
 obtain⟨k0,G8,a,vs,rfl,h2,rfl,e1,e2,i1,m1⟩:=qZ S1 V1 h1;refine⟨.inl ⟨rfl,vs,bz.of e2⟩,F1,aP,δ1,_,S1,h2,fun ys δ2 h3 us F2 bL H2 E2 S2 V2 => ?_⟩;split at h3
 ·rename_i es
  obtain⟨u,r,e,W1,W2⟩:=V2;have W3:r=[]:=W2;have W4:Is F2 (.lst es) u:=W1;simp only[Is] at W4;obtain⟨b,zs,rfl,z1,z2⟩:=W4;subst W3 e;obtain⟨k1,ds,b',ws,ek,h5,eb,e3,e4,i4,m4⟩:=qZ (x := .o k0) S2 (V1.ext E2) h3;cases ek
  have vp:a=b':=by injection eb
  subst vp;have oi:eS F2 (.lst (ds ++ es)) (.lst (ws ++ zs)):=⟨_,rfl,sR i4 z2⟩;refine⟨a,b,ws,zs,rfl,rfl,e4,S2.sub _ _ z1,kU (by rw[i4.length,z2.length];exact h5.1),?_⟩;exact k _ _ h5.2 _ _ _ _ ((E1.trans E2).trans (Ext.put S2 m4 e3)) (S2.put m4 e3 oi) rfl
 ·exact h3.elim⟩
noncomputable def vq (f:WE) (fa:WA):WE:=fun δ K=>f δ fun x δ1=>fX x δ1 fun _ _=>fa δ1 fun ys δ2=>match ys with
 | [.p (.int i)]=>fX x δ2 fun k ds=>(-(2 ^ 63) <= i/\i < 2 ^ 63)/\match seqIndex? i ds.length with
  | some j=>match ds[j]? with
   | some d=>K (.p d) ⟨δ2.sl,δ2.mu.set k (some (.lst (ds.eraseIdx j)))⟩
   | none=>False
  | none=>False
 | _=>False
theorem G9 {f:WE} {fa:WA} {K0:PySem.W.Frag}:∀ σ H Q,tD (vq f fa) σ H Q->qq K0 "list" Fj (tD f) (cz fa) σ H Q:=fun σ H Q h0_ => el7 h0_ fun F ad δ K S q k =>⟨F,ad,δ,_,S,q,fun x δ1 h1 v F1 aP H1 E1 S1 V1=>by
 obtain⟨k0,G8,a,vs,rfl,h2,rfl,e1,e2,i1,m1⟩:=qZ S1 V1 h1;refine⟨.inl ⟨rfl,vs,bz.of e2⟩,F1,aP,δ1,_,S1,h2,fun ys δ2 h3 us F2 bL H2 E2 S2 V2 => ?_⟩;split at h3
 ·rename_i i
  obtain⟨u,r,e,W1,W2⟩:=V2;have W3:r=[]:=W2;have W4:u = .int i:=W1;subst W3 W4 e;obtain⟨k1,ds,b',ws,ek,⟨h5,h6⟩,eb,e3,e4,i4,m4⟩:=qZ (x := .o k0) S2 (V1.ext E2) h3;cases ek
  have vp:a=b':=by injection eb
  subst vp;split at h6
  ·rename_i j hj
   split at h6
   ·rename_i d hd
    obtain⟨w,g1,g2⟩:=pD i4 hd;have oi:eS F2 (.lst (ds.eraseIdx j)) (.lst (ws.eraseIdx j)):=⟨_,rfl,GS j i4⟩;refine⟨a,ws,i,j,w,rfl,rfl,e4,h5.1,h5.2,by rw[i4.length];exact hj,g1,?_⟩;exact k _ _ h6 _ _ _ _ ((E1.trans E2).trans (Ext.put S2 m4 e3)) (S2.put m4 e3 oi) g2
   ·exact h6.elim
  ·exact h6.elim
 ·exact h3.elim⟩
noncomputable def q_ (f fo fi:WE):WS:=fun K δ => f δ fun x δ1=>fo δ1 fun o δ2=>fi δ2 fun i δ3=>mf x δ3 fun d δ4=>fX o δ4 fun k ds=>match i with
 | .p (.int j)=>match i9 ds.length j with
  | some m=>K.nx ⟨δ4.sl,δ4.mu.set k (some (.lst (ds.set m d)))⟩
  | none=>False
 | _=>False
theorem xO [mj] {f fo fi:WE}:∀ D σ H,dq (q_ f fo fi) D σ H->fQ (tD f) (qe (tD fo) (tD fi) Fc) D σ H:=fun D σ H h0_ => el7 h0_ fun F ad δ K S q k =>⟨F,ad,δ,_,S,q,fun x δ1 h1 v F1 aP H1 E1 S1 V1=>⟨F1,aP,δ1,_,S1,h1,fun o δ2 h2 ov F2 bL H2 E2 S2 V2=>⟨F2,bL,δ2,_,S2,h2,fun i δ3 h3 iv F3 nH H3 E3 S3 V3=>by
 obtain⟨d,δ4,F4,h4,E4,S4,i4⟩:=sN S3 ((V1.ext E2).ext E3) h3;obtain⟨k0,ds,a,vs,rfl,h5,rfl,e1,e2,i1,m1⟩:=qZ S4 ((V2.ext E3).ext E4) h4;split at h5
 ·rename_i j
  split at h5
  ·rename_i m hm
   have V3:iv = .int j:=V3;subst V3;have oi:eS F4 (.lst (ds.set m d)) (.lst (vs.set m v)):=⟨_,rfl,GR m i1 i4⟩;refine⟨a,vs,j,m,rfl,rfl,e2,by rw[i1.length];exact hm,?_⟩;exact k.nx _ h5 _ _ _ _ ((((E1.trans E2).trans E3).trans E4).trans (Ext.put S4 m1 e1)) (S4.put m1 e1 oi)
  ·exact h5.elim
 ·exact h5.elim⟩⟩⟩
end
end L2
namespace L2
open PySem PySem.Spec PyProof.Rows PySem.W
noncomputable abbrev LK:=List Int
noncomputable def kle (a b:LK):Prop:=HT.lexLt b a=false
theorem rh:∀ a:LK,HT.lexLt a a=false
 | []=>rfl
 | x :: r=>by rw[HT.mY,Xs rfl];exact rh r
theorem vt:∀ {a b:LK},HT.lexLt a b=false->HT.lexLt b a=false->a=b
 | [],[],_,_=>rfl
 | [],_ :: _,h,_=>by cases h
 | _ :: _,[],_,h=>by cases h
 | x :: r,y :: s,h,q=>by
  rw[HT.mY] at h q
  by_cases c:x=y
  ·subst c
   rw[Xs rfl] at h q;rw[vt h q]
  ·rw[NM c] at h
   rw[NM (fun z=>c z.symm)] at q;simp at h q;omega
theorem sU:∀ {a b c:LK},HT.lexLt a b=true->HT.lexLt b c=true->HT.lexLt a c=true
 | [],[],_,h,_=>by cases h
 | [],_ :: _,[],_,q=>by cases q
 | [],_ :: _,_ :: _,_,_=>rfl
 | _ :: _,[],_,h,_=>by cases h
 | _ :: _,_ :: _,[],_,q=>by cases q
 | x :: r,y :: s,z :: t,h,q=>by
  rw[HT.mY] at h q ⊢
  by_cases c1:x=y
  ·subst c1
   rw[Xs rfl] at h
   by_cases c2:x=z
   ·subst c2
    rw[Xs rfl] at q ⊢;exact sU h q
   ·rw[NM c2] at q ⊢;exact q
  ·rw[NM c1] at h
   by_cases c2:y=z
   ·subst c2
    rw[NM c1];exact h
   ·rw[NM c2] at q
    have h1:x < y:=by simpa using h
    have h2:y < z:=by simpa using q
    rw[NM (by omega)];simp;omega
theorem kle_refl (a:LK):kle a a:=rh a
theorem sV {a b:LK} (h:HT.lexLt a b=true):kle a b:=by
 unfold kle
 cases q:HT.lexLt b a with
 | false=>rfl
 | true=>have:=sU h q;rw[rh] at this;cases this
theorem kle_trans {a b c:LK} (h1:kle a b) (h2:kle b c):kle a c:=by
 unfold kle at *
 cases q:HT.lexLt c a with
 | false=>rfl
 | true =>
  cases q2:HT.lexLt a b with
  | true=>have:=sU q q2;rw[h2] at this;cases this
  | false =>
   have e:=vt q2 h1;subst e;rw[h2] at q;cases q
theorem Ql {a b:LK} (h1:kle a b) (h2:kle b a):a=b:=vt h2 h1
section
variable {n:Nat} {k:Nat->LK} {I:Shared->Prop} {cmp:Nat->Nat->(Bool->Shared->Prop)->Shared->Prop}
noncomputable def pG (n:Nat) (k:Nat->LK) (I:Shared->Prop) (cmp:Nat->Nat->(Bool->Shared->Prop)->Shared->Prop):Prop :=
 ∀ (i j:Nat) (C:Bool->Shared->Prop) (s:Shared),i < n->j < n->I s->(∀ s',I s'->C (HT.lexLt (k i) (k j)) s')->cmp i j C s
noncomputable def KA (k:Nat->LK) (p:Array Nat) (i:Nat):LK:=k (p.getD i 0)
structure cM (n:Nat) (p:Array Nat):Prop where
 perm:p.Perm (List.range n).toArray
theorem cM.size {p:Array Nat} (h:cM n p):p.size=n:=by have:=h.perm.size_eq;simpa using this
theorem cM.lt {p:Array Nat} (h:cM n p) {i:Nat} (hi:i < n):p.getD i 0 < n:=by
 have hs:=h.size;have e:p.getD i 0=p[i]:=by simp[Array.getD,hs,hi]
 rw[e];have:p[i]∈(List.range n).toArray:=(h.perm.mem_iff).mp (Array.getElem_mem _);simpa using this
theorem vv {p q:Array Nat} {i j:Nat} (h:p[i]? = q[j]?):p.getD i 0=q.getD j 0:=by
 rw[YK,YK,h]
theorem xP {p:Array Nat} {i j:Nat} (hj:j <= p.size) (t:Nat):KA k (kas_rev p i j) t=if i <= t/\t < j then KA k p (i + j - 1 - t) else KA k p t:=by
 have e:=getElem?_mirror_all (xs:=p) (i:=i) hj t;unfold KA kas_rev
 by_cases c:i <= t/\t < j
 ·rw[Xs c] at e ⊢;rw[vv e]
 ·rw[NM c] at e ⊢;rw[vv e]
theorem Qm {p:Array Nat} {src d:Nat} (hs:src < p.size) (hd:d <= src) (t:Nat) :
  KA k (bubble p src d) t=if t=src - d then KA k p src else if src - d < t/\t <= src then KA k p (t - 1) else KA k p t:=by
 have e:=getElem?_bubble hs d hd t;unfold KA
 by_cases c:t=src - d
 ·rw[Xs c] at e ⊢;rw[vv e]
 ·rw[NM c] at e ⊢
  by_cases c2:src - d < t/\t <= src
  ·rw[Xs c2] at e ⊢;rw[vv e]
  ·rw[NM c2] at e ⊢;rw[vv e]
noncomputable def Up (k:Nat->LK) (p:Array Nat) (m:Nat):Prop:=∀ i j,i <= j->j < m->kle (KA k p i) (KA k p j)
noncomputable def Dn (k:Nat->LK) (p:Array Nat) (m:Nat):Prop:=∀ i j,i <= j->j < m->kle (KA k p j) (KA k p i)
theorem Up.snoc {p:Array Nat} {m:Nat} (h:Up k p m) (hm:1 <= m) (q:kle (KA k p (m - 1)) (KA k p m)):Up k p (m + 1):=fun i j iC hj=>by
 by_cases c:j < m
 ·exact h i j iC c
 ·have e:j=m:=by omega
  subst e
  by_cases c2:i=j
  ·subst c2;exact kle_refl _
  ·exact kle_trans (h i (j - 1) (by omega) (by omega)) q
theorem Dn.snoc {p:Array Nat} {m:Nat} (h:Dn k p m) (hm:1 <= m) (q:kle (KA k p m) (KA k p (m - 1))):Dn k p (m + 1):=fun i j iC hj=>by
 by_cases c:j < m
 ·exact h i j iC c
 ·have e:j=m:=by omega
  subst e
  by_cases c2:i=j
  ·subst c2;exact kle_refl _
  ·exact kle_trans q (h i (j - 1) (by omega) (by omega))
theorem Up.one {p:Array Nat}:Up k p 1:=fun i j iC hj=>by
 have:i=j:=by omega
 subst this;exact kle_refl _
theorem Dn.one {p:Array Nat}:Dn k p 1:=fun i j iC hj=>by
 have:i=j:=by omega
 subst this;exact kle_refl _
theorem cM.rev {p:Array Nat} (h:cM n p) (i j:Nat):cM n (kas_rev p i j):=⟨(mirror_perm _ _ _ _).trans h.perm⟩
theorem cM.Qn {p:Array Nat} (h:cM n p) (i j:Nat):cM n (bubble p i j):=⟨(bubble_perm _ _ _).trans h.perm⟩
theorem G_ (hc:pG n k I cmp) {p:Array Nat} (hp:cM n p):∀ (f m:Nat) (s:Shared) (Q:Nat->Shared->Prop),1 <= m->m + f=n->Up k p m->I s →
  (∀ m' s',m <= m'->m' <= n->Up k p m'->I s'->Q m' s')->(kas_asc p f m).kasWp cmp Q s
 | 0,m,s,Q,h1,h2,up,hi,fin=>fin m s (uu _) (by omega) up hi
 | f + 1,m,s,Q,h1,h2,up,hi,fin=>by
  show cmp _ _ _ s;refine hc _ _ _ s (hp.lt (by omega)) (hp.lt (by omega)) hi fun s' bS => ?_
  cases q:HT.lexLt (k (p.getD m 0)) (k (p.getD (m - 1) 0)) with
  | true=>dsimp only;rw[Xs rfl];exact fin m s' (uu _) (by omega) up bS
  | false =>
   dsimp only;rw[NM X8];exact G_ hc hp f (m + 1) s' Q (by omega) (by omega) (up.snoc h1 q) bS fun m' iJ a b c d=>fin m' iJ (by omega) b c d
noncomputable def A4 (k:Nat->LK) (p:Array Nat) (m q:Nat):Prop:=∀ t,m - (q + 1) <= t->t < m->KA k p t=KA k p (m - 1)
theorem Ha {p:Array Nat} {m q:Nat} (hs:m <= p.size) (hq:q + 1 <= m) (e:A4 k p m q) (t:Nat):KA k (kas_rev p (m - (q + 1)) m) t=KA k p t:=by
 rw[xP hs];split
 ·rename_i c
  rw[e _ (by omega) (by omega),e t c.1 c.2]
 ·rfl
theorem Dn.congr {p p':Array Nat} {m:Nat} (h:Dn k p m) (e:∀ t,KA k p' t=KA k p t):Dn k p' m:=fun i j a b=>by rw[e,e];exact h i j a b
theorem xQ (hc:pG n k I cmp):∀ (f:Nat) (p:Array Nat) (m q:Nat) (s:Shared) (Q:Array Nat × Nat × Nat->Shared->Prop),cM n p->1 <= m->m + f=n->q + 1 <= m->Dn k p m->A4 k p m q->I s →
  (∀ p' m' q' s',cM n p'->m <= m'->m' <= n->q' + 1 <= m'->Dn k p' m'->A4 k p' m' q'->I s'->Q (p',m',q') s')->(kas_desc f p m q).kasWp cmp Q s
 | 0,p,m,q,s,Q,hp,h1,h2,hq,dn,es,hi,fin=>fin p m q s hp (uu _) (by omega) hq dn es hi
 | f + 1,p,m,q,s,Q,hp,h1,h2,hq,dn,es,hi,fin=>by
  show cmp _ _ _ s;refine hc _ _ _ s (hp.lt (by omega)) (hp.lt (by omega)) hi fun s' bS => ?_;have sz:=hp.size
  cases c1:HT.lexLt (k (p.getD m 0)) (k (p.getD (m - 1) 0)) with
  | true =>
   dsimp only;rw[Xs rfl];have st:kle (KA k p m) (KA k p (m - 1)):=sV c1
   by_cases Hb:q > 0
   ·rw[Xs Hb]
    have e:=Ha (k:=k) (p:=p) (m:=m) (q:=q) (by omega) hq es;refine xQ hc f _ (m + 1) 0 s' Q (hp.rev _ _) (by omega) (by omega) (by omega) ((dn.snoc h1 st).congr e) (fun t a b => ?_) bS fun p' m' q' iJ a b c d e g i=>fin p' m' q' iJ a (by omega) c d e g i;have:t=m + 1 - 1:=by omega
    rw[this]
   ·rw[NM Hb]
    refine xQ hc f p (m + 1) 0 s' Q hp (by omega) (by omega) (by omega) (dn.snoc h1 st) (fun t a b => ?_) bS fun p' m' q' iJ a b c d e g i=>fin p' m' q' iJ a (by omega) c d e g i;have:t=m + 1 - 1:=by omega
    rw[this]
  | false =>
   dsimp only;rw[NM X8];show cmp _ _ _ s';refine hc _ _ _ s' (hp.lt (by omega)) (hp.lt (by omega)) bS fun s2 lh => ?_
   cases c2:HT.lexLt (k (p.getD (m - 1) 0)) (k (p.getD m 0)) with
   | true=>dsimp only;rw[Xs rfl];exact fin p m q s2 hp (uu _) (by omega) hq dn es lh
   | false =>
    dsimp only;rw[NM X8];have eq:KA k p m=KA k p (m - 1):=vt c1 c2;refine xQ hc f p (m + 1) (q + 1) s2 Q hp (by omega) (by omega) (by omega) (dn.snoc h1 (by rw[eq];exact kle_refl _)) (fun t a b => ?_) lh fun p' m' q' iJ a b c d e g i=>fin p' m' q' iJ a (by omega) c d e g i;show KA k p t=KA k p m
    by_cases z:t=m
    ·rw[z]
    ·rw[es t (by omega) (by omega),eq]
theorem Dn.rev {p:Array Nat} {m:Nat} (h:Dn k p m) (hs:m <= p.size):Up k (kas_rev p 0 m) m:=fun i j iC hj=>by
 rw[xP hs,xP hs,Xs ⟨Yy _,by omega⟩,Xs ⟨Yy _,hj⟩];exact h _ _ (by omega) (by omega)
theorem Hc (hc:pG n k I cmp) {p:Array Nat} (hp:cM n p) {m:Nat} {s:Shared} {Q:Nat × Array Nat->Shared->Prop} (h1:1 <= m) (hm:m <= n) (dn:Dn k p m) (hi:I s)
  (fin:∀ p' m' s',cM n p'->1 <= m'->m' <= n->Up k p' m'->I s'->Q (m',p') s'):(kas_tail3 m n p).kasWp cmp Q s:=by
 unfold kas_tail3;rw[KasT.kasWp_bind];have sz:=hp.size;refine G_ hc (hp.rev 0 m) (n - m) m s _ h1 (by omega) (dn.rev (by omega)) hi fun m' s' a b c d => ?_;exact fin _ m' s' (hp.rev 0 m) (by omega) b c d
theorem Hd (hc:pG n k I cmp) {p:Array Nat} (hp:cM n p) {m:Nat} {s:Shared} {Q:Nat × Array Nat->Shared->Prop} (h1:1 <= m) (hm:m + 1 <= n) (dn:Dn k p (m + 1)) (hi:I s)
  (fin:∀ p' m' s',cM n p'->1 <= m'->m' <= n->Up k p' m'->I s'->Q (m',p') s'):(kas_descPart m n p).kasWp cmp Q s:=by
 unfold kas_descPart;rw[KasT.kasWp_bind];refine xQ hc (n - (m + 1)) p (m + 1) 0 s _ hp (by omega) (by omega) (by omega) dn (fun t a b => ?_) hi fun p' m' q' s' a b c d e g i => ?_
 ·have:t=m + 1 - 1:=by omega
  rw[this]
 ·have sz:=a.size
  dsimp only
  by_cases hq:q' > 0
  ·rw[Xs hq]
   exact Hc hc (a.rev _ _) (by omega) c (e.congr (Ha (by omega) d g)) i fin
  ·rw[NM hq]
   exact Hc hc a (by omega) c e i fin
theorem Qo (hc:pG n k I cmp) {p:Array Nat} (hp:cM n p) {s:Shared} {Q:Nat × Array Nat->Shared->Prop} (h1:1 <= n) (hi:I s)
  (fin:∀ p' m' s',cM n p'->1 <= m'->m' <= n->Up k p' m'->I s'->Q (m',p') s'):(kas_count n p).kasWp cmp Q s:=by
 unfold kas_count;rw[KasT.kasWp_bind];have sz:=hp.size
 have key:∀ (f m:Nat) (s:Shared) (Q':Nat->Shared->Prop),1 <= m->m + f=n->Up k p m->I s →
   (∀ m' s',m <= m'->m' <= n->Up k p m'->(m' < n->HT.lexLt (KA k p m') (KA k p (m' - 1))=true)->I s'->Q' m' s')->(kas_asc p f m).kasWp cmp Q' s:=by
  intro f
  induction f with
  | zero=>intro m s Q' a b up hi fin;exact fin m s (uu _) (by omega) up (fun z=>absurd z (by omega)) hi
  | succ f ih =>
   intro m s Q' a b up hi fin;show cmp _ _ _ s;refine hc _ _ _ s (hp.lt (by omega)) (hp.lt (by omega)) hi fun s' bS => ?_
   cases q:HT.lexLt (k (p.getD m 0)) (k (p.getD (m - 1) 0)) with
   | true=>dsimp only;rw[Xs rfl];exact fin m s' (uu _) (by omega) up (fun _=>q) bS
   | false =>
    dsimp only;rw[NM X8];exact ih (m + 1) s' Q' (by omega) (by omega) (up.snoc a q) bS fun m' iJ a b c d e=>fin m' iJ (by omega) b c d e
 refine key (n - 1) 1 s _ (uu _) (by omega) Up.one hi fun m s' a b up nx bS => ?_
 by_cases c1:m=n
 ·subst c1
  rw[Xs (by simp)];exact fin p m s' hp a (uu _) up bS
 ·rw[NM (by simpa using c1)]
  have c5:m < n:=by omega
  have nx:=nx c5
  by_cases c2:m > 1
  ·rw[Xs c2]
   show cmp _ _ _ s';refine hc _ _ _ s' (hp.lt (by omega)) (hp.lt (by omega)) bS fun s2 lh => ?_
   cases q:HT.lexLt (k (p.getD 0 0)) (k (p.getD (m - 1) 0)) with
   | true=>dsimp only;rw[Xs rfl];exact fin p m s2 hp a b up lh
   | false =>
    dsimp only;rw[NM X8]
    have al:∀ t,t < m->KA k p t=KA k p (m - 1):=fun t ht=>by
     refine Ql (up t (m - 1) (by omega) (by omega)) (kle_trans q (up 0 t (Yy _) ht))
    have e:∀ t,KA k (kas_rev p 0 m) t=KA k p t:=fun t=>by
     rw[xP (by omega)];split
     ·rename_i c;rw[al _ (by omega),al t c.2]
     ·rfl
    refine Hd hc (hp.rev 0 m) (by omega) (by omega) (Dn.congr (p:=p) ?_ e) lh fin;refine Dn.snoc (fun i j iC hj => ?_) (by omega) (sV nx);rw[al i (by omega),al j hj];exact kle_refl _
  ·rw[NM c2]
   have:m=1:=by omega
   subst this;exact Hd hc hp (by omega) (by omega) (Dn.one.snoc (uu _) (sV nx)) bS fin
theorem A5 (hc:pG n k I cmp) {p:Array Nat} (hp:cM n p) {t:Nat} (ht:t < n) (up:Up k p t):∀ (f l r:Nat) (s:Shared) (Q:Nat->Shared->Prop),l <= r->r <= t->r - l <= f →
  (∀ i,i < l->kle (KA k p i) (KA k p t))->(∀ i,r <= i->i < t->kle (KA k p t) (KA k p i))->I s →
  (∀ l' s',l' <= t->(∀ i,i < l'->kle (KA k p i) (KA k p t))->(∀ i,l' <= i->i < t->kle (KA k p t) (KA k p i))->I s'->Q l' s')->(kas_place p t f l r).kasWp cmp Q s
 | 0,l,r,s,Q,h1,h2,h3,lo,sW,hi,fin=>by
  have:l=r:=by omega
  subst this;exact fin l s h2 lo sW hi
 | f + 1,l,r,s,Q,h1,h2,h3,lo,sW,hi,fin=>by
  unfold kas_place
  by_cases c:l ≥ r
  ·rw[Xs c]
   have:l=r:=by omega
   subst this;exact fin l s h2 lo sW hi
  ·rw[NM c]
   show cmp _ _ _ s;refine hc _ _ _ s (hp.lt ht) (hp.lt (by omega)) hi fun s' bS => ?_
   cases q:HT.lexLt (k (p.getD t 0)) (k (p.getD ((l + r) / 2) 0)) with
   | true =>
    dsimp only;rw[Xs rfl];refine A5 hc hp ht up f l ((l + r) / 2) s' Q (by omega) (by omega) (by omega) lo (fun i a b => ?_) bS fin;exact kle_trans (sV q) (up _ _ a b)
   | false =>
    dsimp only;rw[NM X8];refine A5 hc hp ht up f ((l + r) / 2 + 1) r s' Q (by omega) h2 (by omega) (fun i a => ?_) sW bS fin;exact kle_trans (up i ((l + r) / 2) (by omega) (by omega)) q
theorem He (hc:pG n k I cmp):∀ (f:Nat) (p:Array Nat) (t:Nat) (s:Shared) (Q:Array Nat->Shared->Prop),cM n p->t + f=n->Up k p t->I s →
  (∀ p' s',cM n p'->Up k p' n->I s'->Q p' s')->(kas_bin f p t).kasWp cmp Q s
 | 0,p,t,s,Q,hp,h2,up,hi,fin=>by
  have:t=n:=by omega
  subst this;exact fin p s hp up hi
 | f + 1,p,t,s,Q,hp,h2,up,hi,fin=>by
  unfold kas_bin;rw[KasT.kasWp_bind];have sz:=hp.size;refine A5 hc hp (by omega) up t 0 t s _ (Yy _) (uu _) (by omega) (fun i a=>absurd a (by omega)) (fun i a b=>absurd b (by omega)) hi fun l s' hl lo sW bS => ?_;refine He hc f _ (t + 1) s' Q (hp.Qn _ _) (by omega) (fun i j iC hj => ?_) bS fin;have kb:=fun x=>Qm (k:=k) (p:=p) (src:=t) (d:=t - l) (by omega) (by omega) x;have el:t - (t - l)=l:=by omega
  rw[kb i,kb j,el]
  by_cases c1:i=l
  ·subst c1
   rw[Xs rfl]
   by_cases c2:j=i
   ·rw[Xs c2];exact kle_refl _
   ·rw[NM c2,Xs ⟨by omega,by omega⟩]
    exact sW (j - 1) (by omega) (by omega)
  ·rw[NM c1]
   by_cases c2:j=l
   ·subst c2
    rw[Xs rfl,NM (by omega)];exact lo i (by omega)
   ·rw[NM c2]
    by_cases c3:l < i/\i <= t
    ·rw[Xs c3,Xs ⟨by omega,by omega⟩]
     exact up _ _ (by omega) (by omega)
    ·rw[NM c3]
     by_cases c4:l < j/\j <= t
     ·rw[Xs c4];exact up _ _ (by omega) (by omega)
     ·rw[NM c4];exact up _ _ iC (by omega)
theorem Hf (hc:pG n k I cmp) {s:Shared} {Q:Array Nat->Shared->Prop} (h1:1 <= n) (hi:I s) (fin:∀ p s',cM n p->Up k p n->I s'->Q p s'):(kas_sort n).kasWp cmp Q s:=by
 unfold kas_sort;rw[KasT.kasWp_bind];refine Qo hc ⟨q1Q _⟩ h1 hi fun p m s' a b c d e => ?_;dsimp only
 by_cases q:m < n
 ·rw[Xs q]
  have:max m 1=m:=by omega
  rw[this];exact He hc (n - m) p m s' Q a (by omega) d e fin
 ·rw[NM q]
  have:m=n:=by omega
  subst this;exact fin p s' a d e
end
end L2
namespace L2
open PySem PySem.Spec PyProof.Rows
theorem Hg {δ0:aA} {bE:aA->Prop} {g:WG} {b:WS} {K:KS} (I:Nat->aA->Prop):∀ (items:List D) (i:Nat) (δ : aA),I i δ →
  (∀ j d δ (L:aA->Prop),items[j]? = some d->I (i + j) δ -> (∀ δ',I (i + j + 1) δ'->L δ')->bE δ /\ g (.p d) δ fun δ1=>b { nx:=fun δ2=>L (δ0.trim δ2),ct:=fun δ2=>L (δ0.trim δ2),bk:=K.nx,rt:=K.rt } δ1) →
  (∀ δ,I (i + items.length) δ -> bE δ /\ K.nx δ)->kZ δ0 bE g b K items δ
 | [],i,δ,h,_,fin=>fin δ h
 | d :: r,i,δ,h,st,fin=>by
  unfold kZ;refine st 0 d δ (fun δ'=>kZ δ0 bE g b K r δ') rfl h fun δ' hi => ?_;refine Hg I r (i + 1) _ hi (fun j e δ L hj hI hL => ?_) fun δ hI => ?_
  ·have e:i + 1 + j=i + (j + 1):=by omega
   rw[e] at hI hL;exact st (j + 1) _ δ L (by simpa using hj) hI hL
  ·exact fin δ (by rw[Fq];have e:i + 1 + r.length=i + (r.length + 1):=by omega
                   rw[e] at hI;exact hI)
theorem mz {δ0:aA} {bE:aA->Prop} {g:WG} {b:WS} {K:KS} {items:List D} {δ : aA} (I:Nat->aA->Prop) (h0:I 0 δ)
  (st:∀ j d δ (L:aA->Prop),items[j]? = some d->I j δ -> (∀ δ',I (j + 1) δ'->L δ')->bE δ /\ g (.p d) δ fun δ1=>b { nx:=fun δ2=>L (δ0.trim δ2),ct:=fun δ2=>L (δ0.trim δ2),bk:=K.nx,rt:=K.rt } δ1)
  (fin:∀ δ,I items.length δ -> bE δ /\ K.nx δ):kZ δ0 bE g b K items δ :=
 Hg I items 0 δ h0 (fun j d δ L hj hI hL=>by rw[Yu] at hI hL;exact st j d δ L hj hI hL) fun δ hI=>by rw[Yu] at hI;exact fin δ hI
noncomputable def vw (δ0:aA) (bE:aA->Prop) (g:WG) (t:WT) (f:WE) (d:D) (acc:List D) (δ : aA) (L:List D->aA->Prop):Prop :=
 bE δ /\ g (.p d) δ fun δ1=>t δ1 fun b δ2=>if b=true then f δ2 fun x δ3=>mf x δ3 fun e δ4=>acc.length < 1000/\L (acc ++ [e]) (δ0.trim δ4) else L acc (δ0.trim δ2)
theorem Hh {δ0:aA} {bE:aA->Prop} {g:WG} {t:WT} {f:WE} {K:List D->aA->Prop} (I:Nat->List D->aA->Prop):∀ (items:List D) (i:Nat) (acc:List D) (δ : aA),I i acc δ →
  (∀ j d acc δ (L:List D->aA->Prop),items[j]? = some d->I (i + j) acc δ -> (∀ cF δ',I (i + j + 1) cF δ'->L cF δ')->vw δ0 bE g t f d acc δ L) →
  (∀ acc δ,I (i + items.length) acc δ -> bE δ /\ K acc δ)->jf δ0 bE g t f K items acc δ
 | [],i,acc,δ,h,_,fin=>fin acc δ h
 | d :: r,i,acc,δ,h,st,fin=>by
  unfold jf;refine st 0 d acc δ (fun cF δ'=>jf δ0 bE g t f K r cF δ') rfl h fun cF δ' hi => ?_;refine Hh I r (i + 1) cF _ hi (fun j e acc δ L hj hI hL => ?_) fun acc δ hI => ?_
  ·have e:i + 1 + j=i + (j + 1):=by omega
   rw[e] at hI hL;exact st (j + 1) _ acc δ L (by simpa using hj) hI hL
  ·exact fin acc δ (by rw[Fq];have e:i + 1 + r.length=i + (r.length + 1):=by omega
                       rw[e] at hI;exact hI)
theorem A6 {δ0:aA} {bE:aA->Prop} {g:WG} {t:WT} {f:WE} {K:List D->aA->Prop} {items:List D} {δ : aA} (I:Nat->List D->aA->Prop) (h0:I 0 [] δ)
  (st:∀ j d acc δ (L:List D->aA->Prop),items[j]? = some d->I j acc δ -> (∀ cF δ',I (j + 1) cF δ'->L cF δ')->vw δ0 bE g t f d acc δ L)
  (fin:∀ acc δ,I items.length acc δ -> bE δ /\ K acc δ):jf δ0 bE g t f K items [] δ :=
 Hh I items 0 [] δ h0 (fun j d acc δ L hj hI hL=>by rw[Yu] at hI hL;exact st j d acc δ L hj hI hL) fun acc δ hI=>by rw[Yu] at hI;exact fin acc δ hI
theorem nZ {δ0:aA} {bE:aA->Prop} {g:WG} {t:WT} {f:WE} {K:List D->aA->Prop} {items:List D} (p:D->Bool) (fn:D->D) (hl:items.length <= 1000) (hc:bE δ0)
  (st:∀ d∈items,∀ acc (L:List D->aA->Prop),acc.length < 1000->(p d=true->L (acc ++ [fn d]) δ0)->(p d=false->L acc δ0)->vw δ0 bE g t f d acc δ0 L)
  (fin:K ((items.filter p).map fn) δ0):jf δ0 bE g t f K items [] δ0:=by
 refine A6 (fun i acc δ => δ = δ0/\acc=((items.take i).filter p).map fn) ⟨rfl,rfl⟩ ?_ ?_
 ·rintro j d acc δ L hj ⟨rfl,rfl⟩ hL
  have c5:=(sA.mp hj).1;have hm:d∈items:=Yf hj
  have hn:(((items.take j).filter p).map fn).length < 1000:=by
   rw[qx];have:=q0h p (items.take j);rw[Yr] at this;omega
  have e:items.take (j + 1)=items.take j ++ [d]:=by rw[ZP,hj];rfl
  refine st d hm _ L hn (fun q=>hL _ _ ⟨rfl,?_⟩) (fun q=>hL _ _ ⟨rfl,?_⟩)
  ·rw[e,List.filter_append,Yt];simp[List.filter,q]
  ·rw[e,List.filter_append,Yt];simp[List.filter,q]
 ·rintro acc δ ⟨rfl,rfl⟩
  rw[Yv (uu _)];exact⟨hc,fin⟩
theorem j8 {δ0:aA} {bE:aA->Prop} {g:WG} {t:WT} {f:WE} {K:List D->aA->Prop} {items:List D} (fn:D->D) (hl:items.length <= 1000) (hc:bE δ0)
  (st:∀ d∈items,∀ acc (L:List D->aA->Prop),acc.length < 1000->L (acc ++ [fn d]) δ0->vw δ0 bE g t f d acc δ0 L)
  (fin:K (items.map fn) δ0):jf δ0 bE g t f K items [] δ0 :=
 nZ (fun _=>true) fn hl hc (fun d hd acc L ha h _=>st d hd acc L ha (h rfl)) (by rw[List.filter_eq_self.mpr fun _ _=>rfl];exact fin)
end L2
namespace LJ
open PySem L2
theorem vx:bootBuiltins "range" = some (.type "range"):=by decide +kernel
theorem A7:bootBuiltins "max" = some (.builtin "max"):=by decide +kernel
theorem Hi:bootBuiltins "min" = some (.builtin "min"):=by decide +kernel
theorem vy:bootBuiltins "sorted" = some (.builtin "sorted"):=by decide +kernel
structure BT (mg:Str->Option Value):Prop where
 len:mg "len" = none
 range:mg "range" = none
 list:mg "list" = none
 tuple:mg "tuple" = none
 set:mg "set" = none
 sorted:mg "sorted" = none
 min:mg "min" = none
 max:mg "max" = none
 sum:mg "sum" = none
 all:mg "all" = none
 any:mg "any" = none
 enumerate:mg "enumerate" = none
 zip:mg "zip" = none
 isinstance:mg "isinstance" = none
 int:mg "int" = none
 bool:mg "bool" = none
 str:mg "str" = none
end LJ
namespace L2
open PySem PySem.Spec PyProof.Rows
variable [aK]
noncomputable def Hj (X:Cx) (f:Value) (g:List D->(List D->Prop)->Prop):Prop :=
 gu X f fun xs H Q=>∃ F ds K,aF F H/\g8 F H ds xs/\g ds K/\∀ zs vs a,K zs->H a=none->ae F zs vs->Q (.ref a) (upd H a (.lst vs))
noncomputable def xR (fa:WA) (op:List D->(List D->Prop)->Prop):WE:=fun δ K=>fa δ fun xs δ1=>kR xs δ1 fun ds=>op ds fun zs=>K (.o δ1.mu.length) ⟨δ1.sl,δ1.mu ++ [some (.lst zs)]⟩
noncomputable def xS:List D->(List D->Prop)->Prop
 | [.lst ds],K=>match intsOf ds with
  | some ns=>ns.length < 64/\K ((sortI ns).map D.int)
  | none=>False
 | _,_=>False
section
variable {X:Cx} {fa:WA} {pos:Pos}
theorem xT {F H:Hp} {ad:List Addr} {δ : aA} {σ : St} {p:Addr} (S:SR F ad δ σ H):fw F (ad ++ [p]) (.o δ.mu.length) (.ref p) :=
 ⟨p,by rw[<-S.cy,X7 (uu _),YI];rfl,rfl⟩
theorem Qp {r:List V->Hp->VK->Prop} {op:List D->(List D->Prop)->Prop} (hr:∀ xs H Q,(∃ F ds K,aF F H/\g8 F H ds xs/\op ds K/\∀ zs vs a,K zs->H a=none->ae F zs vs->Q (.ref a) (upd H a (.lst vs)))->r xs H Q):∀ σ H Q,tD (xR fa op) σ H Q->sk r (cz fa) σ H Q:=by
 rintro σ H Q ⟨F,ad,δ,K,S,q,k⟩;refine⟨F,ad,δ,_,S,q,fun xs δ1 h1 vs F1 aP H1 E1 S1 V1=>hr _ _ _ ?_⟩;obtain⟨ds,h2,qG⟩:=xa S1 V1 h1;refine⟨F1,ds,_,S1.sub,qG,h2,fun zs us a hz hp is => ?_⟩;have oi:eS F1 (.lst zs) (.lst us):=⟨us,rfl,is⟩;exact k _ _ hz _ _ _ _ (E1.trans (Ext.own S1 hp)) (S1.own hp oi) (xT S1)
theorem Qq {x:Str} {p:Pos} {e:Expr} {es:List Expr} {id:String} {o:List D->(List D->Prop)->Prop} (hc:Hj X (.builtin id) o) (hg:Gl X x) (hm:X.mg x=none) (hv:bootBuiltins x=some (.builtin id)) (ha:JA X (e :: es) (cz fa)) (hn:x ≠ "__name__" := by decide) (eM:(x == ("__debug__" : Str))=false:=by decide)
  (he:starEach (e :: es) X.env=(false,eval e X.env) :: starEach es X.env:=by rfl) (eE:(backTo pos (starEach es X.env)).any (·.1)=false:=by rfl):JE X (.Call (.Name x p) (e :: es) [] pos) (tD (xR fa o)) :=
 (w4 hc hg hm hv ha hn eM he eE).weak (Qp fun _ _ _ h=>h)
theorem Qr:Hj X (.builtin "sorted") xS:=by
 rintro pins s σ H xs us Q I r ⟨F,ds,K,sub,rd,q,md⟩;unfold xS at q;split at q
 ·rename_i es
  split at q
  ·rename_i ns e
   obtain⟨v,rfl,a,vs,rfl,h1,h2⟩:=c8 rd;rw[u7 e] at h2;rw[nU h2] at h1;refine Gj pins s σ H _ us Q I r ⟨a,ns,rfl,bz.of h1,q.1,fun l fG pm pw hl => ?_⟩;rw[G1 pm pw];exact md _ _ _ q.2 hl my
  ·exact q.elim
 ·exact q.elim
noncomputable def A8 (fa:WA):WE:=fun δ K=>fa δ fun xs δ1=>match xs with
 | [.p (.int j)]=>(0 <= j/\j <= 1000)/\K (.o δ1.mu.length) ⟨δ1.sl,δ1.mu ++ [some (.lst (cq 0 j.toNat))]⟩
 | _=>False
theorem Qs {a:Expr} {p1 p2 q1 q2:Pos} (hc:X.calm=true) (vi:Gl X "list") (hl:X.mg "list" = none) (vj:bootBuiltins "list" = some (.type "list")) (nX:Gl X "range") (hr:X.mg "range" = none) (nY:bootBuiltins "range" = some (.type "range")) (ha:JA X [a] (cz fa))
  (he:starEach [a] X.env=[(false,eval a X.env)]:=by rfl) (vk:starEach [.Call (.Name "range" p2) [a] [] q2] X.env=[(false,eval (.Call (.Name "range" p2) [a] [] q2) X.env)]:=by rfl):JE X (.Call (.Name "list" p1) [.Call (.Name "range" p2) [a] [] q2] [] q1) (tD (A8 fa)) :=
 (pe (Gh hc) vi hl vj (kP (pe Au nX hr nY ha (he:=he)) bN) (he:=vk)).weak fun σ H Q h0_ => el7 h0_ fun F ad δ K S q k =>⟨F,ad,δ,_,S,q,fun xs δ1 h1 vs F1 aP H1 E1 S1 V1=>by
  split at h1
  ·rename_i j
   obtain⟨v,r,e,W1,W2⟩:=V1;have W2:r=[]:=W2;have W1:v = .int j:=W1;subst W2 W1 e;refine⟨j,rfl,fun rr vn=>⟨rr,j.toNat,rfl,by rw[bZ,ZH h1.1.1],by omega,fun l hl => ?_⟩⟩;have s1:aF H1 (upd H1 rr (.rng 0 j)):=c_ vn;have S2:=S1.al s1;have E2:=Ext.al S1 s1;have oi:eS (Nw F1 H1 (upd H1 rr (.rng 0 j))) (.lst (cq 0 j.toNat)) (.lst ((aR j.toNat).map V.int)):=⟨_,rfl,by rw[nW];exact my⟩;exact k _ _ h1.2 _ _ _ _ ((E1.trans E2).trans (Ext.own S2 hl)) (S2.own hl oi) (xT S2)
  ·exact h1.elim⟩
noncomputable def A9 (f g:WE):WE:=fun δ K=>f δ fun x δ1=>g δ1 fun y δ2=>g7 x δ2 fun d=>g7 y δ2 fun e=>match d,e with
 | .lst a,.lst b=>a.length + b.length <= 1000/\K (.o δ2.mu.length) ⟨δ2.sl,δ2.mu ++ [some (.lst (a ++ b))]⟩
 | _,_=>False
theorem Qt {a b:Expr} {f g:WE} (ha:JE X a (tD f)) (hb:JE X b (tD g)):JE X (.BinOp a .Add b pos) (tD (A9 f g)) :=
 (uL Fm ha hb).weak fun σ H Q h0_ => el7 h0_ fun F ad δ K S q k =>⟨F,ad,δ,_,S,q,fun x δ1 h1 v1 F1 aP H1 E1 S1 V1=>⟨F1,aP,δ1,_,S1,h1,fun y δ2 h2 v2 F2 bL H2 E2 S2 V2=>by
  obtain⟨d,h3,rd⟩:=j5 S2 (V1.ext E2) h2;obtain⟨e,h4,re⟩:=j5 S2 V2 h3;split at h4
  ·rename_i as bs
   obtain⟨a,us,rfl,g1,g2⟩:=rd;obtain⟨b,ws,rfl,g3,g4⟩:=re;have oi:eS F2 (.lst (as ++ bs)) (.lst (us ++ ws)):=⟨_,rfl,sR g2 g4⟩;exact⟨a,b,us,ws,rfl,rfl,g1,g3,kU (by rw[g2.length,g4.length];exact h4.1),fun p hp=>k _ _ h4.2 _ _ _ _ ((E1.trans E2).trans (Ext.own S2 hp)) (S2.own hp oi) (xT S2)⟩
  ·exact h4.elim⟩⟩
theorem A_ [mj] {st:Stmt}:JS X st (dq uV):=⟨fun pins s D σ H I q=>by obtain⟨F,ad,δ,K,S,q,k⟩:=q;exact q.elim⟩
end
end L2
namespace LJS
open PySem PySem.SetTable PyProof.Rows
section
variable {prog:Program} {w:World} {A:Around} {S:Addr} {ks:List Int}
end
end LJS
namespace L2
open PySem PySem.Spec PyProof.Rows
section
variable {X:Cx}
end
end L2
namespace LJS
open PySem PySem.SetTable PyProof.Rows
noncomputable def fY (m:Nat) (p:Probe):Probe :=
 if p.more > 0 then { p with j:=p.j + 1,more:=p.more - 1 } else
 { p with j:=(leap m p.i p.perturb).1,more:=runEnd m (leap m p.i p.perturb).1 - (leap m p.i p.perturb).1,i:=(leap m p.i p.perturb).1,perturb:=(leap m p.i p.perturb).2 }
theorem Hk (t:SetTable) (p:Probe):t.advance p=fY t.mask p:=rfl
noncomputable def bU (m:Nat):Nat->Probe->Probe
 | 0,p=>p
 | k + 1,p=>bU m k (fY m p)
theorem xU (m:Nat):∀ (a b:Nat) (p:Probe),bU m (a + b) p=bU m b (bU m a p)
 | 0,b,p=>by rw[Yu];rfl
 | a + 1,b,p=>by rw[show a + 1 + b=a + b + 1 by omega];exact xU m a b (fY m p)
noncomputable def stM (m i q:Nat):Probe:=⟨i,runEnd m i - i,i,q,none⟩
noncomputable def startM (m:Nat) (h:Int):Probe:=stM m (bits h % (m + 1)) (bits h)
theorem Ba (m:Nat):∀ (l:Nat) (p:Probe),l <= p.more->bU m l p={ p with j:=p.j + l,more:=p.more - l }
 | 0,p,_=>rfl
 | l + 1,p,h=>by
  show bU m l (fY m p)=_;have e:fY m p={ p with j:=p.j + 1,more:=p.more - 1 }:=by unfold fY;rw[Xs (by omega)]
  rw[e,Ba m l _ (by show l <= p.more - 1;omega)];congr 1<;>(dsimp only;omega)
theorem Hl (m i q:Nat):bU m (runEnd m i - i + 1) (stM m i q)=stM m (leap m i q).1 (leap m i q).2:=by
 rw[xU m (runEnd m i - i) 1,Ba m (runEnd m i - i) (stM m i q) (uu _)];show fY m _=_;unfold fY;rw[NM (by show ¬ (runEnd m i - i - (runEnd m i - i) > 0);omega)];rfl
theorem Hm {m i:Nat} (h:i <= m):runEnd m i <= m/\i <= runEnd m i:=by unfold runEnd;split<;>omega
noncomputable def pH (m:Nat) (p:Probe):Prop:=p.j + p.more <= m
theorem Qu {m:Nat} {p:Probe} (h:pH m p):pH m (fY m p):=by
 unfold fY pH;split
 ·rename_i c;have:p.j + p.more <= m:=h;dsimp only;omega
 ·have:=Hm (D7 m p.i p.perturb)
  dsimp only;omega
theorem Hn {m:Nat}:∀ (k:Nat) {p:Probe},pH m p->pH m (bU m k p)
 | 0,_,h=>h
 | k + 1,_,h=>Hn k (Qu h)
theorem Qv (m:Nat) (h:Int):pH m (startM m h):=by
 have h0:bits h % (m + 1) <= m:=q0i (Nat.mod_lt _ (q03 _));have:=Hm h0;unfold startM stM pH;dsimp only;omega
theorem Ho (m:Nat) (h:Int) (k:Nat):(bU m k (startM m h)).j <= m:=by
 have:=Hn k (Qv m h);unfold pH at this;omega
noncomputable def pJ (m:Nat) (xV:Nat->Prop) (h:Int) (j:Nat):Prop:=∃ k,k < 10 * turns m/\(bU m k (startM m h)).j=j/\∀ l,l < k->xV (bU m l (startM m h)).j
theorem pJ.mono {m:Nat} {xV vz:Nat->Prop} {h:Int} {j:Nat} (r:pJ m xV h j) (k:∀ x,x <= m->xV x->vz x):pJ m vz h j:=by
 obtain⟨n,h1,h2,h3⟩:=r;exact⟨n,h1,h2,fun l hl=>k _ (Ho m h l) (h3 l hl)⟩
theorem Hq {m:Nat} {owner:Array (Option Nat)}:∀ (F i q j:Nat),layClean.free m owner F i q=some j->∃ k,k < 10 * F/\(bU m k (stM m i q)).j=j/\∀ l,l < k->(owner.getD (bU m l (stM m i q)).j (some 0)).isSome=true
 | 0,i,q,j,h=>by unfold layClean.free at h;cases h
 | F + 1,i,q,j,h=>by
  rw[yV] at h;have r9:=Ea m i;have ri:i <= runEnd m i:=by unfold runEnd;split<;>omega
  have lj:∀ l,l <= runEnd m i - i->(bU m l (stM m i q)).j=i + l:=fun l hl=>by rw[Ba m l _ hl];rfl
  split at h
  ·rename_i k0 hk
   cases h
   have h1:=q0W hk;have h2:=Yq.mp (q1e hk);refine⟨k0,by omega,lj k0 (by omega),fun l hl => ?_⟩;rw[lj l (by omega)]
   have h3:∀ l,l < k0->¬ (owner.getD (i + l) (some 0)).isNone=true:=by
    intro l hl hn;obtain⟨as,bs,e,hb⟩:=List.find?_eq_some_iff_append.mp hk |>.2
    have hlen:as.length=k0:=by
     have:=congrArg (fun x=>x[as.length]?) e;simp at this
     have h5:as.length < runEnd m i + 1 - i:=by
      have:=congrArg List.length e;simp at this;omega
     rw[YM h5] at this;exact Yh this
    have:l∈as:=by
     have h6:=congrArg (fun x=>x[l]?) e;simp only[X1 (show l < as.length by omega)] at h6;rw[YM (by omega)] at h6;exact Yf h6.symm
    have:=hb l this;rw[hn] at this;exact absurd this (by decide)
   have:=h3 l hl
   cases q:owner.getD (i + l) (some 0) with
   | none=>rw[q] at this;exact absurd rfl this
   | some _=>rfl
  ·rename_i hk
   have h1:=q06.mp hk;obtain⟨k,XC,Qw,Qx⟩:=Hq F _ _ j h;refine⟨runEnd m i - i + 1 + k,by omega,by rw[xU,Hl];exact Qw,fun l hl => ?_⟩
   by_cases c:l <= runEnd m i - i
   ·rw[lj l c]
    have:=h1 l (Yq.mpr (by omega))
    cases q:owner.getD (i + l) (some 0) with
    | none=>rw[q] at this;exact absurd rfl this
    | some _=>rfl
   ·have:=Qx (l - (runEnd m i - i + 1)) (by omega)
    rw[show l=runEnd m i - i + 1 + (l - (runEnd m i - i + 1)) by omega,xU,Hl];exact this
section
variable {t:SetTable} {f:Nat->Int} {h:Int}
theorem Hr (u:Up t.place) {i:Nat} (hi:i < t.place.size):t.slot t.place[i] = .live i:=by
 obtain⟨h0,h1,h2⟩:=wC u t.place[i];have a:¬ i < below t.place t.place[i]:=fun z=>by have:=h1 i hi z;omega
 have b:¬ below t.place t.place[i] < i:=fun z=>by
  have:=h2 (below t.place t.place[i]) (by omega) (uu _);have:=u.lt z hi;omega
 have eb:below t.place t.place[i]=i:=by omega
 unfold slot;rw[eb];have:(t.place[i]? == some t.place[i])=true:=by rw[X_ hi];simp
 simp only[this,Z0]
theorem Hs (hd:t.dummies = #[]):∀ (F:Nat) (p:Probe) (j:Nat) (d:Option Nat),probe.go t f h F p=some (.empty j d)->∃ k,k < F/\(bU t.mask k p).j=j/\∀ l,l < k->(bU t.mask l p).j∈t.place.toList
 | 0,p,j,d,e=>by unfold probe.go at e;cases e
 | F + 1,p,j,d,e=>by
  rw[pX] at e;rcases tQ hd p.j with q | ⟨i,q,hi,hm⟩
  ·rw[q] at e
   cases e
   exact⟨0,q03 _,rfl,fun l hl=>absurd hl (Nat.not_lt_zero _)⟩
  ·rw[q] at e
   dsimp only at e;split at e
   ·cases e
   ·obtain⟨k,h1,h2,h3⟩:=Hs hd F _ j d e
    rw[Hk] at h2 h3;refine⟨k + 1,by omega,h2,fun l hl => ?_⟩
    cases l with
    | zero=>exact hm
    | succ l=>exact h3 l (by omega)
theorem Ht (hd:t.dummies = #[]) (u:Up t.place):∀ (k F:Nat) (p:Probe) (i0:Nat),k < F->t.slot (bU t.mask k p).j = .live i0->f i0=h->(∀ l,l < k->(bU t.mask l p).j∈t.place.toList)->∃ j i nx,probe.go t f h F p=some (.candidate j i nx)/\f i=h/\i < t.place.size
 | k,0,p,i0,hk,_,_,_=>absurd hk (Nat.not_lt_zero _)
 | 0,F + 1,p,i0,_,hs,hf,_=>by
  rw[pX,show t.slot p.j = .live i0 from hs];dsimp only;rw[Xs (by rw[hf];simp)];refine⟨_,_,_,rfl,hf,?_⟩;rcases tQ hd p.j with q | ⟨i,q,hi,_⟩
  ·rw[show t.slot p.j = .live i0 from hs] at q;cases q
  ·rw[show t.slot p.j = .live i0 from hs] at q;cases q;exact hi
 | k + 1,F + 1,p,i0,hk,hs,hf,ho=>by
  have hm:=ho 0 (q03 _);obtain⟨i,hi,ei⟩:=Y2.mp hm;have bS:i < t.place.size:=by rw[<-Fu];exact hi
  have y0:t.place[i]=p.j:=by simpa [bU] using ei
  have sl:=Hr u bS;rw[y0] at sl;rw[pX,sl];dsimp only
  by_cases c:f i=h
  ·rw[Xs (by rw[c];simp)]
   exact⟨_,_,_,rfl,c,bS⟩
  ·rw[NM (by simpa using c),Hk]
   exact Ht hd u k F _ i0 (by omega) hs hf fun l hl=>ho (l + 1) (by omega)
end
noncomputable def rp (owner:Array (Option Nat)) (j:Nat):Prop:=∃ k,owner[j]? = some (some k)
structure sX (m:Nat) (hs:List Int) (owner:Array (Option Nat)) (k:Nat):Prop where
 ow:Ow m owner k
 sY:∀ (j i:Nat),owner[j]? = some (some i)->∃ h,hs[i]? = some h/\pJ m (rp owner) h j
theorem Hu {owner:Array (Option Nat)} {j k x:Nat} (h:rp owner x):rp (owner.setIfInBounds j (some k)) x:=by
 obtain⟨i,e⟩:=h;have hx:=(Y1.mp e).1
 by_cases c:j=x
 ·subst c
  exact⟨k,by rw[q0c];simp[hx]⟩
 ·exact⟨i,by rw[q0c];simp[c];exact e⟩
theorem Qy {m:Nat} {hs:List Int} {owner:Array (Option Nat)} {k:Nat} (hm:Mk m) (O:sX m hs owner k) (hk:k <= m) {h:Int} (hh:hs[k]? = some h) :
  ∃ j,layClean.free m owner (turns m) (bits h % (m + 1)) (bits h)=some j/\sX m hs (owner.setIfInBounds j (some k)) (k + 1):=by
 obtain⟨j,ej,O'⟩:=Lp hm O.ow hk h;refine⟨j,ej,O',fun x i e => ?_⟩;rw[q0c] at e
 by_cases c:j=x
 ·subst c
  have Qz:j < owner.size:=by
   by_cases z:j < owner.size
   ·exact z
   ·simp[z] at e
  simp[Qz] at e;subst e;refine⟨h,hh,?_⟩;obtain⟨n,n1,n2,n3⟩:=Hq _ _ _ _ ej;refine⟨n,n1,n2,fun l hl=>Hu ?_⟩;have iz:=n3 l hl;have le:=Ho m h l;have c5:(bU m l (startM m h)).j < owner.size:=by rw[O.ow.size];omega
  have vA:(owner.getD (bU m l (startM m h)).j (some 0)).isSome=true:=iz;rw[show owner.getD (bU m l (startM m h)).j (some 0)=owner[(bU m l (startM m h)).j] by simp[Array.getD,c5]] at vA;obtain⟨v,hv⟩:=Zv.mp vA;exact⟨v,by rw[X_ c5,hv]⟩
 ·simp[c] at e
  obtain⟨h',e1,e2⟩:=O.sY x i e;exact⟨h',e1,e2.mono fun y _ hy=>Hu hy⟩
theorem Hv {m:Nat} (hm:Mk m) {all:List Int}:∀ (hs:List Int) (owner:Array (Option Nat)) (k:Nat),sX m all owner k->all.drop k=hs->k + hs.length <= m + 1 →
  ∃ aX,(hs.foldl (init:=some (owner,k)) fun acc h=>do
   let (owner,k) <- acc
   let j <- layClean.free m owner (turns m) (bits h % (m + 1)) (bits h)
   pure (owner.setIfInBounds j (some k),k + 1))=some (aX,k + hs.length)/\sX m all aX (k + hs.length)
 | [],owner,k,O,_,_=>⟨owner,rfl,O⟩
 | h :: hs,owner,k,O,hd,hl=>by
  rw[Fq] at hl ⊢
  have hk:k < all.length:=by
   have:=congrArg List.length hd;rw[Zt,Fq] at this;omega
  rw[ZR hk] at hd;have hh:all[k]? = some h:=by rw[qv hk];exact congrArg some (q1k hd).1
  obtain⟨j,ej,O'⟩:=Qy hm O (by omega) hh;obtain⟨o2,e2,O2⟩:=Hv hm hs _ (k + 1) O' (q1k hd).2 (by omega);refine⟨o2,?_,by rw[show k + (hs.length + 1)=k + 1 + hs.length by omega];exact O2⟩;rw[ZS,show k + (hs.length + 1)=k + 1 + hs.length by omega,<-e2];congr 1;show (do let j <- layClean.free m owner (turns m) (bits h % (m + 1)) (bits h);pure (owner.setIfInBounds j (some k),k + 1))=_;rw[ej];rfl
theorem QA (m:Nat) (hs:List Int):sX m hs (Array.replicate (m + 1) none) 0:=by
 refine⟨Ee m,fun j i e => ?_⟩;rw[Array.getElem?_replicate] at e;split at e<;>cases e
theorem QB {m:Nat} (hm:Mk m) (hs:Array Int) (hz:hs.size <= m + 1):∃ owner,layClean m hs=some owner/\sX m hs.toList owner hs.size:=by
 obtain⟨o,e,O⟩:=Hv hm hs.toList _ 0 (QA m hs.toList) rfl (by rw[Fu];omega);rw[Yu,Fu] at O;refine⟨o,?_,O⟩;unfold layClean;rw[<-Array.foldl_toList,e];rfl
theorem QC {m:Nat} (hm:Mk m) (t:SetTable) (hs:Array Int) (wanted:Nat) (hw:sizeAbove wanted - 1=m) (hz:hs.size <= m + 1) :
  ∃ t' order,t.relaid hs wanted=some (t',order)/\t'.mask=m/\t'.dummies = #[]/\t'.place.size=hs.size/\Up t'.place/\order.size=hs.size/\order.toList.Perm (List.range hs.size) ∧
   ∀ (i j k:Nat),t'.place[i]? = some j->order[i]? = some k->∃ h,hs[k]? = some h/\pJ m (· ∈ t'.place.toList) h j:=by
 obtain⟨owner,e,O⟩:=QB hm hs hz;obtain⟨aX,e',_,OP⟩:=LI hm hs hz;have:aX=owner:=Yh (e'.symm.trans e);subst this;refine⟨{ mask:=m,place:=((iZ m aX).map (·.1)).toArray,dummies := #[],finger:=t.finger,led:=t.led,moves:=t.movedTo m,plain:=t.plain },((iZ m aX).map (·.2)).toArray,?_,rfl,rfl,?_,LB m aX,?_,?_,fun i j k h1 h2 => ?_⟩
 ·unfold relaid laid
  rw[hw,e];rfl
 ·rw[wO,qx,Ef O.ow]
 ·rw[wO,qx,Ef O.ow]
 ·show ((iZ m aX).map (·.2)).Perm _
  rw[LL O.ow.size];exact OP
 ·have h1:((iZ m aX).map (·.1))[i]? = some j:=by simpa using h1
  have h2:((iZ m aX).map (·.2))[i]? = some k:=by simpa using h2
  rw[My] at h1 h2;obtain⟨z,Hw,rfl⟩:=Xt.mp h1;obtain⟨z',Hx,rfl⟩:=Xt.mp h2;rw[Hw] at Hx;cases Hx;have zm:=Yf Hw
  have own:∀ z∈iZ m aX,aX[z.1]? = some (some z.2):=fun z hz=>by
   unfold iZ at hz;obtain⟨j',rq,QD⟩:=ZM.mp hz;obtain⟨k',xW,rfl⟩:=Xt.mp QD;have:j' < aX.size:=by rw[O.ow.size];exact Yq.mp rq
   rw[show aX.getD j' none=aX[j'] by simp[Array.getD,this]] at xW;rw[X_ this,xW]
  obtain⟨h,e1,e2⟩:=O.sY _ _ (own z zm);refine⟨h,by rw[<-Yg];exact e1,e2.mono fun x hx QE => ?_⟩;obtain⟨kx,Hy⟩:=QE;show x∈(iZ m aX).map (·.1);refine X0.mpr ⟨(x,kx),?_,rfl⟩;unfold iZ;refine ZM.mpr ⟨x,Yq.mpr (by omega),?_⟩;have QF:=(Y1.mp Hy).1;rw[show aX.getD x none=aX[x] by simp[Array.getD,QF],(Y1.mp Hy).2];rfl
structure n5 (hk:Nat->Int) (ad:Nat->Addr) (t:SetTable) (es:Array (Int × Value)) (js:List Nat):Prop where
 P:fL t es (js.map hk)
 up:Up t.place
 rA:(js.map hk).Nodup
 el:∀ e∈es.toList,∃ j∈js,e=(hk j,Value.ref (ad j))
 all:∀ j∈js,∃ e∈es.toList,e.1=hk j
 sY:∀ (i:Nat) (e:Int × Value) (j:Nat),es[i]? = some e->t.place[i]? = some j->pJ t.mask (· ∈ t.place.toList) e.1 j
noncomputable def gE (hk:Nat->Int) (ad:Nat->Addr) (h:Heap) (S:Addr) (js:List Nat):Prop:=∃ o es ep t,h.get? S=some o/\o.ExactSet/\o.data = .set es ep t/\n5 hk ad t es js
theorem Hz {hk:Nat->Int} {ad:Nat->Addr} {h h':Heap} {S:Addr} {js:List Nat} (x:gE hk ad h S js) (k:∀ o,h.get? S=some o->h'.get? S=some o):gE hk ad h' S js:=by
 obtain⟨o,es,ep,t,ho,r⟩:=x;exact⟨o,es,ep,t,k o ho,r⟩
theorem HA {α : Type} {xs:Array α} {p:Nat} {x : α} (hp:p <= xs.size) (i:Nat):(insertAt xs p x)[i]? = if i < p then xs[i]? else if i=p then some x else xs[i - 1]? := by
 have e:(insertAt xs p x).toList=xs.toList.take p ++ x :: xs.toList.drop p:=by
  unfold insertAt;simp only[Array.toList_append,q0C,Array.toList_extract,q1d,q0D,q1y,ZC,List.singleton_append];rw[Yv (l:=xs.toList.drop p) (by rw[Zt,Fu];exact uu _)]
 rw[<-Yg,e];have hl:(xs.toList.take p).length=p:=by rw[Yr,Fu];omega
 by_cases c:i < p
 ·rw[Xs c,X1 (by omega),YA c,Yg]
 ·rw[NM c,X7 (by omega),hl]
  by_cases c2:i=p
  ·rw[Xs c2,c2,YI];rfl
  ·rw[NM c2]
   obtain⟨d,rfl⟩:∃ d,i=p + 1 + d:=⟨i - p - 1,by omega⟩;rw[show p + 1 + d - p=d + 1 by omega,ZF,List.getElem?_drop,Yg];congr 1;omega
theorem QG {α : Type} {es:Array α} {order:Array Nat} (h:∀ k∈order.toList,k < es.size) (i:Nat):(order.filterMap (es[·]?))[i]? = (order[i]?).bind fun k=>es[k]? := by
 have:∀ l:List Nat,(∀ k∈l,k < es.size)->∀ i:Nat,(l.filterMap fun k=>es[k]?)[i]? = (l[i]?).bind fun k=>es[k]? := by
  intro l
  induction l with
  | nil=>intro _ i;simp
  | cons k r ih =>
   intro hk i;have mB:=hk k NO;rw[q0n];rw[X_ mB];dsimp only
   cases i with
   | zero=>simp[X_ mB]
   | succ i=>simpa using ih (fun k' d9=>hk k' (Xu _ d9)) i
 have e:=this order.toList h i;rw[<-Yg,Z7,e,Yg]
section
variable {hk:Nat->Int} {ad:Nat->Addr} {t:SetTable} {es:Array (Int × Value)} {js:List Nat}
theorem n5.found (T:n5 hk ad t es js) {h:Int} (hm:h∈js.map hk):∃ j i nx,t.probe (fun i=>(es[i]?.map (·.1)).getD 0) h (t.probeStart h)=some (.candidate j i nx)/\∃ e,es[i]? = some e/\e.1=h:=by
 obtain⟨j,hj,rfl⟩:=X0.mp hm;obtain⟨e,he,e1⟩:=T.all j hj;obtain⟨i,hi,ei⟩:=Y2.mp he;have bS:i < es.size:=by rw[<-Fu];exact hi
 have ee:es[i]? = some e:=by rw[X_ bS];exact congrArg some (by simpa using ei)
 have hp:i < t.place.size:=by rw[T.P.oZ];exact bS
 have r:=T.sY i e _ ee (X_ hp);rw[e1] at r;obtain⟨k,k1,k2,k3⟩:=r;have sl:=Hr T.up hp;obtain⟨j',i',nx,h1,h2,h3⟩:=Ht (t:=t) (f:=fun i=>(es[i]?.map (·.1)).getD 0) (h:=hk j) T.P.tT T.up k (10 * turns t.mask) (startM t.mask (hk j)) i k1 (by rw[k2];exact sl) (by rw[ee];exact e1) k3;refine⟨j',i',nx,h1,?_⟩;have c5:i' < es.size:=by rw[<-T.P.oZ];exact h3
 exact⟨es[i'],X_ c5,by have:=h2;rw[X_ c5] at this;exact this⟩
end
section
variable {prog:Program} {w:World} {A:Around} {E:Value->Shared->Prop} {s:Shared} {ad:Nat->Addr} {ks:Nat->List Int} {js:List Nat} {S:Addr}
noncomputable abbrev aJ (prog:Program) (w:World) (ks:Nat->List Int) (j:Nat):Int:=hT prog w (ks j)
theorem HB {k:List Int} {a:Addr} {Q:Bool->Shared->Prop} (hk:IsTupleKey (intKind prog w) s.heap k a) (h:Q false s):wpAny (model prog w) A (ofAClassStatement 8 (.ref a)) Q E s:=by
 have hT:=hk.typeIs;obtain⟨o,aq,n,ho,_,hd,hi⟩:=hk;show wpAny _ _ (ofAClassStatement (7 + 1) (.ref a)) _ _ _;unfold ofAClassStatement;refine ni (q1A hT ?_);dsimp only;refine ni ?_;refine zR ?_;simp only[Zu,Ye,YS];refine ni (YN ho hd ?_);dsimp only;refine ni ?_;show wpAny _ _ (forIn aq _ _) _ _ s;rw[<-q0v];refine Z2 _ (fun rest r s'=>s'=s/\r=(none,PUnit.unit)/\∀ v∈rest,∃ i t,v=Value.int i t) _ ?_ ?_ _ _ ⟨rfl,rfl,Eh hi⟩
 ·rintro v rest r s' ⟨rfl,rfl,dI⟩
  obtain⟨i,t,rfl⟩:=dI v NO;have e:ofAClassStatement 7 (.int i t)=pure false:=by unfold ofAClassStatement;rfl
  rw[e];refine ni (zR ?_);simp only[Ye,YS];exact zR ⟨rfl,rfl,fun u hu=>dI u (Xu _ hu)⟩
 ·rintro r s' ⟨rfl,rfl,_⟩
  exact zR h
theorem QH {k:List Int} {a:Addr} {Q:Bool->Shared->Prop} {stored:List Value} (hx:IsTupleKey (intKind prog w) s.heap k a) (hy:∀ y∈stored,∃ k' b,y=Value.ref b/\IsTupleKey (intKind prog w) s.heap k' b) (h:Q false s):wpAny (model prog w) A (searchCouldBeSeen (.ref a) stored) Q E s:=by
 unfold searchCouldBeSeen;refine ni ?_;refine Z2 _ (fun rest r s'=>s'=s/\r=(none,PUnit.unit)/\∀ y∈rest,∃ k' b,y=Value.ref b/\IsTupleKey (intKind prog w) s.heap k' b) _ ?_ ?_ _ _ ⟨rfl,rfl,hy⟩
 ·rintro v rest r s' ⟨rfl,rfl,dI⟩
  obtain⟨k',b,rfl,hb⟩:=dI v NO;have pK:∀ y∈rest,∃ k' b,y=Value.ref b/\IsTupleKey (intKind prog w) s'.heap k' b:=fun u hu=>dI u (Xu _ hu);dsimp only;refine wpAny_ite_split (fun _=>zR ⟨rfl,rfl,pK⟩) (fun _ => ?_);refine ni (wpAny_eqIsQuiet_tuple hx ?_);simp only[Zu,Ye,YS];refine ni (wpAny_eqIsQuiet_tuple hb ?_);simp only[Zu,Ye,YS];refine ni (HB hx ?_);simp only[Ye,YS];refine ni (HB hb ?_);simp only[Ye,YS];exact zR ⟨rfl,rfl,pK⟩
 ·rintro r s' ⟨rfl,rfl,_⟩
  exact zR h
theorem QI {i:Nat} {o:Obj} {es:Array (Int × Value)} {ep:Nat} {t:SetTable} {Q:SetFound->Shared->Prop} (ho:s.heap.get? S=some o) (hd:o.data = .set es ep t) (T:n5 (aJ prog w ks) ad t es js) (hu:A.units < cLine)
  (keys:∀ j∈i :: js,IsTupleKey (intKind prog w) s.heap (ks j) (ad j)) (inj:∀ j∈js,aJ prog w ks j=aJ prog w ks i->ks j=ks i) (hm:aJ prog w ks i∈js.map (aJ prog w ks))
  (k:Q (.there none) s):wpAny (model prog w) A (setSearch S (.ref (ad i)) (aJ prog w ks i) true) Q E s:=by
 unfold setSearch;show wpAny _ _ (setSearchFrom S (.ref (ad i)) (aJ prog w ks i) true (99999 + 1) none) _ _ _;unfold setSearchFrom;refine ni (ZY ho hd T.P.fits ?_);dsimp only;rw[T.P.tV];simp only[Ye,↓reduceIte];obtain⟨j',i',nx,ej,e,ee,eh⟩:=T.found hm;simp only[q0O];generalize hP:t.probe _ (aJ prog w ks i) (t.probeStart (aJ prog w ks i))=P;have eP:P=some (.candidate j' i' nx):=hP.symm.trans ej;rw[eP];dsimp only;have em:e∈es.toList:=Yf (by rw[Yg];exact ee);obtain⟨j,hj,rfl⟩:=T.el e em;have ek:=inj j hj eh;have kx:=keys i NO;have ky:=keys j (Xu _ hj)
 have tail:wpAny (model prog w) A (do
   let some (_,y):=es[i']? | unsupported "internal:set-entry"
   let equal <- holding [y] (eqBool y (.ref (ad i)))
   let (t6,_,t') <- setState S
   if true && equal then return SetFound.there none
   let some same:=t'.sameMemory t.moves t.mask | unsupported "set.changed-during-lookup:is-the-new-block-at-the-old-address"
   let vB <- match (if same then t'.slot j' else .empty) with
    | .live i'=>match t6[i']? with
     | some (_,y')=>do pure (if <- isSame y' y then some i' else none)
     | none=>pure none
    | _=>pure none
   match vB with
   | none=>rule "set.search.anew";setSearchFrom S (.ref (ad i)) (aJ prog w ks i) true 99999 none
   | some i'=>if equal then return SetFound.there (some i') else setSearchFrom S (.ref (ad i)) (aJ prog w ks i) true 99999 (some nx)) Q E s:=by
  rw[ee];dsimp only;refine ni (Yp (wpAny_eqBool_tuple hu ky kx ?_));refine ni (ZY ho hd T.P.fits ?_);dsimp only;rw[NN ek];exact zR k
 refine wpAny_ite_split (fun _ => ?_) (fun _=>tail);refine ni (QH kx (fun y hy => ?_) ?_)
 ·obtain⟨z,hz,rfl⟩:=X0.mp hy
  have Bb:z∈es.toList:=by
   have:=q0T.mp hz;exact q0T.mpr (Array.mem_filter.mp this).1
  obtain⟨q,hq,rfl⟩:=T.el z Bb;exact⟨_,_,rfl,keys q (Xu _ hq)⟩
 ·exact tail
theorem QJ {i:Nat} {Q:Bool->Shared->Prop} (hS:gE (aJ prog w ks) ad s.heap S js) (hl:js.length < 60) (hu:A.units < cLine)
  (keys:∀ j∈i :: js,IsTupleKey (intKind prog w) s.heap (ks j) (ad j)) (inj:∀ j∈js,aJ prog w ks j=aJ prog w ks i->ks j=ks i)
  (k:∀ (b:Bool) h',Heap.SameBut S s.heap h'->gE (aJ prog w ks) ad h' S (if aJ prog w ks i∈js.map (aJ prog w ks) then js else js ++ [i])->Q b { s with heap:=h' }) :
  wpAny (model prog w) A (setAddHashed S (.ref (ad i)) (aJ prog w ks i)) Q E s:=by
 obtain⟨o,es,ep,t,ho,hex,hd,T⟩:=hS;unfold setAddHashed;refine Yp ?_;show wpAny _ _ (setAddHashedIn S (.ref (ad i)) (aJ prog w ks i) (99999 + 1)) _ _ _;unfold setAddHashedIn;refine ni (ZY ho hd T.P.fits ?_);have hb:byScan (.ref (ad i)) es=false:=by unfold byScan;rfl
 dsimp only;rw[hb];simp only[Ye,↓reduceIte]
 by_cases hm:aJ prog w ks i∈js.map (aJ prog w ks)
 ·refine ni (QI ho hd T hu keys inj hm ?_)
  dsimp only;refine zR ?_;have e:s={ s with heap:=s.heap }:=by cases s;rfl
  rw[e];exact k false s.heap (Heap.SameBut.refl S s.heap) (by rw[Xs hm];exact⟨o,es,ep,t,ho,hex,hd,T⟩)
 rw[NM hm] at k;have kx:=keys i NO;have hz:t.place.size <= t.mask:=by have:=T.P.lt;rw[T.P.oZ];omega
 obtain⟨j0,Bc⟩:=Lo (t:=t) (f:=fun i=>(es[i]?.map (·.1)).getD 0) (h:=aJ prog w ks i) T.P.tT T.P.tU hz (fun i' bS z=>by
  rw[T.P.oZ] at bS;rw[X_ bS] at z
  exact hm (by rw[<-show es[i'].1=aJ prog w ks i from z];exact T.P.ins _ (q1h bS)))
 have nj:j0∉t.place.toList:=LC T.up (yZ Bc);have rj:pJ t.mask (· ∈ t.place.toList) (aJ prog w ks i) j0:=Hs T.P.tT _ _ _ _ Bc
 have sf:wpAny (model prog w) A (setSearch S (.ref (ad i)) (aJ prog w ks i) true) (fun r s'=>r = .free j0 false/\s'=s) E s:=by
  unfold setSearch;show wpAny _ _ (setSearchFrom S (.ref (ad i)) (aJ prog w ks i) true (99999 + 1) none) _ _ _;unfold setSearchFrom;refine ni (ZY ho hd T.P.fits ?_);dsimp only;rw[T.P.tV];simp only[Ye,↓reduceIte];simp only[q0O];generalize hP:t.probe _ (aJ prog w ks i) (t.probeStart (aJ prog w ks i))=P;have eP:P=some (.empty j0 none):=hP.symm.trans Bc;rw[eP];exact zR ⟨rfl,rfl⟩
 refine ni (Y3 sf ?_ fun _ _ e=>e);rintro r s' ⟨rfl,rfl⟩;dsimp only;refine ni (ZY ho hd T.P.fits ?_);dsimp only;obtain⟨p1,p2,p3,p4,p5,p6,p7⟩:=Lr t T.P.tT j0;have up1:=Ly T.up nj;have pz:(t.put j0).2 <= t.place.size:=(wC T.up j0).1
 have fin:∀ b:Bool,wpAny (model prog w) A (do
   storeSet S (SetTable.insertAt es (t.put j0).2 (aJ prog w ks i,.ref (ad i))) (if b=true then (t.put j0).1 else { (t.put j0).1 with plain:=false })
   if (!false && (if b=true then (t.put j0).1 else { (t.put j0).1 with plain:=false }:SetTable).tooFull)=true then do
       setRelay S (SetTable.grown (es.size + 1))
       pure true
    else pure true) Q E s':=by
  intro b;generalize jB:(if b=true then (t.put j0).1 else { (t.put j0).1 with plain:=false }:SetTable)=t2;have q1:t2.dummies = #[]:=by rw[<-jB];cases b<;>exact p1
  have q2:t2.mask=t.mask:=by rw[<-jB];cases b<;>exact p2
  have q3:t2.place.size=es.size + 1:=by rw[<-jB,<-T.P.oZ];cases b<;>exact p3
  have q4:t2.place=insertAt t.place (t.put j0).2 j0:=by rw[<-jB];cases b<;>rfl
  have q5:Up t2.place:=by rw[<-jB];cases b<;>exact up1
  have n6:=Ls es (t.put j0).2 (aJ prog w ks i,Value.ref (ad i))
  have xX:(insertAt es (t.put j0).2 (aJ prog w ks i,Value.ref (ad i))).toList.Perm (es.toList ++ [(aJ prog w ks i,Value.ref (ad i))]):=by
   have:=SetTable.insertAt_perm es (t.put j0).2 (aJ prog w ks i,Value.ref (ad i));rw[q0C] at this;exact this
  have QK:t2.place.toList.Perm (t.place.toList ++ [j0]):=by
   rw[q4];have:=SetTable.insertAt_perm t.place (t.put j0).2 j0;rw[q0C] at this;exact this
  have vC:∀ (x:Nat) (e:Int × Value) (j:Nat),(insertAt es (t.put j0).2 (aJ prog w ks i,Value.ref (ad i)))[x]? = some e->t2.place[x]? = some j->pJ t2.mask (· ∈ t2.place.toList) e.1 j:=by
   intro x e j h1 h2;rw[q4,HA pz] at h2;rw[HA (by rw[<-T.P.oZ];exact pz)] at h1;rw[q2];have more:∀ y,y <= t.mask->y∈t.place.toList->y∈t2.place.toList:=fun y _ hy=>QK.mem_iff.mpr (Yz _ hy)
   by_cases c:x < (t.put j0).2
   ·rw[Xs c] at h1 h2
    exact (T.sY x e j h1 h2).mono more
   ·rw[NM c] at h1 h2
    by_cases c2:x=(t.put j0).2
    ·rw[Xs c2] at h1 h2
     cases h1;cases h2
     exact rj.mono more
    ·rw[NM c2] at h1 h2
     exact (T.sY _ e j h1 h2).mono more
  generalize insertAt es (t.put j0).2 (aJ prog w ks i,Value.ref (ad i))=fA at n6 xX vC
  have Bd:∀ e∈fA.toList,∃ j∈js ++ [i],e=(aJ prog w ks j,Value.ref (ad j)):=fun e he=>by
   rcases Ys.mp (xX.mem_iff.mp he) with q | q
   ·obtain⟨j,hj,e1⟩:=T.el e q
    exact⟨j,Yz _ hj,e1⟩
   ·exact⟨i,NK _ NO,Yn.mp q⟩
  have all2:∀ j∈js ++ [i],∃ e∈fA.toList,e.1=aJ prog w ks j:=fun j hj=>by
   rcases Ys.mp hj with q | q
   ·obtain⟨e,he,e1⟩:=T.all j q
    exact⟨e,xX.mem_iff.mpr (Yz _ he),e1⟩
   ·rw[Yn.mp q]
    exact⟨_,xX.mem_iff.mpr (NK _ NO),rfl⟩
  have vD:((js ++ [i]).map (aJ prog w ks)).Nodup:=by
   rw[Yt];exact Ze.mpr ⟨T.rA,by simp,fun a ha b hb z=>hm (by rw[<-Yn.mp hb,<-z];exact ha)⟩
  have vE:∀ e∈fA.toList,e.1∈(js ++ [i]).map (aJ prog w ks):=fun e he=>by
   obtain⟨j,hj,rfl⟩:=Bd e he;exact X0.mpr ⟨j,hj,rfl⟩
  have vF:fA.size=((js ++ [i]).map (aJ prog w ks)).length:=by rw[n6,T.P.num,qx,qx,Fv];rfl
  have XD:es.size < 60:=by rw[T.P.num,qx];exact hl
  refine ni (wpAny_storeSet_of ho hd ?_ (by rw[n6,YR];omega))
  have j9:(s'.heap.update S (Obj.putSet fA t2)).get? S=some { o with data := .set fA (ep + 1) t2 }:=by
   have:=q0g (Obj.putSet fA t2) ho (by rw[putSet_of fA t2 hd];rfl);rw[putSet_of fA t2 hd] at this;exact this
  have fl:t2.fill=es.size + 1:=by unfold SetTable.fill;rw[q1,q3];rfl
  have lt:=T.P.lt
  have vG:t2.fits fA.size=true:=by
   unfold SetTable.fits;rw[fl,q3,n6,q2];simp;rcases T.P.tU with e | e | e<;>rw[e] at lt ⊢ <;> omega
  by_cases tf:t2.tooFull=true
  ·rw[Xs (by rw[tf];rfl)]
   have Be:t.mask * 3 <= (es.size + 1) * 5:=by
    unfold tooFull at tf;rw[fl,q2] at tf;have:=YQ tf;omega
   obtain⟨m,Bf,hw,hsz⟩:∃ m,Mk m/\sizeAbove (grown (es.size + 1)) - 1=m/\(es.size + 1) * 5 < m * 3:=by
    rcases T.P.tU with e | e | e
    ·rw[e] at lt Be
     have:es.size + 1=5:=by omega
     rw[this];exact⟨31,.inr (.inl rfl),Lu,by omega⟩
    ·rw[e] at lt Be
     have:es.size + 1=19:=by omega
     rw[this];exact⟨127,.inr (.inr rfl),Lw,by omega⟩
    ·rw[e] at Be;omega
   refine ni ?_;unfold setRelay;refine ni (ZY j9 rfl vG ?_);dsimp only
   have QL:¬ SetTable.sizeAbove (SetTable.grown (es.size + 1)) > sizeLine:=by
    rw[YR];rcases Bf with e | e | e<;>omega
   rw[NM QL];obtain⟨t3,order,er,r1,r2,r3,r4,r5,r6,r7⟩:=QC Bf t2 (fA.map (·.1)) (grown (es.size + 1)) hw (by rw[q14,n6];omega);rw[er];rw[q14,n6] at r3 r5;rw[q14] at r6;have HC:∀ k∈order.toList,k < fA.size:=fun k hk=>Yq.mp (r6.mem_iff.mp hk);obtain⟨o1,o2⟩:=Lq (es:=fA) (order:=order) HC;have og:=QG (es:=fA) (order:=order) HC;refine ni ?_
   show wpAny _ _ (do
    if (order.filterMap (fA[·]?)).size != fA.size then
     unsupported "internal:set-table-lost-an-element"
    pure (order.filterMap (fA[·]?),t3)) _ _ _
   rw[NM (by rw[o1,r5,n6];simp)];refine zR ?_;dsimp only;refine wpAny_storeSet_of j9 rfl ?_ (by rw[o1,r5,YR];omega)
   have d6:((s'.heap.update S (Obj.putSet fA t2)).update S (Obj.putSet (order.filterMap (fA[·]?)) t3)).get? S=some { o with data := .set (order.filterMap (fA[·]?)) (ep + 1 + 1) t3 }:=by
    have:=q0g (Obj.putSet (order.filterMap (fA[·]?)) t3) j9 (by rw[putSet_of _ t3 rfl];rfl);rw[putSet_of _ t3 rfl] at this;exact this
   refine zR (k true _ ((Yo ..).trans (Yo ..)) ⟨_,_,_,_,d6,hex,rfl,⟨r2,by rw[r1];exact Bf,by rw[r3,o1,r5],by rw[o1,r5,<-n6];exact vF,?_,fun e he=>vE e (o2 e he)⟩,r4,vD,fun e he=>Bd e (o2 e he),fun j hj => ?_,fun x e j h1 h2 => ?_⟩)
   ·unfold tooFull SetTable.fill
    rw[r2,r3,r1];simp;omega
   ·obtain⟨e,he,e1⟩:=all2 j hj
    obtain⟨x,hx,ex⟩:=Y2.mp he;have gz:x < fA.size:=by rw[<-Fu];exact hx
    have:x∈order.toList:=r6.mem_iff.mpr (Yq.mpr gz);refine⟨e,?_,e1⟩;rw[Z7];exact ZM.mpr ⟨x,this,by rw[X_ gz];exact congrArg some (by simpa using ex)⟩
   ·rw[og] at h1
    cases q:order[x]? with
    | none=>rw[q] at h1;cases h1
    | some HD =>
     rw[q] at h1;have h1:fA[HD]? = some e:=h1;obtain⟨hh,g1,g2⟩:=r7 x j HD h2 q;rw[Array.getElem?_map,h1] at g1;cases g1
     rw[r1];exact g2
  ·have HE:t2.tooFull=false:=by cases q:t2.tooFull<;>simp_all
   rw[NM (by rw[HE];decide)];exact zR (k true _ (Yo ..) ⟨_,_,_,_,j9,hex,rfl,⟨q1,by rw[q2];exact T.P.tU,by rw[q3,n6],vF,HE,vE⟩,q5,vD,Bd,all2,vC⟩)
 by_cases hp:(t.put j0).1.plain=true
 ·rw[Xs hp]
  refine ni (LM kx fun b => ?_);exact fin b
 ·rw[NM hp]
  refine ni (zR ?_);exact fin true
end
noncomputable def gT (hk:Nat->Int):Nat->List Nat
 | 0=>[]
 | i + 1=>if hk i∈(gT hk i).map hk then gT hk i else gT hk i ++ [i]
theorem HF (hk:Nat->Int):∀ i,(gT hk i).length <= i
 | 0=>uu _
 | i + 1=>by
  have:=HF hk i;unfold gT;split
  ·omega
  ·rw[Fv,Yi];omega
theorem xY (hk:Nat->Int):∀ i,∀ j∈gT hk i,j < i
 | 0,j,h=>nomatch h
 | i + 1,j,h=>by
  unfold gT at h;split at h
  ·have:=xY hk i j h;omega
  ·rcases Ys.mp h with h | h
   ·have:=xY hk i j h;omega
   ·rw[Yn.mp h];omega
theorem QM {hk:Nat->Int} {ad:Nat->Addr} {h:Heap} {S:Addr} {led:Bool} (e:h.get? S=some (gq led)):gE hk ad h S [] :=
 ⟨_,#[],0,_,e,⟨rfl,rfl,rfl⟩,rfl,⟨rfl,.inl rfl,rfl,rfl,by cases led<;>decide,fun _ h=>nomatch h⟩,List.Pairwise.nil,q1a,(fun _ h=>nomatch h),(fun _ h=>nomatch h),fun i e j h=>by simp at h⟩
section
variable {prog:Program} {w:World} {A:Around} {R:Result->Shared->Prop} {I S:Addr} {fp wr:List Addr} {G:Array GenState->Array GenState->Prop} {n:Nat} {P:Nat->Value->Prop} {St:Nat->Shared->Prop}
theorem QN (W:WalksS prog w A.in1 I fp wr G n P St) (out:S∉fp) (ad:Nat->Addr) (ks:Nat->List Int) (rB:∀ i v,P i v->v = .ref (ad i)) (apart:∀ i,i < n->ad i∉S :: wr) (room:A.in1.units < cLine)
  (inj:∀ i j,i < n->j < i->hT prog w (ks j)=hT prog w (ks i)->ks j=ks i) (iq:n <= 30) :
  ∀ (left i:Nat) (s:Shared),i + left=n->St i s->(∀ j,j < n->IsTupleKey (intKind prog w) s.heap (ks j) (ad j))->gE (aJ prog w ks) ad s.heap S (gT (aJ prog w ks) i) →
   (∀ s',Moved (S :: wr) G s s'->gE (aJ prog w ks) ad s'.heap S (gT (aJ prog w ks) n)->R (.ok (.ret .none)) s') →
   codeAny (model prog w) A (.builtin "set.update.loop" ⟨[.ref S,.ref I],[]⟩) R s:=by
 have vH:S∉wr:=fun z=>out (W.sub _ z);have more:∀ b,b∈wr->b∈S :: wr:=fun b hb=>Xu _ hb;intro left
 induction left with
 | zero =>
  intro i s hi st tk se fin;obtain rfl:i=n:=by omega
  refine Zp F.entry_set_update_loop ?_;rw[Y5 q0z _];show wpAny _ A.in1 (pyNext (.ref I) >>= _) _ _ s;refine ni (W.done s _ _ st fun s' mv => ?_);show wpAny _ A.in1 (ret Value.none) _ _ s';exact zR (fin s' (mv.mono more) (Hz se fun o e=>mv.heap S o vH e))
 | succ left ih =>
  intro i s hi st tk se fin;have c5:i < n:=by omega
  refine Zp F.entry_set_update_loop ?_;rw[Y5 q0z _];show wpAny _ A.in1 (pyNext (.ref I) >>= _) _ _ s;refine ni (W.item i s _ _ c5 st fun v s1 hP iN mv => ?_);obtain rfl:=rB i v hP;have jc:∀ j,j < n->IsTupleKey (intKind prog w) s1.heap (ks j) (ad j):=fun j hj=>y7 (tk j hj) fun o e=>mv.heap _ o (fun z=>apart j hj (more _ z)) e;show wpAny _ A.in1 (holding [Value.ref (ad i)] (setAdd S (.ref (ad i))) >>= _) _ _ s1;refine ni (Yp ?_);unfold setAdd;refine Yp (ni (wpAny_pyHash_tuple room (jc i c5) ?_));have fl:=xY (aJ prog w ks) i;refine QJ (s:={ s1 with toks:=s1.toks + ((ks i).length + 1) }) (i:=i) (js:=gT (aJ prog w ks) i) (Hz se fun o e=>mv.heap S o vH e) (by have:=HF (aJ prog w ks) i;omega) room (fun j hj => ?_) (fun j hj e=>inj i j c5 (fl j hj) e) fun bb h2 sb QO => ?_
  ·rcases Xq.mp hj with rfl | hj
   ·exact jc _ c5
   ·exact jc j (by have:=fl j hj;omega)
  ·have nS:∀ b,b∈fp->b≠S:=fun b hb z=>out (by rw[<-z];exact hb)
   refine zR ⟨Zx q0z _,ih (i + 1) _ (by omega) (W.frame _ s1 _ _ iN (Z3 _ _) fun b hb o e=>by rw[sb.2 b (nS b hb)];exact e) (fun j hj=>y7 (jc j hj) fun o e => ?_) QO fun s3 QP QQ => ?_⟩
   ·rw[sb.2 _ (fun z=>apart j hj (by rw[z];exact NO))];exact e
   ·refine fin s3 (Moved.trans W.gtrans ((mv.mono more).then_heap (Z3 _ _) fun b o hb e => ?_) QP) QQ
    rw[sb.2 b (fun z=>hb (by rw[z];exact NO))];exact e
end
section
variable {prog:Program} {w:World} {A:Around} {E:Value->Shared->Prop} {s:Shared}
set_option maxHeartbeats 3200000 in
theorem QR {l:Addr} {items:Array Value} {Q:Value->Shared->Prop} (ad:Nat->Addr) (ks:Nat->List Int) (hh:A.handled=none) (room:A.units + 8 < cLine) (Bg:s.heap.IsList l items) (rB:∀ (i:Nat) (v:Value),items[i]? = some v->v = .ref (ad i))
  (tk:∀ i,i < items.size->IsTupleKey (intKind prog w) s.heap (ks i) (ad i)) (inj:∀ i j,i < items.size->j < i->hT prog w (ks j)=hT prog w (ks i)->ks j=ks i) (iq:items.size <= 30)
  (fin:∀ (h':Heap) (tk:Nat),gE (aJ prog w ks) ad h' s.heap.objs.size (gT (aJ prog w ks) items.size)->(∀ b o,b < s.heap.objs.size->s.heap.get? b=some o->h'.get? b=some o)->Q (.ref s.heap.objs.size) { s with heap:=h',toks:=tk }) :
  wpAny (model prog w) A (call (.type "set") [.ref l]) Q E s:=by
 obtain⟨c,tl,QS⟩:=Z_.mro;have m1:=Z_.made;have m2:=Z_.sub;have m3:=Z_.notType;have m4:=Z_.canCreate;have m5:=F.typeCall_set_1 (.ref l);refine wpAny_call (codeAny_of_tree ?_);show wpAny _ _ (callAny (.type "set") _) _ _ _;refine zR ⟨Code.quiet_builtin _ (by decide +kernel),Zp F.entry_type_call ?_⟩;rw[Around.under_plain (weight_type_call_type "set" [.ref l] []) rfl]
 repeat (any_goals (first | assumption | wp_step))
 refine q04 (code_set_new_1 (.ref l) (E:=E) (Q₁ := fun r s1=>∃ led:Bool,r = .ref s.heap.objs.size/\s1={ s with heap:=s.heap.push (gq led) }) fun led=>⟨led,rfl,rfl⟩) fun r s1 hr => ?_
 cases r with
 | error e=>exact hr
 | ok fl =>
  cases fl with
  | ret obj =>
   obtain⟨led,rfl,rfl⟩:=hr;have gS:(s.heap.push (gq led)).get? s.heap.objs.size=some (gq led):=Xr _ rfl;have tS:Shared.TypeIs { s with heap:=s.heap.push (gq led) } (.ref s.heap.objs.size) "set" := ⟨_,gS,rfl⟩;have m6:=Z_.init.lookup;have m7:=Z_.init.bind (.ref s.heap.objs.size)
   repeat (any_goals (first | assumption | wp_step))
   refine q04 (codeAny_call_builtin (R:=wants (fun r s2=>r = .none/\∃ h' tk,s2={ s with heap:=h',toks:=tk }/\gE (aJ prog w ks) ad h' s.heap.objs.size (gT (aJ prog w ks) items.size) ∧
     ∀ b o,b < s.heap.objs.size->s.heap.get? b=some o->h'.get? b=some o) E) Z_.init.plain F.entry_set_init (check_set_init_1 tS ?_)) fun r2 s2 vI => ?_
   ·obtain⟨ol,gl,cl,nl,dl⟩:=Bg
    obtain⟨c0,d0,XE,QT⟩:=ol;simp only at cl dl;subst cl;subst dl;have QU:(s.heap.push (gq led)).get? l=some { cls := .type "list",dict:=d0,data := .seq items nl,slots:=QT }:=qw _ gl;have x1:=F.sub_list_set;have x2:=F.sub_list_frozenset;have x3:(Value.type "list" == Value.type "dict")=false:=by decide
    have vJ:(s.heap.push (gq led)).IsList l items:=⟨_,QU,rfl,nl,rfl⟩;have ll:l < s.heap.objs.size:=NL gl;unfold Builtin.«set.__init__» noKeywords Builtin.Frozenset.updateFrom;generalize QV:pyIter=PI
    wp_walk
    subst QV;refine ZE vJ (ni (wpAny_runValue ?_));have h3:A.in1.in1.in1.handled=none:=by simp[hh]
    have ez:(s.heap.push (gq led)).objs.size=s.heap.objs.size + 1:=Zo ..;have nI:l≠(s.heap.push (gq led)).objs.size:=by rw[ez];exact Yb (Zb ll)
    have lt:∀ i,i < items.size->ad i < s.heap.objs.size:=fun i hi=>by
     obtain⟨o,_,_,e,_⟩:=tk i hi;exact NL e
    refine QN ((q0P h3 _ l nI items).toS) (S:=s.heap.objs.size) ?out ad ks (fun i v hv=>rB i v hv) ?apart ?room inj iq items.size 0 _ (Yu _)
     ⟨⟨_,Xr _ rfl,rfl,rfl⟩,vJ.push _⟩ ?tk ?fresh ?fin
    case out =>
     simp only[Xq,Ym,ZX,not_or,ez];exact⟨Yb (Zs _),ZI ll⟩
    case apart =>
     intro i hi;have:=lt i hi;simp only[Xq,Ym,ZX,not_or,ez];exact⟨Yb this,Yb (Zb this)⟩
    case room =>
     show A.units + 1 + 1 + 1 < cLine;exact q0u (Nat.add_le_add_left (by decide:3 <= 8) _) room
    case tk =>
     intro j hj;exact y7 (tk j hj) fun o e=>qw _ (qw _ e)
    case fresh =>
     exact QM (led:=led) (qw _ gS)
    case fin =>
     intro s' mv se;obtain⟨h',g',d',jK,zv⟩:=s';obtain rfl:g'=s.gens:=mv.gens;obtain rfl:d'=s.drawn:=mv.drawn;obtain rfl:zv=s.os:=mv.os;show wpAny _ _ _ _ _ _;refine zR ?_;show wpAny _ _ (ret Value.none) _ _ _;refine zR ⟨rfl,h',jK,rfl,se,fun b o hb e => ?_⟩;refine mv.heap b o ?_ (qw _ (qw _ e));simp only[Xq,Ym,ZX,not_or,ez];exact⟨Yb hb,Yb (Zb hb)⟩
   ·cases r2 with
    | error e=>exact vI
    | ok QW =>
     cases QW with
     | ret r =>
      obtain⟨rfl,h',jK,rfl,se,kp⟩:=vI
      repeat (any_goals (first | assumption | wp_step))
      exact fin _ _ se kp
     | next=>exact vI
     | brk=>exact vI
     | cont=>exact vI
  | next=>exact hr
  | brk=>exact hr
  | cont=>exact hr
end
end LJS
namespace L2
open PySem PySem.Spec PyProof.Rows
variable [aK]
noncomputable def pL:List D->Option (List (Int × Int))
 | []=>some []
 | .tup [.int i,.int j] :: r=>match pL r with
  | some ps=>some ((i,j) :: ps)
  | none=>none
 | _=>none
theorem HG:∀ {ds:List D} {ps:List (Int × Int)},pL ds=some ps->ds=ps.map fun p => .tup [.int p.1,.int p.2]
 | [],ps,h=>by cases h;rfl
 | .tup [.int i,.int j] :: r,ps,h=>by
  unfold pL at h;split at h
  ·rename_i qs e
   cases h
   rw[HG e];rfl
  ·cases h
theorem HH:∀ ps:List (Int × Int),pL (ps.map fun p=>D.tup [.int p.1,.int p.2])=some ps
 | []=>rfl
 | p :: r=>by
  show pL (.tup [.int p.1,.int p.2] :: r.map _)=_;unfold pL;rw[HH r]
noncomputable def gh (ps:List (Int × Int)):Nat->List (Int × Int)
 | 0=>[]
 | i + 1=>if ps.getD i (0,0)∈gh ps i then gh ps i else gh ps i ++ [ps.getD i (0,0)]
theorem Bh (ps:List (Int × Int)):∀ i,(gh ps i).length <= i
 | 0=>uu _
 | i + 1=>by
  have:=Bh ps i;unfold gh;split
  ·omega
  ·rw[Fv,Yi];omega
theorem HI {ps:List (Int × Int)} (hn:ps.Nodup):∀ i,i <= ps.length->gh ps i=ps.take i
 | 0,_=>rfl
 | i + 1,h=>by
  have hi:i < ps.length:=by omega
  have e:ps.getD i (0,0)=ps[i]:=by rw[Fs,qv hi];rfl
  unfold gh;rw[HI hn i (by omega),e,NM ?_,ZP,qv hi]
  ·rfl
  ·intro hm
   obtain⟨j,hj,ej⟩:=Y2.mp hm;rw[Yr] at hj;rw[List.getElem_take] at ej;have:=(q0N (h₀ := by omega) (h₁ := hi) hn).mp ej;omega
theorem QX {ps:List (Int × Int)} (hl:(gh ps ps.length).length=ps.length):ps.Nodup:=by
 have key:∀ i,i <= ps.length->(gh ps i).length=i->(ps.take i).Nodup/\gh ps i=ps.take i:=by
  intro i
  induction i with
  | zero=>intro _ _;exact⟨q1a,rfl⟩
  | succ i ih =>
   intro hi hlen;have bS:i < ps.length:=by omega
   have le:=Bh ps i;have e:ps.getD i (0,0)=ps[i]:=by rw[Fs,qv bS];rfl
   unfold gh at hlen ⊢;split at hlen
   ·omega
   ·rename_i hn
    rw[Fv,Yi] at hlen;obtain⟨h1,h2⟩:=ih (by omega) (by omega);rw[NM hn,h2,ZP,qv bS,e];refine⟨?_,rfl⟩;rw[h2,e] at hn
    exact Ze.mpr ⟨h1,by simp,fun a ha b hb z=>hn (by
     have hb:b=ps[i]:=by simpa using hb
     rw[<-hb,<-z];exact ha)⟩
 have:=(key ps.length (uu _) hl).1
 rwa [Yv (uu _)] at this
section
variable {X:Cx} {fa:WA}
theorem HJ {F:Hp}:∀ {ps:List (Int × Int)} {vs:List V},ae F (ps.map fun p=>D.tup [.int p.1,.int p.2]) vs->∃ as:List Addr,vs=as.map V.ref/\as.length=ps.length/\∀ (i:Nat) (a:Addr) (k:Int × Int),as[i]? = some a->ps[i]? = some k->F a=some (.tup [.int k.1,.int k.2])
 | [],vs,h=>by
  have h:vs=[]:=by simpa only [Zw,ae] using h
  subst h;exact⟨[],rfl,rfl,fun i a k e=>by simp at e⟩
 | p :: r,vs,h=>by
  rw[Yd] at h;simp only[ae] at h;obtain⟨v,r',rfl,h1,h2⟩:=h;obtain⟨as,rfl,hl,g⟩:=HJ h2;simp only[Is] at h1;obtain⟨a,us,rfl,e1,e2⟩:=h1;simp only[ae,Is] at e2;obtain⟨_,_,rfl,rfl,_,_,rfl,rfl,rfl⟩:=e2;refine⟨a :: as,rfl,by rw[Fq,Fq,hl],fun i b k eb ek => ?_⟩
  cases i with
  | zero =>
   cases (show some a=some b by simpa using eb)
   cases (show some p=some k by simpa using ek)
   exact e1
  | succ i=>exact g i b k (by simpa using eb) (by simpa using ek)
theorem QY (hc:X.calm=true) (hu:X.A.units + 64 < cLine):gu X (.type "set") (fun xs H Q=>∃ (l:Addr) (ps:List Addr) (ks:List (Int × Int)),xs=[.ref l]/\bz X.K H l (ps.map V.ref)/\ps.length=ks.length ∧
  (∀ (i:Nat) (a:Addr) (k:Int × Int),ps[i]? = some a->ks[i]? = some k->H a=some (.tup [.int k.1,.int k.2]))/\(∀ k∈ks,0 <= k.1/\k.1 < k.2/\k.2 < 12)/\ks.length <= 30/\∀ p,H p=none->Q (.ref p) (upd H p (kQ p (gh ks ks.length).length))):=by
 intro pins s σ H xs us Q I r h;obtain⟨l,ps,ks,rfl,hq,hl,fg,bd,iq,q⟩:=h;obtain⟨u,rfl,rx⟩:=vals1 r;cases rx
 obtain⟨aq,r',pl,_⟩:=I.list hq;obtain rfl:=Gb r';have sz:(ps.map Value.ref).toArray.size=ks.length:=by rw[wO,qx,hl]
 have rC:∀ i,i < ks.length->∃ k,ks[i]? = some k/\ks.getD i (0,0)=k:=fun i hi=>⟨ks[i],qv hi,by rw[Fs,qv hi];rfl⟩;have Bi:∀ i,i < ks.length->∃ a,ps[i]? = some a/\ps.getD i 0=a:=fun i hi=>⟨ps[i]'(by rw[hl];exact hi),qv (by rw[hl];exact hi),by rw[Fs,qv (by rw[hl];exact hi)];rfl⟩
 have same:∀ i j,i < ks.length->j < ks.length->LJS.hT X.prog X.w [(ks.getD j (0,0)).1,(ks.getD j (0,0)).2]=LJS.hT X.prog X.w [(ks.getD i (0,0)).1,(ks.getD i (0,0)).2]->ks.getD j (0,0)=ks.getD i (0,0):=fun i j hi hj z=>by
  obtain⟨k,ek,dk⟩:=rC i hi;obtain⟨k',xW,rD⟩:=rC j hj;rw[dk,rD,LJS.F_,LJS.F_] at z;rw[dk,rD];have b1:=bd k (X9.mpr ⟨i,ek⟩);have b2:=bd k' (X9.mpr ⟨j,xW⟩);exact LJS.Pg (k'.1,k'.2) (LJS.Ga b2.1 b2.2.1 b2.2.2) (k.1,k.2) (LJS.Ga b1.1 b1.2.1 b1.2.2) z
 refine LJS.QR (fun i=>ps.getD i 0) (fun i=>[(ks.getD i (0,0)).1,(ks.getD i (0,0)).2]) (I.ok.hd hc) (by omega) pl.isList (fun i v hv => ?_) (fun i hi => ?_) (fun i j hi hj z => ?_) (by rw[sz];exact iq) fun h' tk se kp => ?_
 ·rw[q0L,My] at hv
  obtain⟨a,ea,rfl⟩:=Xt.mp hv;rw[Fs,ea];rfl
 ·rw[sz] at hi
  obtain⟨k,ek,dk⟩:=rC i hi;obtain⟨a,ea,da⟩:=Bi i hi;show IsTupleKey _ _ [(ks.getD i (0,0)).1,(ks.getD i (0,0)).2] (ps.getD i 0);rw[dk,da];obtain⟨_,bc,r2,o,ho,mC,n,hd⟩:=I.aM a _ (fg i a k ea ek)
  cases r2 with
  | cons ra rr =>
   cases rr with
   | cons rb rn =>
    cases rn
    obtain⟨t1,rfl⟩:=ra;obtain⟨t2,rfl⟩:=rb;exact⟨o,_,n,ho,mC,hd,.cons (intKind_is ..) (.cons (intKind_is ..) .nil)⟩
 ·rw[sz] at hi
  have:=same i j hi (by omega) z;show [(ks.getD j (0,0)).1,(ks.getD j (0,0)).2]=[(ks.getD i (0,0)).1,(ks.getD i (0,0)).2];rw[this]
 ·have key:∀ n,n <= ks.length->(LJS.gT (LJS.aJ X.prog X.w fun i=>[(ks.getD i (0,0)).1,(ks.getD i (0,0)).2]) n).map (fun i=>ks.getD i (0,0))=gh ks n:=by
   intro n
   induction n with
   | zero=>intro _;rfl
   | succ n ih =>
    intro hn;have ih:=ih (by omega);unfold LJS.gT gh;rw[<-ih]
    by_cases c:ks.getD n (0,0)∈(LJS.gT (LJS.aJ X.prog X.w fun i=>[(ks.getD i (0,0)).1,(ks.getD i (0,0)).2]) n).map (fun i=>ks.getD i (0,0))
    ·obtain⟨j,hj,ej⟩:=X0.mp c
     have:LJS.aJ X.prog X.w (fun i=>[(ks.getD i (0,0)).1,(ks.getD i (0,0)).2]) n∈(LJS.gT (LJS.aJ X.prog X.w fun i=>[(ks.getD i (0,0)).1,(ks.getD i (0,0)).2]) n).map (LJS.aJ X.prog X.w fun i=>[(ks.getD i (0,0)).1,(ks.getD i (0,0)).2]):=by
      refine X0.mpr ⟨j,hj,?_⟩;have ej:ks.getD j (0,0)=ks.getD n (0,0):=ej;show LJS.hT _ _ [(ks.getD j (0,0)).1,(ks.getD j (0,0)).2]=LJS.hT _ _ [(ks.getD n (0,0)).1,(ks.getD n (0,0)).2];rw[ej]
     rw[Xs c,Xs this]
    ·have:LJS.aJ X.prog X.w (fun i=>[(ks.getD i (0,0)).1,(ks.getD i (0,0)).2]) n∉(LJS.gT (LJS.aJ X.prog X.w fun i=>[(ks.getD i (0,0)).1,(ks.getD i (0,0)).2]) n).map (LJS.aJ X.prog X.w fun i=>[(ks.getD i (0,0)).1,(ks.getD i (0,0)).2]):=fun z=>by
      obtain⟨j,hj,ej⟩:=X0.mp z;have QZ:=LJS.xY _ n j hj;exact c (X0.mpr ⟨j,hj,same n j (by omega) (by omega) ej⟩)
     rw[NM c,NM this,Yt];rfl
  obtain⟨o,es,ep,t,ho,hex,hd,T⟩:=se
  have hlen:((LJS.gT (LJS.aJ X.prog X.w fun i=>[(ks.getD i (0,0)).1,(ks.getD i (0,0)).2]) ks.length).map (LJS.aJ X.prog X.w fun i=>[(ks.getD i (0,0)).1,(ks.getD i (0,0)).2])).length=(gh ks ks.length).length:=by
   rw[<-key ks.length (uu _),qx,qx]
  have T':=T.P;rw[sz] at T';have Q0:LJS.kB h' s.heap.objs.size _:=⟨o,es,ep,t,ho,hex,hd,T'⟩;exact⟨.ref s.heap.objs.size,upd H s.heap.objs.size (kQ s.heap.objs.size (gh ks ks.length).length),I.laid (t':=tk) (fun b o e=>kp b o (NL e) e) (uu _) (Ph Q0 hlen),rfl,q _ (I.aM.fresh (uu _))⟩
end
end L2
namespace HT
open PySem PySem.Spec PyProof.Rows
section
variable {prog:Program} {w:World} {A:Around} {E:Value->Shared->Prop} {s:Shared}
theorem Q1 {t b:Addr} {ws:List Value} {Q:Value->Shared->Prop} (ht:IsTup s.heap t #[]) (hb:IsTup s.heap b ws.toArray) (h:Q (.ref b) s):wpAny (model prog w) A (binaryOp .Add (.ref t) (.ref b)) Q E s:=by
 obtain⟨⟨cls,dd,data,sl⟩,ho,hc,n,hd⟩:=id ht;obtain⟨⟨m8,ig,data2,ik⟩,d6,eZ,n2,hd2⟩:=id hb;simp only at hc hd eZ hd2;subst hc hd eZ hd2
 exact concat_meets ⟨_,ho,rfl⟩ ⟨_,d6,rfl⟩ noFill_tuple_add seq_tuple_add q0G q0y (q0q _ _)
  (tuple_addW0 t b #[] ws.toArray n n2 dd ig sl ik rfl) ⟨ho,d6,h⟩
theorem Q2 {t sl:Addr} {items:Array Value} {vl vu:Value} {lo hi:Option Int} {Q:Value->Shared->Prop} (ht:IsTup s.heap t items) (hs:s.heap.IsSliceOf sl vl vu .none) (pl:IsPart vl lo) (pu:IsPart vu hi)
  (hw:bj items.size 0 lo=0/\bj items.size items.size hi=items.size) (h:Q (.ref t) s):wpAny (model prog w) A (getItem (.ref t) (.ref sl)) Q E s:=by
 obtain⟨os,qm,so,ur⟩:=id hs;have zA:s.TypeIs (.ref sl) "slice" := ⟨os,qm,so⟩;unfold getItem
 try with_reducible refine Yp ?_
 first | refine ni (zR ?_) | skip
 refine ni (wpAny_sequenceKey ht.typeIs (by decide) ?_)
 refine ni (Zi (name:=Str.ofString "__getitem__") ht.typeIs YL
  (ZK YL ht.typeIs entry_tuple_getitem ?_ (args_tuple_getitem _ _)))
 show wpAny _ _ (Builtin.Tuple.tupleItemsOf (.ref t) >>= _) _ _ s;refine ni (tupleItemsOf_ ht ?_);refine ni (q1A zA ?_);rw[Xs (by decide)];refine ni (E5 hs pl pu ?_);show wpAny _ _ (if (((bj items.size 0 lo:Nat):Int) == 0 && (1:Int) == 1 && (bj items.size items.size hi - bj items.size 0 lo) == items.size)=true then _ else _) _ _ s;rw[Xs (by rw[hw.1,hw.2];simp)];unfold Builtin.Tuple.tupleIsExact;refine ni (ni (q1A ht.typeIs (zR ?_)));rw[Xs (by decide)];refine ni (q0Q ?_);exact zR ⟨_,rfl,zR h⟩
end
end HT
namespace L2
open PySem PySem.Spec PyProof.Rows
variable [aK]
section
variable {X:Cx} {e:Expr} {te:TE} {pos p2 p3 p4:Pos}
noncomputable def Q3 (K:PySem.W.Frag):V->Option Int->Option Int->Hp->VK->Prop:=fun x lo hi H Q=>∃ a xs,x = .ref a/\bF K H a xs ∧
 (HT.bj xs.length 0 lo=0/\HT.bj xs.length xs.length hi=xs.length->Q (.ref a) H)/\(¬ (HT.bj xs.length 0 lo=0/\HT.bj xs.length xs.length hi=xs.length)->∀ p,H p=none->Q (.ref p) (upd H p (.tup (cU xs lo hi))))
theorem Q4:m9 X (Q3 X.K):=by
 intro pins s σ H x v vl vu lo hi sl Q I rx hs pl pu h;obtain⟨a,xs,rfl,hx,q1,q2⟩:=h
 by_cases hw:HT.bj xs.length 0 lo=0/\HT.bj xs.length xs.length hi=xs.length
 ·cases rx
  obtain⟨aq,r,ht,hz⟩:=I.tuple hx;have hlen:aq.toArray.size=xs.length:=by rw[wO];exact r.length.symm
  refine⟨"tuple",_,YL.lookup,ht.typeIs,?_⟩;exact HT.Q2 ht hs pl pu (by rw[hlen];exact hw) ⟨.ref a,H,I,rfl,q1 hw⟩
 ·exact Nq pins s σ H _ v vl vu lo hi sl Q I rx hs pl pu ⟨a,xs,rfl,hx,hw,q2 hw⟩
theorem Q5:cP X (binaryOp .Add) (fun x y H Q=>∃ a b ys,x = .ref a/\y = .ref b/\bF X.K H a []/\bF X.K H b ys/\Q (.ref b) H):=by
 intro pins s σ H x y v u Q I rx ry h;obtain⟨a,b,ys,rfl,rfl,ha,hb,q⟩:=h;cases rx
 cases ry
 obtain⟨aq,r1,p1,_⟩:=I.tuple ha;obtain⟨bc,r2,p2,_⟩:=I.tuple hb;have:aq=[]:=r1.e7.mpr rfl;subst this;exact HT.Q1 p1 p2 ⟨.ref b,H,I,rfl,q⟩
theorem Q6:cP X (compareOp .Is) (fun x y H Q=>∃ a b,x = .bl a/\y = .bl b/\Q (.bl (a == b)) H):=by
 intro pins s σ H x y v u Q I rx ry h;obtain⟨a,b,rfl,rfl,q⟩:=h;cases rx
 cases ry
 exact zR ⟨.bl (a == b),H,I,by cases a<;>cases b<;>rfl,q⟩
theorem Q7:cP X (compareOp .IsNot) (fun x y H Q=>∃ a b,x = .bl a/\y = .bl b/\Q (.bl (!(a == b))) H):=by
 intro pins s σ H x y v u Q I rx ry h;obtain⟨a,b,rfl,rfl,q⟩:=h;cases rx
 cases ry
 exact zR ⟨.bl (!(a == b)),H,I,by cases a<;>cases b<;>rfl,q⟩
noncomputable def dH:D->D->(D->Prop)->Prop
 | .int i,.int j,K=>K (.int (i + j))
 | .lst a,.lst b,K=>a.length + b.length <= 1000/\K (.lst (a ++ b))
 | .tup a,.tup b,K=>a.length + b.length <= 1000/\K (.tup (a ++ b))
 | .str a,.str b,K=>a.length + b.length <= 1000/\K (.str (a ++ b))
 | _,_,_=>False
theorem eU:eG X (binaryOp .Add) dH:=by
 rintro pins s σ H x y v u Q I rx ry ⟨F,d,e,K,sub,rd,re,q,md⟩;unfold dH at q;split at q
 ·exact xB pins s σ H x y v u Q I rx ry ⟨F,_,_,K,sub,rd,re,q,md⟩
 ·exact xB pins s σ H x y v u Q I rx ry ⟨F,_,_,K,sub,rd,re,q,md⟩
 ·rename_i as bs
  by_cases c:as=[]
  ·subst c
   have c8:Is F (.tup []) x:=rd;have hJ:Is F (.tup bs) y:=re;have Q8:=hJ;simp only[Is] at c8 hJ;obtain⟨a,us,rfl,h1,h2⟩:=c8;obtain⟨b,ws,rfl,h3,h4⟩:=hJ;have:us=[]:=by simpa only [ae] using h2
   subst this;exact Q5 pins s σ H _ _ v u Q I rx ry ⟨a,b,ws,rfl,rfl,bF.of (sub _ _ h1),bF.of (sub _ _ h3),md _ _ _ q.2 (fun _ _ e=>e) (u9 sub Q8)⟩
  ·exact xB pins s σ H x y v u Q I rx ry ⟨F,_,_,K,sub,rd,re,⟨⟨c,q.1⟩,q.2⟩,md⟩
 ·exact xB pins s σ H x y v u Q I rx ry ⟨F,_,_,K,sub,rd,re,q,md⟩
 ·exact q.elim
noncomputable def rE:D->Option Int->Option Int->(D->Prop)->Prop
 | .lst ds,lo,hi,K=>K (.lst (cutD ds lo hi))
 | .tup ds,lo,hi,K=>K (.tup (cutD ds lo hi))
 | _,_,_,_=>False
noncomputable def hV (f:WE) (l h:WO):WE:=fun δ K=>f δ fun x δ1=>l δ1 fun lo δ2=>h δ2 fun hi δ3=>g7 x δ3 fun d=>rE d lo hi fun z=>K (.p z) δ3
theorem Q9 {ds:List D} {lo hi:Option Int} (h:HT.bj ds.length 0 lo=0/\HT.bj ds.length ds.length hi=ds.length):cutD ds lo hi=ds:=by
 unfold cutD;rw[h.1,h.2,q0D,q1y,Yv (uu _)]
theorem vK {e:Expr} {f:WE} {lo hi:Option Expr} {l h:WO} {pos p2:Pos} (he:JE X e (tD f)) (hl:PO X lo (xF l)) (hh:PO X hi (xF h)):JE X (.Subscript e (.Slice lo hi none p2) pos) (tD (hV f l h)) :=
 (Am (gw.or Q4) he hl hh).weak fun σ H Q h0_ => el7 h0_ fun F ad δ K S q k =>⟨F,ad,δ,_,S,q,fun x δ1 h1 v F1 aP H1 E1 S1 V1=>⟨F1,aP,δ1,_,S1,h1,fun lo δ2 h2 F2 bL H2 E2 S2=>⟨F2,bL,δ2,_,S2,h2,fun hi δ3 h3 F3 nH H3 E3 S3=>by
  obtain⟨d,h4,rd⟩:=j5 S3 ((V1.ext E2).ext E3) h3;have Bj:=(E1.trans E2).trans E3;unfold rE at h4;split at h4
  ·rename_i ds
   obtain⟨a,vs,rfl,g1,g2⟩:=rd;refine .inl ⟨a,vs,rfl,bz.of g1,fun p hp => ?_⟩;exact k _ _ h4 _ _ _ _ (Bj.trans (Ext.al S3 (c_ hp))) (S3.al (c_ hp)) (qV S3.sub hp (GY g2 _ _))
  ·rename_i ds
   have c8:Is F3 (.tup ds) v:=rd;have Q_:=c8;simp only[Is] at c8;obtain⟨a,vs,rfl,g1,g2⟩:=c8;refine .inr ⟨a,vs,rfl,bF.of (S3.sub _ _ g1),fun hw => ?_,fun _ p hp => ?_⟩
   ·rw[g2.length] at hw
    rw[Q9 hw] at h4;exact k _ _ h4 _ _ _ _ Bj S3 Q_
   ·exact k _ _ h4 _ _ _ _ (Bj.trans (Ext.al S3 (c_ hp))) (S3.al (c_ hp)) (AY S3.sub hp (GY g2 _ _))
  ·exact h4.elim⟩⟩⟩
noncomputable def hW:D->D->(D->Prop)->Prop
 | .bl a,.bl b,K=>K (.bl (a == b))
 | d,e,K=>jJ d e K
noncomputable def xZ:D->D->(D->Prop)->Prop
 | .bl a,.bl b,K=>K (.bl (!(a == b)))
 | d,e,K=>A0 d e K
theorem vL:eG X (compareOp .Is) hW:=by
 rintro pins s σ H x y v u Q I rx ry ⟨F,d,e,K,sub,rd,re,q,md⟩;unfold hW at q;split at q
 ·rename_i a b
  exact Q6 pins s σ H x y v u Q I rx ry ⟨a,b,rd,re,md _ _ _ q (fun _ _ e=>e) rfl⟩
 ·exact Qa pins s σ H x y v u Q I rx ry ⟨F,_,_,K,sub,rd,re,q,md⟩
theorem Ra:eG X (compareOp .IsNot) xZ:=by
 rintro pins s σ H x y v u Q I rx ry ⟨F,d,e,K,sub,rd,re,q,md⟩;unfold xZ at q;split at q
 ·rename_i a b
  exact Q7 pins s σ H x y v u Q I rx ry ⟨a,b,rd,re,md _ _ _ q (fun _ _ e=>e) rfl⟩
 ·exact Qb pins s σ H x y v u Q I rx ry ⟨F,_,_,K,sub,rd,re,q,md⟩
end
end L2
open L2
open Lean in
local macro_rules
 | `(tactic| simp? only [$ls,*] $[$loc:location]?) => do
  let a ← ("q1t dep bw Yy Nat.max_self Nat.max_zero Nat.zero_max Nat.reduceLeDiff ay aL dN xR aj ag d1 d2 dC aa kR g7 mf jD aA.fix Gs de dw qJ dT sO gB j6 cX xg iP xh cK kW aI bo bG je e8 jF jG dR fy qO dA bO pC nM AN nN AO dg au uY passes k_ fJ nL qP aW qW dH rE hV hW xZ uV nV fz oI dS oEq jg oLt jJ A0 iA cL xI vg xK b9 vh A8 A9 hU pF q_ fX iS q9 vq xG bI vw aA.trim fW xm Option.join_some Option.join_none Yd Zw q1u List.nil_append YX List.replicate_zero q0A ZF List.getElem?_nil YC YD Fq Y8 List.take_succ_cons q1b List.take_nil List.any_nil ZJ q15 Zu q1j Bool.and_self Bool.or_false Ye Bool.true_eq_false Z0 YS true_and and_true and_self reduceCtorEq beq_self_eq_true Yu Nat.reduceAdd Nat.reduceLT Nat.reduceEqDiff Nat.reduceSub qx Fv".splitOn " ").toArray.mapM fun s => `(Parser.Tactic.simpLemma| $(mkIdent s.toName):ident)
  let r ← `(Parser.Tactic.simpLemma| ↓reduceIte)
  let a : Syntax.TSepArray [`Lean.Parser.Tactic.simpStar, `Lean.Parser.Tactic.simpErase, `Lean.Parser.Tactic.simpLemma] "," := ⟨(Syntax.SepArray.ofElems (sep := ",") ((a.push r).map (·.raw) ++ ls.getElems.map (·.raw))).elemsAndSeps⟩
  `(tactic| simp only [$a,*] $[$loc]?)
set_option maxHeartbeats 8000000
namespace LJ
open PySem L2
variable [aK]
theorem HK {ns:List Int} {k:Int} (h0:0 <= k) (h1:k < (ns.length:Int)):∃ n,eO (ns.map D.int) k=some (.int n):=by
 obtain⟨i,rfl⟩:∃ i:Nat,k=i:=⟨k.toNat,by omega⟩;have hi:i < ns.length:=by omega
 refine⟨ns[i],pb ?_⟩;rw[My,qv hi];rfl
theorem fB {α : Type} {x : α} {r:List α}:eO (x :: r) 0=some x:=pb (j:=0) rfl
theorem d_ {α : Type} {x y : α} {r:List α}:eO (x :: y :: r) 1=some y:=pb (j:=1) rfl
theorem at2 {α : Type} {x y z : α} {r:List α}:eO (x :: y :: z :: r) 2=some z:=pb (j:=2) rfl
theorem vM {a b A B:Int} (h0:0 <= a) (h1:a <= A) (h2:0 <= b) (h3:b <= B):0 <= a * b/\a * b <= A * B :=
 ⟨Int.mul_nonneg h0 h2,Int.mul_le_mul h1 h3 h2 (Int.le_trans h0 h1)⟩
noncomputable def hX:List Int:=[2147483629,2147483587,2147483579,2147483563,2147483549,2147483543,2147483497,2147483489,2147483477,2147483423,2147483399,2147483353,2147483323]
theorem Bk (n:Int):∃ q:Int,eO (hX.map D.int) (n % 13)=some (.int q)/\0 < q/\q < 2147483648:=by
 have h0:0 <= n % 13:=Y6 _ (by decide);have h1:n % 13 < 13:=YJ _ (by decide);generalize n % 13=j at h0 h1;obtain⟨i,rfl⟩:∃ i:Nat,j=i:=⟨j.toNat,by omega⟩;have hi:i < 13:=by omega
 have hl:(hX.map D.int)[i]? = some (.int (hX[i]'(by show i < 13;exact hi))):=by
  rw[My,qv (by show i < 13;exact hi)];rfl
 refine⟨_,pb hl,?_⟩;have all:∀ q∈hX,0 < q/\q < 2147483648:=by decide
 exact all _ (ZL _)
theorem Rb:i9 3 1=some 1:=rfl
theorem HL:i9 3 2=some 2:=rfl
theorem aU {A B:WS} {K:KS} {δ : aA} (h:∀ N:aA->Prop,N=B K->A { K with nx:=N } δ):ay A B K δ := h _ rfl
theorem jh {t:WT} {G G':WS} {K:KS} {δ : aA} (h:∀ A B:aA->Prop,A=G K->B=G' K->t δ fun b δ1=>if b=true then A δ1 else B δ1):bo t G G' K δ := h _ _ rfl rfl
theorem pM {w:WI} {g:WG} {b:WS} {K:KS} {δ : aA} (h:∀ g' b' K',g'=g->b'=b->K'=K->w δ fun it δ1=>kZ δ1 it.bE g' b' K' it.items δ1):dR w g b K δ := h _ _ _ rfl rfl rfl
theorem x5 {f:WE} {g:WA} {δ : aA} {K:List DV->aA->Prop} (h:∀ K',K'=(fun x δ1=>g δ1 fun xs δ2=>K (x :: xs) δ2)->f δ K'):aj f g δ K:=h _ rfl
noncomputable def Bl:GD:=fun ys ai K=>∃ cell at_:Int,ys=[.p (.int cell),.p (.int at_)]/\ai=[]/\0 <= at_/\at_ < 2 ^ 30/\∀ z:Int,K (.p (.int z)) []
noncomputable def Bm:WS:=(ay (bo (dT (d2 (aa 0) (d2 (dC (.int 10)) (dC (.int 18)) (dS gv fun i j => .int (i ^ j.toNat))) (oI fun i j => .bl (decide (j <= i))))) (aI (aa 0)) cK) (ay (aL 2 (dw (aj (dC (.int 2147483629)) (aj (dC (.int 2147483587)) (aj (dC (.int 2147483579)) (aj (dC (.int 2147483563)) (aj (dC (.int 2147483549)) (aj (dC (.int 2147483543)) (aj (dC (.int 2147483497)) (aj (dC (.int 2147483489)) ag)))))))))) (ay (aL 2 (d2 (aa 2) (dw (aj (dC (.int 2147483477)) (aj (dC (.int 2147483423)) (aj (dC (.int 2147483399)) (aj (dC (.int 2147483353)) (aj (dC (.int 2147483323)) ag)))))) dH)) (ay (aL 3 (d2 (d2 (d2 (d2 (d2 (d2 (aa 0) (dC (.int 1000000007)) (dS (fun _ j=>0 < j) fun i j => .int (i % j))) (d2 (d2 (dC (.int 2)) (aa 1) fz) (dC (.int 69069)) dH) fz) (d2 (aa 1) (dC (.int 40503)) fz) dH) (dC (.int 977)) dH) (dC (.int 3)) (dS gv fun i j => .int (i ^ j.toNat))) (d2 (aa 2) (d2 (aa 1) (dC (.int 13)) (dS (fun _ j=>0 < j) fun i j => .int (i % j))) aW) (dS (fun _ j=>0 < j) fun i j => .int (i % j)))) (ay (aL 4 (d2 (d2 (d2 (d2 (d2 (aa 3) (d2 (aa 1) (dC (.int 3)) dH) fz) (d2 (aa 0) (dC (.int 65537)) (dS (fun _ j=>0 < j) fun i j => .int (i % j))) dH) (dC (.int 5)) dH) (dC (.int 5)) (dS gv fun i j => .int (i ^ j.toNat))) (d2 (aa 2) (d2 (d2 (aa 1) (dC (.int 5)) dH) (dC (.int 13)) (dS (fun _ j=>0 < j) fun i j => .int (i % j))) aW) (dS (fun _ j=>0 < j) fun i j => .int (i % j)))) (ay (aL 5 (d2 (d2 (d2 (d2 (aa 4) (d2 (aa 3) (dC (.int 1009)) (dS (fun _ j=>0 < j) fun i j => .int (i % j))) dH) (aa 1) dH) (dC (.int 3)) (dS gv fun i j => .int (i ^ j.toNat))) (d2 (aa 2) (d2 (d2 (aa 1) (dC (.int 7)) dH) (dC (.int 13)) (dS (fun _ j=>0 < j) fun i j => .int (i % j))) aW) (dS (fun _ j=>0 < j) fun i j => .int (i % j)))) (aI (d2 (d2 (d2 (d2 (aa 3) (dC (.int 2147483647)) fz) (aa 4) dH) (dC (.int 2147483647)) fz) (aa 5) dH))))))))
theorem Rc:∀ ys ai K',ys.length=2->Bl ys ai K'->Bm (bI ai.length K') ⟨ys.map some ++ List.replicate 4 none,ai.map some⟩:=by
 rintro ys ai K' - ⟨cell,k,rfl,rfl,h0,h1,fin⟩;unfold Bm;have lr:∀ (z:Int) (sl:List (Option DV)),gD 0 K' (.p (.int z)) ⟨sl,[]⟩:=fun z sl=>⟨[],rfl,rfl,fin z⟩;simp? only [];refine⟨⟨by decide,by decide,by decide⟩,?_⟩;split
 ·exact lr _ _
 obtain⟨q1,e1,p1,b1⟩:=Bk k;obtain⟨q2,e2,p2,b2⟩:=Bk (k + 5);obtain⟨q3,e3,p3,b3⟩:=Bk (k + 7);simp only[hX,Yd,Zw] at e1 e2 e3;simp only[e1,e2,e3];have c0:0 <= cell % 1000000007:=Y6 _ (by decide);have c1:cell % 1000000007 < 1000000007:=YJ _ (by decide);have m1:=vM c0 (Int.le_of_lt c1) (show (0:Int) <= 2 * k + 69069 by omega) (show 2 * k + 69069 <= 2147552717 by omega);refine⟨by decide,.inl ⟨by decide,by decide⟩,.inl ⟨by omega,by omega⟩,.inr ⟨by decide,by decide⟩,⟨by decide,by decide,?cp1⟩,by decide,p1,?_⟩
 case cp1 =>
  generalize cell % 1000000007 * (2 * k + 69069)=m at m1 ⊢;omega
 generalize (cell % 1000000007 * (2 * k + 69069) + k * 40503 + 977) ^ (3:Int).toNat=x1;have o0:0 <= x1 % q1:=Y6 _ (by omega);have o1:x1 % q1 < q1:=YJ _ p1;have d0:0 <= cell % 65537:=Y6 _ (by decide);have d1:cell % 65537 < 65537:=YJ _ (by decide);have m2:=vM o0 (show x1 % q1 <= 2147483648 by omega) (show (0:Int) <= k + 3 by omega) (show k + 3 <= 1073741827 by omega);refine⟨.inl ⟨by omega,by omega⟩,by decide,⟨by decide,by decide,?cp2⟩,by decide,p2,?_⟩
 case cp2 =>
  generalize x1 % q1 * (k + 3)=m at m2 ⊢;omega
 have t0:0 <= (x1 % q1 * (k + 3) + cell % 65537 + 5) ^ (5:Int).toNat % q2:=Y6 _ (by omega);have t1:(x1 % q1 * (k + 3) + cell % 65537 + 5) ^ (5:Int).toNat % q2 < q2:=YJ _ p2;have u0:0 <= x1 % q1 % 1009:=Y6 _ (by decide);have u1:x1 % q1 % 1009 < 1009:=YJ _ (by decide);generalize (x1 % q1 * (k + 3) + cell % 65537 + 5) ^ (5:Int).toNat % q2=m at t0 t1 ⊢;exact⟨by decide,⟨by decide,by decide,by omega⟩,by decide,p3,.inr ⟨by decide,by decide⟩,.inr ⟨by decide,by decide⟩,lr _ _⟩
noncomputable def iT (ns:List Int) (k z:Int):OV := .lst [.lst (ns.map D.int),.int k,.int z]
structure bA (n:Int) (o:OV):Prop where
 out:∃ ns k z,o=iT ns k z/\ns.length <= 63/\0 <= k/\k <= n
theorem bA.mono {n m:Int} {o:OV} (h:bA n o) (l:n <= m):bA m o:=by
 obtain⟨ns,k,z,e,h1,h2,h3⟩:=h.out;exact⟨ns,k,z,e,h1,h2,by omega⟩
noncomputable def Bo:GD:=fun ys ai K=>∃ n o,ys=[.o 0]/\ai=[o]/\bA n o/\∀ o',bA n o'->K (.a 0) [o']
noncomputable def Bp:WS:=(ay (q_ (dC (.int 0)) (aa 0) (dC (.int 2))) (aI (aa 0)))
theorem Rf:∀ ys ai K',ys.length=1->Bo ys ai K'->Bp (bI ai.length K') ⟨ys.map some ++ List.replicate 0 none,ai.map some⟩:=by
 rintro ys ai K' - ⟨n,o,rfl,rfl,P,fin⟩;obtain⟨ns,k,z,rfl,h1,h2,h3⟩:=P.out;unfold Bp iT;simp? only [];exact⟨[iT ns k 0],rfl,rfl,fin _ ⟨ns,k,0,rfl,h1,h2,h3⟩⟩
noncomputable def iD:GD:=fun ys ai K=>∃ (n m:Int) (o:OV),ys=[.o 0,.p (.int m)]/\ai=[o]/\bA n o/\n < 2 ^ 30/\0 < m/\m < 1073741824/\∀ r o',0 <= r->r < m->bA (n + 1) o'->K (.p (.int r)) [o']
noncomputable def Bq:WS:=(ay (bo (dT (d2 (d2 (aa 0) (dC (.int 2)) aW) (aa 1) oLt)) (ay (aL 2 (d2 (aa 0) (dC (.int 1)) aW)) (ay (aL 3 (dC (.int 0))) (ay (bo (dT (d2 (aa 2) (dN (aj (d2 (aa 0) (dC (.int 0)) aW) ag) cL) oLt)) (aL 3 (d2 (d2 (aa 0) (dC (.int 0)) aW) (aa 2) aW)) (bo (dT (d2 (dN (aj (d2 (aa 0) (dC (.int 0)) aW) ag) cL) (dC (.int 0)) (oI fun i j => .bl (decide (j < i))))) (aL 3 (d2 (d2 (d2 (aa 0) (dC (.int 0)) aW) (d2 (d2 (d2 (aa 2) (dC (.int 5)) fz) (dC (.int 3)) dH) (dN (aj (d2 (aa 0) (dC (.int 0)) aW) ag) cL) (dS (fun _ j=>0 < j) fun i j => .int (i % j))) aW) (d2 (d2 (dC (.int 10)) (dC (.int 17)) (dS gv fun i j => .int (i ^ j.toNat))) (aa 2) dH) (dS (fun _ j=>0 < j) fun i j => .int (i % j)))) cK)) (ay (q_ (d2 (aa 2) (dC (.int 1)) dH) (aa 0) (dC (.int 1))) (q_ (au 2 Bl (aj (aa 3) (aj (aa 2) ag))) (aa 0) (dC (.int 2))))))) cK) (ay (aL 4 (d2 (d2 (aa 0) (dC (.int 2)) aW) (aa 1) (dS (fun _ j=>0 < j) fun i j => .int (i % j)))) (ay (q_ (d2 (d2 (aa 0) (dC (.int 2)) aW) (aa 1) (dS uh fun i j => .int (i.fdiv j))) (aa 0) (dC (.int 2))) (aI (aa 4)))))
theorem Rg:∀ ys ai K',ys.length=2->iD ys ai K'->Bq (bI ai.length K') ⟨ys.map some ++ List.replicate 3 none,ai.map some⟩:=by
 rintro ys ai K' - ⟨n,m,o,rfl,rfl,P,hn,HM,XF,fin⟩;obtain⟨ns,k,z,rfl,h1,h2,h3⟩:=P.out;unfold Bq iT
 have last:∀ (k' z':Int) (sl:List (Option DV)),0 <= k'->k' <= n + 1->gD 1 K' (.p (.int (z' % m))) ⟨sl,[some (.lst [.lst (ns.map D.int),.int k',.int (z'.fdiv m)])]⟩:=fun k' z' sl a b =>
  ⟨[iT ns k' (z'.fdiv m)],rfl,rfl,fin _ _ (Y6 _ (by omega)) (YJ _ HM) ⟨ns,k',_,rfl,h1,a,b⟩⟩
 have Rh:∀ z,uh z m:=fun z=>⟨by omega,by omega⟩
 have rest:∀ (k' z':Int) (s2 s3 s4:Option DV),0 <= k'->k' <= n + 1->(ay (aL 4 (d2 (d2 (aa 0) (dC (.int 2)) aW) (aa 1) (dS (fun _ j=>0 < j) fun i j => .int (i % j)))) (ay (q_ (d2 (d2 (aa 0) (dC (.int 2)) aW) (aa 1) (dS uh fun i j => .int (i.fdiv j))) (aa 0) (dC (.int 2))) (aI (aa 4)))) (bI 1 K') ⟨[some (.o 0),some (.p (.int m)),s2,s3,s4],[some (.lst [.lst (ns.map D.int),.int k',.int z'])]⟩:=fun k' z' s2 s3 s4 a b=>by
  simp? only [at2,HL];exact⟨HM,Rh _,last _ _ _ a b⟩
 refine aU fun N hN => ?_;refine jh fun A B hA hB => ?_;simp? only [at2];split
 ·subst hA
  refine aU fun N2 eg => ?_;simp? only [d_];subst eg;refine aU fun N2 eg => ?_;simp? only [];subst eg;refine aU fun N2 eg => ?_
  have go:∀ (c:Int) (s4:Option DV),N2 ⟨[some (.o 0),some (.p (.int m)),some (.p (.int k)),some (.p (.int c)),s4],[some (.lst [.lst (ns.map D.int),.int k,.int z])]⟩:=fun c s4=>by
   subst eg;simp? only [Rb];refine⟨c,k,rfl,rfl,h2,by omega,fun z' => ?_⟩;simp? only [HL];subst hN;exact rest _ _ _ _ _ (by omega) (by omega)
  refine jh fun A B hA hB => ?_;simp? only [fB];split
  ·rename_i c5
   obtain⟨c,ec⟩:=HK h2 (YQ c5);subst hA;simp? only [fB];rw[ec];exact go _ _
  ·subst hB
   refine jh fun A B hA hB => ?_;simp? only [fB];split
   ·rename_i n8
    have n8:=YQ n8;obtain⟨c,ec⟩:=HK (ns:=ns) (k:=(k * 5 + 3) % (ns.length:Int)) (Y6 _ (by omega)) (YJ _ n8);subst hA;simp? only [fB];refine⟨.inr ⟨by decide,by decide⟩,n8,?_⟩;rw[ec];exact⟨⟨by decide,by decide,by decide⟩,by show (0:Int) < 10 ^ 17 + k;omega,go _ _⟩
   ·subst hB
    exact go _ _
 ·subst hB hN
  exact rest _ _ _ _ _ (by omega) (by omega)
noncomputable def cJ (p:Int × Int):D := .tup [.int p.1,.int p.2]
structure dr (many:Int) (ps:List (Int × Int)):Prop where
 ends:∀ p∈ps,0 <= p.1/\p.1 < p.2/\p.2 < many
 rA:ps.Nodup
 iH:ps.length <= 66
theorem dr.sub {many:Int} {ps qs:List (Int × Int)} (h:dr many ps) (s:qs.Sublist ps):dr many qs :=
 ⟨fun p hp=>h.ends p (s.subset hp),h.rA.sublist s,Yw s.length_le h.iH⟩
noncomputable def Br:GD:=fun ys ai K=>∃ (n kind many:Int) (o:OV),ys=[.o 0,.p (.int kind),.p (.int many)]/\ai=[o]/\bA n o/\n + 100 < 2 ^ 30/\1 <= many/\many <= 12/\∀ ps o',dr many ps->bA (n + 67) o'->K (.n (ps.map cJ)) [o']
noncomputable def Bs:WS:=(ay (aL 3 (qJ ag)) (ay (dR (nM (aj (aa 2) ag)) (bG 4) (kW (q9 (aa 3) (aj (fy (nM (aj (aa 4) ag)) [none,some 4] (bG 0) dA (de (aj (aa 0) (aj (aa 1) ag)))) ag)))) (ay (bo (dT (d2 (aa 1) (dC (.int 1)) oEq)) (aI (qO (AN (aj (dC (.int 1)) (aj (aa 2) ag))) [none,some 0] (bG 0) dA (de (aj (au 2 iD (aj (aa 1) (aj (aa 0) ag))) (aj (aa 0) ag))))) cK) (ay (bo (dT (d2 (aa 1) (dC (.int 2)) oEq)) (ay (aL 5 (fy (nM (aj (d2 (aa 2) (dC (.int 1)) (oI fun i j => .int (i - j))) ag)) [none] (bG 0) dA (de (aj (aa 0) (aj (d2 (aa 0) (dC (.int 1)) dH) ag))))) (aI (A9 (aa 5) (fy (bO (aa 3)) [none,some 2] (bG 0) (gB (dT (d2 (aa 0) (de (aj (dC (.int 0)) (aj (d2 (aa 1) (dC (.int 1)) (oI fun i j => .int (i - j))) ag))) oEq)) (dT (d2 (aa 1) (dC (.int 2)) (oI fun i j => .bl (decide (j < i)))))) (aa 0))))) cK) (ay (bo (dT (d2 (aa 1) (dC (.int 3)) oEq)) (aI (aa 3)) cK) (ay (bo (dT (d2 (aa 1) (dC (.int 4)) oEq)) (aI (qO (bO (aa 3)) [none,some 0] (bG 0) (dT (d2 (au 2 iD (aj (aa 1) (aj (dC (.int 4)) ag))) (dC (.int 0)) oEq)) (aa 0))) cK) (ay (bo (dT (d2 (aa 1) (dC (.int 5)) oEq)) (ay (aL 6 (au 2 iD (aj (aa 0) (aj (d2 (aa 2) (dC (.int 1)) dH) ag)))) (aI (qO (bO (aa 3)) [none,some 6,some 0] (bG 0) (gB (dT (d2 (d2 (d2 (aa 0) (dC (.int 0)) aW) (aa 1) oLt) (d2 (d2 (aa 0) (dC (.int 1)) aW) (aa 1) oLt) oEq)) (dT (d2 (au 2 iD (aj (aa 2) (aj (dC (.int 3)) ag))) (dC (.int 0)) (oI fun i j => .bl (decide (j < i)))))) (aa 0)))) cK) (aI (qO (bO (aa 3)) [none,some 0] (bG 0) (dT (d2 (au 2 iD (aj (aa 1) (aj (dC (.int 2)) ag))) (dC (.int 0)) oEq)) (aa 0))))))))))
theorem sub_snoc {α : Type} {zs ps:List α} {i:Nat} {x : α} (h:zs.Sublist (ps.take i)) (e:ps[i]? = some x):(zs ++ [x]).Sublist (ps.take (i + 1))/\zs.Sublist (ps.take (i + 1)):=by
 have:ps.take (i + 1)=ps.take i ++ [x]:=by rw[ZP,e];rfl
 rw[this];exact⟨h.append (List.Sublist.refl _),h.trans (List.sublist_append_left _ _)⟩
theorem Ri {α : Type} {l:List α} {c : α} (h:l.Nodup) (hc:∀ x∈l,x=c):l.length <= 1:=by
 match l,h,hc with
 | [],_,_=>exact Yy _
 | [_],_,_=>exact uu _
 | x :: y :: r,h,hc =>
  have:=(Zh.mp h).1 y (NO);exact absurd ((hc x NO).trans (hc y (Xu _ NO)).symm) this
theorem Bt {n:Int} {o:OV} {ps:List (Int × Int)} {t:WT} {K:List D->aA->Prop} {rest:List (Option DV)} {ev:Option OV} {bE:aA->Prop} (hc:∀ sl o',bE ⟨sl,[some o',ev]⟩) (hw:ps.length <= 66) (P:bA n o) (hn:n + 70 < 2 ^ 30)
  (ht:∀ (p:Int × Int) (i:Nat) (o':OV) (Q:Bool->aA->Prop),p∈ps->i <= 66->bA (n + i) o'->(∀ b lz,bA (n + i + 1) lz->Q b ⟨some (.p (cJ p)) :: rest,[some lz,ev]⟩)->t ⟨some (.p (cJ p)) :: rest,[some o',ev]⟩ Q)
  (hr:fW 2 rest rest=rest)
  (fin:∀ (zs:List (Int × Int)) o',zs.Sublist ps->bA (n + ps.length) o'->K (zs.map cJ) ⟨none :: rest,[some o',ev]⟩) :
  jf ⟨none :: rest,[some o,ev]⟩ bE (bG 0) t (aa 0) K (ps.map cJ) [] ⟨none :: rest,[some o,ev]⟩:=by
 refine A6 (fun i acc δ => ∃ (zs:List (Int × Int)) (o':OV),zs.Sublist (ps.take i)/\acc=zs.map cJ/\bA (n + i) o' /\ δ = ⟨none :: rest,[some o',ev]⟩) ⟨[],o,List.Sublist.refl _,rfl,P.mono (by omega),rfl⟩ ?_ ?_
 ·rintro j d acc δ L hj ⟨zs,o',hz,rfl,P',rfl⟩ hL
  rw[My] at hj;obtain⟨p,hp,rfl⟩:=Xt.mp hj;have QZ:j < ps.length:=(sA.mp hp).1;refine⟨hc _ _,?_⟩;show t ⟨some (.p (cJ p)) :: rest,[some o',ev]⟩ _;refine ht p j o' _ (Yf hp) (by omega) P' fun b lz n9 => ?_
  have hlen:(zs.map cJ).length < 1000:=by
   rw[qx];have:=hz.length_le;rw[Yr] at this;omega
  have P3:bA (n + ((j + 1:Nat):Int)) lz:=n9.mono (by omega)
  cases b with
  | true =>
   rw[Xs rfl];refine⟨hlen,hL _ _ ⟨zs ++ [p],lz,(sub_snoc hz hp).1,by rw[Yt];rfl,P3,?_⟩⟩;show (⟨none :: fW 2 rest rest,_⟩:aA)=_;rw[hr];rfl
  | false =>
   rw[NM (by decide)];refine hL _ _ ⟨zs,lz,(sub_snoc hz hp).2,rfl,P3,?_⟩;show (⟨none :: fW 2 rest rest,_⟩:aA)=_;rw[hr];rfl
 ·rintro acc δ ⟨zs,o',hz,rfl,P',rfl⟩
  rw[qx] at P' hz;rw[Yv (uu _)] at hz;exact⟨hc _ _,fin zs o' hz P'⟩
theorem Rj:∀ ys ai K',ys.length=3->Br ys ai K'->Bs (bI ai.length K') ⟨ys.map some ++ List.replicate 4 none,ai.map some⟩:=by
 rintro ys ai K' - ⟨n,kind,many,o,rfl,rfl,P,hn,m1,f_,fin⟩;obtain⟨mm,rfl⟩:∃ mm:Nat,many=mm:=⟨many.toNat,by omega⟩;have Bu:mm <= 12:=by omega
 unfold Bs;have b_:dr mm (ja mm):=⟨fun p hp=>As hp,Gf mm,Gg mm Bu⟩;refine aU fun N hN => ?_;simp? only [];subst hN;refine aU fun N hN => ?_;simp? only [];refine⟨by omega,?_⟩;refine mz (fun i δ => δ = ⟨[some (.o 0),some (.p (.int kind)),some (.p (.int mm)),some (.o 1),none,none,none],[some o,some (.lst ((ja i).map cJ))]⟩) rfl ?_ ?_
 ·rintro j d δ L hj rfl hL
  obtain⟨hj,rfl⟩:=nP hj;simp? only [];have e:(0 + (j:Int))=j:=by omega
  rw[e];refine⟨by omega,?_⟩
  refine j8 (fun d=>match d with
   | .int a=>cJ (a,j)
   | _ => .non) (by rw[mw];omega) trivial ?_ ?_
  ·intro d hd acc L' ha h
   obtain⟨i,hi⟩:=X9.mp hd;obtain⟨hi,rfl⟩:=nP hi;simp? only [];exact⟨ha,h⟩
  ·have e2:(ja j).map cJ ++ (cq 0 (j:Int).toNat).map (fun d=>match d with
    | .int a=>cJ (a,j)
    | _ => .non)=(ja (j + 1)).map cJ:=by
    show _=(ja j ++ _).map cJ;unfold cq;rw[Yt,Yj,Yj];congr 1;refine YY fun a _ => ?_;simp[Function.comp]
   simp? only [];have XG:=Gg j (by omega);refine⟨by rw[mw];omega,?_⟩;rw[e2];exact hL _ rfl
 ·rintro δ rfl
  refine⟨trivial,?_⟩;subst hN;have eL:((mm:Int)).toNat=mm:=by omega
  rw[mw,eL];dsimp only
  have back:∀ (ps:List (Int × Int)) (o':OV) (sl:List (Option DV)) (m:List (Option OV)),dr mm ps->bA (n + 67) o'->gD 1 K' (.o (m.length + 1)) ⟨sl,some o' :: (m ++ [some (.lst (ps.map cJ))])⟩:=fun ps o' sl m h1 h2=>by
   refine⟨[o'],rfl,rfl,?_⟩;show if m.length + 1 < 1 then _ else _;rw[NM (by omega)]
   have:(some o' :: (m ++ [some (OV.lst (ps.map cJ))]))[m.length + 1]? = some (some (.lst (ps.map cJ))):=by
    rw[ZF,X7 (uu _),YI];rfl
   dsimp only;rw[this];exact .inl (fin ps o' h1 h2)
  refine aU fun N hN => ?_;simp? only [aD];split
  ·refine⟨by omega,?_⟩
   refine A6 (fun i acc δ => ∃ (zs:List (Int × Int)) (o':OV),zs.length=i/\(∀ (q:Nat) (p:Int × Int),zs[q]? = some p->p.2=q + 1/\0 <= p.1/\p.1 < p.2)/\acc=zs.map cJ/\bA (n + i) o' /\ δ = ⟨[none,some (.o 0)],[some o',some (.lst ((ja mm).map cJ))]⟩) ⟨[],o,rfl,fun q p e=>by simp at e,rfl,P.mono (by omega),rfl⟩ ?_ ?_
   ·rintro j d acc δ L hj ⟨zs,o',hz,hq,rfl,P',rfl⟩ hL
    obtain⟨hj,rfl⟩:=nP hj;simp? only [];refine⟨n + j,1 + j,o',rfl,rfl,P',by omega,by omega,by omega,fun r lz r0 r1 n9 => ?_⟩;simp? only [];refine⟨by omega,hL _ _ ⟨zs ++ [(r,1 + (j:Int))],lz,by rw[Fv,hz];rfl,fun q p e => ?_,by rw[Yt];rfl,n9.mono (by omega),rfl⟩⟩
    by_cases c:q < zs.length
    ·rw[X1 c] at e
     exact hq q p e
    ·have hl:=(sA.mp e).1
     rw[Fv,Yi] at hl;have:q=zs.length:=by omega
     subst this;rw[X7 (uu _),YI] at e;cases (show some (r,1 + (j:Int))=some p by simpa using e)
     exact⟨by show 1 + (j:Int)=_;omega,r0,r1⟩
   ·rintro acc δ ⟨zs,o',hz,hq,rfl,P',rfl⟩
    rw[mw] at hz P';refine⟨trivial,?_⟩;refine back zs o' _ [_] ⟨fun p hp => ?_,?_,by omega⟩ (P'.mono (by omega))
    ·obtain⟨q,HN⟩:=X9.mp hp
     have:=hq q p HN;have hl:=(sA.mp HN).1;omega
    ·refine Zr.mpr fun i j hi hj iC e => ?_
     have q1:=hq i _ (qv hi);have q2:=hq j _ (qv hj);rw[e] at q1;omega
  subst hN;refine aU fun N hN => ?_;simp? only [aD];split
  ·clear hN
   refine⟨by omega,?_⟩
   refine j8 (fun d=>match d with
    | .int a=>cJ (a,a + 1)
    | _ => .non) (by rw[mw];omega) trivial ?_ ?_
   ·intro d hd acc L' ha h
    obtain⟨i,hi⟩:=X9.mp hd;obtain⟨hi,rfl⟩:=nP hi;simp? only [];exact⟨ha,h⟩
   ·simp? only []
    refine nZ (fun d=>aD d (cJ (0,mm - 1)) && decide ((2:Int) < mm)) id (by rw[qx];have:=b_.iH;omega) rfl ?_ ?_
    ·intro d hd acc L' ha h h'
     obtain⟨p,hp,rfl⟩:=X0.mp hd;simp only[cJ] at h h';simp? only [cJ];split
     ·rename_i q1
      split
      ·rename_i q2
       exact⟨ha,h (by rw[q1,q2];rfl)⟩
      ·rename_i q2
       exact h' (by rw[q1,Bool.not_eq_true _ |>.mp q2];rfl)
     ·rename_i q1
      exact h' (by rw[Bool.not_eq_true _ |>.mp q1];rfl)
    ·simp? only []
     have er:(cq 0 ((mm:Int) - 1).toNat).map (fun d=>match d with
       | D.int a=>cJ (a,a + 1)
       | x=>D.non)=((List.range (mm - 1)).map fun i:Nat=>((i:Int),(i:Int) + 1)).map cJ:=by
      unfold cq;rw[Yj,Yj];have:((mm:Int) - 1).toNat=mm - 1:=by omega
      rw[this];refine YY fun a _ => ?_;simp[Function.comp]
     have ef:(((ja mm).map cJ).filter fun d=>aD d (cJ (0,mm - 1)) && decide ((2:Int) < mm))=((ja mm).filter fun p=>aD (cJ p) (cJ (0,mm - 1)) && decide ((2:Int) < mm)).map cJ:=by
      rw[q0d];rfl
     rw[er,ZZ,ef,<-Yt]
     have hf:∀ p∈(ja mm).filter (fun p=>aD (cJ p) (cJ (0,mm - 1)) && decide ((2:Int) < mm)),p=(0,(mm:Int) - 1)/\(2:Int) < mm:=fun p hp=>by
      have:=(YT.mp hp).2;simp[cJ,aD,bR] at this;obtain⟨a,b⟩:=p;simp at this ⊢;omega
     have h1:((ja mm).filter (fun p=>aD (cJ p) (cJ (0,mm - 1)) && decide ((2:Int) < mm))).length <= 1:=Ri (b_.rA.sublist List.filter_sublist) fun p hp=>(hf p hp).1;refine⟨by rw[mw,qx];omega,back _ o _ [_] ⟨fun p hp => ?_,?_,?_⟩ (P.mono (by omega))⟩
     ·rcases Ys.mp hp with hp | hp
      ·obtain⟨i,hi,rfl⟩:=X0.mp hp
       have:=Yq.mp hi;exact⟨by omega,by omega,by show (i:Int) + 1 < mm;omega⟩
      ·exact b_.ends p (YT.mp hp).1
     ·refine Ze.mpr ⟨?_,b_.rA.sublist List.filter_sublist,fun a ha b hb e => ?_⟩
      ·refine Zl.mpr (q0M.imp fun {a b} ne e=>ne ?_)
       have:=congrArg Prod.fst e;exact Int.ofNat.inj this
      ·subst e
       obtain⟨i,hi,rfl⟩:=X0.mp ha;have:=hf _ hb;have h2:=congrArg Prod.fst this.1;have h3:=congrArg Prod.snd this.1;simp at h2 h3;omega
     ·rw[Fv,qx,YG];omega
  subst hN;refine aU fun N hN => ?_;simp? only [aD];split
  ·exact⟨[o],rfl,rfl,.inl (fin _ _ b_ (P.mono (by omega)))⟩
  subst hN;refine aU fun N hN => ?_;simp? only [aD];split
  ·refine Bt (fun _ _=>rfl) b_.iH P (by omega) (fun p i o' Q hp hi P' hQ => ?_) rfl fun zs o' hz P' => ?_
   ·simp? only [aD]
    refine⟨n + i,4,o',rfl,rfl,P',by omega,by omega,by omega,fun r lz r0 r1 n9 => ?_⟩;simp? only [];exact hQ _ _ n9
   ·exact back zs o' _ [_] (b_.sub hz) (P'.mono (by have:=b_.iH;omega))
  subst hN;refine aU fun N hN => ?_;simp? only [aD];split
  ·refine⟨n,mm + 1,o,rfl,rfl,P,by omega,by omega,by omega,fun half o1 r0 r1 P1 => ?_⟩
   simp? only [];refine Bt (n:=n + 1) (fun _ _=>rfl) b_.iH P1 (by omega) (fun p i o' Q hp hi P' hQ => ?_) rfl fun zs o' hz P' => ?_
   ·simp? only [aD,cJ,fB,d_]
    split
    ·refine⟨n + 1 + i,3,o',rfl,rfl,P',by omega,by omega,by omega,fun r lz r0 r1 n9 => ?_⟩
     simp? only [];exact hQ _ _ n9
    ·exact hQ _ _ (P'.mono (by omega))
   ·exact back zs o' _ [_] (b_.sub hz) (P'.mono (by have:=b_.iH;omega))
  subst hN;simp? only [aD];refine Bt (fun _ _=>rfl) b_.iH P (by omega) (fun p i o' Q hp hi P' hQ => ?_) rfl fun zs o' hz P' => ?_
  ·simp? only [aD]
   refine⟨n + i,2,o',rfl,rfl,P',by omega,by omega,by omega,fun r lz r0 r1 n9 => ?_⟩;simp? only [];exact hQ _ _ n9
  ·exact back zs o' _ [_] (b_.sub hz) (P'.mono (by have:=b_.iH;omega))
theorem HP {α : Type}:∀ {l:List α} {j:Nat} (h:j < l.length),List.Perm (l[j] :: l.eraseIdx j) l
 | x :: r,0,h=>q11 _
 | x :: r,j + 1,h=>by
  have hj:j < r.length:=by simpa using h
  show List.Perm (r[j] :: x :: r.eraseIdx j) (x :: r);exact (List.Perm.swap x r[j] _).trans ((HP hj).cons x)
theorem HQ {α β : Type} (f : α -> β):∀ (l:List α) (j:Nat),(l.map f).eraseIdx j=(l.eraseIdx j).map f
 | [],_=>rfl
 | _ :: _,0=>rfl
 | x :: r,j + 1=>by
  show f x :: (r.map f).eraseIdx j=f x :: (r.eraseIdx j).map f;rw[HQ f r j]
noncomputable def bV (y:Int × Int × Int):D := .tup [.int y.1,.int y.2.1,.int y.2.2]
noncomputable def aN (m:Int) (ys:List (Int × Int × Int)):D := .tup [.int m,.tup (ys.map bV)]
noncomputable def rF (y:Int × Int × Int):Int × Int:=(y.1,y.2.1)
theorem dr.perm {many:Int} {ps qs:List (Int × Int)} (h:dr many ps) (p:qs.Perm ps):dr many qs :=
 ⟨fun x hx=>h.ends x (p.mem_iff.mp hx),p.nodup_iff.mpr h.rA,by rw[p.length_eq];exact h.iH⟩
noncomputable def Bv:GD:=fun ys ai K=>∃ (n dB most:Int) (o:OV),ys=[.o 0,.p (.int dB),.p (.int most)]/\ai=[o]/\bA n o/\n + 400 < 2 ^ 30/\1 <= dB/\dB <= 12/\0 <= most/\most <= 30 ∧
 ∀ m ws o',bP m ws->m <= dB->(ws.length:Int) <= most->bA (n + 300) o'->K (.p (aN m ws)) [o']
noncomputable def Bw:WS:=(ay (aL 3 (au 2 iD (aj (aa 0) (aj (dC (.int 8)) ag)))) (ay (aL 4 (au 2 iD (aj (aa 0) (aj (dC (.int 4)) ag)))) (ay (aL 5 (d2 (dC (.int 1)) (au 2 iD (aj (aa 0) (aj (aa 1) ag))) dH)) (ay (aL 6 (uY 3 Br (aj (aa 0) (aj (aa 3) (aj (aa 5) ag))))) (ay (aL 7 (qJ ag)) (ay (dR (nM (aj (dN (aj (aa 2) (aj (dN (aj (aa 6) ag) cL) ag)) vg) ag)) (bG 8) (ay (jG (vq (aa 6) (aj (au 2 iD (aj (aa 0) (aj (dN (aj (aa 6) ag) cL) ag))) ag)) (jF 2 (e8 (bG 9) (e8 (bG 10) je)))) (ay (aL 11 (d2 (dw (aj (dC (.int 7)) (aj (au 2 iD (aj (aa 0) (aj (dC (.int 3)) ag))) (aj (d2 (d2 (dC (.int 10)) (dC (.int 9)) (dS gv fun i j => .int (i ^ j.toNat))) (au 2 iD (aj (aa 0) (aj (dC (.int 2)) ag))) (oI fun i j => .int (i - j))) (aj (au 2 iD (aj (aa 0) (aj (d2 (d2 (dC (.int 10)) (dC (.int 9)) (dS gv fun i j => .int (i ^ j.toNat))) (dC (.int 1)) dH) ag))) ag))))) (aa 4) aW)) (kW (iS (aa 7) (aj (de (aj (aa 9) (aj (aa 10) (aj (aa 11) ag)))) ag)))))) (aI (de (aj (aa 5) (aj (dN (aj (aa 7) ag) xI) ag))))))))))
theorem Rk:∀ ys ai K',ys.length=3->Bv ys ai K'->Bw (bI ai.length K') ⟨ys.map some ++ List.replicate 9 none,ai.map some⟩:=by
 rintro ys ai K' - ⟨n,dB,most,o,rfl,rfl,P,hn,h1,HR,s0,XH,fin⟩;unfold Bw;refine aU fun N hN => ?_;simp? only [];refine⟨n,8,o,rfl,rfl,P,by omega,by omega,by omega,fun kind o1 _ _ P1 => ?_⟩;simp? only [];subst hN;refine aU fun N hN => ?_;simp? only [];refine⟨n + 1,4,o1,rfl,rfl,P1,by omega,by omega,by omega,fun eu o2 p0 p4 P2 => ?_⟩;simp? only [];subst hN;refine aU fun N hN => ?_;simp? only [];refine⟨n + 1 + 1,dB,o2,rfl,rfl,P2,by omega,by omega,by omega,fun mm o3 m0 mh P3 => ?_⟩;simp? only [];subst hN;refine aU fun N hN => ?_;simp? only [];refine⟨n + 1 + 1 + 1,kind,1 + mm,o3,rfl,rfl,P3,by omega,by omega,by omega,fun ps o4 HS P4 => ?_⟩
 simp? only [];subst hN;refine aU fun N hN => ?_;simp? only [];subst hN;refine aU fun N hN => ?_;have XI:=HS.iH;simp? only [];refine⟨by omega,?_⟩;have ek:(min most (ps.length:Int)).toNat=min most.toNat ps.length:=by omega
 rw[ek];generalize hk:min most.toNat ps.length=k
 refine mz (fun i δ => ∃ (qs:List (Int × Int)) (ws:List (Int × Int × Int)) (o':OV),qs.length + i=ps.length/\ws.length=i/\dr (1 + mm) (ws.map rF ++ qs)/\(∀ y∈ws,0 <= y.2.2/\y.2.2 <= 1000000000)/\bA (n + 70 + 4 * i) o' ∧
  δ = ⟨[some (.o 0),some (.p (.int dB)),some (.p (.int most)),some (.p (.int kind)),some (.p (.int eu)),some (.p (.int (1 + mm))),some (.o 1),some (.o 2),none,none,none,none],[some o',some (.lst (qs.map cJ)),some (.lst (ws.map bV))]⟩)
  ⟨ps,[],o4,by omega,rfl,HS,fun y hy=>absurd hy Ym,P4.mono (by omega),rfl⟩ ?_ ?_
 ·rintro j d δ L hj ⟨qs,ws,o',hq,hw,hp,hy,P',rfl⟩ hL
  obtain⟨hj,rfl⟩:=nP hj;have q0:0 < qs.length:=by omega
  have Rm:=hp.iH;rw[Fv,qx] at Rm;refine⟨trivial,?_⟩;simp only[bG,YC,YD];refine aU fun N2 eg => ?_;simp? only [];refine⟨n + 70 + 4 * j,qs.length,o',rfl,rfl,P',by omega,by omega,by omega,fun r o1 r0 r1 P1 => ?_⟩;obtain⟨rn,rfl⟩:∃ rn:Nat,r=rn:=⟨r.toNat,by omega⟩;have hr:rn < qs.length:=by omega
  have ix:seqIndex? (rn:Int) qs.length=some rn:=Po hr;have eq:(qs.map cJ)[rn]? = some (.tup [.int qs[rn].1,.int qs[rn].2]):=by rw[My,qv hr];rfl
  simp? only [ix,eq];refine⟨⟨by omega,by omega⟩,?_⟩;subst eg;refine aU fun N2 eg => ?_;simp only[aL,d2,dw];refine x5 fun K3 rG => ?_;simp? only [];subst rG;refine x5 fun K3 rG => ?_;simp? only [];refine⟨n + 70 + 4 * j + 1,3,o1,rfl,rfl,P1,by omega,by omega,by omega,fun a1 o2 XJ XM P2 => ?_⟩;simp? only [];subst rG;refine x5 fun K3 rG => ?_;simp? only [];refine⟨⟨by decide,by decide,by decide⟩,n + 70 + 4 * j + 1 + 1,2,o2,rfl,rfl,P2,by omega,by omega,by omega,fun a2 o3 XN XO P3 => ?_⟩;simp? only [];subst rG;refine x5 fun K3 rG => ?_;simp? only [];refine⟨⟨by decide,by decide,by decide⟩,n + 70 + 4 * j + 1 + 1 + 1,10 ^ Int.toNat 9 + 1,o3,rfl,rfl,P3,by omega,by decide,by decide,fun a3 o4 XQ Ro P4 => ?_⟩
  simp? only [];subst rG;simp? only [];have e9:(10:Int) ^ Int.toNat 9=1000000000:=by decide
  rw[e9] at Ro ⊢
  obtain⟨pr,Rp,Rq,Rr⟩:∃ pr:Int,eO [D.int 7,D.int a1,D.int (1000000000 - a2),D.int a3] eu=some (.int pr)/\0 <= pr/\pr <= 1000000000:=by
   have:eu=0\/eu=1\/eu=2\/eu=3:=by omega
   rcases this with rfl | rfl | rfl | rfl
   ·exact⟨7,rfl,by omega,by omega⟩
   ·exact⟨a1,rfl,by omega,by omega⟩
   ·exact⟨1000000000 - a2,rfl,by omega,by omega⟩
   ·exact⟨a3,rfl,by omega,by omega⟩
  rw[Rp];show N2 _;subst eg;simp? only [];refine⟨by omega,hL _ ⟨qs.eraseIdx rn,ws ++ [(qs[rn].1,qs[rn].2,pr)],o4,?_,?_,?_,?_,P4.mono (by omega),?_⟩⟩
  ·rw[List.length_eraseIdx_of_lt hr];omega
  ·rw[Fv,hw];rfl
  ·refine hp.perm ?_
   rw[Yt,ZC];refine List.Perm.append_left _ ?_;exact HP hr
  ·intro y sZ
   rcases Ys.mp sZ with h | h
   ·exact hy y h
   ·rw[Yn.mp h];exact⟨Rq,Rr⟩
  ·rw[Yt,HQ];rfl
 ·rintro δ ⟨qs,ws,o',hq,hw,hp,hy,P',rfl⟩
  refine⟨trivial,?_⟩;subst hN;simp? only [];rw[mw] at hw P';refine⟨[o'],rfl,rfl,?_⟩;refine fin (1 + mm) ws o' ⟨by omega,by omega,by omega,fun y sZ => ?_,?_⟩ (by omega) (by omega) (P'.mono (by omega))
  ·have:=hp.ends (rF y) (Yz _ (X0.mpr ⟨y,sZ,rfl⟩))
   have h2:=hy y sZ;simp only[rF] at this;omega
  ·exact (Ze.mp hp.rA).1
end LJ
namespace L2
open PySem PySem.Spec PyProof.Rows
variable [aK]
noncomputable def x6:List D->(D->Prop)->Prop
 | [.lst ds],K=>match pL ds with
  | some ps=>(ps.length <= 30/\∀ p∈ps,0 <= p.1/\p.1 < p.2/\p.2 < 12)/\K (.int (gh ps ps.length).length)
  | none=>False
 | _,_=>False
section
variable {X:Cx} {fa:WA}
theorem Rt {a:Expr} {p1 p2 q1 q2:Pos} (hc:X.calm=true) (hu:X.A.units + 64 < cLine) (vi:Gl X "len") (hl:X.mg "len" = none) (vj:bootBuiltins "len" = some (.builtin "len")) (nX:Gl X "set") (hr:X.mg "set" = none) (nY:bootBuiltins "set" = some (.type "set")) (ha:JA X [a] (cz fa))
  (he:starEach [a] X.env=[(false,eval a X.env)]:=by rfl) (vk:starEach [.Call (.Name "set" p2) [a] [] q2] X.env=[(false,eval (.Call (.Name "set" p2) [a] [] q2) X.env)]:=by rfl):JE X (.Call (.Name "len" p1) [.Call (.Name "set" p2) [a] [] q2] [] q1) (tD (dN fa x6)) :=
 (w4 (Pj) vi hl vj (kP (pe (QY hc hu) nX hr nY ha (he:=he)) bN) (he:=vk)).weak fun σ H Q h0_ => el7 h0_ fun F ad δ K S q k =>⟨F,ad,δ,_,S,q,fun xs δ1 h1 vs F1 aP H1 E1 S1 V1=>by
  obtain⟨ds,h2,qG⟩:=xa S1 V1 h1;unfold x6 at h2;split at h2
  ·split at h2
   ·rename_i es ps e
    obtain⟨v,rfl,a,vs,rfl,g1,g2⟩:=c8 qG;rw[HG e] at g2;obtain⟨as,rfl,hl,g⟩:=HJ g2;refine⟨a,as,ps,rfl,bz.of g1,hl,fun i b k' e1 e2=>S1.sub _ _ (g i b k' e1 e2),h2.1.2,h2.1.1,fun p hp=>⟨p,(gh ps ps.length).length,rfl,bZ,by have:=h2.1.1;have:=Bh ps ps.length;omega,?_⟩⟩;have s1:aF H1 (upd H1 p (kQ p (gh ps ps.length).length)):=c_ hp;exact k _ _ h2.2 _ _ _ _ (E1.trans (Ext.al S1 s1)) (S1.al s1) rfl
   ·exact h2.elim
  ·exact h2.elim⟩
end
end L2
namespace LJ
open PySem L2
variable [aK]
noncomputable def Bx:D->Bool
 | .int _=>true
 | _=>false
noncomputable def ji:D->Int->Int->Bool
 | .int i,lo,hi=>decide (lo <= i) && decide (i <= hi)
 | _,_,_=>false
noncomputable def n_:D->Int->Bool
 | .tup ds,n=>(ds.length:Int) == n
 | _,_=>false
theorem cY {K:RV->List OV->Prop} {d:D} {sl:List (Option DV)} (h:K (.p d) []):gD 0 K (.p d) ⟨sl,[]⟩:=⟨[],rfl,rfl,h⟩
noncomputable def x8:GD:=fun ys ai K=>∃ d,ys=[.p d]/\ai=[]/\K (.p (.bl (Bx d))) []
noncomputable def By:WS:=(aI (iP (d1 (aa 0) (b9 "int")) (xh (d1 (aa 0) (b9 "bool")))))
theorem HU:∀ ys ai K',ys.length=1->x8 ys ai K'->By (bI ai.length K') ⟨ys.map some ++ List.replicate 0 none,ai.map some⟩:=by
 rintro ys ai K' - ⟨d,rfl,rfl,k⟩;unfold By;simp? only [];cases d<;>simp only[cf,aV]<;>exact cY k
noncomputable def oa:GD:=fun ys ai K=>∃ d lo hi,ys=[.p d,.p (.int lo),.p (.int hi)]/\ai=[]/\K (.p (.bl (ji d lo hi))) []
noncomputable def Bz:WS:=(aI (iP (au 1 x8 (aj (aa 0) ag)) (xG (aa 1) (aa 0) (aa 2) (oI fun i j => .bl (decide (i <= j))) (oI fun i j => .bl (decide (i <= j))))))
theorem HV:∀ ys ai K',ys.length=3->oa ys ai K'->Bz (bI ai.length K') ⟨ys.map some ++ List.replicate 0 none,ai.map some⟩:=by
 rintro ys ai K' - ⟨d,lo,hi,rfl,rfl,k⟩;unfold Bz;simp? only [];refine⟨d,rfl,rfl,?_⟩;cases d<;>simp? only [Bx,ji] at k ⊢ <;> first | exact cY k | skip
 rename_i i
 by_cases c:lo <= i
 ·rw[NN c] at k ⊢
  simp only[q0S] at k;exact cY k
 ·rw[Xp c] at k ⊢
  simp only[q12] at k;exact cY k
noncomputable def x9:GD:=fun ys ai K=>∃ d n,ys=[.p d,.p (.int n)]/\ai=[]/\K (.p (.bl (n_ d n))) []
noncomputable def BA:WS:=(aI (iP (d1 (aa 0) (b9 "tuple")) (d2 (dN (aj (aa 0) ag) cL) (aa 1) oEq)))
theorem Ru:∀ ys ai K',ys.length=2->x9 ys ai K'->BA (bI ai.length K') ⟨ys.map some ++ List.replicate 0 none,ai.map some⟩:=by
 rintro ys ai K' - ⟨d,n,rfl,rfl,k⟩;unfold BA;simp? only [];cases d<;>simp? only [cf,aV,n_,aD] at k ⊢ <;> exact cY k
noncomputable def HW (m:Int):D->D->Bool
 | .int i,b=>ji b (i + 1) (m - 1)
 | _,_=>false
noncomputable def vN (m:Int) (a b:D):Bool:=ji a 0 (m - 1) && HW m a b
theorem vO {d:D} {lo hi:Int} (h:ji d lo hi=true):∃ i,d = .int i/\lo <= i/\i <= hi:=by
 cases d with
 | int i =>
  have h:(decide (lo <= i) && decide (i <= hi))=true:=h;rw[Yl,Y0,Y0] at h;exact⟨i,rfl,h⟩
 | _=>cases h
noncomputable def BB:GD:=fun ys ai K=>∃ m a b,ys=[.p (.int m),.p a,.p b]/\ai=[]/\K (.p (.bl (vN m a b))) []
noncomputable def BC:WS:=(aI (iP (au 3 oa (aj (aa 1) (aj (dC (.int 0)) (aj (d2 (aa 0) (dC (.int 1)) (oI fun i j => .int (i - j))) ag)))) (au 3 oa (aj (aa 2) (aj (d2 (aa 1) (dC (.int 1)) dH) (aj (d2 (aa 0) (dC (.int 1)) (oI fun i j => .int (i - j))) ag))))))
theorem Rv:∀ ys ai K',ys.length=3->BB ys ai K'->BC (bI ai.length K') ⟨ys.map some ++ List.replicate 0 none,ai.map some⟩:=by
 rintro ys ai K' - ⟨m,a,b,rfl,rfl,k⟩;unfold BC;simp? only [];refine⟨a,0,m - 1,rfl,rfl,?_⟩;simp? only [];unfold vN at k;cases q:ji a 0 (m - 1)
 ·rw[q] at k
  exact cY k
 ·rw[q] at k
  obtain⟨i,rfl,_,_⟩:=vO q;simp? only [q0S,HW] at k ⊢;refine⟨b,i + 1,m - 1,rfl,rfl,?_⟩;simp? only [];exact cY k
noncomputable def cG (m:Int):D->Bool
 | .tup [a,b,p]=>vN m a b && ji p 0 1000000000
 | _=>false
noncomputable def BE:GD:=fun ys ai K=>∃ m d,ys=[.p (.int m),.p d]/\ai=[]/\K (.p (.bl (cG m d))) []
noncomputable def BF:WS:=(ay (bo (cX (dT (au 2 x9 (aj (aa 1) (aj (dC (.int 3)) ag))))) (aI (dC (.bl false))) cK) (aI (iP (au 3 BB (aj (aa 0) (aj (d2 (aa 1) (dC (.int 0)) aW) (aj (d2 (aa 1) (dC (.int 1)) aW) ag)))) (au 3 oa (aj (d2 (aa 1) (dC (.int 2)) aW) (aj (dC (.int 0)) (aj (dC (.int 1000000000)) ag)))))))
theorem Rw {m:Int} {d:D} (h:n_ d 3=false):cG m d=false:=by
 unfold cG;split
 ·exact absurd h (by simp[n_])
 ·rfl
theorem BG {d:D} (h:n_ d 3=true):∃ a b c,d = .tup [a,b,c]:=by
 cases d with
 | tup ds =>
  have h:((ds.length:Int) == 3)=true:=h;have h:=Y_ h
  match ds,h with
  | [a,b,c],_=>exact⟨a,b,c,rfl⟩
  | [],h=>simp at h
  | [_],h=>simp at h
  | [_,_],h=>simp at h
  | _ :: _ :: _ :: _ :: r,h=>simp at h;omega
 | _=>cases h
theorem BH {d:D} (h:n_ d 2=true):∃ a b,d = .tup [a,b]:=by
 cases d with
 | tup ds =>
  have h:((ds.length:Int) == 2)=true:=h;have h:=Y_ h
  match ds,h with
  | [a,b],_=>exact⟨a,b,rfl⟩
  | [],h=>simp at h
  | [_],h=>simp at h
  | _ :: _ :: _ :: r,h=>simp at h;omega
 | _=>cases h
theorem Rx:∀ ys ai K',ys.length=2->BE ys ai K'->BF (bI ai.length K') ⟨ys.map some ++ List.replicate 0 none,ai.map some⟩:=by
 rintro ys ai K' - ⟨m,d,rfl,rfl,k⟩;unfold BF;refine aU fun N hN => ?_;simp? only [];refine⟨d,3,rfl,rfl,?_⟩;simp? only [];cases q:n_ d 3
 ·rw[Rw q] at k
  simp only[q15,Z0];exact cY k
 ·simp only[Zu,Ye,YS]
  subst hN;obtain⟨a,b,c,rfl⟩:=BG q;simp? only [fB,d_,at2];refine⟨m,a,b,rfl,rfl,?_⟩;simp? only [cG] at k ⊢;cases q2:vN m a b
  ·rw[q2] at k
   exact cY k
  ·rw[q2] at k
   refine⟨c,0,1000000000,rfl,rfl,?_⟩;simp? only [q0S] at k ⊢;exact cY k
noncomputable def pairOf:D->Int × Int
 | .tup [.int i,.int j,_]=>(i,j)
 | _=>(0,0)
theorem HX {m:Int} {d:D} (h:cG m d=true):∃ i j p,d = .tup [.int i,.int j,.int p]/\0 <= i/\i < j/\j < m/\0 <= p/\p <= 1000000000:=by
 unfold cG at h;split at h
 ·rename_i a b p
  rw[Yl] at h;obtain⟨h1,h2⟩:=h;unfold vN at h1;rw[Yl] at h1;obtain⟨i,rfl,i0,i1⟩:=vO h1.1;have h3:ji b (i + 1) (m - 1)=true:=h1.2;obtain⟨j,rfl,j0,j1⟩:=vO h3;obtain⟨p',rfl,p0,p1⟩:=vO h2;exact⟨i,j,p',rfl,i0,by omega,by omega,p0,p1⟩
 ·cases h
noncomputable def rH (m:Int):D->Bool
 | .tup ws=>decide (ws.length <= 30) && (ws.all (cG m) && decide ((ws.map pairOf).Nodup))
 | _=>false
noncomputable def BI:GD:=fun ys ai K=>∃ m d,ys=[.p (.int m),.p d]/\ai=[]/\m <= 12/\K (.p (.bl (rH m d))) []
noncomputable def BJ:WS:=(ay (bo (j6 (cX (dT (d1 (aa 1) (b9 "tuple")))) (dT (d2 (dN (aj (aa 1) ag) cL) (dC (.int 30)) (oI fun i j => .bl (decide (j < i)))))) (aI (dC (.bl false))) cK) (ay (bo (cX (dT (dN (aj (fy (bO (aa 1)) [none,some 0] (bG 0) dA (au 2 BE (aj (aa 1) (aj (aa 0) ag)))) ag) nV))) (aI (dC (.bl false))) cK) (aI (d2 (dN (aj (fy (bO (aa 1)) [none] (bG 0) dA (hV (aa 0) hU (pF (dC (.int 2))))) ag) x6) (dN (aj (aa 1) ag) cL) oEq))))
theorem Ry:∀ ys ai K',ys.length=2->BI ys ai K'->BJ (bI ai.length K') ⟨ys.map some ++ List.replicate 0 none,ai.map some⟩:=by
 rintro ys ai K' - ⟨m,d,rfl,rfl,hm,k⟩;unfold BJ;refine aU fun N hN => ?_
 by_cases ht:∃ ws,d = .tup ws
 ·obtain⟨ws,rfl⟩:=ht
  simp? only [cf,show aV "tuple" "tuple" = true from rfl]
  by_cases HY:(30:Int) < ws.length
  ·rw[Xs (NN HY)]
   have:rH m (.tup ws)=false:=by
    show (decide (ws.length <= 30) && _)=false;rw[Xp (by omega)];rfl
   rw[this] at k;exact cY k
  ·rw[NM (by rw[Xp HY];decide)]
   subst hN;have vP:ws.length <= 30:=by omega
   refine aU fun N hN => ?_;simp? only [];refine j8 (fun d => .bl (cG m d)) (by omega) trivial ?_ ?_
   ·intro d hd acc L ha h
    simp? only [];refine⟨m,d,rfl,rfl,?_⟩;simp? only [];exact⟨ha,h⟩
   ·have e:qY (ws.map fun d=>D.bl (cG m d))=some (ws.map (cG m)):=by
     have:=G2 (ws.map (cG m));rw[Yj] at this;exact this
    simp? only [e];have ea:(ws.map (cG m)).all id=ws.all (cG m):=by rw[List.all_map];rfl
    rw[ea];cases q:ws.all (cG m)
    ·have:rH m (.tup ws)=false:=by
      show (decide (ws.length <= 30) && (ws.all (cG m) && _))=false;rw[q];simp
     rw[this] at k;exact cY k
    ·simp only[Zu,Ye,YS]
     subst hN;have hw:∀ w∈ws,cG m w=true:=YV.mp q;simp? only [];refine j8 (fun d => .tup [.int (pairOf d).1,.int (pairOf d).2]) (by omega) trivial ?_ ?_
     ·intro d hd acc L ha h
      obtain⟨i,j,p,rfl,_⟩:=HX (hw d hd)
      have ec:cutD [D.int i,D.int j,D.int p] none (some 2)=[D.int i,D.int j]:=by
       unfold cutD;rfl
      simp? only [ec];exact⟨ha,h⟩
     ·have ep:pL (ws.map fun d=>D.tup [.int (pairOf d).1,.int (pairOf d).2])=some (ws.map pairOf):=by
       have:=HH (ws.map pairOf);rw[Yj] at this;exact this
      have kk:rH m (.tup ws)=decide ((ws.map pairOf).Nodup):=by
       show (decide (ws.length <= 30) && (ws.all (cG m) && _))=_;rw[q,NN vP];rfl
      rw[kk] at k;simp? only [x6,ep,aD];refine⟨⟨vP,fun p hp => ?_⟩,cY ?_⟩
      ·obtain⟨w,Rz,rfl⟩:=X0.mp hp
       obtain⟨i,j,p,rfl,a1,a2,a3,_⟩:=HX (hw w Rz);exact⟨a1,a2,by show j < 12;omega⟩
      ·have:(((gh (ws.map pairOf) ws.length).length:Int) == (ws.length:Int))=decide ((ws.map pairOf).Nodup):=by
        by_cases c:(ws.map pairOf).Nodup
        ·have e2:=HI c (ws.map pairOf).length (uu _)
         rw[qx] at e2;rw[NN c,e2,Yr,qx,Nat.min_self];simp
        ·rw[Xp c]
         refine beq_false_of_ne fun z=>c (QX ?_);rw[qx];omega
       rw[this];exact k
 ·have:rH m d=false:=by
   cases d with
   | tup ws=>exact absurd ⟨ws,rfl⟩ ht
   | _=>rfl
  rw[this] at k
  cases d with
  | tup ws=>exact absurd ⟨ws,rfl⟩ ht
  | _=>simp? only [cf];exact cY k
noncomputable def lA:D->Bool
 | .tup [m,ws]=>ji m 1 12 && (match m with
  | .int i=>rH i ws
  | _=>false)
 | _=>false
noncomputable def BK:GD:=fun ys ai K=>∃ d,ys=[.p d]/\ai=[]/\K (.p (.bl (lA d))) []
noncomputable def BL:WS:=(ay (bo (cX (dT (au 2 x9 (aj (aa 0) (aj (dC (.int 2)) ag))))) (aI (dC (.bl false))) cK) (aI (iP (au 3 oa (aj (d2 (aa 0) (dC (.int 0)) aW) (aj (dC (.int 1)) (aj (dC (.int 12)) ag)))) (au 2 BI (aj (d2 (aa 0) (dC (.int 0)) aW) (aj (d2 (aa 0) (dC (.int 1)) aW) ag))))))
theorem RA:∀ ys ai K',ys.length=1->BK ys ai K'->BL (bI ai.length K') ⟨ys.map some ++ List.replicate 0 none,ai.map some⟩:=by
 rintro ys ai K' - ⟨d,rfl,rfl,k⟩;unfold BL;refine aU fun N hN => ?_;simp? only [];refine⟨d,2,rfl,rfl,?_⟩;simp? only [];cases q:n_ d 2
 ·have:lA d=false:=by
   unfold lA;split
   ·exact absurd q (by simp[n_])
   ·rfl
  rw[this] at k;simp only[q15,Z0];exact cY k
 ·simp only[Zu,Ye,YS]
  subst hN;obtain⟨a,b,rfl⟩:=BH q;simp? only [fB,d_];refine⟨a,1,12,rfl,rfl,?_⟩;simp? only [lA] at k ⊢;cases q2:ji a 1 12
  ·rw[q2] at k
   exact cY k
  ·rw[q2] at k
   obtain⟨i,rfl,_,hi⟩:=vO q2;refine⟨i,b,rfl,rfl,hi,?_⟩;simp? only [q0S] at k ⊢;exact cY k
theorem jL {K:RV->List OV->Prop} {d:D} {sl:List (Option DV)} {mu:List (Option OV)} (h:K (.p d) []):gD 0 K (.p d) ⟨sl,mu⟩:=⟨[],rfl,rfl,h⟩
noncomputable def x_:GD:=x8
noncomputable def HZ:WS:=(aI (iP (d1 (aa 0) (b9 "int")) (xh (d1 (aa 0) (b9 "bool")))))
theorem RB:∀ ys ai K',ys.length=1->x_ ys ai K'->HZ (bI ai.length K') ⟨ys.map some ++ List.replicate 0 none,ai.map some⟩:=HU
noncomputable def BM:GD:=oa
noncomputable def H_:WS:=(aI (iP (au 1 x_ (aj (aa 0) ag)) (xG (aa 1) (aa 0) (aa 2) (oI fun i j => .bl (decide (i <= j))) (oI fun i j => .bl (decide (i <= j))))))
theorem RC:∀ ys ai K',ys.length=3->BM ys ai K'->H_ (bI ai.length K') ⟨ys.map some ++ List.replicate 0 none,ai.map some⟩:=HV
theorem BN:∀ {ds:List D} {d:D},d∈ds->dep d <= bw ds
 | a :: r,d,h=>by
  simp only[bw];rcases Xq.mp h with rfl | h
  ·omega
  ·have:=BN h;omega
theorem oh:aV "NoneType" "bool" = false:=rfl
theorem om:aV "NoneType" "int" = false:=rfl
theorem oo:aV "NoneType" "str" = false:=rfl
theorem oq:aV "NoneType" "tuple" = false:=rfl
theorem ou:aV "NoneType" "list" = false:=rfl
theorem mD:aV "bool" "bool" = true:=rfl
theorem mE:aV "bool" "int" = true:=rfl
theorem mF:aV "bool" "str" = false:=rfl
theorem mG:aV "bool" "tuple" = false:=rfl
theorem mH:aV "bool" "list" = false:=rfl
theorem lB:aV "int" "bool" = false:=rfl
theorem lC:aV "int" "int" = true:=rfl
theorem lD:aV "int" "str" = false:=rfl
theorem lE:aV "int" "tuple" = false:=rfl
theorem lF:aV "int" "list" = false:=rfl
theorem j_:aV "str" "bool" = false:=rfl
theorem ka:aV "str" "int" = false:=rfl
theorem kg:aV "str" "str" = true:=rfl
theorem kh:aV "str" "tuple" = false:=rfl
theorem ki:aV "str" "list" = false:=rfl
theorem oy:aV "tuple" "bool" = false:=rfl
theorem oz:aV "tuple" "int" = false:=rfl
theorem oA:aV "tuple" "str" = false:=rfl
theorem oB:aV "tuple" "tuple" = true:=rfl
theorem oC:aV "tuple" "list" = false:=rfl
theorem oD:aV "list" "bool" = false:=rfl
theorem oE:aV "list" "int" = false:=rfl
theorem oF:aV "list" "str" = false:=rfl
theorem oG:aV "list" "tuple" = false:=rfl
theorem oH:aV "list" "list" = true:=rfl
theorem BO:∀ {as:List D} {d:D},d∈cE as as->∃ a,d = .tup [a,a]/\a∈as
 | [],d,h=>nomatch h
 | x :: r,d,h=>by
  simp only[cE] at h;rcases Xq.mp h with rfl | h
  ·exact⟨x,rfl,NO⟩
  ·obtain⟨a,e,m⟩:=BO h
   exact⟨a,e,Xu _ m⟩
theorem BP:∀ l:List D,bw (l.map fun _=>D.bl true) <= 55
 | []=>Yy _
 | _ :: r=>by
  rw[Yd];have:=BP r;simp only[bw,dep];omega
noncomputable def bt (ns:List Int):D := .lst (ns.map D.int)
noncomputable def jM (fs:List Int) (i j:Nat):List Int:=fs.map fun x=>if x=max (fs.getD i 0) (fs.getD j 0) then min (fs.getD i 0) (fs.getD j 0) else x
theorem Ia (fs:List Int) (i j:Nat):(jM fs i j).length=fs.length:=by unfold jM;rw[qx]
theorem mI {ns:List Int} {i:Nat} (h:i < ns.length):eO (ns.map D.int) (i:Int)=some (.int (ns.getD i 0)):=by
 refine pb ?_;rw[My,qv h,Fs,qv h];rfl
theorem bW {K:RV->List OV->Prop} {d:D} {sl:List (Option DV)} {mu:List (Option OV)} (h:K (.p d) []):gD 0 K (.p d) ⟨sl,mu⟩:=⟨[],rfl,rfl,h⟩
noncomputable def vQ:GD:=fun ys ai K=>∃ (fs:List Int) (i j:Nat),ys=[.p (bt fs),.p (.int i),.p (.int j)]/\ai=[]/\i < fs.length/\j < fs.length/\fs.length <= 12/\K (.p (bt (jM fs i j))) []
noncomputable def BQ:WS:=(ay (aL 3 (dN (aj (d2 (aa 0) (aa 1) aW) (aj (d2 (aa 0) (aa 2) aW) ag)) xK)) (ay (aL 4 (dN (aj (d2 (aa 0) (aa 1) aW) (aj (d2 (aa 0) (aa 2) aW) ag)) vg)) (aI (fy (bO (aa 0)) [none,some 4,some 3] (bG 0) dA (xg (dT (d2 (aa 0) (aa 2) oEq)) (aa 1) (aa 0))))))
theorem RD:∀ ys ai K',ys.length=3->vQ ys ai K'->BQ (bI ai.length K') ⟨ys.map some ++ List.replicate 2 none,ai.map some⟩:=by
 rintro ys ai K' - ⟨fs,i,j,rfl,rfl,hi,hj,HR,k⟩;have a1:=mI hi;have a2:=mI hj;unfold BQ bt;refine aU fun N hN => ?_;simp? only [a1,a2];subst hN;refine aU fun N hN => ?_;simp? only [a1,a2];subst hN;simp? only []
 refine j8 (fun d=>match d with
  | .int x => .int (if x=max (fs.getD i 0) (fs.getD j 0) then min (fs.getD i 0) (fs.getD j 0) else x)
  | _ => .non) (by rw[qx];omega) trivial ?_ ?_
 ·intro d hd acc L ha h
  obtain⟨x,_,rfl⟩:=X0.mp hd;simp? only [];cases q:aD (.int x) (.int (max (fs.getD i 0) (fs.getD j 0)))
  ·have:¬ x=max (fs.getD i 0) (fs.getD j 0):=fun z=>by rw[z,eT] at q;cases q
   simp only[this,YS] at h;exact⟨ha,h⟩
  ·have:x=max (fs.getD i 0) (fs.getD j 0):=by simp only[aD] at q;exact Y_ q
   simp only[this,Z0] at h;exact⟨ha,h⟩
 ·refine bW ?_
  have e:(fs.map D.int).map (fun d=>match d with
   | .int x=>D.int (if x=max (fs.getD i 0) (fs.getD j 0) then min (fs.getD i 0) (fs.getD j 0) else x)
   | _ => .non)=(jM fs i j).map D.int:=by
   unfold jM;rw[Yj,Yj];rfl
  rw[e];exact k
noncomputable def bK (ws:List (Int × Int × Int)) (n:Int):Nat × Nat:=((ws.getD n.toNat (0,0,0)).1.toNat,(ws.getD n.toNat (0,0,0)).2.1.toNat)
noncomputable def jN (ws:List (Int × Int × Int)) (fs:List Int) (ns:List Int):List Int:=ns.foldl (fun fs n=>jM fs (bK ws n).1 (bK ws n).2) fs
theorem Ib (ws:List (Int × Int × Int)):∀ (ns:List Int) (fs:List Int),(jN ws fs ns).length=fs.length
 | [],fs=>rfl
 | n :: r,fs=>by
  show (jN ws (jM fs _ _) r).length=_;rw[Ib ws r,Ia]
noncomputable def s_ (m:Int) (ws:List (Int × Int × Int)) (ns:List Int):List Int:=jN ws (aR m.toNat) ns
noncomputable def Nums (ws:List (Int × Int × Int)) (ns:List Int):Prop:=∀ n∈ns,0 <= n/\n < (ws.length:Int)
theorem lG {m:Int} {ws:List (Int × Int × Int)} (W:bP m ws) {n:Int} (h0:0 <= n) (h1:n < (ws.length:Int)):∃ y,ws.getD n.toNat (0,0,0)=y/\y∈ws/\eO (ws.map bV) n=some (bV y)/\∃ i j:Nat,y.1=i/\y.2.1=j/\i < m.toNat/\j < m.toNat/\i < j:=by
 obtain⟨k,rfl⟩:∃ k:Nat,n=k:=⟨n.toNat,by omega⟩;have hk:k < ws.length:=by omega
 refine⟨ws[k],?_,ZL hk,pb ?_,?_⟩
 ·rw[Ya,Fs,qv hk];rfl
 ·rw[My,qv hk];rfl
 ·obtain⟨a,b,c,_,_⟩:=W.ends _ (ZL hk)
  exact⟨ws[k].1.toNat,ws[k].2.1.toNat,by omega,by omega,by omega,by omega,by omega⟩
noncomputable def vR:GD:=fun ys ai K=>∃ (m:Int) (ws:List (Int × Int × Int)) (ns:List Int),bP m ws/\Nums ws ns/\((ys=[.p (aN m ws),.p (bt ns)]/\ai=[]/\K (.p (bt (s_ m ws ns))) [])\/(ys=[.p (aN m ws),.o 0]/\ai=[.lst (ns.map D.int)]/\K (.p (bt (s_ m ws ns))) [.lst (ns.map D.int)]))
noncomputable def ya:WS:=(ay (aL 2 (vh (aj (d2 (aa 0) (dC (.int 0)) aW) ag))) (ay (dR (bO (aa 1)) (bG 3) (ay (aL 4 (d2 (d2 (aa 0) (dC (.int 1)) aW) (aa 3) aW)) (aL 2 (au 3 vQ (aj (aa 2) (aj (d2 (aa 4) (dC (.int 0)) aW) (aj (d2 (aa 4) (dC (.int 1)) aW) ag))))))) (aI (aa 2))))
theorem RE:∀ ys ai K',ys.length=2->vR ys ai K'->ya (bI ai.length K') ⟨ys.map some ++ List.replicate 3 none,ai.map some⟩:=by
 rintro ys ai K' - ⟨m,ws,ns,W,hn,h⟩;have m1:=W.m1;have f_:=W.f_;have il:(aR m.toNat).length=m.toNat:=by unfold aR;simp
 have core:∀ (x:DV) (mu:List (Option OV)) (bE:aA->Prop) (K:KS),(∀ sl,bE ⟨sl,mu⟩)->(∀ fs,fs=s_ m ws ns->K.nx ⟨[some (.p (aN m ws)),some x,some (.p (bt fs)),none,none],mu⟩)->(∀ k,x = .o k->k < mu.length) →
   kZ ⟨[some (.p (aN m ws)),some x,some (.p (bt (aR m.toNat))),none,none],mu⟩ bE (bG 3) (ay (aL 4 (d2 (d2 (aa 0) (dC (.int 1)) aW) (aa 3) aW)) (aL 2 (au 3 vQ (aj (aa 2) (aj (d2 (aa 4) (dC (.int 0)) aW) (aj (d2 (aa 4) (dC (.int 1)) aW) ag)))))) K (ns.map D.int) ⟨[some (.p (aN m ws)),some x,some (.p (bt (aR m.toNat))),none,none],mu⟩:=by
  intro x mu bE K hc hK hx;refine mz (fun i δ => δ = ⟨[some (.p (aN m ws)),some x,some (.p (bt (jN ws (aR m.toNat) (ns.take i)))),none,none],mu⟩) rfl ?_ ?_
  ·rintro j d δ L hj rfl hL
   rw[My] at hj;obtain⟨n,Ic,rfl⟩:=Xt.mp hj;obtain⟨n0,n1⟩:=hn n (Yf Ic);obtain⟨y,ey,hy,ea,i,k,e1,e2,h1,h2,_⟩:=lG W n0 n1;refine⟨hc _,?_⟩;simp only[bG,YC,YD];refine aU fun N hN => ?_;simp? only [d_,aN,ea];subst hN;simp? only [fB,d_,bV];have hlen:(jN ws (aR m.toNat) (ns.take j)).length=m.toNat:=by rw[Ib,il]
   refine⟨jN ws (aR m.toNat) (ns.take j),i,k,by rw[e1,e2],rfl,by omega,by omega,by omega,?_⟩
   have ej:jM (jN ws (aR m.toNat) (ns.take j)) i k=jN ws (aR m.toNat) (ns.take (j + 1)):=by
    have:ns.take (j + 1)=ns.take j ++ [n]:=by rw[ZP,Ic];rfl
    rw[this];unfold jN;rw[q0H];show _=jM _ (bK ws n).1 (bK ws n).2
    have:bK ws n=(i,k):=by
     unfold bK;rw[ey,e1,e2,Ya,Ya]
    rw[this]
   rw[ej]
   have eq:(aA.trim ⟨[some (.p (aN m ws)),some x,some (.p (bt (aR m.toNat))),none,none],mu⟩ ⟨[some (.p (aN m ws)),some x,some (.p (bt (jN ws (aR m.toNat) (ns.take (j + 1))))),some (.p (.int n)),some (.p (bV y))],mu⟩)=⟨[some (.p (aN m ws)),some x,some (.p (bt (jN ws (aR m.toNat) (ns.take (j + 1))))),none,none],mu⟩:=by
    unfold aA.trim;rw[q1t]
    cases x with
    | p d=>rfl
    | o q =>
     have:=hx q rfl;simp only[fW,xm,this,Z0]
   have:=hL _ rfl;rw[<-eq] at this;exact this
  ·rintro δ rfl
   rw[qx,Yv (uu _)];exact⟨hc _,hK _ rfl⟩
 have rg:cq 0 m.toNat=(aR m.toNat).map D.int:=nW m.toNat;rcases h with⟨rfl,rfl,k⟩ | ⟨rfl,rfl,k⟩
 ·unfold ya
  refine aU fun N hN => ?_;simp? only [fB,aN];refine⟨⟨by omega,by omega⟩,?_⟩;subst hN;rw[rg];refine aU fun N hN=>pM fun g' b' K2 hg hb' hK => ?_;simp? only [bt];subst hg hb' hK;refine core (.p (bt ns)) [] _ _ (fun _=>trivial) (fun fs e => ?_) (fun k z=>by cases z);subst e;show N _;subst hN;simp? only [];exact bW k
 ·unfold ya
  refine aU fun N hN => ?_;simp? only [fB,aN];refine⟨⟨by omega,by omega⟩,?_⟩;subst hN;rw[rg];refine aU fun N hN=>pM fun g' b' K2 hg hb' hK => ?_;simp? only [];subst hg hb' hK;refine core (.o 0) [some (.lst (ns.map D.int))] _ _ (fun _=>rfl) (fun fs e => ?_) (fun k z=>by cases z;exact Nat.zero_lt_one);subst e;show N _;subst hN;simp? only [];exact⟨[.lst (ns.map D.int)],rfl,rfl,k⟩
noncomputable def BR:GD:=fun ys ai K=>∃ (m:Int) (ws:List (Int × Int × Int)),bP m ws/\ys=[.p (aN m ws)]/\ai=[]/\K (.n ((aR ws.length).map D.int)) []
noncomputable def BS:WS:=(aI (A8 (aj (dN (aj (d2 (aa 0) (dC (.int 1)) aW) ag) cL) ag)))
theorem RF:∀ ys ai K',ys.length=1->BR ys ai K'->BS (bI ai.length K') ⟨ys.map some ++ List.replicate 0 none,ai.map some⟩:=by
 rintro ys ai K' - ⟨m,ws,W,rfl,rfl,k⟩;have:=W.iq;unfold BS;simp? only [d_,aN];refine⟨⟨by omega,by omega⟩,[],rfl,rfl,.inl ?_⟩;rw[Ya,nW];exact k
theorem yb {n:Nat} {z:Int} (h:z∈aR n):0 <= z/\z < (n:Int):=by
 unfold aR at h;obtain⟨i,hi,rfl⟩:=X0.mp h;have:=Yq.mp hi;simp;omega
theorem Ie (n:Nat):(aR n).Nodup:=by
 unfold aR;refine Zl.mpr (q0M.imp fun {a b} ne e=>ne ?_);exact Int.ofNat.inj e
theorem tj {H:Hp} {a:Addr} {o:HO} (h:H a=none):aF H (upd H a o):=fun b u e=>by rw[aS (c6 e h)];exact e
structure yc (H:Hp) (p c:Addr) (at_ z:Int):Prop where
 lst:H p=some (.lst [.ref c,.int at_,.int z])
 cells:∃ ns:List Int,H c=some (.lst (ns.map V.int))/\ns.length <= 63
 pos:0 <= at_
theorem yc.ne {H:Hp} {p c:Addr} {k z:Int} (P:yc H p c k z):c≠p:=by
 obtain⟨ns,h,_⟩:=P.cells;intro e;subst e;rw[P.lst] at h;have h':=Yh h;injection h' with sL
 cases ns with
 | nil=>cases sL
 | cons n r=>injection sL with h1 _;cases h1
theorem RG {ns:List Int} {k:Int} (h0:0 <= k) (h1:k < (ns.length:Int)):∃ n,eO (ns.map V.int) k=some (.int n):=by
 obtain⟨i,rfl⟩:∃ i:Nat,k=i:=⟨k.toNat,by omega⟩;have hi:i < ns.length:=by omega
 refine⟨ns[i],pb ?_⟩;rw[My,qv hi];rfl
noncomputable def Ig (K:PySem.W.Frag):Sp:=fun vs H Q _=>∃ (a:Addr) (ns:List Int),vs=[.ref a]/\bz K H a (ns.map V.int)/\ns.length <= 63/\∀ (p c:Addr) (H':Hp),aF H H'->H p=none->yc H' p c 0 0->Q (.ref p) H'
noncomputable def yd (K:PySem.W.Frag):Sp:=fun vs H Q _=>∃ (a:Addr) (ns:List Int),vs=[.ref a]/\bz K H a (ns.map V.int)/\ns.length <= 63/\aK.ok H/\∀ H',Q (.bl true) H'
theorem BU (ns:List Int) (lo hi:Option Int):cU (ns.map V.int) lo hi=((ns.drop (HT.bj ns.length 0 lo)).take (HT.bj ns.length ns.length hi - HT.bj ns.length 0 lo)).map V.int:=by
 unfold cU;rw[qx,List.map_take,List.map_drop]
theorem RH {H:Hp} {p c a:Addr} {n:Nat} (hT:aK.ok H) (N:yc H p c 0 0):∃ (F:Hp) (ns:List Int),ns.length <= 63/\SR F [p] ⟨none :: some (.o 0) :: List.replicate n none,[some (.lst [.lst (ns.map D.int),.int 0,.int 0])]⟩ (some (.ref a) :: some (.ref p) :: List.replicate n none) H:=by
 obtain⟨ns,hc,hn⟩:=N.cells;have ne:=N.ne
 refine⟨upd (fun _=>none) c (.lst (ns.map V.int)),ns,hn,⟨fun b o e => ?_,fun b ⟨k,ov,e1,e2⟩ => ?_,rfl,fun k l a ov ow e1 e2 _ _ => ?_,fun k ov e => ?_,fun i x e => ?_,by simp,hT,fun b hb=>by
  obtain⟨ps,q⟩:=aK.tb hT hb
  rw[aS fun z=>by subst z;rw[hc] at q;cases q]⟩⟩
 ·by_cases z:b=c
  ·subst z;rw[bZ] at e;cases e;exact hc
  ·rw[aS z] at e;cases e
 ·cases k with
  | zero=>cases (show some p=some b by simpa using e1);rw[aS (q0j ne)]
  | succ k=>simp at e1
 ·cases k with
  | zero =>
   cases l with
   | zero=>rfl
   | succ l=>simp at e2
  | succ k=>simp at e1
 ·cases k with
  | zero =>
   cases (show OV.lst [.lst (ns.map D.int),.int 0,.int 0]=ov by simpa using e)
   refine⟨p,_,rfl,N.lst,_,rfl,?_⟩;refine .cons ?_ (.cons rfl (.cons rfl .nil));simp only[Is];exact⟨c,_,rfl,bZ,my⟩
  | succ k=>simp at e
 ·cases i with
  | zero=>simp at e
  | succ i =>
   cases i with
   | zero =>
    cases (show DV.o 0=x by simpa using e)
    exact⟨_,rfl,p,rfl,rfl⟩
   | succ i =>
    exfalso;have e:(List.replicate n (none:Option DV))[i]? = some (some x):=by simpa using e
    rw[q0x] at e;split at e<;>cases e
theorem RJ {B:WS} {F:Hp} {ad:List Addr} {δ : aA} {σ : St} {H:Hp} {Q:VK} (S:SR F ad δ σ H) (h:B ⟨fun _=>False,fun x _=>x = .p (.bl true),fun _=>False,fun _=>False⟩ δ) (q:∀ H',Q (.bl true) H'):dq B { nx:=fun _ H'=>Q .non H',rt:=Q } σ H :=
 ⟨F,ad,δ,_,S,h,⟨fun δ' h=>h.elim,fun δ' h=>h.elim,fun δ' h=>h.elim,fun x δ' h v F' aC σ' H' E' S' V=>by
  have h:x = .p (.bl true):=h;subst h;have V:v = .bl true:=V;subst V
  exact q H',trivial⟩⟩
end LJ
namespace L2
open PySem PySem.Spec PyProof.Rows
noncomputable def BV (Ts:List (Addr × Array Value)) (H:Hp):Prop:=∀ b,(∃ ps,Ts.lookup b=some ps/\H b=some (.tbl ps))\/(Ts.lookup b=none/\(H b=none\/∃ o xs,H b=some (.frz o (.lst xs))))
theorem RK {P:Program} {w:World} {K:PySem.W.Frag} {mg mb:Str->Option Value} {CX:ju} {k:Nat} {fa a:Addr} {fd:FuncData} {x:Str} {sp:Sp} {s₁ : Shared} {vs:List Value} {ns:List Int} (Ts:List (Addr × Array Value))
  (hT:∀ b ps,Ts.lookup b=some ps->s₁.heap.get? b=some { cls := .none,data := .fields ps }/\isCodeTable s₁.heap b/\K.lookup b=none)
  (KX:K.In s₁.heap) (vS:s₁.heap.Ns mainGlobals mg) (hb:s₁.heap.Ns builtinsNs mb) (RL:∀ x:Str,x ≠ "__name__" -> mb x=bootBuiltins x) (BW:s₁.heap.NoLimit) (hg:s₁.gens = #[])
  (ha:s₁.heap.get? a=some { cls := .type "list",data := .seq vs.toArray }) (hi:IntsAre vs ns) (hl:ns.length <= sizeLine) (hr:bh k callerA)
  (hB:∃ bm ob,mg "__builtins__" = some (.ref bm)/\bm≠builtinsNs/\s₁.heap.get? bm=some ob/\ob.cls = .type "module" /\ ob.dict=some builtinsNs/\ob.data = .plain)
  (F:∀ base:Heap,K.In base->base.Ns mainGlobals mg->(∀ b ps,Ts.lookup b=some ps->base.BuiltinsAt mg b)->cS P w K mg base CX k fa fd [x] sp) (vT:∀ (s:Shared) (u:Value),BindsTo s fd ⟨[u],[]⟩ [(x,u)])
  (o_:∀ H:Hp,BV Ts H->bz K H a (ns.map V.int)->sp [.ref a] H (fun v _=>v = .bl true) fun _ _ _=>False)
  (BX:∀ H e s',CX [] H s₁ (fun _ _ _=>False) e s'->False) :
  codeAny (model P w) callerA (.call (.ref fa) ⟨[.ref a],[]⟩) (fun r s'=>r = .ok (.ret (.bool true))/\OldK s₁.heap s'.heap/\s'.os=s₁.os/\AllBare s'.gens) s₁ := by
 have rv:=Fp hi;have BY:=hi.length
 have aT:Ts.lookup a=none:=by
  cases q:Ts.lookup a with
  | none=>rfl
  | some ps =>
   have:=(hT a ps q).1;rw[ha] at this;have z:=congrArg Obj.cls (Yh this);cases (show Value.type "list" = Value.none from z)
 have core:∀ H:Hp,BV Ts H->bz K H a (ns.map V.int)->dG P w H s₁.heap->(∀ b,Ts.lookup b=none->H b≠none->b=a)->(H a≠none->K.lookup a=none) →
   codeAny (model P w) callerA (.call (.ref fa) ⟨[.ref a],[]⟩) (fun r s'=>r = .ok (.ret (.bool true))/\OldK s₁.heap s'.heap/\s'.os=s₁.os/\AllBare s'.gens) s₁ := by
  intro H hO hS aM hA hK;have gF:∀ {b:Addr} {o:Obj},s₁.heap.get? b=some o->H b=none->(fO s₁.heap H).get? b=some o:=fun e n=>L1 e n
  have mW:∀ {b:Addr} {o:Obj} {es:Array DictEntry} {ep:Nat},s₁.heap.get? b=some o->o.data = .dict es ep->H b=none:=fun {b o es ep} e d=>by
   cases q:H b with
   | none=>rfl
   | some u =>
    cases t:Ts.lookup b with
    | some ps =>
     have:=(hT b ps t).1;rw[e] at this;cases this;cases d
    | none =>
     have e':b=a:=hA b t (by rw[q];simp);subst e';rw[ha] at e;cases e;have d':Data.seq vs.toArray _=Data.dict es ep:=d;cases d'
  have ye:∀ {b:Addr} {m:Str->Option Value},s₁.heap.Ns b m->(fO s₁.heap H).Ns b m:=fun {b m} ⟨o,es,ep,e,d,r⟩=>⟨o,es,ep,gF e (mW e d),d,r⟩
  have Ih:K.In (fO s₁.heap H):=fun b o e=>gF (KX b o e) (by
   cases q:H b with
   | none=>rfl
   | some u =>
    cases t:Ts.lookup b with
    | some ps=>rw[(hT b ps t).2.2] at e;cases e
    | none =>
     have e':b=a:=hA b t (by rw[q];simp);subst e'
     rw[hK (by rw[q];simp)] at e;cases e)
  have RM:∀ b ps,Ts.lookup b=some ps->(fO s₁.heap H).BuiltinsAt mg b:=fun b ps t=>by
   obtain⟨bm,ob,b1,b2,b3,b4,b5,b6⟩:=hB;refine⟨bm,ob,b1,b2,fun z => ?_,fun z => ?_,gF b3 ?_,b4,b5,b6⟩
   ·obtain⟨o,es,ep,e1,e2,_⟩:=vS
    rw[z,e1] at b3;cases b3;rw[e2] at b6;cases b6
   ·have:=(hT b ps t).1
    rw[z,this] at b3;cases b3;cases b6
   ·cases q:H bm with
    | none=>rfl
    | some u =>
     cases t':Ts.lookup bm with
     | some RN =>
      have:=(hT bm RN t').1;rw[b3] at this;cases this;cases b6
     | none =>
      have e':bm=a:=hA bm t' (by rw[q];simp);rw[e',ha] at b3;cases b3;cases b6
  have hM:Mod K mg (fO s₁.heap H):=⟨Ih,ye vS,⟨mb,ye hb,RL⟩,let ⟨mc,h1,h2⟩:=BW; ⟨mc,ye h1,h2⟩⟩;have e0:mU P w K mg (fO s₁.heap H) callerA [] s₁ H:=⟨rfl,hM,fun b o e=>L5 e,q1I (L0 _ _),trivial,fun b hb=>absurd (show b∈([]:List Addr) from hb) (by simp),aM,.of_eq hg⟩;refine q04 ((F _ Ih (ye vS) RM).run callerA [] s₁ H ⟨[.ref a],[]⟩ [.ref a] [.ref a] _ _ hr e0 (vT s₁ (.ref a)) (.cons rfl .nil) (o_ H hO hS)) fun r s' h => ?_
  cases r with
  | error e=>exact (BX H e s' h).elim
  | ok fl =>
   cases fl with
   | next=>exact False.elim h
   | brk=>exact False.elim h
   | cont=>exact False.elim h
   | ret u =>
    obtain⟨v,H',os,bare,un,vU,r',q⟩:=h;have q':v = .bl true:=q;subst q';obtain rfl:u=Value.bool true:=r'
    have all:∀ b o,s₁.heap.get? b=some o->asItWas s₁.heap s'.heap b o/\∃ o',s'.heap.get? b=some o':=fun b o e=>by
     rcases hO b with⟨ps,t,z⟩ | ⟨t,z | ⟨ob,xs,z⟩⟩
     ·obtain⟨more,z2⟩:=un.fN b ps z
      have e2:s'.heap.get? b=some { cls := .none,data := .fields (ps ++ more) }:=vU b _ z2;have e1:=(hT b ps t).1;rw[e] at e1;cases e1;exact⟨.inr (.inl ⟨(hT b ps t).2.1,rfl,ps,more,rfl,e2⟩),_,e2⟩
     ·have e2:=un.keep b o e z (by intro z;exact absurd (show b∈([]:List Addr) from z) (by simp)) (by simp)
      exact⟨.inl e2,_,e2⟩
     ·have z2:=un.fM b ob _ z
      obtain⟨e1,_⟩:=aM b _ z;obtain⟨e2,_⟩:=vU b _ z2;rw[e] at e1;cases e1;exact⟨.inl e2,_,e2⟩
    exact⟨rfl,⟨fun b o e=>(all b o e).1,fun b o e=>(all b o e).2⟩,os,bare⟩
 have pN:∀ (H:Hp) b ps,Ts.lookup b=some ps->aO P w H s₁.heap b (.tbl ps):=fun H b ps t=>(hT b ps t).1
 cases hk:K.lookup a with
 | some o =>
  have e:=KX a o hk;rw[ha] at e;cases e
  have hv:∀ b,(fun b=>(Ts.lookup b).map HO.tbl:Hp) b=(Ts.lookup b).map HO.tbl:=fun _=>rfl;refine core (fun b=>(Ts.lookup b).map HO.tbl) (fun b => ?_) (.inr ⟨_,vs.toArray,_,hk,rfl,rfl,rfl,by rw[wO,BY];exact hl,by simpa using rv⟩) (fun b u z => ?_) (fun b t z => ?_) fun z => ?_
  ·cases t:Ts.lookup b with
   | some ps=>exact .inl ⟨ps,rfl,by show (Ts.lookup b).map HO.tbl=_;rw[t];rfl⟩
   | none=>exact .inr ⟨rfl,.inl (by show (Ts.lookup b).map HO.tbl=_;rw[t];rfl)⟩
  ·obtain⟨ps,t,rfl⟩:=Xt.mp (show (Ts.lookup b).map HO.tbl=some u from z)
   exact pN _ b ps t
  ·exact absurd (show (Ts.lookup b).map HO.tbl=none by rw[t];rfl) z
  ·exact absurd (show (Ts.lookup a).map HO.tbl=none by rw[aT];rfl) z
 | none =>
  refine core (fun b=>if b=a then some (.frz { cls := .type "list",data := .seq vs.toArray } (.lst (ns.map V.int))) else (Ts.lookup b).map HO.tbl) (fun b => ?_) (.inl (.inr ⟨{ cls := .type "list",data := .seq vs.toArray },Xs rfl⟩)) (fun b u z => ?_) (fun b t z => ?_) fun _=>hk
  ·by_cases hb:b=a
   ·subst hb
    exact .inr ⟨aT,.inr ⟨_,_,Xs rfl⟩⟩
   ·cases t:Ts.lookup b with
    | some ps=>exact .inl ⟨ps,rfl,(NM hb).trans (by rw[t];rfl)⟩
    | none=>exact .inr ⟨rfl,.inl ((NM hb).trans (by rw[t];rfl))⟩
  ·by_cases hb:b=a
   ·have z':=(Xs hb).symm.trans z
    cases z'
    subst hb;exact⟨ha,by rw[qx];exact hl,vs,_,rv,ha⟩
   ·have z':=(NM hb).symm.trans z
    obtain⟨ps,t,rfl⟩:=Xt.mp z';exact pN _ b ps t
  ·by_cases hb:b=a
   ·exact hb
   ·exact absurd ((NM hb).trans (by rw[t];rfl)) z
theorem RO {l:PySem.W.OpenLaw} {n k:Nat} {q:Program} {loose:List Str} {XP:(Str->Option Value)->Heap->Prop} {YP:World->Heap->Prop} {d:DefRec} {K:World->PySem.W.Frag} {CX:World->ju} {sp:World->Sp} {x:Str} {Ts:World->List (Addr × Array Value)}
  (hn:l.most=some n) (BZ:n <= sizeLine) (uv:d.params.defaults=[]) (hr:bh k callerA)
  (hY:∀ (w:World) (h:Heap),YP w h->(K w).In h)
  (hT:∀ (w:World) (h:Heap),YP w h->∀ b ps,(Ts w).lookup b=some ps->h.get? b=some { cls := .none,data := .fields ps }/\isCodeTable h b/\(K w).lookup b=none)
  (F:∀ (w:World) (mg:Str->Option Value) (fa:Addr) (h:Heap),(K w).In h->h.Ns mainGlobals mg->mg d.name=some (.ref fa) →
   ∃ fd:FuncData,(∀ (s:Shared) (u:Value),BindsTo s fd ⟨[u],[]⟩ [(x,u)]) ∧
    ∀ base:Heap,(K w).In base->base.Ns mainGlobals mg->(∀ b ps,(Ts w).lookup b=some ps->base.BuiltinsAt mg b)->cS l.prog w (K w) mg base (CX w) k fa fd [x] (sp w))
  (o_:∀ (w:World) (H:Hp) (a:Addr) (ns:List Int),ns.length <= n->BV (Ts w) H->bz (K w) H a (ns.map V.int)->sp w [.ref a] H (fun v _=>v = .bl true) fun _ _ _=>False)
  (BX:∀ (w:World) (H:Hp) (s:Shared) (e:Value) (s':Shared),CX w [] H s (fun _ _ _=>False) e s'->False) :
  PySem.W.WalkO q loose XP YP l.row.toRowW d [] (fun f vs=>PySem.call f vs):=by
 refine Att.gZ hn uv fun w s₀ s₁ mg mb fa o pm cd doc a vs ns G Y ho hd fh nh qu hints hlen hg => ?_;have KX:=hY w _ Y;obtain⟨fd,hb,hF⟩:=F w mg fa _ KX G.T.g nh;exact RK (Ts w) (hT w _ Y) KX G.T.g G.T.b G.T.builtins G.T.nolimit hg qu hints (Yw hlen BZ) hr G.T.bmain hF hb (fun H hO hS=>o_ w H a ns hlen hO hS) fun H e s'=>BX w H s₁ e s'
section
variable {X:Cx} {pins:List (Addr × Obj)} {σ : St} {H:Hp} {s:Shared} {h':Heap}
theorem Inv.grow {T c f:Addr} {ps more:Array Value} {oc of:HO} {t':Nat} (I:Inv X pins σ H s) (hT:H T=some (.tbl ps)) (k:∀ b u,b≠T->s.heap.get? b=some u->h'.get? b=some u) (Ii:h'.get? T=some { cls := .none,data := .fields (ps ++ more) })
  (hc:s.heap.objs.size <= c) (hf:s.heap.objs.size <= f) (B0:c≠f) (RP:∀ H2,aO X.prog X.w H2 h' c oc) (RQ:∀ H2,aO X.prog X.w H2 h' f of) :
  Inv X pins σ (upd (upd (upd H T (.tbl (ps ++ more))) c oc) f of) { s with heap:=h',toks:=t' }:=by
 have tl:T < s.heap.objs.size:=(I.aM T _ hT).lt;have cT:c≠T:=ZI (Yc tl hc);have fT:f≠T:=ZI (Yc tl hf);have XR:H c=none:=I.aM.fresh hc;have Ij:H f=none:=I.aM.fresh hf
 have old:∀ b,b < s.heap.objs.size->b≠T->upd (upd (upd H T (.tbl (ps ++ more))) c oc) f of b=H b:=fun b hb nT=>by
  rw[aS (Yb (Yc hb hf)),aS (Yb (Yc hb hc)),aS nT]
 have atT:upd (upd (upd H T (.tbl (ps ++ more))) c oc) f of T=some (.tbl (ps ++ more)):=by
  rw[aS (q0j fT),aS (q0j cT),bZ]
 have lt:∀ b u,H b=some u->b < s.heap.objs.size:=fun b u e=>(I.aM b u e).lt
 have dU:∀ b u,H b=some u->(∀ qs,u ≠ .tbl qs)->upd (upd (upd H T (.tbl (ps ++ more))) c oc) f of b=some u:=fun b u e n=>by
  rw[old b (lt b u e) (fun z=>by subst z;rw[hT] at e;cases e;exact n _ rfl)];exact e
 refine I.un (t':=t') ⟨fun b o e n _ _=>k b o (fun z=>by subst z;rw[hT] at n;cases n) e,fun b o e n _ _=>⟨o.slots,k b o (fun z=>by subst z;rw[hT] at n;cases n) e⟩,fun b o e n _ => ?_,fun b o e _ => ?_,fun b xs e=>dU b _ e (fun _ z=>by cases z),fun b o u e=>dU b _ e (fun _ z=>by cases z),fun b qs e => ?_⟩ fun b u e => ?_
 ·rw[old b (NL e) (fun z=>by subst z;rw[hT] at n;cases n)];exact n
 ·by_cases z:b=T
  ·subst z;exact⟨_,Ii⟩
  ·exact⟨o,k b o z e⟩
 ·by_cases z:b=T
  ·subst z;rw[hT] at e;cases e;exact⟨more,atT⟩
  ·exact⟨#[],by rw[old b (lt b _ e) z,e];simp⟩
 ·by_cases z1:b=f
  ·subst z1;rw[bZ] at e;cases e;exact RQ _
  ·rw[aS z1] at e
   by_cases z2:b=c
   ·subst z2;rw[bZ] at e;cases e;exact RP _
   ·rw[aS z2] at e
    by_cases z3:b=T
    ·subst z3;rw[bZ] at e;cases e;exact Ii
    ·rw[aS z3] at e
     refine aO.ff (I.aM b u e) (fun d v hd q => ?_) (fun d q=>dU d _ q (fun _ z=>by cases z)) (fun d xs q=>dU d _ q (fun _ z=>by cases z))
     ·refine k d v (fun y => ?_) q
      subst y;rcases hd with y | y
      ·exact z3 y.symm
      ·rw[hT] at y;cases y
noncomputable def lH (c:Addr) (q:Str):HO := .ext fun h=>∃ o vs tq,h.get? c=some o/\o.data = .fields vs/\vs[1]? = some (.str q tq)
theorem RR {P:Program} {w:World} {H:Hp} {h:Heap} {c:Addr} {q:Str} (e:h.CodeRec (.ref c) q):aO P w H h c (lH c q):=by
 obtain⟨c',o,vs,tq,z,ho,hd,hq⟩:=e;cases z
 exact⟨⟨o,vs,tq,ho,hd,hq⟩,⟨o,ho⟩,fun h1 h2 ⟨o,vs,tq,e1,e2,e3⟩ k=>⟨o,vs,tq,k o e1,e2,e3⟩⟩
theorem RS {P:Program} {w:World} {H:Hp} {h:Heap} {c:Addr} {q:Str} (x:aO P w H h c (lH c q)):h.CodeRec (.ref c) q:=by
 obtain⟨⟨o,vs,tq,ho,hd,hq⟩,_⟩:=x;exact⟨c,o,vs,tq,rfl,ho,hd,hq⟩
end
end L2
namespace L2
open PySem PySem.Spec PyProof.Rows PySem.W
section
variable {X:Cx} {pins:List (Addr × Obj)} {σ : St} {H:Hp} {s:Shared} {params:Arguments} {body:Expr} {scope:Scope} {pos:Pos} {hZ:List (Str × Addr)} {cc T:Addr} {ps:Array Value} {E:Value->Shared->Prop} {Q:Value->Shared->Prop}
noncomputable def h8 (f:Addr) (name qual:Str) (params:Arguments) (body:Expr) (scope:Scope) (hZ:List (Str × Addr)) (pm cd:Value):HO := .ext fun h=>∃ vV,h.get? f=some { cls := .type "function",data := .func (kla_fn name qual params body scope hZ pm cd vV) }
noncomputable def dW (H:Hp) (T:Addr) (pos:Pos) (qual:Str):Prop:=∃ ps,H T=some (.tbl ps)/\TriplesOk ps.toList/\(codeAmong pos ps.toList=none\/∃ c,codeAmong pos ps.toList=some (.ref c)/\H c=some (lH c qual))
theorem Ik (I:Inv X pins σ H s) (hT:dW H T pos (X.env.qual ++ "<lambda>")) (B2:defaultsOf params X.env=([],[])) (mC:closureFor scope X.env=pure hZ) (gj:X.env.code = .ref cc) (C:CodeHd s.heap cc T) (RT:mainGlobals≠T) (hg:s.heap.Ns mainGlobals X.mg) (hb:s.heap.BuiltinsAt X.mg T)
  (h:∀ f H' s' c,Inv X pins σ H' s'->dW H' T pos (X.env.qual ++ "<lambda>")->(∀ b o,H b=some o->b≠T->H' b=some o)->H f=none->H' f=some (h8 f "<lambda>" (X.env.qual ++ "<lambda>") params body scope hZ ((X.mg "__name__").getD .none) (.ref c))->H' c=some (lH c (X.env.qual ++ "<lambda>"))->Q (.ref f) s') :
  wpAny (model X.prog X.w) X.A (eval (.Lambda params body scope pos) X.env) Q E s:=by
 obtain⟨ps,hP,ht,hf⟩:=hT;have B3:s.heap.get? T=some { cls := .none,data := .fields ps }:=I.aM T _ hP;refine kla_eval B2 ?_;rcases hf with Il | ⟨c,hf,yf⟩
 ·refine kla_makeFunction mC I.ok.glob hg gj C B3 ht Il RT hb fun c' vV h' tk hx yg c5 B4 RU => ?_
  have hsz:s.heap.objs.size <= h'.objs.size:=Zg (q0u yg c5);have tl:T < s.heap.objs.size:=NL B3;have RW:T≠h'.objs.size:=Yb (Yc tl hsz);have RX:T≠c':=Yb (Yc tl yg);have B0:c'≠h'.objs.size:=Yb c5;have Im:(ps ++ #[rawInt pos.line,rawInt pos.col,Value.ref c']).toList=ps.toList ++ [rawInt pos.line,rawInt pos.col,Value.ref c']:=by simp
  have atT:upd (upd (upd H T (.tbl (ps ++ #[rawInt pos.line,rawInt pos.col,.ref c']))) c' (lH c' (X.env.qual ++ "<lambda>"))) h'.objs.size (h8 h'.objs.size "<lambda>" (X.env.qual ++ "<lambda>") params body scope hZ ((X.mg "__name__").getD .none) (.ref c')) T=some (.tbl (ps ++ #[rawInt pos.line,rawInt pos.col,.ref c'])):=by
   rw[aS RW,aS RX,bZ]
  have atC:upd (upd (upd H T (.tbl (ps ++ #[rawInt pos.line,rawInt pos.col,.ref c']))) c' (lH c' (X.env.qual ++ "<lambda>"))) h'.objs.size (h8 h'.objs.size "<lambda>" (X.env.qual ++ "<lambda>") params body scope hZ ((X.mg "__name__").getD .none) (.ref c')) c'=some (lH c' (X.env.qual ++ "<lambda>")):=by
   rw[aS B0,bZ]
  refine h h'.objs.size _ _ c' (I.grow (t':=tk) (oc:=lH c' (X.env.qual ++ "<lambda>")) (of:=h8 h'.objs.size "<lambda>" (X.env.qual ++ "<lambda>") params body scope hZ ((X.mg "__name__").getD .none) (.ref c')) hP (fun b u nb e=>qw _ (hx b u nb e)) (qw _ RU) yg hsz B0 (fun _=>RR (B4.push _)) fun _ => ?_) ⟨_,atT,?_,.inr ⟨c',?_,atC⟩⟩ (fun b o e nb => ?_) (I.aM.fresh hsz) bZ atC
  ·exact⟨⟨vV,Xr _ rfl⟩,⟨_,Xr _ rfl⟩,fun h1 h2 ⟨v,e⟩ k=>⟨v,k _ e⟩⟩
  ·rw[Im];exact TriplesOk_snoc _ _ _ _ ht
  ·rw[Im];exact codeAmong_snoc _ ht Il
  ·have bl:b < s.heap.objs.size:=(I.aM b o e).lt
   rw[aS (Yb (Yc bl hsz)),aS (Yb (Yc bl yg)),aS nb];exact e
 ·refine kla_makeFunctionHit mC I.ok.glob hg gj C B3 ht hf hb fun vV h' tk hk hsz => ?_
  have hn:H h'.objs.size=none:=I.aM.fresh hsz;refine h h'.objs.size _ _ c (I.laid (a:=h'.objs.size) (o:=h8 h'.objs.size "<lambda>" (X.env.qual ++ "<lambda>") params body scope hZ ((X.mg "__name__").getD .none) (.ref c)) (t':=tk) (fun b u e=>qw _ (hk b u e)) hsz ?_) ⟨ps,?_,ht,.inr ⟨c,hf,?_⟩⟩ (fun b o e _ => ?_) hn bZ ?_
  ·exact⟨⟨vV,Xr _ rfl⟩,⟨_,Xr _ rfl⟩,fun h1 h2 ⟨v,e⟩ k=>⟨v,k _ e⟩⟩
  ·rw[aS (c6 hP hn)];exact hP
  ·rw[aS (c6 yf hn)];exact yf
  ·rw[aS (c6 e hn)];exact e
  ·rw[aS (c6 yf hn)];exact yf
end
structure LD where
 A:Around
 cl:List (Str × Addr)
 f:Addr
 cd:Value
 s:Shared
 H:Hp
@[reducible] noncomputable def oJ (X:Cx) (qual:Str) (scope:Scope) (Nb:List Str) (d:LD):Cx where
 prog:=X.prog
 w:=X.w
 K:=X.K
 mg:=X.mg
 base:=X.base
 A:=d.A.deeper (envX qual scope d.s.heap.objs.size d.f d.cd d.cl)
 N:=Nb
 s₀ := d.s
 H₀ := d.H
 env:=envX qual scope d.s.heap.objs.size d.f d.cd d.cl
 outer:=X.stack
 stack:=envX qual scope d.s.heap.objs.size d.f d.cd d.cl :: X.stack
 ex:=[]
 fn:=fun _=>false
 calm:=true
 pn:=[]
 xe:=fun _ _=>False
noncomputable def vW (N:List Str) (wR scope:Scope) (x:Str) (Nb:List Str) (cp:List (Option Nat)):Bool :=
 me N wR scope (x :: Nb) (none :: cp) && (scope.names.all fun y=>decide (y.2 ≠ .cell)) && decide (scope.names.lookup x=some .local) && cp.all (·.isSome)
section
variable {X:Cx} {pins:List (Addr × Obj)} {σ : St} {H:Hp} {s:Shared} {params:Arguments} {body:Expr} {scope:Scope} {cl:List (Str × Addr)} {E:Value->Shared->Prop} {Q:VK} {name qual x:Str} {f c:Addr} {pm:Value} {A:Around} {v:V} {u:Value} {Nb:List Str} {cp:List (Option Nat)} {t:TE}
theorem Io (I:Inv X pins σ H s) (hf:H f=some (h8 f name qual params body scope cl pm (.ref c))) (hc:H c=some (lH c qual)) (hA:A.frames=some X.stack) (hh:A.handled=none) (hd:A.depth < recursionLimit)
  (hk:scope.kind = .function) (ho:vW X.N X.env.scope scope x Nb cp=true) (RY:scope.isCoroutine=false) (B5:scope.isGenerator=false)
  (oK:∀ y c,cl.lookup y=some c->X.env.cells.lookup y=some c) (tu:∀ y∈scope.names,y.2 = .free->∃ c,cl.lookup y.1=some c)
  (hb:∀ (ct:Value),bindArgs (kla_fn name qual params body scope cl pm (.ref c) ct) ⟨[u],[]⟩=pure [(x,u)]) (r:RelV v u)
  (J:JE (oJ X qual scope (x :: Nb) ⟨A,cl,f,.ref c,s,H⟩) body t) (h:t (some v :: ip cp σ) H Q):wpAny (model X.prog X.w) A (call (.ref f) [u]) (EP X pins σ Q) E s:=by
 unfold vW at ho;simp only[Yl,YV,Y0] at ho;obtain⟨⟨⟨ho,Ip⟩,hx⟩,cps⟩:=ho;have S:=x0p hk ho;obtain⟨⟨ct,RZ⟩,_⟩:=I.aM f _ hf;have fh:=RS (I.aM c _ hc);refine wpAny_call (kla_callFunE hd RZ rfl RY B5 rfl fh ?_);rw[hb ct];refine zR (wpAny_newFunctionEnv (fun y hy=>Ip y hy) (fun y hy=>by rw[Yn.mp hy];exact hx) (fun h₁ vS uA => ?_) hk);have vX:∀ b o,s.heap.get? b=some o->h₁.get? b=some o:=fun b o e=>uA.extBut b o (Yb (NL e)) (qw _ e);refine⟨I.nolimit.keeps vX,?_⟩;have e0:=I.uk;show codeAny _ _ (.expr body (envX qual scope s.heap.objs.size f (.ref c) cl)) _ _;have mW:∀ b:Addr,b∉(oJ X qual scope (x :: Nb) ⟨A,cl,f,.ref c,s,H⟩).ex:=fun b z=>absurd (show b∈([]:List Addr) from z) (by simp)
 have mem:∀ {y:Str} {k:NameKind},scope.names.lookup y=some k->(y,k)∈scope.names:=fun e=>YW e
 have I1:Inv (oJ X qual scope (x :: Nb) ⟨A,cl,f,.ref c,s,H⟩) [] (some v :: ip cp σ) H { s with heap:=h₁,toks:=s.toks + [(x,u)].length }:=by
  refine⟨⟨e0.mod,hk,rfl,rfl,uu _,fun y z d h1 h2=>I.ok.inj y z d (oK y d h1) (oK z d h2),fun y hy => ?_,fun y d z _=>(by cases z),fun _=>hh,Around.frames_deeper hA,.inr ⟨rfl,rfl⟩,fun b z=>absurd z (mW b),e0.bs,e0.o7,fun b _ _=>mW b,fun b z=>absurd z (mW b),e0.eJ,e0.p_⟩,
   rfl,e0.bare,Un.kept vX,⟨_,vS,fun i y w h1 h2 h3 => ?_⟩,fun y d hy => ?_,e0.aM.fresh (uu _),fun y d hy=>I.cH y d (oK y d hy),fun p hp=>absurd (show p∈([]:List (Addr × Obj)) from hp) (by simp),e0.aM.kept vX,?_⟩
  ·have hy:scope.names.lookup y=some .cell\/scope.names.lookup y=some .free:=hy
   rcases hy with hy | hy
   ·exact absurd rfl (Ip _ (mem hy))
   ·exact tu _ (mem hy) rfl
  ·cases i with
   | zero =>
    cases (show some x=some y by simpa using h1)
    cases (show v=w by simpa using h2)
    exact⟨u,r,.inl ⟨hx,by simp⟩⟩
   | succ j =>
    have h1:Nb[j]? = some y:=by simpa using h1
    have h2:(ip cp σ)[j]? = some (some w):=by simpa using h2
    unfold ip at h2;rw[My] at h2;obtain⟨o,q1,q2⟩:=Xt.mp h2
    match o,q2 with
    | none,q2=>cases q2
    | some i',q2 =>
     have q2:(σ[i']?).join=some w:=q2;obtain⟨n1,n2⟩:=S.uw (j + 1) i' y (by simpa using q1) (by simpa using h1)
     have hs : σ[i']? = some (some w):=by
      cases q : σ[i']? with
      | none=>rw[q] at q2;cases q2
      | some z=>rw[q] at q2;cases (show z=some w from q2);rfl
     have kd:=S.free _ (mem n2) rfl;obtain⟨m,hn,hl⟩:=I.loc;obtain⟨u',rv,lk⟩:=hl i' y w n1 hs (by rcases kd with z | z;exact .inr (.inl z);exact .inr (.inr z));refine⟨u',rv,?_⟩;rcases lk with⟨z,_⟩ | ⟨_,d,e1,o,e2,e3⟩
     ·rcases kd with k | k<;>(rw[show X.env.kindOf y=some .local from z] at k;cases k)
     ·obtain⟨d',e4⟩:=tu _ (mem n2) rfl
      have:=oK _ _ e4;rw[e1] at this;cases this;exact .inr ⟨.inr n2,d,e4,o,vX _ _ e2,e3⟩
  ·obtain⟨z,o,e2,e3⟩:=I.cell y d (oK y d hy)
   exact⟨z,o,vX _ _ e2,e3⟩
  ·have:=S.len
   show (some v :: ip cp σ).length=(x :: Nb).length;unfold ip;rw[Fq,qx];simpa using this
 refine kla_codeExpr (Y3 (J.out [] _ _ H Q I1 h) (fun u' s' hs => ?_) fun e s' hs=>hs.elim);obtain⟨w,H',J',rv,q⟩:=hs;exact I.after ⟨w,H',J'.os,J'.bare,J'.base,J'.aM,rv,q⟩
end
noncomputable def iU (h:Heap) (k:LK) (v:Value):Prop:=∃ a o xs n,v = .ref a/\h.get? a=some o/\o.cls = .type "tuple" /\ o.data = .seq xs n/\IntsAre xs.toList k
section
variable {prog:Program} {w:World} {A:Around} {E:Value->Shared->Prop} {s:Shared} {Q:Bool->Shared->Prop}
theorem Iq {fin:Bool}:∀ {us ws:List Value} {ks ls:LK} (i:Nat),IntsAre us ks->IntsAre ws ls->fin=decide (us.length < ws.length)->Q (HT.lexLt ks ls) s->KatLex prog w A true fin Q (us.zip ws) i s
 | _,_,_,_,i,.nil,.nil,hf,h=>by
  rw[q0k];subst hf;exact h
 | _,_,_,_,i,.nil,.cons m u r,hf,h=>by
  rw[q0k];have:fin=true:=by rw[hf];simp
  subst this;exact h
 | _,_,_,_,i,.cons n t r,.nil,hf,h=>by
  rw[q09];have:fin=false:=by rw[hf];simp
  subst this;exact h
 | _,_,_,_,i,.cons n t r,.cons m u r',hf,h=>by
  rw[Y4];refine kat_cons (wpAny_eqBool_int (kat_go (fun e => ?_) fun e => ?_))
  ·have e:n=m:=Y_ e
   subst e;rw[HT.mY,Xs rfl] at h;exact kat_yes (Iq (i + 1) r r' (by rw[hf];simp) h)
  ·have e:¬ n=m:=fun z=>by subst z;simp at e
   rw[HT.mY,NM e] at h;refine kat_no ?_
   cases q:(true && i == 0) with
   | true=>exact oneLt_int h
   | false=>exact kat_one _ _ (q02 h)
theorem Ir {k l:LK} {x y:Value} (hx:iU s.heap k x) (hy:iU s.heap l y) (h:Q (HT.lexLt k l) s):wpAny (model prog w) A (keyLt' (tuples' true) x y) Q E s:=by
 obtain⟨a,o,xs,n,rfl,h1,_,h2,h3⟩:=hx;obtain⟨b,o',ys,n',rfl,g1,_,g2,g3⟩:=hy;exact kat_lt h1 h2 g1 g2 (Iq 0 h3 g3 (by rw[Fu,Fu]) h)
theorem Iu {h:Heap}:∀ {keys:List Value} {ks:List LK},(∀ k∈ks,k≠[])->keys.length=ks.length->(∀ (i:Nat) (k:LK) (v:Value),ks[i]? = some k->keys[i]? = some v->iU h k v)->∃ fs,KatTups h keys fs/\fs.length=keys.length/\∀ v∈fs,∃ n t,v=Value.int n t
 | [],[],_,_,_=>⟨[],.nil,rfl,fun v hv=>nomatch hv⟩
 | [],_ :: _,_,hl,_=>by simp at hl
 | _ :: _,[],_,hl,_=>by simp at hl
 | v :: keys,k :: ks,gQ,hl,ht=>by
  obtain⟨fs,t,hf,hi⟩:=Iu (h:=h) (keys:=keys) (ks:=ks) (fun k hk=>gQ k (Xu _ hk)) (by simpa using hl) fun i k v e1 e2=>ht (i + 1) k v (by simpa using e1) (by simpa using e2);obtain⟨a,o,xs,n,rfl,h1,hc,h2,h3⟩:=ht 0 k v rfl rfl;have hk:=gQ k NO;generalize hx:xs.toList=xl at h3
  cases h3 with
  | nil=>exact absurd rfl hk
  | cons m t' r =>
   have h0:xs[0]? = some (.int m t'):=by rw[<-Yg,hx];rfl
   refine⟨.int m t' :: fs,.cons h1 hc h2 h0 t,by rw[Fq,Fq,hf],fun v hv => ?_⟩;rcases Xq.mp hv with rfl | hv
   ·exact⟨m,t',rfl⟩
   ·exact hi v hv
theorem Iv {M:Model} {keys:List Value} {ks:List LK} {Q:SortKind->Shared->Prop} (h0:0 < keys.length) (gQ:∀ k∈ks,k≠[]) (hl:keys.length=ks.length) (ht:∀ (i:Nat) (k:LK) (v:Value),ks[i]? = some k->keys[i]? = some v->iU s.heap k v) (h:Q (tuples' true) s) :
  wpAny M A (keyKind' keys.toArray) Q E s:=by
 obtain⟨fs,t,hf,hi⟩:=Iu gQ hl ht;refine kat_kind (T := .type "int") t (by omega) (fun v hv => ?_) (by decide) ?_
 ·obtain⟨n,t',rfl⟩:=hi v hv
  exact .now
 ·exact h
theorem getD_some {α : Type} {l:List α} {i:Nat} {d : α} (h:i < l.length):l[i]? = some (l.getD i d):=by
 rw[qv h,Fs,qv h];rfl
theorem R0 {a kS:Addr} {e1:Nat} {vs keys:List Value} {ks:List LK} {P:PySem.Fin->Shared->Prop} (hv:keys.length=vs.length) (ir:vs.length < 64) (gQ:∀ k∈ks,k≠[]) (hl:keys.length=ks.length) (ht:∀ (i:Nat) (k:LK) (v:Value),ks[i]? = some k->keys[i]? = some v->iU s.heap k v)
  (fin:∀ st (p:Array Nat),(arrOf st).map (·.2)=List.toArray (p.toList.map fun i=>vs.getD i Value.none)->failedOf st=none->cM vs.length p->Up (fun i=>ks.getD i []) p vs.length->wpAny (model prog w) A (ksk_tail a false e1 (.ref kS) st) P E s) :
  wpAny (model prog w) A (ksk_end a false vs.toArray e1 (.ref kS) (List.toArray keys)) P E s:=by
 unfold ksk_end
 try dsimp only
 simp only[Ye,YS]
 by_cases h2:vs.toArray.size < 2
 ·rw[Xs h2,Xs h2]
  refine ni (zR ?_);rw[StateT.run_pure];refine ni (zR ?_)
  try dsimp only
  rw[wO] at h2;refine fin _ (List.range vs.length).toArray ?_ rfl ⟨q1Q _⟩ fun i j iC hj => ?_
  ·have B6:arrOf (SortSt.mk' general' (keys.toArray.zip vs.toArray) #[] 7 none)=(List.toArray (List.range vs.length)).map (kas_item (keys.toArray.zip vs.toArray)):=by
    have e:=kas_range (keys.toArray.zip vs.toArray);rw[show (keys.toArray.zip vs.toArray).size=vs.length by simp[hv]] at e;rw[e]
   exact kat_snds hv B6
  ·have:i=j:=by omega
   subst this;exact kle_refl _
 ·rw[NM h2,NM h2]
  rw[wO] at h2;refine ni (Iv (by omega) gQ hl ht ?_)
  refine ni (Y3 (kat_run (κ := tuples' true) (E:=E) (Q:=fun dX s'=>s'=s/\∃ p:Array Nat,arrOf dX=p.map (kas_item (keys.toArray.zip vs.toArray))/\failedOf dX=none/\cM vs.length p/\Up (fun i=>ks.getD i []) p vs.length)
   (G:=fun p s'=>s'=s/\cM vs.length p/\Up (fun i=>ks.getD i []) p vs.length) hv (by omega) ir (fun p dX s' a1 a2 a3 a4=>⟨a4.1,p,a2,a3,a4.2.1,a4.2.2⟩) ?_) ?_ fun _ _ x=>x)
  ·refine Hf (k:=fun i=>ks.getD i []) (I:=fun s'=>s'=s) (fun i j C s' hi hj e hC => ?_) (by omega) rfl fun p s' a1 a2 a3=>⟨a3,a1,a2⟩
   subst e;exact Ir (ht i _ _ (getD_some (by omega)) (getD_some (by omega))) (ht j _ _ (getD_some (by omega)) (getD_some (by omega))) (hC _ rfl)
  ·rintro ⟨⟨⟩,dX⟩ s' ⟨rfl,p,a1,a2,a3,a4⟩
   try dsimp only
   exact fin dX p (kat_snds hv a1) a2 a3 a4
end
theorem a_.at {X:Cx} {pins:List (Addr × Obj)} {H H':Hp} {b:Addr} (f:a_ X pins H b) (h:H' b=none):a_ X pins H' b:=⟨h,f.2⟩
section
variable {X:Cx} {pins:List (Addr × Obj)} {σ : St} {H:Hp} {s:Shared} {A:Around} {E:Value->Shared->Prop} {a:Addr} {vs:List Value} {f:Value}
theorem Inv.cb {h':Heap} {t':Nat} {b:Addr} (I:Inv X pins σ H s) (fb:a_ X pins H b) (k:∀ c o,c≠b->s.heap.get? c=some o->h'.get? c=some o):Inv X pins σ H { s with heap:=h',toks:=t' } :=
 I.turned k fb.1 fb.2.1 fb.2.2.2.1 fb.2.2.2.2.1 fb.2.2.2.2.2
theorem Inv.dj {b:Addr} {o:Obj} (I:Inv X pins σ H s) (fb:a_ X pins H b) (e:s.heap.get? b=some o) (hc:∀ v,o.data ≠ .cell v):Inv X ((b,o) :: pins) σ H s :=
 I.eY fun p hp=>by
  rcases Xq.mp hp with rfl | hp
  ·exact⟨e,fb.1,fb.2.1,fb.2.2.1,hc⟩
  ·exact I.pin p (NK _ hp)
theorem Inv.bH {p:Addr × Obj} (I:Inv X (p :: pins) σ H s):Inv X pins σ H s:=I.eY fun q hq=>I.pin q (NK _ (Xu _ hq))
theorem a_.cons {b:Addr} {p:Addr × Obj} (f:a_ X pins H b) (n:p.1≠b):a_ X (p :: pins) H b :=
 ⟨f.1,f.2.1,f.2.2.1,f.2.2.2.1,f.2.2.2.2.1,fun q hq=>by
  rcases Ys.mp hq with z | z
  ·exact f.2.2.2.2.2 q (Yz _ z)
  ·rcases Xq.mp z with rfl | z
   ·exact n
   ·exact f.2.2.2.2.2 q (NK _ z)⟩
theorem mJ {c:String} {xs:Array Value} {n:Nat}:∀ v,(seqObj c xs n).data ≠ .cell v:=fun v z=>by cases z
theorem R1 {P:List V->Hp->Prop} {n0:Nat} {R:PySem.Fin->Shared->Prop} (I:Inv X pins σ H s) (fa:a_ X pins H a) (ha:s.heap.get? a=some (seqObj "list" vs.toArray n0)) (ir:vs.length < 64) (p0:P [] H)
  (iV:∀ (bu:List (Addr × Obj)) (v:Value) (af:List V) (H':Hp) (s':Shared),vs[af.length]? = some v->Inv X bu σ H' s'->P af H'->wpAny (model X.prog X.w) A (call f [v]) (EP X bu σ fun k iy=>P (af ++ [k]) iy) (fun _ _=>False) s')
  (fin:∀ af H',af.length=vs.length->P af H'->∃ ks:List LK,ks.length=vs.length/\(∀ k∈ks,k≠[])/\(∀ (i:Nat) (k:LK),ks[i]? = some k->∃ t,af[i]? = some (.ref t)/\H' t=some (.tup (k.map V.int))) ∧
   ∀ (p:Array Nat) (s':Shared) (c:Nat),cM vs.length p->Up (fun i=>ks.getD i []) p vs.length->Inv X pins σ H' s'->a_ X pins H' a->s'.heap.get? a=some (seqObj "list" (List.toArray (p.toList.map fun i=>vs.getD i Value.none)) c)->R (.done (.ret .none)) s') :
  wpAny (model X.prog X.w) A (ksk_tree a f false) R E s:=by
 unfold ksk_tree;refine ni (listItems_at ha rfl ?_);refine ni (q0r ha rfl ?_ (by rw[wO,YR];omega) (Yy _));have sb:=Yo s.heap a (Obj.mapSeq fun _=>(#[]:Array Value));obtain⟨e1,j9⟩:∃ e1,(s.heap.update a (Obj.mapSeq fun _=>(#[]:Array Value))).get? a=some (seqObj "list" #[] e1):=⟨_,ZU ha fun _ => #[]⟩;have I1:Inv X pins σ H { s with heap:=s.heap.update a (Obj.mapSeq fun _=>(#[]:Array Value)) }:=I.cb (t':=s.toks) fa fun c o n e=>(sb.2 c n).trans e;refine ni (seqEpoch_at j9 rfl ?_);refine ni (wpAny_newTuple ?_ (by show vs.length <= _;rw[YR];omega));refine ni (q0s ?_ (Yy _));refine Yp ?_;generalize R3:s.heap.update a (Obj.mapSeq fun _=>(#[]:Array Value))=g0 at j9 I1
 show wpAny _ _ (ksk_rest a f false vs.toArray e1 (.ref (g0.push (seqObj "tuple" vs.toArray 0)).objs.size)) R E { s with heap:=(g0.push (seqObj "tuple" vs.toArray 0)).push (seqObj "list" #[] 0) };have I2:Inv X pins σ H { s with heap:=(g0.push (seqObj "tuple" vs.toArray 0)) }:=I1.kept (h':=g0.push (seqObj "tuple" vs.toArray 0)) (t':=s.toks) fun b u e=>qw _ e;have d6:(g0.push (seqObj "tuple" vs.toArray 0)).get? a=some (seqObj "list" #[] e1):=qw _ j9;generalize g0.push (seqObj "tuple" vs.toArray 0)=g1 at I2 d6;have fk:a_ X pins H g1.objs.size:=I2.d5 (uu _) (I2.aM.fresh (uu _));have I3:Inv X pins σ H { s with heap:=g1.push (seqObj "list" #[] 0) }:=I2.kept (h':=g1.push (seqObj "list" #[] 0)) (t':=s.toks) fun b u e=>qw _ e
 have vY:g1.objs.size≠a:=ZI (NL d6);have I4:=(I3.dj fk (Xr _ rfl) mJ).dj (fa.cons (p:=(g1.objs.size,seqObj "list" #[] 0)) vY) (qw _ d6) mJ;generalize g1.objs.size=kS at I4 vY fk;unfold ksk_rest;refine ni (q0Q ?_)
 first
  | rw[List.forIn_toArray]
  | (rw[<-q0v];simp only[List.toList_toArray])
  | rw[<-q0v]
 refine ni (ksk_fold (fun i s'=>∃ H' af ks e,Inv X ((a,seqObj "list" #[] e1) :: (kS,seqObj "list" (List.toArray ks) e) :: pins) σ H' s'/\P af H'/\Vals af ks/\af.length=i) vs 0 _ ⟨H,[],[],0,I4,p0,.nil,rfl⟩ ?step ?done)
 case step =>
  rintro j x s' hx ⟨H',af,ks,e,J,pk,rv,hl⟩;rw[Yu] at hl;have hj:j < vs.length:=(sA.mp hx).1;refine ni (wpAny_attempt (Y3 (iV _ x af H' s' (by rw[hl];exact hx) J pk) (fun u s2 hs => ?_) fun _ _ z=>z.elim));obtain⟨k,H2,J2,r2,p2⟩:=hs
  try dsimp only
  have pa:=J2.pin (a,seqObj "list" #[] e1) (NK _ (.head _));have jO:=J2.pin (kS,seqObj "list" (List.toArray ks) e) (NK _ (.tail _ (.head _)));have lk:ks.length=j:=by rw[<-rv.length];exact hl
  refine ni (q0r jO.1 rfl ?_ (by rw[wO,YR];omega) (Yw (q1I (q1L ..)) (by rw[wO,YR];omega)));have s1:=Yo s2.heap kS (Obj.mapSeq (·.push u));have ea:(List.toArray ks).push u=List.toArray (ks ++ [u]):=by simp
  obtain⟨c2,eZ⟩:∃ c2,(s2.heap.update kS (Obj.mapSeq (·.push u))).get? kS=some (seqObj "list" (List.toArray (ks ++ [u])) c2):=⟨_,by rw[<-ea];exact ZU jO.1 (·.push u)⟩;have J3:=J2.bH.bH;have J4:Inv X pins σ H2 { s2 with heap:=s2.heap.update kS (Obj.mapSeq (·.push u)) }:=J3.cb (t':=s2.toks) (fk.at jO.2.1) fun c o n e=>(s1.2 c n).trans e;refine zR ⟨rfl,H2,af ++ [k],ks ++ [u],c2,?_,p2,rv.append (.cons r2 .nil),by rw[Fv,hl,Yu];rfl⟩;exact (J4.dj (fk.at jO.2.1) eZ mJ).dj ((fa.at pa.2.1).cons vY) ((s1.2 a vY.symm).trans pa.1) mJ
 case done =>
  rintro s' ⟨H',af,ks,e,J,pk,rv,hl⟩;rw[Yu] at hl;have pa:=J.pin (a,seqObj "list" #[] e1) (NK _ (.head _));have jO:=J.pin (kS,seqObj "list" (List.toArray ks) e) (NK _ (.tail _ (.head _)));have lk:ks.length=vs.length:=by rw[<-rv.length];exact hl
  obtain⟨kk,k1,k2,k3,k4⟩:=fin af H' hl pk
  try dsimp only
  refine ni (listItems_at jO.1 rfl ?_);refine R0 (ks:=kk) lk ir k2 (by rw[lk,k1]) (fun i k v e1 e2 => ?_) fun st p rJ hf hp up => ?_
  ·obtain⟨t,e3,e4⟩:=k3 i k e1
   obtain⟨u,e5,e6⟩:=rv.get e3;rw[e2] at e5;cases e5;cases e6
   obtain⟨aq,r',it,_⟩:=J.tuple (bF.of e4);obtain⟨o,o1,o2,n,o3⟩:=it;exact⟨t,o,_,n,rfl,o1,o2,o3,by simpa using intsAre_of r'⟩
  ·have hz:(p.toList.map fun i=>vs.getD i Value.none).length=vs.length:=by rw[qx,Fu,hp.size]
   unfold ksk_tail
   try dsimp only
   rw[rJ];refine ni (q0r jO.1 rfl ?_ (by rw[wO,YR];omega) (Yy _));refine ni (ZA ?_);have s1:=Yo s'.heap kS (Obj.mapSeq fun _=>(#[]:Array Value));have na:(s'.heap.update kS (Obj.mapSeq fun _=>(#[]:Array Value))).get? a=some (seqObj "list" #[] e1):=(s1.2 a vY.symm).trans pa.1;refine ni (seqEpoch_at na rfl ?_);simp only[Ye,YS];refine ni (q0r na rfl ?_ (Yy _) (Yw (q1I (by rw[wO,hz])) (by rw[YR];omega)));rw[hf];simp only[bne_self_eq_false,Ye,YS];have J1:Inv X pins σ H' { s' with heap:=s'.heap.update kS (Obj.mapSeq fun _=>(#[]:Array Value)) }:=J.bH.bH.cb (t':=s'.toks) (fk.at jO.2.1) fun c o n e=>(s1.2 c n).trans e
   have s2:=Yo (s'.heap.update kS (Obj.mapSeq fun _=>(#[]:Array Value))) a (Obj.mapSeq fun _=>List.toArray (p.toList.map fun i=>vs.getD i Value.none));have J2:Inv X pins σ H' { s' with heap:=(s'.heap.update kS (Obj.mapSeq fun _=>(#[]:Array Value))).update a (Obj.mapSeq fun _=>List.toArray (p.toList.map fun i=>vs.getD i Value.none)) }:=J1.cb (t':=s'.toks) (fa.at pa.2.1) fun c o n e=>(s2.2 c n).trans e;obtain⟨c2,eZ⟩:∃ c2,((s'.heap.update kS (Obj.mapSeq fun _=>(#[]:Array Value))).update a (Obj.mapSeq fun _=>List.toArray (p.toList.map fun i=>vs.getD i Value.none))).get? a=some (seqObj "list" (List.toArray (p.toList.map fun i=>vs.getD i Value.none)) c2):=⟨_,ZU na fun _=>List.toArray (p.toList.map fun i=>vs.getD i Value.none)⟩
   exact zR (k4 p _ c2 hp up J2 (fa.at pa.2.1) eZ)
end
section
variable {prog:Program} {w:World} {A:Around} {E:Value->Shared->Prop} {s:Shared}
theorem R4 {Q:List Value->Shared->Prop} {r:Addr} {a b c:Int} {t u v:Tok} {n:Nat} (hh:A.handled=none) (hr:IsRange s.heap r a b c t u v) (rK:Builtin.Range.small a b c=true)
  (hn:Builtin.Range.rangeSize a b c=n) (hlen:n <= 2 ^ 24)
  (hQ:∀ h' tk cF,(∀ b o,s.heap.get? b=some o->h'.get? b=some o)->ItemsOf (fun i v=>∃ t,v = .int (a + i * c) t) cF n->Q cF.toList { s with heap:=h',toks:=tk }):wpAny (model prog w) A (collect (.ref r)) Q E s:=by
 have key:∀ R:Result->Shared->Prop,(∀ h' tk cF c',(∀ b o,s.heap.get? b=some o->h'.get? b=some o)->h'.get? s.heap.objs.size=some { cls := .type "list",dict:=none,data := .seq cF c',slots := #[] }->ItemsOf (fun i v=>∃ t,v = .int (a + i * c) t) cF n->R (.ok (.ret (.ref s.heap.objs.size))) { s with heap:=h',toks:=tk })->codeAny (model prog w) A (.builtin "proto.collect" ⟨[.ref r],[]⟩) R s:=by
  intro R hR;refine Zp F.entry_proto_collect ?_;rw[Y5 F.plain_proto_collect _];show wpAny _ A.in1 (newList [] >>= fun l=>again (.builtin "list.__iadd__" ⟨[l,.ref r],[]⟩)) _ _ s;refine ni (Zn ?_);refine zR ⟨Zx F.plain_list_iadd _,Zp F.entry_list_iadd ?_⟩;rw[Y5 F.plain_list_iadd _];show wpAny _ A.in1 (Builtin.List.listExtendWith (.ref s.heap.objs.size) (.ref r) (.ref s.heap.objs.size)) _ _ _;have R5:(s.heap.push { cls := .type "list",data := .seq ([]:List Value).toArray }).get? s.heap.objs.size=some { cls := .type "list",data := .seq #[] 0 }:=Xr _ rfl;refine wpAny_extend_range (R:=R) (s:={ s with heap:=s.heap.push { cls := .type "list",data := .seq ([]:List Value).toArray } }) hh (qw _ hr) rK hn hlen s.heap.objs.size (.ref s.heap.objs.size) 0 R5 fun h' tk cF c' hk jj rL => ?_
  exact hR h' tk cF c' (fun b o e=>hk b o (Yb (NL e)) (qw _ e)) jj rL
 unfold collect;refine ni (wpAny_runValue (key _ fun h' tk cF c' hk jj rL => ?_));show wpAny _ A (load s.heap.objs.size >>= _) _ _ _;refine ni (wpAny_load jj ?_);exact zR (hQ h' tk cF hk rL)
end
section
variable {X:Cx} {pins:List (Addr × Obj)} {σ : St} {H:Hp} {s:Shared} {E:Value->Shared->Prop}
theorem Inv.pO {a:Addr} {o:HO} (I:Inv X pins σ H s) (fa:a_ X pins H a) (ha:X.s₀.heap.objs.size <= a) (new:aO X.prog X.w (upd H a o) s.heap a o):Inv X pins σ (upd H a o) s:=by
 obtain⟨f0,f1,f2,_,f4,f5⟩:=fa;have ne:∀ {b u},H b=some u->b≠a:=fun e z=>by rw[z,f0] at e;cases e
 refine⟨I.ok,I.os,I.bare,⟨I.base.keep,I.base.slot,fun b u e n hx => ?_,I.base.there,fun b xs e => ?_,fun b u v e => ?_,fun b ps e => ?_⟩,I.loc,I.cell,?_,fun x c e => ?_,fun p hp => ?_,fun b u e => ?_,I.len⟩
 ·rw[aS (Yb (Yc (NL e) ha))];exact I.base.free b u e n hx
 ·have:=I.base.fg b xs e
  rw[aS (ne this)];exact this
 ·have:=I.base.fM b u v e
  rw[aS (ne this)];exact this
 ·obtain⟨more,this⟩:=I.base.fN b ps e
  exact⟨more,by rw[aS (ne this)];exact this⟩
 ·rw[aS (q0j f1)];exact I.free
 ·rw[aS (f4 x c e)];exact I.cH x c e
 ·obtain⟨e1,e2,e3⟩:=I.pin p hp
  exact⟨e1,by rw[aS (f5 p hp)];exact e2,e3⟩
 ·by_cases z:b=a
  ·subst z;rw[bZ] at e;cases e;exact new
  ·rw[aS z] at e
   refine (I.aM b u e).ff (fun c v _ q=>q) (fun c q => ?_) fun c xs q => ?_
   ·rw[aS (ne q)];exact q
   ·rw[aS (ne q)];exact q
theorem Iw {xs:List V} {vs:List Value} (r:Vals xs vs) {p:List Nat} (hp:∀ i∈p,i < vs.length):Vals (p.map fun i=>xs.getD i .non) (p.map fun i=>vs.getD i Value.none):=by
 induction p with
 | nil=>exact .nil
 | cons i q ih =>
  refine .cons ?_ (ih fun j hj=>hp j (Xu _ hj));have hi:=hp i NO;obtain⟨u,e1,e2⟩:=r.get (getD_some (l:=xs) (d:=V.non) (by rw[r.length];exact hi));have:=getD_some (l:=vs) (d:=Value.none) hi;rw[this] at e1;cases e1;exact e2
theorem cM.mem {n:Nat} {p:Array Nat} (h:cM n p) {i:Nat} (hi:i∈p.toList):i < n:=by
 have:=(q0m.mp h.perm).mem_iff.mp hi;simpa using this
theorem R6 {l q:Addr} {P:List V->Hp->Prop} {xs:List V} {Q:Value->Shared->Prop} (I:Inv X pins σ H s)
  (col:∀ Q':List Value->Shared->Prop,(∀ h' tk vs,(∀ b o,s.heap.get? b=some o->h'.get? b=some o)->Vals xs vs->Q' vs { s with heap:=h',toks:=tk })->wpAny (model X.prog X.w) X.A.in1 (collect (.ref l)) Q' E s)
  (ir:xs.length < 64) (p0:P [] H)
  (iV:∀ (bu:List (Addr × Obj)) (x:V) (u:Value) (af:List V) (H':Hp) (s':Shared),xs[af.length]? = some x->RelV x u->Inv X bu σ H' s'->P af H'->wpAny (model X.prog X.w) X.A.in1.in1 (call (.ref q) [u]) (EP X bu σ fun k iy=>P (af ++ [k]) iy) (fun _ _=>False) s')
  (fin:∀ af H',af.length=xs.length->P af H'->∃ ks:List LK,ks.length=xs.length/\(∀ k∈ks,k≠[])/\(∀ (i:Nat) (k:LK),ks[i]? = some k->∃ t,af[i]? = some (.ref t)/\H' t=some (.tup (k.map V.int))) ∧
   ∀ (p:Array Nat) (s':Shared) (a:Addr),cM xs.length p->Up (fun i=>ks.getD i []) p xs.length->H' a=none->Inv X pins σ (upd H' a (.lst (p.toList.map fun i=>xs.getD i .non))) s'->Q (.ref a) s') :
  wpAny (model X.prog X.w) X.A (call (.builtin "sorted") [.ref l] [(Str.ofString "key",.ref q)]) Q E s:=by
 refine call_function_entry_kw kind_sorted plain_sorted entry_sorted (ksk_s1 _ _) ?_;unfold Builtin.«sorted»;refine ni (m:=checkCount "sorted" 1 1 _) (zR ?_);refine ni (col _ fun h' tk vs kp rv => ?_);have lv:vs.length=xs.length:=rv.length.symm;refine ni (q0s ?_ (by rw[YR];omega));have I1:Inv X pins σ H { s with heap:=h',toks:=tk }:=I.kept kp;have fa:a_ X pins H h'.objs.size:=I1.d5 (uu _) (I1.aM.fresh (uu _));have B7:X.s₀.heap.objs.size <= h'.objs.size:=I1.sz;have I2:Inv X pins σ H { s with heap:=h'.push (seqObj "list" vs.toArray 0),toks:=tk }:=I1.kept (h':=h'.push (seqObj "list" vs.toArray 0)) (t':=tk) fun b u e=>qw _ e
 have qb:(h'.push (seqObj "list" vs.toArray 0)).get? h'.objs.size=some (seqObj "list" vs.toArray 0):=Xr _ rfl;refine ni (Yp (wpAny_call_entry_kw slot_list_sort ⟨_,qb,rfl⟩ entry_list_sort ?body (ksk_l1 _ _)))
 case body =>
  show wpAny (model X.prog X.w) X.A.in1.in1 (Builtin.«list.sort» ⟨[.ref h'.objs.size],[(Str.ofString "key",.ref q)]⟩) _ _ _;rw[ksk_t1];refine R1 (P:=P) I2 fa qb (by omega) p0 (fun bu v af H' s' hv J pk => ?_) fun af H' hl pk => ?_
  ·have hi:af.length < xs.length:=by rw[<-lv];exact (sA.mp hv).1
   obtain⟨u,e1,e2⟩:=rv.get (qv hi);rw[hv] at e1;cases e1;exact iV bu _ v af H' s' (qv hi) e2 J pk
  ·obtain⟨ks,k1,k2,k3,k4⟩:=fin af H' (by omega) pk
   refine⟨ks,by omega,k2,k3,fun p s' c hp up J fj e=>⟨_,rfl,?_⟩⟩;rw[lv] at hp up;refine zR ⟨_,rfl,k4 p s' h'.objs.size hp up fj.1 (J.pO fj B7 ?_)⟩;have hz:(p.toList.map fun i=>xs.getD i V.non).length=xs.length:=by rw[qx,Fu,hp.size]
   exact⟨by rw[hz,YR];omega,_,c,Iw rv fun i hi=>by rw[lv];exact hp.mem hi,e⟩
end
theorem ae.at {H:Hp} {ds:List D} {vs:List V} {i:Nat} {d:D} {v:V} (h:ae H ds vs) (e1:ds[i]? = some d) (e2:vs[i]? = some v):Is H d v:=by
 obtain⟨d',e3,h'⟩:=h.get e2;rw[e1] at e3;cases e3;exact h'
theorem ae.rM {H:Hp}:∀ {ds:List D} {vs:List V},vs.length=ds.length->(∀ (i:Nat) (d:D),ds[i]? = some d->∃ v,vs[i]? = some v/\Is H d v)->ae H ds vs
 | [],[],_,_ => .nil
 | [],_ :: _,h,_=>by simp at h
 | _ :: _,[],h,_=>by simp at h
 | d :: ds,v :: vs,h,g=>by
  obtain⟨v',e,h1⟩:=g 0 d rfl;cases (show some v=some v' from e)
  exact .cons h1 (ae.rM (by simpa using h) fun i d e=>by simpa using g (i + 1) d (by simpa using e))
structure lI where
 T:Addr
 pos:Pos
 qual:Str
theorem dW.same {H H':Hp} {T:Addr} {pos:Pos} {q:Str} (h:dW H T pos q) (s:aF H H'):dW H' T pos q:=by
 obtain⟨ps,e,t,c⟩:=h;exact⟨ps,s _ _ e,t,c.imp id fun ⟨c,e1,e2⟩=>⟨c,e1,s _ _ e2⟩⟩
theorem dW.keep {H H':Hp} {T T':Addr} {pos:Pos} {q:Str} (h:dW H T pos q) (ne:T≠T') (hT:∃ ps,H T'=some (.tbl ps)) (s:∀ b o,H b=some o->b≠T'->H' b=some o):dW H' T pos q:=by
 obtain⟨ps,e,t,c⟩:=h;refine⟨ps,s _ _ e ne,t,c.imp id fun ⟨c,e1,e2⟩=>⟨c,e1,s _ _ e2 fun z => ?_⟩⟩;obtain⟨qs,hT⟩:=hT;rw[z,hT] at e2;cases e2
theorem dW.put {H:Hp} {T a:Addr} {pos:Pos} {q:Str} {o o':HO} (h:dW H T pos q) (ha:H a=some o) (hk:(∃ vs,o = .lst vs)\/∃ ws,o = .dK ws):dW (upd H a o') T pos q:=by
 obtain⟨ps,e,t,c⟩:=h
 have ne:∀ {b u},H b=some u->(∀ vs,u ≠ .lst vs)->(∀ ws,u ≠ .dK ws)->b≠a:=fun {b u} e n1 n2 z=>by
  subst z;rw[ha] at e;cases e;rcases hk with⟨_,z⟩ | ⟨_,z⟩
  ·exact n1 _ z
  ·exact n2 _ z
 refine⟨ps,by rw[aS (ne e (fun _ z=>by cases z) fun _ z=>by cases z)];exact e,t,c.imp id fun ⟨c,e1,e2⟩=>⟨c,e1,?_⟩⟩;rw[aS (ne e2 (fun _ z=>by cases z) fun _ z=>by cases z)];exact e2
@[reducible] noncomputable def oM (ls:List lI):aK where
 ad:=ls.map (·.T)
 ok:=fun H=>∀ l∈ls,dW H l.T l.pos l.qual
 same:=fun h s l hl=>(h l hl).same s
 put:=fun h ha hk l hl=>(h l hl).put ha hk
 tb:=fun h ha=>by
  obtain⟨l,hl,rfl⟩:=X0.mp ha;obtain⟨ps,e,_⟩:=h l hl;exact⟨ps,e⟩
variable [aK]
structure B8 (T:Addr) (pos:Pos) (q:Str):Prop where
 mem:T∈aK.ad
 get:∀ H:Hp,aK.ok H->dW H T pos q
 put:∀ H H':Hp,aK.ok H->dW H' T pos q->(∀ b o,H b=some o->b≠T->H' b=some o)->aK.ok H'
omit [aK] in
theorem R7 {ls:List lI} {l:lI} (hl:l∈ls) (nd:∀ a∈ls,∀ b∈ls,a.T=b.T->a=b):@B8 (oM ls) l.T l.pos l.qual:=by
 letI:aK:=oM ls;refine⟨Za hl,fun H h=>h l hl,fun H H' h t k l' iz => ?_⟩
 by_cases z:l'.T=l.T
 ·rw[nd _ iz _ hl z];exact t
 ·obtain⟨ps,e,_⟩:=h l hl
  exact (h l' iz).keep z ⟨ps,e⟩ k
structure R8 (X:Cx) (T:Addr):Prop where
 code:∃ cc,X.env.code = .ref cc/\CodeHd X.base cc T
 ng:mainGlobals≠T
 blt:X.base.BuiltinsAt X.mg T
section
variable {F H H':Hp} {ad:List Addr} {δ : aA} {σ : St}
theorem SR.rN (S:SR F ad δ σ H) (k:∀ b o,H b=some o->b∉aK.ad->H' b=some o) (tk:aK.ok H'):SR (Nw F H H') ad δ σ H':=by
 have sm:=Nw.same (H':=H') S.sub;have nF:∀ {a o},F a=some o->a∉aK.ad:=fun {a o} e t=>by rw[S.nt a t] at e;cases e
 have nO:∀ {i a ov},ad[i]? = some a -> δ.mu[i]? = some (some ov)->a∉aK.ad:=fun {i a ov} e1 e2 t=>by
  obtain⟨a',o,e3,e4,h⟩:=S.mu i ov e2;rw[e1] at e3;cases e3;obtain⟨ps,q⟩:=aK.tb S.tab t;rw[e4] at q;cases q;rcases h.kind with⟨_,z⟩ | ⟨_,z⟩<;>cases z
 refine⟨fun a o e => ?_,fun a l => ?_,S.cy,S.inj,fun i ov e => ?_,fun i x e => ?_,S.len,tk,fun a ha => ?_⟩
 ·unfold Nw at e
  cases q:H a with
  | none=>rw[q] at e;exact e
  | some u=>rw[q] at e;exact k a o (S.sub a o e) (nF e)
 ·obtain⟨i,ov,e1,e2⟩:=l
  obtain⟨a',o,e3,e4,_⟩:=S.mu i ov e2;rw[e1] at e3;cases e3;unfold Nw;rw[e4];exact S.off a ⟨i,ov,e1,e2⟩
 ·obtain⟨a,o,e1,e2,h⟩:=S.mu i ov e
  exact⟨a,o,e1,k a o e2 (nO e1 e),h.same sm⟩
 ·obtain⟨v,e1,h⟩:=S.sl i x e
  refine⟨v,e1,?_⟩
  cases x with
  | p d=>exact Is.same sm h
  | o k=>exact h
 ·obtain⟨ps,q⟩:=aK.tb S.tab ha
  unfold Nw;rw[q];exact S.nt a ha
theorem Ext.rN (S:SR F ad δ σ H) (k:∀ b o,H b=some o->b∉aK.ad->H' b=some o) (tk:aK.ok H'):Ext F ad δ.mu H (Nw F H H') ad δ.mu H' where
 same:=Nw.same S.sub
 new:=fun a o e=>by
  unfold Nw at e
  cases q:H a with
  | none=>exact .inr (.inl rfl)
  | some u=>rw[q] at e;exact .inl e
 keep:=fun a o e _ t=>k a o e t
 pre:=fun _ _ e=>e
 cA:=fun _ l => .inl l
 iw:=fun a o e=>by
  by_cases t:a∈aK.ad
  ·obtain⟨ps,q⟩:=aK.tb tk t
   exact⟨_,q⟩
  ·exact⟨o,k a o e t⟩
theorem SR.pP {sl:List (Option DV)} {mu:List (Option OV)} {τ : St} {d:D} {v:V} (S:SR F ad ⟨sl,mu⟩ τ H) (h:Is F d v):SR F ad ⟨some (.p d) :: sl,mu⟩ (some v :: τ) H:=by
 refine⟨S.sub,S.off,S.cy,S.inj,S.mu,fun i x e => ?_,by have:=S.len;simp only[Fq];exact congrArg (· + 1) this,S.tab,S.nt⟩
 cases i with
 | zero=>cases (show some (some (DV.p d))=some (some x) from e);exact⟨v,rfl,h⟩
 | succ i=>exact S.sl i x e
theorem Ext.jk {F' H':Hp} {aC:List Addr} {cQ:List (Option OV)} {a:Addr} {o:HO} (S:SR F ad δ σ H) (e:Ext F ad δ.mu H F' aC cQ H') (h:H a=some o) (n1:∀ vs,o ≠ .lst vs) (n2:∀ ws,o ≠ .dK ws) (n3:∀ ps,o ≠ .tbl ps):H' a=some o:=by
 refine e.keep a o h (fun ⟨i,ov,e1,e2⟩ => ?_) fun t => ?_
 ·obtain⟨a',u,e3,e4,q⟩:=S.mu i ov e2
  rw[e1] at e3;cases e3;rw[h] at e4;cases e4;rcases q.kind with⟨_,z⟩ | ⟨_,z⟩
  ·exact n1 _ z
  ·exact n2 _ z
 ·obtain⟨ps,q⟩:=aK.tb S.tab t
  rw[h] at q;exact n3 _ (Yh q)
end
noncomputable def Iy (cp:List (Option Nat)) (fb:WE) (δ : aA) (ds:List D) (key:D->LK):Prop :=
 ∀ d∈ds,key d≠[]/\fb ⟨some (.p d) :: dg cp δ.sl,δ.mu⟩ fun y δ'=>y = .p (.tup ((key d).map D.int)) /\ δ'.mu = δ.mu
noncomputable def sortBy (cp:List (Option Nat)) (fb:WE) (δ : aA) (ds:List D) (K:List D->Prop):Prop :=
 ds.length < 64/\∃ key:D->LK,Iy cp fb δ ds key/\∀ out:List D,out.Perm ds->(out.map key).Pairwise kle->K out
section
variable {X:Cx} {params:Arguments} {body:Expr} {scope:Scope} {cN:Pos} {x:Str} {Nb:List Str} {cp:List (Option Nat)} {fb:WE} {T:Addr}
structure fD (X:Cx) (params:Arguments) (body:Expr) (scope:Scope) (cN:Pos) (T:Addr) (x:Str) (Nb:List Str) (cp:List (Option Nat)) (fb:WE):Prop where
 env:R8 X T
 tbl:B8 T cN (X.env.qual ++ "<lambda>")
 Iz:defaultsOf params X.env=([],[])
 kind:scope.kind = .function
 names:vW X.N X.env.scope scope x Nb cp=true
 co:scope.isCoroutine=false
 gen:scope.isGenerator=false
 bind:∀ (cl:List (Str × Addr)) (pm cd ct u:Value),bindArgs (kla_fn "<lambda>" (X.env.qual ++ "<lambda>") params body scope cl pm cd ct) ⟨[u],[]⟩=pure [(x,u)]
 room:∃ k,bh (k + 3) X.A/\∀ d:LD,bh k (d.A.deeper (envX (X.env.qual ++ "<lambda>") scope d.s.heap.objs.size d.f d.cd d.cl))->JE (oJ X (X.env.qual ++ "<lambda>") scope (x :: Nb) d) body (tD fb)
theorem R9 {pins:List (Addr × Obj)} {σ : St} {H:Hp} {s:Shared} {E:Value->Shared->Prop} {l:Addr} {F:Hp} {ad:List Addr} {δ : aA} {ds:List D} {xs:List V} {fq pos:Pos} {Q:VK} (L:fD X params body scope cN T x Nb cp fb)
  (I:Inv X pins σ H s) (S:SR F ad δ σ H) (hx:ae F ds xs)
  (col:∀ (s:Shared) (H':Hp),Inv X pins σ H' s->(∀ b o,H b=some o->b∉aK.ad->H' b=some o)->∀ Q':List Value->Shared->Prop,(∀ h' tk vs,(∀ b o,s.heap.get? b=some o->h'.get? b=some o)->Vals xs vs->Q' vs { s with heap:=h',toks:=tk })->wpAny (model X.prog X.w) X.A.in1 (collect (.ref l)) Q' E s)
  (hs:sortBy cp fb δ ds fun out=>∀ a F' H' us,Ext F ad δ.mu H F' ad δ.mu H'->SR F' ad δ σ H'->H' a=none->ae F' out us->Q (.ref a) (upd H' a (.lst us))) :
  wpAny (model X.prog X.w) X.A (evalAll ((backToKw pos (keywordEach [⟨some "key",.Lambda params body scope cN,fq⟩] X.env)).map (·.2))) (fun af s₂ => wpAny (model X.prog X.w) X.A (call (.builtin "sorted") [.ref l] (((backToKw pos (keywordEach [⟨some "key",.Lambda params body scope cN,fq⟩] X.env)).filterMap (·.1)).zip af)) (EP X pins σ Q) E s₂) E s:=by
 obtain⟨ir,key,hk,K⟩:=hs;obtain⟨k,lJ,J⟩:=L.room;obtain⟨cc,gj,hC⟩:=L.env.code;show wpAny _ _ (evalAll [do let v <- eval (.Lambda params body scope cN) X.env;standAt pos;pure v]) _ _ _;refine evalAll_cons (ni ?_);have rO:=L.names;unfold vW at rO;simp only[Yl,YV,Y0] at rO;have SC:=x0p L.kind rO.1.1.1;obtain⟨cl,mC,oK,tu⟩:=zT (scope:=scope) (env:=X.env) fun y hy e=>I.ok.has y.1 (SC.free y hy e);refine Ik I (L.tbl.get H S.tab) L.Iz mC gj (hC.keeps I.bk) L.env.ng (I.mod.glob.keeps I.bk) (L.env.blt.keeps I.bk) fun f H1 s1 c I1 t1 k1 Ij hf hc => ?_;refine ni (q0f (zR ?_));refine evalAll_nil ?_;show wpAny _ _ (call (.builtin "sorted") [.ref l] [(Str.ofString "key",.ref f)]) _ _ _
 have kT:∀ b o,H b=some o->b∉aK.ad->H1 b=some o:=fun b o e t=>k1 b o e fun z=>t (by rw[z];exact L.tbl.mem);have jc:=L.tbl.put H H1 S.tab t1 k1;have S1:=S.rN kT jc;have E1:=Ext.rN S kT jc;have lx:=hx.length
 refine R6 (xs:=xs) (P:=fun af H'=>∃ F',Ext F ad δ.mu H F' ad δ.mu H'/\SR F' ad δ σ H'/\H' f=some (h8 f "<lambda>" (X.env.qual ++ "<lambda>") params body scope cl ((X.mg "__name__").getD .none) (.ref c))/\H' c=some (lH c (X.env.qual ++ "<lambda>"))/\∀ (i:Nat) (d:D) (kv:V),ds[i]? = some d->af[i]? = some kv->Is F' (.tup ((key d).map D.int)) kv)
  I1 (col s1 H1 I1 kT) (by omega) ⟨_,E1,S1,hf,hc,fun i d kv _ e=>by simp at e⟩ (fun bu v u af H' s' hv rv I' ⟨F',E',S',pQ,gX,pR⟩ => ?_) fun af H' hl ⟨F',E',S',pQ,gX,pR⟩ => ?_
 ·have hi:af.length < ds.length:=by rw[<-lx];exact (sA.mp hv).1
  have hd:=qv hi;have B9:Is F' ds[af.length] v:=ae.at (hx.same E'.same) hd hv;obtain⟨R_,B_⟩:=hk _ (ZL hi);have r2:bh (k + 1) X.A.in1.in1:=(bh.in1 (bh.in1 (k:=k + 2) lJ));refine Io I' pQ gX (by rw[show X.A.in1.in1.frames=X.A.frames from rfl];exact I'.ok.frames) r2.hd r2.depth L.kind L.names L.co L.gen oK tu (fun ct=>L.bind cl _ _ ct u) rv (J ⟨X.A.in1.in1,cl,f,.ref c,s',H'⟩ (r2.deeper _)) ?_;refine⟨F',ad,_,_,(S'.qN (cp:=cp)).pP B9,B_,fun y δ' ⟨ey,em⟩ w F2 bL H2 E2 S2 V2 => ?_⟩;subst ey
  have ea:bL=ad:=by
   have l2:bL.length=ad.length:=by rw[S2.cy,em,S'.cy]
   refine ZV fun i => ?_
   by_cases hi:i < ad.length
   ·rw[qv hi];exact E2.pre i _ (qv hi)
   ·rw[YF (by omega),YF (by omega)]
  subst ea;obtain⟨zb,cQ⟩ := δ';have em:cQ = δ.mu:=em;subst em;refine⟨F2,E'.trans E2,SR.back S' E2 S2,E2.jk S' pQ (fun _ z=>by cases z) (fun _ z=>by cases z) (fun _ z=>by cases z),E2.jk S' gX (fun _ z=>by cases z) (fun _ z=>by cases z) (fun _ z=>by cases z),fun i d kv e1 e2 => ?_⟩
  by_cases lh:i < af.length
  ·rw[X1 lh] at e2
   exact Is.same E2.same (pR i d kv e1 e2)
  ·have:i=af.length:=by
    have:=(sA.mp e2).1;rw[Fv,Yi] at this;omega
   subst this;rw[X7 (uu _),YI] at e2;cases (show some w=some kv from e2)
   rw[hd] at e1;cases e1;exact V2
 ·refine⟨ds.map key,by rw[qx];omega,fun k d9 => ?_,fun i k' e => ?_,fun p s' a hp up ha I' => ?_⟩
  ·obtain⟨d,hd,rfl⟩:=X0.mp d9
   exact (hk d hd).1
  ·rw[My] at e
   obtain⟨d,hd,rfl⟩:=Xt.mp e;have hi:i < af.length:=by rw[hl,lx];exact (sA.mp hd).1
   have is:=pR i d _ hd (qv hi);simp only[Is] at is;obtain⟨t,us,e1,e2,e3⟩:=is;refine⟨t,by rw[qv hi,e1],?_⟩;rw[<-nU e3];exact S'.sub _ _ e2
  ·have pm:(p.toList.map fun i=>ds.getD i .non).Perm ds:=by
    have h1:=(q0m.mp hp.perm).map fun i=>ds.getD i .non
    have h2:(List.range xs.length).map (fun i=>ds.getD i D.non)=ds:=by
     refine ZV fun i => ?_;rw[My]
     by_cases hi:i < ds.length
     ·rw[YM (by omega),q0X,qv hi,Fs,qv hi];rfl
     ·rw[YF (by rw[YG];omega),YF (by omega)];rfl
    rw[show (List.range xs.length).toArray.toList=List.range xs.length from rfl,h2] at h1;exact h1
   refine⟨.ref a,_,I',rfl,K _ pm ?_ a _ _ _ E' S' ha ?_⟩
   ·rw[Yj,Zr]
    intro i j hi hj iC;rw[qx,Fu,hp.size] at hi hj;have:=up i j (Zg iC) hj;unfold KA at this;rw[Z4,Z4]
    have gp:∀ {i:Nat} (h:i < p.toList.length),p.getD i 0=p.toList[i]:=fun {i} h=>by
     have h':i < p.size:=by rw[<-Fu];exact h
     simp[Array.getD,h']
    have gk:∀ {i:Nat},i < ds.length->(ds.map key).getD i []=key (ds.getD i .non):=fun {i} h=>by
     rw[Fs,My,qv h,Fs,qv h];rfl
    have pi:=hp.lt hi;have pj:=hp.lt hj;dsimp only at this;rw[gk (by omega),gk (by omega),gp (by rw[Fu,hp.size];exact hi),gp (by rw[Fu,hp.size];exact hj)] at this;exact this
   ·refine ae.rM ?_ fun i d e => ?_
    ·rw[qx,qx]
    ·rw[My] at e ⊢
     obtain⟨z,e1,rfl⟩:=Xt.mp e;rw[e1];have hz:=hp.mem (Yf e1);refine⟨_,rfl,ae.at (hx.same E'.same) (getD_some (by omega)) (getD_some (by omega))⟩
end
structure gG (mg:Str->Option Value) (base:Heap) (fd:FuncData) (T:Addr) (pos:Pos) (q:Str):Prop where
 code:∃ cc,fd.code = .ref cc/\CodeHd base cc T
 ng:mainGlobals≠T
 blt:base.BuiltinsAt mg T
 tbl:B8 T pos q
theorem g5.Ca {P:Program} {w:World} {K:PySem.W.Frag} {mg:Str->Option Value} {base:Heap} {x qual:Str} {st:Stmt} {f:Addr} {fd:FuncData} {N ps:List Str} {k:Nat} {G:GD} (F:g5 K x qual st f fd) (S:mV N ps (cV st))
  (dO:∀ (ba:Value) (A:Around) (outer:List Env) (s:Shared) (H:Hp) (E:XK),fd.code=ba->bh k (A.deeper (envOfC qual (cV st) s.heap.objs.size f ba)) →
   ∃ B:WS,eF (eN f9 P w K mg base N qual (cV st) f ba A outer s H E).kE (gx st) (dq B)/\∀ ys ai K',ys.length=ps.length->G ys ai K'->B (bI ai.length K') ⟨ys.map some ++ List.replicate (N.length - ps.length) none,ai.map some⟩) :
  cS P w K mg base f9 (k + 1) f fd ps (k6 G ps.length):=by
 obtain⟨oc,od,kV,doc,pm,an,ba,ct,mX,rfl,lk,fh⟩:=F.ex;refine ES lk fh S (fun vs H Q E h=>h.1) fun A outer s H vs Q E hr h => ?_;obtain⟨hl,Fz,ad,ys,ai,K',S0,g,kk⟩:=h;obtain⟨B,jb,hb⟩:=dO ba A outer s H E rfl hr
 have hy:ys.length=ps.length:=by
  have:=S0.len;rw[qx] at this;rw[<-hl,this];show _=(ys.map some).length;rw[qx]
 refine⟨_,jb.out.kE,Fz,ad,⟨ys.map some ++ List.replicate (N.length - ps.length) none,ai.map some⟩,bI ai.length K',by rw[<-hl];exact S0.start,hb ys ai K' hy g,⟨fun δ' h F' aC σ' H' E' S' => ?_,fun δ' h=>h.elim,fun δ' h=>h.elim,fun y δ' h v F' aC σ' H' E' S' V => ?_,trivial⟩⟩
 ·exact xq (σ' := σ') S0 E' S' (x := .p .non) (v := .non) rfl h kk
 ·exact xq (σ' := σ') S0 E' S' V h kk
section
variable {X:Cx} {params:Arguments} {body a e:Expr} {scope:Scope} {cN p1 p2 q1 q2 fq:Pos} {x:Str} {Nb:List Str} {cp:List (Option Nat)} {fb f:WE} {fa:WA} {T:Addr}
noncomputable def Cb (fa:WA) (cp:List (Option Nat)) (fb:WE):WE:=fun δ K=>fa δ fun xs δ1=>match xs with
 | [.p (.int j)]=>(0 <= j/\j <= 60)/\sortBy cp fb δ1 (cq 0 j.toNat) fun out=>K (.o δ1.mu.length) ⟨δ1.sl,δ1.mu ++ [some (.lst out)]⟩
 | _=>False
theorem Sa (L:fD X params body scope cN T x Nb cp fb) (hc:X.calm=true) (vZ:Gl X "sorted") (hs:X.mg "sorted" = none) (v5:bootBuiltins "sorted" = some (.builtin "sorted")) (nX:Gl X "range") (hr:X.mg "range" = none) (nY:bootBuiltins "range" = some (.type "range")) (ha:JA X [a] (cz fa))
  (he:starEach [a] X.env=[(false,eval a X.env)]) (M:aA->List D->Prop)
  {pins:List (Addr × Obj)} {s:Shared} {σ : St} {H:Hp} {Q:VK} {F:Hp} {ad:List Addr} {δ : aA} (I:Inv X pins σ H s) (S:SR F ad δ σ H)
  (q:fa δ fun xs δ1=>match xs with
   | [.p (.int j)]=>(0 <= j/\j <= 60)/\sortBy cp fb δ1 (cq 0 j.toNat) (M δ1)
   | _=>False)
  (fin:∀ δ1 out,M δ1 out->∀ a F' aC H' us,Ext F ad δ.mu H F' aC δ1.mu H'->SR F' aC δ1 σ H'->H' a=none->ae F' out us->Q (.ref a) (upd H' a (.lst us))) :
  wpAny (model X.prog X.w) X.A (eval (.Call (.Name "sorted" p1) [.Call (.Name "range" p2) [a] [] q2] [⟨some "key",.Lambda params body scope cN,fq⟩] q1) X.env) (EP X pins σ Q) X.xe s:=by
 refine Z8 (l9 I vZ hs v5 ?_);refine callWith_kw ?_;refine a0 ((kP (pe Au nX hr nY ha (he:=he)) bN).out q1 pins s σ H (fun vs H2=>∃ (r:Addr) (j:Int) (F1:Hp) (aP:List Addr) (δ1:aA) (H1:Hp),vs=[.ref r]/\H2=upd H1 r (.rng 0 j)/\H1 r=none/\Ext F ad δ.mu H F1 aP δ1.mu H1/\SR F1 aP δ1 σ H1/\(0 <= j/\j <= 60)/\sortBy cp fb δ1 (cq 0 j.toNat) (M δ1)) I ?_) fun us s1 Cc => ?_
 ·refine⟨F,ad,δ,_,S,q,fun xs δ1 h1 vs F1 aP H1 E1 S1 V1 => ?_⟩
  split at h1
  ·rename_i j
   obtain⟨v,r,e,W1,W2⟩:=V1;have W2:r=[]:=W2;have W1:v = .int j:=W1;subst W2 W1 e;exact⟨j,rfl,fun rr vn=>⟨rr,j,F1,aP,δ1,H1,rfl,rfl,vn,E1,S1,h1.1,h1.2⟩⟩
  ·exact h1.elim
 ·obtain⟨vs,H2,I2,r2,r,j,F1,aP,δ1,H1,ev,eH,Sb,E1,S1,hj,yh⟩:=Cc
  subst ev eH;obtain⟨u,rfl,rx⟩:=vals1 r2;cases rx
  have sm:aF H1 (upd H1 r (.rng 0 j)):=c_ Sb;have S2:=S1.al sm;have E2:=Ext.al S1 sm;obtain⟨n,rfl⟩:∃ n:Nat,j=n:=⟨j.toNat,by omega⟩;rw[Ya,nW] at yh;refine R9 L I2 S2 (ds:=(aR n).map D.int) (xs:=(aR n).map V.int) my (fun s' H' I' kp Q' hQ => ?_) ?_
  ·have Sd:H' r=some (.rng 0 (n:Int)):=kp r _ bZ fun t=>by
    obtain⟨ps,z⟩:=aK.tb S2.tab t;rw[bZ] at z;cases z
   obtain⟨t,u,v,e⟩:=(show ∃ t u v,s'.heap.get? r=some { cls := .type "range",data := .fields #[.int 0 t,.int (n:Int) u,.int 1 v] } from I'.aM r _ Sd);have hsz:Builtin.Range.rangeSize 0 (n:Int) 1=n:=by rw[rangeSize_one];split<;>omega
   refine R4 (n:=n) (by rw[ZN];exact I'.ok.hd hc) e (small_one (by omega) (by omega) (by omega) (by omega)) hsz (by omega) fun h' tk acc Se it=>hQ h' tk _ Se ?_;refine Av ?_ fun i u e => ?_
   ·rw[Fu,it.1,aR,qx,YG]
   ·rw[Yg] at e
    obtain⟨t',e2⟩:=it.2 i u e;have hi:i < n:=by rw[<-it.1];exact (Y1.mp e).1
    refine⟨t',e2.trans ?_⟩;rw[aR,Fs,My,YM hi];show Value.int (0 + (i:Int) * 1) t'=Value.int (i:Int) t';rw[Int.zero_add,Int.mul_one]
  ·obtain⟨ir,key,hk,hK⟩:=yh
   exact⟨ir,key,hk,fun out pm pw a F' H' us E' S' hn is=>fin δ1 out (hK out pm pw) a F' aP H' us ((E1.trans E2).trans E') S' hn is⟩
theorem Sf (L:fD X params body scope cN T x Nb cp fb) (hc:X.calm=true) (vZ:Gl X "sorted") (hs:X.mg "sorted" = none) (v5:bootBuiltins "sorted" = some (.builtin "sorted")) (nX:Gl X "range") (hr:X.mg "range" = none) (nY:bootBuiltins "range" = some (.type "range")) (ha:JA X [a] (cz fa))
  (he:starEach [a] X.env=[(false,eval a X.env)]:=by rfl):JE X (.Call (.Name "sorted" p1) [.Call (.Name "range" p2) [a] [] q2] [⟨some "key",.Lambda params body scope cN,fq⟩] q1) (tD (Cb fa cp fb)) :=
 ⟨fun pins s σ H Q I h0_ => el7 h0_ fun F ad δ K S q k =>Sa L hc vZ hs v5 nX hr nY ha he (fun δ1 out=>K (.o δ1.mu.length) ⟨δ1.sl,δ1.mu ++ [some (OV.lst out)]⟩) I S q fun δ1 out hM a F' aC H' us E' S' hn is=>by
  have oi:eS F' (.lst out) (.lst us):=⟨us,rfl,is⟩
  exact k _ _ hM _ _ _ _ (E'.trans (Ext.own S' hn)) (S'.own hn oi) (xT S')⟩
end
end L2
namespace L2
open PySem PySem.Spec PyProof.Rows PySem.W
theorem v7:∀ {k l:LK} (n m:Int),k.length=l.length->HT.lexLt (k ++ [n]) (l ++ [m])=if k=l then decide (n < m) else HT.lexLt k l
 | [],[],n,m,_=>by
  show (if n=m then HT.lexLt [] [] else decide (n < m))=_;rw[Xs rfl]
  by_cases h:n=m
  ·rw[Xs h];subst h;simp[HT.lexLt]
  ·rw[NM h]
 | [],_ :: _,_,_,h=>by simp at h
 | _ :: _,[],_,_,h=>by simp at h
 | a :: k,b :: l,n,m,h=>by
  rw[q1u,q1u,HT.mY,HT.mY,v7 n m (by simpa using h)]
  by_cases e:a=b
  ·subst e
   rw[Xs rfl,Xs rfl]
   by_cases e2:k=l
   ·subst e2;rw[Xs rfl,Xs rfl]
   ·rw[NM e2,NM fun z=>e2 (q1k z).2]
  ·rw[NM e,NM e,NM fun z=>e (q1k z).1]
noncomputable def lK (h:Heap) (L:Nat) (k:LK) (v:Value):Prop:=∃ a o xs n b kb m t,v = .ref a/\h.get? a=some o/\o.cls = .type "tuple" /\ o.data = .seq xs n/\xs.toList=[.ref b,.int m t]/\iU h kb (.ref b)/\kb.length=L/\k=kb ++ [m]
section
variable {prog:Program} {w:World} {A:Around} {E:Value->Shared->Prop} {s:Shared} {Q:Bool->Shared->Prop}
theorem Cd:∀ {us:List Value} {ns:List Int},IntsAre us ns->ItemsAre (intKind prog w) ns us
 | _,_,.nil => .nil
 | _,_,.cons n t r => .cons (intKind_is ..) (Cd r)
theorem Sg {L:Nat} {k l:LK} {x y:Value} (hu:A.units < cLine) (hx:lK s.heap L k x) (hy:lK s.heap L l y) (h:Q (HT.lexLt k l) s):wpAny (model prog w) A (keyLt' (tuples' false) x y) Q E s:=by
 obtain⟨a,o,xs,n,b,kb,m,t,rfl,h1,_,h2,h3,⟨b',ob,bs,nb,eb,g1,gc,g2,g3⟩,hL,rfl⟩:=hx;obtain⟨a',o',Sh,n',c,kc,m',t',rfl,nq,_,gy,IA,⟨c',oc,cs,nc,ec,f1,fc,f2,f3⟩,eA,rfl⟩:=hy;cases eb
 cases ec
 have hz:xs.size=2:=by rw[<-Fu,h3];rfl
 have Bb:Sh.size=2:=by rw[<-Fu,IA];rfl
 rw[v7 m m' (by rw[hL,eA])] at h;have k1:IsTupleKey (intKind prog w) s.heap kb b:=⟨ob,bs,nb,g1,gc,g2,Cd g3⟩;have k2:IsTupleKey (intKind prog w) s.heap kc c:=⟨oc,cs,nc,f1,fc,f2,Cd f3⟩;refine kat_lt h1 h2 nq gy ?_;rw[h3,IA,hz,Bb,Y4,Y4,q0k];refine kat_cons (wpAny_eqBool_tuple hu k1 k2 (kat_go (fun e => ?_) fun e => ?_))
 ·have e:kb=kc:=by simpa using e
  rw[Xs e] at h;refine kat_yes (kat_cons (wpAny_eqBool_int (kat_go (fun e2 => ?_) fun e2 => ?_)))
  ·have e2:m=m':=Y_ e2
   subst e2;refine kat_yes (kat_nil ?_);simpa using h
  ·exact kat_no (kat_one _ _ (q02 h))
 ·have e:¬ kb=kc:=by simpa using e
  rw[NM e] at h;exact kat_no (kat_one _ _ (HT.zy ⟨ob,g1,gc,nb,g2⟩ ⟨oc,f1,fc,nc,f2⟩ g3 f3 hu h))
theorem Si {M:Model} {L:Nat} {vs:List Value} {ks:List LK} {Q:SortKind->Shared->Prop} (h0:0 < vs.length) (hl:vs.length=ks.length) (ht:∀ (i:Nat) (k:LK) (v:Value),ks[i]? = some k->vs[i]? = some v->lK s.heap L k v) (h:Q (tuples' false) s) :
  wpAny M A (keyKind' vs.toArray) Q E s:=by
 have key:∀ (vs:List Value) (ks:List LK),vs.length=ks.length->(∀ (i:Nat) (k:LK) (v:Value),ks[i]? = some k->vs[i]? = some v->lK s.heap L k v)->∃ fs,KatTups s.heap vs fs/\fs.length=vs.length/\∀ v∈fs,Looks M s.heap (typeOf v) (.type "tuple"):=by
  intro vs
  induction vs with
  | nil=>exact fun ks _ _=>⟨[],.nil,rfl,fun v hv=>nomatch hv⟩
  | cons v vs ih =>
   intro ks hl ht
   match ks,hl,ht with
   | k :: ks,hl,ht =>
    obtain⟨fs,t,hf,hi⟩:=ih ks (by simpa using hl) fun i k v e1 e2=>ht (i + 1) k v (by simpa using e1) (by simpa using e2);obtain⟨a,o,xs,n,b,kb,m,t',rfl,h1,hc,h2,h3,⟨b',ob,bs,nb,eb,g1,gc,g2,g3⟩,_⟩:=ht 0 k v rfl rfl;cases eb
    have h0:xs[0]? = some (.ref b):=by rw[<-Yg,h3];rfl
    refine⟨.ref b :: fs,.cons h1 hc h2 h0 t,by rw[Fq,Fq,hf],fun v hv => ?_⟩;rcases Xq.mp hv with rfl | hv
    ·rw[<-gc];exact (Looks.ld g1).andThen .now
    ·exact hi v hv
 obtain⟨fs,t,hf,hi⟩:=key vs ks hl ht;exact kat_kind (T := .type "tuple") t (by omega) hi (by decide) h
end
section
variable {X:Cx} {pins:List (Addr × Obj)} {σ : St} {H:Hp} {s:Shared} {A:Around} {E:Value->Shared->Prop} {a:Addr} {vs:List Value} {ks:List LK} {κ : SortKind}
theorem Sj {n0:Nat} {R:PySem.Fin->Shared->Prop} (I:Inv X pins σ H s) (fa:a_ X pins H a) (ha:s.heap.get? a=some (seqObj "list" vs.toArray n0)) (ir:vs.length < 64)
  (kind:∀ s':Shared,Inv X pins σ H s'->2 <= vs.length->∀ Q:SortKind->Shared->Prop,Q κ s'->wpAny (model X.prog X.w) A (keyKind' vs.toArray) Q E s')
  (ask:∀ s':Shared,Inv X pins σ H s'->∀ (i j:Nat) (C:Bool->Shared->Prop),i < vs.length->j < vs.length->C (HT.lexLt (ks.getD i []) (ks.getD j [])) s'->wpAny (model X.prog X.w) A (keyLt' κ (vs.getD i Value.none) (vs.getD j Value.none)) C (fun _ _=>False) s')
  (fin:∀ (p:Array Nat) (s':Shared) (c:Nat),cM vs.length p->Up (fun i=>ks.getD i []) p vs.length->Inv X pins σ H s'->s'.heap.get? a=some (seqObj "list" (List.toArray (p.toList.map fun i=>vs.getD i Value.none)) c)->R (.done (.ret .none)) s') :
  wpAny (model X.prog X.w) A (Builtin.«list.sort» ⟨[.ref a],[]⟩) R E s:=by
 have sb:=Yo s.heap a (Obj.mapSeq fun _=>(#[]:Array Value));obtain⟨e1,j9⟩:∃ e1,(s.heap.update a (Obj.mapSeq fun _=>(#[]:Array Value))).get? a=some (seqObj "list" #[] e1):=⟨_,ZU ha fun _ => #[]⟩;have I1:Inv X pins σ H { s with heap:=s.heap.update a (Obj.mapSeq fun _=>(#[]:Array Value)) }:=I.cb (t':=s.toks) fa fun c o n e=>(sb.2 c n).trans e;rw[list_sort_plain];refine ni (listItems_at ha rfl ?_);refine ni (q0r ha rfl ?_ (by rw[wO,YR];omega) (Yy _));refine ni (seqEpoch_at j9 rfl ?_);refine ni (wpAny_newTuple ?_ (by show vs.length <= _;rw[YR];omega));refine ni (q0s ?_ (Yy _));refine Yp ?_;generalize R3:s.heap.update a (Obj.mapSeq fun _=>(#[]:Array Value))=g0 at j9 I1 sb
 show wpAny (model X.prog X.w) A _ R E { s with heap:=(g0.push (seqObj "tuple" vs.toArray 0)).push (seqObj "list" #[] 0) };have I2:Inv X pins σ H { s with heap:=(g0.push (seqObj "tuple" vs.toArray 0)).push (seqObj "list" #[] 0) }:=I1.kept (h':=(g0.push (seqObj "tuple" vs.toArray 0)).push (seqObj "list" #[] 0)) (t':=s.toks) fun b u e=>qw _ (qw _ e);have d6:((g0.push (seqObj "tuple" vs.toArray 0)).push (seqObj "list" #[] 0)).get? a=some (seqObj "list" #[] e1):=qw _ (qw _ j9);have kp:∀ b o,b≠a->s.heap.get? b=some o->((g0.push (seqObj "tuple" vs.toArray 0)).push (seqObj "list" #[] 0)).get? b=some o:=fun b o n e=>qw _ (qw _ ((sb.2 b n).trans e))
 generalize (g0.push (seqObj "tuple" vs.toArray 0)).push (seqObj "list" #[] 0)=g1 at I2 d6 kp;dsimp only
 have tail:∀ (st:SortSt) (p:Array Nat),(arrOf st).map (·.2)=List.toArray (p.toList.map fun i=>vs.getD i Value.none)->failedOf st=none->cM vs.length p->Up (fun i=>ks.getD i []) p vs.length->wpAny (model X.prog X.w) A (do
   let touched:=(<- seqEpoch a) != e1
   Builtin.List.listUpdate (.ref a) fun _=>(arrOf st).map (·.2)
   if let some e:=failedOf st then rule "list.sort.comparison-raised";throw e
   if touched then rule "list.sort.modified";raiseError "ValueError" "list modified during sort"
   ret .none) R E { s with heap:=g1 }:=by
  intro st p rJ hf hp up;have hz:(p.toList.map fun i=>vs.getD i Value.none).length=vs.length:=by rw[qx,Fu,hp.size]
  rw[rJ];have s2:=Yo g1 a (Obj.mapSeq fun _=>List.toArray (p.toList.map fun i=>vs.getD i Value.none));obtain⟨c2,eZ⟩:∃ c2,(g1.update a (Obj.mapSeq fun _=>List.toArray (p.toList.map fun i=>vs.getD i Value.none))).get? a=some (seqObj "list" (List.toArray (p.toList.map fun i=>vs.getD i Value.none)) c2):=⟨_,ZU d6 fun _=>List.toArray (p.toList.map fun i=>vs.getD i Value.none)⟩;have J:Inv X pins σ H { s with heap:=g1.update a (Obj.mapSeq fun _=>List.toArray (p.toList.map fun i=>vs.getD i Value.none)) }:=I2.cb (h':=g1.update a (Obj.mapSeq fun _=>List.toArray (p.toList.map fun i=>vs.getD i Value.none))) (t':=s.toks) fa fun c o n e=>(s2.2 c n).trans e
  refine ni (seqEpoch_at d6 rfl ?_);refine ni (q0r d6 rfl ?_ (Yy _) (Yw (q1I (by rw[wO,hz])) (by rw[YR];omega)));rw[hf];simp only[bne_self_eq_false,Ye,YS];exact zR (fin p _ c2 hp up J eZ)
 by_cases h2:vs.toArray.size < 2
 ·rw[Xs h2,Xs h2]
  refine ni (zR ?_);rw[StateT.run_pure];refine ni (zR ?_);rw[wO] at h2;refine tail (SortSt.mk' general' (vs.toArray.zip vs.toArray) #[] 7 none) (List.range vs.length).toArray ?_ rfl ⟨q1Q _⟩ fun i j iC hj => ?_
  ·have B6:arrOf (SortSt.mk' general' (vs.toArray.zip vs.toArray) #[] 7 none)=(List.toArray (List.range vs.length)).map (kas_item (vs.toArray.zip vs.toArray)):=by
    have e:=kas_range (vs.toArray.zip vs.toArray);rw[show (vs.toArray.zip vs.toArray).size=vs.length by simp] at e;rw[e]
   exact kat_snds rfl B6
  ·have:i=j:=by omega
   subst this;exact kle_refl _
 ·rw[NM h2,NM h2]
  rw[wO] at h2;refine ni (kind _ I2 (by omega) _ ?_)
  refine ni (Y3 (kat_run (κ := κ) (E:=E) (Q:=fun dX s'=>s'={ s with heap:=g1 }/\∃ p:Array Nat,arrOf dX=p.map (kas_item (vs.toArray.zip vs.toArray))/\failedOf dX=none/\cM vs.length p/\Up (fun i=>ks.getD i []) p vs.length)
   (G:=fun p s'=>s'={ s with heap:=g1 }/\cM vs.length p/\Up (fun i=>ks.getD i []) p vs.length) rfl (by omega) ir (fun p dX s' a1 a2 a3 a4=>⟨a4.1,p,a2,a3,a4.2.1,a4.2.2⟩) ?_) ?_ fun _ _ x=>x)
  ·refine Hf (k:=fun i=>ks.getD i []) (I:=fun s'=>s'={ s with heap:=g1 }) (fun i j C s' hi hj e hC => ?_) (by omega) rfl fun p s' a1 a2 a3=>⟨a3,a1,a2⟩
   subst e;exact ask _ I2 i j C hi hj (hC _ rfl)
  ·rintro ⟨⟨⟩,dX⟩ s' ⟨rfl,p,a1,a2,a3,a4⟩
   exact tail dX p (kat_snds rfl a1) a2 a3 a4
theorem IB {l:Addr} {xs:List V} {Q:Value->Shared->Prop} (I:Inv X pins σ H s)
  (col:∀ Q':List Value->Shared->Prop,(∀ h' tk vs,(∀ b o,s.heap.get? b=some o->h'.get? b=some o)->Vals xs vs->Q' vs { s with heap:=h',toks:=tk })->wpAny (model X.prog X.w) X.A.in1 (collect (.ref l)) Q' E s) (ir:xs.length < 64)
  (kind:∀ (s':Shared) (vs:List Value),Vals xs vs->Inv X pins σ H s'->2 <= vs.length->∀ Q:SortKind->Shared->Prop,Q κ s'->wpAny (model X.prog X.w) X.A.in1.in1 (keyKind' vs.toArray) Q E s')
  (ask:∀ (s':Shared) (vs:List Value),Vals xs vs->Inv X pins σ H s'->∀ (i j:Nat) (C:Bool->Shared->Prop),i < vs.length->j < vs.length->C (HT.lexLt (ks.getD i []) (ks.getD j [])) s'->wpAny (model X.prog X.w) X.A.in1.in1 (keyLt' κ (vs.getD i Value.none) (vs.getD j Value.none)) C (fun _ _=>False) s')
  (fin:∀ (p:Array Nat) (s':Shared) (a:Addr),cM xs.length p->Up (fun i=>ks.getD i []) p xs.length->H a=none->Inv X pins σ (upd H a (.lst (p.toList.map fun i=>xs.getD i .non))) s'->Q (.ref a) s') :
  wpAny (model X.prog X.w) X.A (call (.builtin "sorted") [.ref l]) Q E s:=by
 refine Calls.call_function_entry kind_sorted plain_sorted entry_sorted (args_sorted1 _) ?_;unfold Builtin.«sorted»;refine ni (m:=checkCount "sorted" 1 1 _) (zR ?_);refine ni (col _ fun h' tk aq kp rv => ?_);have lv:aq.length=xs.length:=rv.length.symm;refine ni (q0s ?_ (by rw[YR];omega));have I1:Inv X pins σ H { s with heap:=h',toks:=tk }:=I.kept kp;have fa:a_ X pins H h'.objs.size:=I1.d5 (uu _) (I1.aM.fresh (uu _));have B7:X.s₀.heap.objs.size <= h'.objs.size:=I1.sz;have I2:Inv X pins σ H { s with heap:=h'.push (seqObj "list" aq.toArray 0),toks:=tk }:=I1.kept (h':=h'.push (seqObj "list" aq.toArray 0)) (t':=tk) fun b u e=>qw _ e
 have qb:(h'.push (seqObj "list" aq.toArray 0)).get? h'.objs.size=some (seqObj "list" aq.toArray 0):=Xr _ rfl;refine ni (Yp (ZK slot_list_sort ⟨_,qb,rfl⟩ entry_list_sort ?body (args_list_sort _)))
 case body =>
  refine Sj (κ := κ) (ks:=ks) I2 fa qb (by omega) (fun s' J h2 Q' hq=>kind s' aq rv J h2 Q' hq) (fun s' J i j C hi hj hC=>ask s' aq rv J i j C hi hj hC) fun p s' c hp up J e=>⟨_,rfl,?_⟩;rw[lv] at hp up;refine zR ⟨_,rfl,fin p s' h'.objs.size hp up fa.1 (J.pO fa B7 ?_)⟩;have hz:(p.toList.map fun i=>xs.getD i V.non).length=xs.length:=by rw[qx,Fu,hp.size]
  exact⟨by rw[hz,YR];omega,_,c,Iw rv fun i hi=>by rw[lv];exact hp.mem hi,e⟩
end
noncomputable def Ce (ds:List D) (key:D->LK):Prop :=
 (∀ d∈ds,key d≠[]/\d = .tup ((key d).map D.int))\/∃ L:Nat,∀ d∈ds,∃ (k:LK) (n:Int),k.length=L/\d = .tup [.tup (k.map D.int),.int n]/\key d=k ++ [n]
noncomputable def tE:List D->(D->Prop)->Prop
 | [.lst ds],K=>ds.length < 64/\∃ key:D->LK,Ce ds key/\∀ out:List D,out.Perm ds->(out.map key).Pairwise kle->K (.lst out)
 | [.tup ds],K=>ds.length < 64/\∃ key:D->LK,Ce ds key/\∀ out:List D,out.Perm ds->(out.map key).Pairwise kle->K (.lst out)
 | _,_=>False
theorem Sk {ds:List D} {key:D->LK} {p:Array Nat} {n:Nat} (hn:ds.length=n) (hp:cM n p) (up:Up (fun i=>(ds.map key).getD i []) p n):(p.toList.map fun i=>ds.getD i .non).Perm ds/\((p.toList.map fun i=>ds.getD i .non).map key).Pairwise kle:=by
 subst hn
 constructor
 ·have h1:=(q0m.mp hp.perm).map fun i=>ds.getD i D.non
  have h2:(List.range ds.length).map (fun i=>ds.getD i D.non)=ds:=by
   refine ZV fun i => ?_;rw[My]
   by_cases hi:i < ds.length
   ·rw[YM hi,q0X,qv hi,Fs,qv hi];rfl
   ·rw[YF (by rw[YG];omega),YF (by omega)];rfl
  rw[show (List.range ds.length).toArray.toList=List.range ds.length from rfl,h2] at h1;exact h1
 ·rw[Yj,Zr]
  intro i j hi hj iC;rw[qx,Fu,hp.size] at hi hj;have:=up i j (Zg iC) hj;unfold KA at this;rw[Z4,Z4]
  have gp:∀ {i:Nat} (h:i < p.toList.length),p.getD i 0=p.toList[i]:=fun {i} h=>by
   have h':i < p.size:=by rw[<-Fu];exact h
   simp[Array.getD,h']
  have gk:∀ {i:Nat},i < ds.length->(ds.map key).getD i []=key (ds.getD i .non):=fun {i} h=>by
   rw[Fs,My,qv h,Fs,qv h];rfl
  have pi:=hp.lt hi;have pj:=hp.lt hj;dsimp only at this;rw[gk pi,gk pj,gp (by rw[Fu,hp.size];exact hi),gp (by rw[Fu,hp.size];exact hj)] at this;exact this
theorem Sl {F:Hp} {ds:List D} {xs:List V} {p:List Nat} (h:ae F ds xs) (hp:∀ i∈p,i < ds.length):ae F (p.map fun i=>ds.getD i .non) (p.map fun i=>xs.getD i .non):=by
 refine ae.rM (by rw[qx,qx]) fun i d e => ?_;rw[My] at e ⊢;obtain⟨z,e1,rfl⟩:=Xt.mp e;rw[e1];have hz:=hp z (Yf e1);exact⟨_,rfl,ae.at h (getD_some hz) (getD_some (by rw[h.length];exact hz))⟩
section
variable [aK] {X:Cx}
theorem yi {pins:List (Addr × Obj)} {σ : St} {H F:Hp} {s:Shared} {k:LK} {v:V} {u:Value} (I:Inv X pins σ H s) (sub:aF F H) (h:Is F (.tup (k.map D.int)) v) (r:RelV v u):iU s.heap k u:=by
 simp only[Is] at h;obtain⟨a,us,rfl,e,i⟩:=h;cases r
 rw[nU i] at e;obtain⟨aq,rv,⟨o,o1,o2,n,o3⟩,_⟩:=I.tuple (bF.of (sub _ _ e));exact⟨a,o,_,n,rfl,o1,o2,o3,by simpa using intsAre_of rv⟩
theorem Cf {pins:List (Addr × Obj)} {σ : St} {H F:Hp} {s:Shared} {k:LK} {m:Int} {v:V} {u:Value} (I:Inv X pins σ H s) (sub:aF F H) (h:Is F (.tup [.tup (k.map D.int),.int m]) v) (r:RelV v u):lK s.heap k.length (k ++ [m]) u:=by
 simp only[Is,ae] at h;obtain⟨a,us,rfl,e,v1,r1,rfl,h1,v2,r2,rfl,h2,rfl⟩:=h;cases r
 obtain⟨aq,rv,⟨o,o1,o2,n,o3⟩,_⟩:=I.tuple (bF.of (sub _ _ e));have h2:v2 = .int m:=h2;subst h2;have nq:Is F (.tup (k.map D.int)) v1:=by simp only[Is];exact h1
 cases rv with
 | cons q1 rv =>
  cases rv with
  | cons q2 rv =>
   cases rv
   have t1:=yi I sub nq q1;obtain⟨b,_,_,_,rfl,_⟩:=id t1;obtain⟨t,rfl⟩:=q2;exact⟨a,o,_,n,b,k,m,t,rfl,o1,o2,o3,rfl,t1,rfl,rfl⟩
theorem IC {pins:List (Addr × Obj)} {σ : St} {H F:Hp} {s:Shared} {E:Value->Shared->Prop} {l:Addr} {ds:List D} {us:List V} {key:D->LK} {Q:Value->Shared->Prop} (hu:X.A.units + 64 < cLine) (I:Inv X pins σ H s) (sub:aF F H) (hl:H l=some (.lst us)\/H l=some (.tup us)) (hi:ae F ds us) (ir:ds.length < 64) (sh:Ce ds key)
  (fin:∀ (out:List D) (ws:List V) (a:Addr) (s':Shared),out.Perm ds->(out.map key).Pairwise kle->ae F out ws->H a=none->Inv X pins σ (upd H a (.lst ws)) s'->Q (.ref a) s'):wpAny (model X.prog X.w) X.A (call (.builtin "sorted") [.ref l]) Q E s:=by
 have col:∀ Q':List Value->Shared->Prop,(∀ h' tk vs,(∀ b o,s.heap.get? b=some o->h'.get? b=some o)->Vals us vs->Q' vs { s with heap:=h',toks:=tk })->wpAny (model X.prog X.w) X.A.in1 (collect (.ref l)) Q' E s:=fun Q' hQ=>by
  rcases hl with hl | hl
  ·obtain⟨aq,rv,pl,hz⟩:=I.list (bz.of hl)
   obtain⟨o,o1,o2,n,o3⟩:=pl.isList;exact wpAny_collect_seq l (.inl rfl) o1 o2 o3 (fun h' kp=>hQ h' s.toks _ kp (by simpa using rv)) (by rw[wO,<-rv.length];exact hz)
  ·obtain⟨aq,rv,⟨o,o1,o2,n,o3⟩,hz⟩:=I.tuple (bF.of hl)
   exact wpAny_collect_seq l (.inr rfl) o1 o2 o3 (fun h' kp=>hQ h' s.toks _ kp (by simpa using rv)) (by rw[wO,<-rv.length];exact hz)
 have lu:=hi.length;have Sm:X.A.in1.in1.units < cLine:=by show X.A.units + 1 + 1 < cLine;omega
 have gk:∀ {i:Nat},i < ds.length->(ds.map key).getD i []=key (ds.getD i .non):=fun {i} h=>by
  rw[Fs,My,qv h,Fs,qv h];rfl
 have isAt:∀ {i:Nat},i < ds.length->∀ {vs:List Value},Vals us vs->∃ v,Is F (ds.getD i .non) v/\RelV v (vs.getD i Value.none):=fun {i} h {vs} rv=>by
  obtain⟨u,e1,e2⟩:=rv.get (getD_some (l:=us) (d:=V.non) (i:=i) (by omega));have:=getD_some (l:=vs) (d:=Value.none) (i:=i) (by rw[<-rv.length];omega);rw[this] at e1;cases e1;exact⟨_,ae.at hi (getD_some h) (getD_some (by omega)),e2⟩
 have mem:∀ {i:Nat},i < ds.length->ds.getD i .non∈ds:=fun {i} h=>Yf (getD_some h)
 have ke:∀ {i:Nat} {k:LK},(ds.map key)[i]? = some k->i < ds.length/\k=key (ds.getD i .non):=fun {i k} e=>by
  have h:i < ds.length:=by have:=(sA.mp e).1;rwa [qx] at this
  refine⟨h,?_⟩;have:=getD_some (l:=ds.map key) (d:=[]) (i:=i) (by rw[qx];exact h);rw[e,gk h] at this;exact Yh this
 have ve:∀ {i:Nat} {v:Value} {vs:List Value},vs[i]? = some v->v=vs.getD i Value.none:=fun {i v vs} e=>by
  rw[Fs,e];rfl
 have lr:∀ (p:Array Nat) (s':Shared) (a:Addr),cM us.length p->Up (fun i=>(ds.map key).getD i []) p us.length->H a=none->Inv X pins σ (upd H a (.lst (p.toList.map fun i=>us.getD i .non))) s'->Q (.ref a) s':=fun p s' a hp up ha J=>by
  obtain⟨o1,o2⟩:=Sk lu.symm hp up;exact fin _ _ a s' o1 o2 (Sl hi fun i bS=>by rw[<-lu];exact hp.mem bS) ha J
 rcases sh with sh | ⟨L,sh⟩
 ·refine IB (κ := tuples' true) (ks:=ds.map key) I col (by omega) (fun s' vs rv J h2 Q' hq => ?_) (fun s' vs rv J i j C bS rq hC => ?_) lr
  ·refine Iv (ks:=ds.map key) (by omega) (fun k hk => ?_) (by rw[qx,<-rv.length];omega) (fun i k v e1 e2 => ?_) hq
   ·obtain⟨d,hd,rfl⟩:=X0.mp hk
    exact (sh d hd).1
   ·obtain⟨h,rfl⟩:=ke e1
    obtain⟨w,i1,r1⟩:=isAt h rv;rw[(sh _ (mem h)).2] at i1;rw[<-ve e2] at r1;exact yi J sub i1 r1
  ·rw[<-rv.length] at bS rq
   rw[gk (by omega),gk (by omega)] at hC;obtain⟨w,i1,r1⟩:=isAt (i:=i) (by omega) rv;obtain⟨w',i2,r2⟩:=isAt (i:=j) (by omega) rv;rw[(sh _ (mem (by omega))).2] at i1 i2;exact Ir (yi J sub i1 r1) (yi J sub i2 r2) hC
 ·refine IB (κ := tuples' false) (ks:=ds.map key) I col (by omega) (fun s' vs rv J h2 Q' hq => ?_) (fun s' vs rv J i j C bS rq hC => ?_) lr
  ·refine Si (L:=L) (ks:=ds.map key) (by omega) (by rw[qx,<-rv.length];omega) (fun i k v e1 e2 => ?_) hq
   obtain⟨h,rfl⟩:=ke e1;obtain⟨w,i1,r1⟩:=isAt h rv;obtain⟨k,n,hk,e3,e4⟩:=sh _ (mem h);rw[e3] at i1;rw[<-ve e2] at r1;rw[e4,<-hk];exact Cf J sub i1 r1
  ·rw[<-rv.length] at bS rq
   rw[gk (by omega),gk (by omega)] at hC;obtain⟨w,i1,r1⟩:=isAt (i:=i) (by omega) rv;obtain⟨w',i2,r2⟩:=isAt (i:=j) (by omega) rv;obtain⟨k,n,hk,e3,e4⟩:=sh _ (mem (i:=i) (by omega));obtain⟨k',n',d9,Sn,So⟩:=sh _ (mem (i:=j) (by omega));rw[e3] at i1;rw[Sn] at i2;rw[e4,So] at hC;have t1:=Cf J sub i1 r1;have t2:=Cf J sub i2 r2;rw[hk] at t1;rw[d9] at t2;exact Sg Sm t1 t2 hC
theorem ID (hu:X.A.units + 64 < cLine):cW X (.builtin "sorted") tE:=by
 rintro pins s σ H xs us Q I r ⟨F,ds,K,sub,rd,q,md⟩;unfold tE at q;split at q
 ·rename_i es
  obtain⟨ir,key,sh,hK⟩:=q;obtain⟨v,rfl,a,vs,rfl,h1,h2⟩:=c8 rd;obtain⟨u,rfl,rx⟩:=vals1 r;cases rx
  exact IC hu I sub (.inl h1) h2 ir sh fun out ws b s' o1 o2 o3 hb J=>⟨.ref b,_,J,rfl,md _ _ _ (hK out o1 o2) (c_ hb) (qV sub hb o3)⟩
 ·rename_i es
  obtain⟨ir,key,sh,hK⟩:=q;obtain⟨v,rfl,h⟩:=c8 rd;have h:Is F (.tup es) v:=h;simp only[Is] at h;obtain⟨a,vs,rfl,h1,h2⟩:=h;obtain⟨u,rfl,rx⟩:=vals1 r;cases rx
  exact IC hu I sub (.inr (sub _ _ h1)) h2 ir sh fun out ws b s' o1 o2 o3 hb J=>⟨.ref b,_,J,rfl,md _ _ _ (hK out o1 o2) (c_ hb) (qV sub hb o3)⟩
 ·exact q.elim
end
end L2
namespace LJ
open PySem L2 PySem.W
theorem Sq {ls:List lI} {b:Addr} {ps:Array Value}:(ls.map fun l=>(l.T,(#[]:Array Value))).lookup b=some ps->(∃ l∈ls,l.T=b)/\ps = #[]:=by
 induction ls with
 | nil=>intro h;cases h
 | cons l ls ih =>
  intro h;rw[Yd,Yk] at h
  cases q:b == l.T with
  | true =>
   rw[q] at h;exact⟨⟨l,NO,(Y_ q).symm⟩,(Yh h).symm⟩
  | false =>
   rw[q] at h;obtain⟨⟨l',h1,h2⟩,h3⟩:=ih h;exact⟨⟨l',Xu _ h1,h2⟩,h3⟩
theorem Cg {ls:List lI} {l:lI} (h:l∈ls):(ls.map fun l=>(l.T,(#[]:Array Value))).lookup l.T=some #[]:=by
 induction ls with
 | nil=>cases h
 | cons l' ls ih =>
  rw[Yd,Yk]
  cases q:l.T == l'.T with
  | true=>rfl
  | false =>
   rcases Xq.mp h with rfl | h
   ·simp at q
   ·exact ih h
theorem Sr {l:OpenLaw} {q:Program} {loose:List Str} {XP:(Str->Option Value)->Heap->Prop} {d:DefRec} {K:Params->Frag} {as:List Addr} {e:∀ P,as=(K P).map (·.1)} {ts:List Addr} {kk:Nat} (ls:List lI) (Ss:ls.map (·.T)=ts) (hn:l.most=some 63) (uv:d.params.defaults=[]) (hr:bh kk callerA)
  (fh:∀ (w:World) (h:Heap),(K w.params).In h->∀ t∈ls,∃ cc,CodeHd h cc t.T) (Su:∀ P,noTabs (K P)=true)
  (F:∀ (w:World) (mg:Str->Option Value) (fa:Addr) (h:Heap),(K w.params).In h->h.Ns mainGlobals mg->mg d.name=some (.ref fa) →
   ∃ fd:FuncData,(∀ (s:Shared) (u:Value),BindsTo s fd ⟨[u],[]⟩ [("script",u)])/\∀ base:Heap,(K w.params).In base->base.Ns mainGlobals mg->(∀ t∈ls,base.BuiltinsAt mg t.T)->cS l.prog w (K w.params) mg base f9 kk fa fd ["script"] (@yd (oM ls) (K w.params))) :
  WalkO q loose XP (kmHook K as e ts).says l.row.toRowW d [] (fun f vs=>PySem.call f vs) :=
 L2.RO (n:=63) (k:=kk) (x := "script") (K:=fun w=>K w.params) (CX:=fun _=>f9) (sp:=fun w=>@yd (oM ls) (K w.params)) (Ts:=fun _=>ls.map fun l=>(l.T,#[])) hn (by decide) uv hr (fun w h Y=>km_in_of Y)
  (fun w h Y b ps hl=>by
   obtain⟨⟨t,ht,rfl⟩,rfl⟩:=Sq hl;have e1:h.get? t.T=some (tabObj #[]):=km_tabs_of Y t.T (by rw[<-Ss];exact Za ht);refine⟨e1,?_,?_⟩
   ·obtain⟨cc,o,vs,_,_,_,_,_,_,_,c1,c2,c3,c4,_⟩:=fh w h (km_in_of Y) t ht
    exact⟨cc,o,vs,c1,c2,c3,c4⟩
   ·cases z:(K w.params).lookup t.T with
    | none=>rfl
    | some o =>
     have e2:=km_in_of Y t.T o z;rw[e1] at e2;cases e2;have h2:=YV.mp (Su w.params) (t.T,tabObj #[]) (mem_of_lookupK z)
     exact absurd (show false=true from h2) X8)
  (fun w mg fa h KX G nh=>by
   obtain⟨fd,hb,hF⟩:=F w mg fa h KX G nh
   exact⟨fd,hb,fun base k1 k2 k3=>hF base k1 k2 fun t ht=>k3 t.T #[] (Cg ht)⟩)
  (fun w H a ns hl hO hS=>by
   letI:aK:=oM ls;refine⟨a,ns,rfl,hS,hl,fun t ht => ?_,fun _=>rfl⟩;rcases hO t.T with⟨ps,z1,z2⟩ | ⟨z1,_⟩
   ·rw[Cg ht] at z1;cases z1
    exact⟨#[],z2,trivial,.inl rfl⟩
   ·rw[Cg ht] at z1;cases z1)
  fun _ _ _ _ _ z=>z
end LJ
namespace LJ
open PySem L2
variable [aK]
omit [aK] in
theorem Sv {m:Int} {ws:List (Int × Int × Int)} (h:bP m ws):lA (aN m ws)=true:=by
 show (ji (.int m) 1 12 && rH m (.tup (ws.map bV)))=true
 have h1:ji (.int m) 1 12=true:=by
  show (decide (1 <= m) && decide (m <= 12))=true;rw[NN h.m1,NN h.f_];rfl
 rw[h1,q0S];show (decide ((ws.map bV).length <= 30) && ((ws.map bV).all (cG m) && decide (((ws.map bV).map pairOf).Nodup)))=true
 have h2:(ws.map bV).all (cG m)=true:=by
  refine YV.mpr fun d hd => ?_;obtain⟨y,hy,rfl⟩:=X0.mp hd;obtain⟨a,b,c,d,e⟩:=h.ends y hy;show (((decide (0 <= y.1) && decide (y.1 <= m - 1)) && (decide (y.1 + 1 <= y.2.1) && decide (y.2.1 <= m - 1))) && (decide (0 <= y.2.2) && decide (y.2.2 <= 1000000000)))=true;rw[NN a,NN (by omega:y.1 <= m - 1),NN (by omega:y.1 + 1 <= y.2.1),NN (by omega:y.2.1 <= m - 1),NN d,NN e];rfl
 have h3:(ws.map bV).map pairOf=ws.map fun y=>(y.1,y.2.1):=by rw[Yj];rfl
 rw[h2,h3,NN h.unlike,qx,NN h.iq];rfl
noncomputable def yj:GD:=fun ys ai K=>∃ (m:Int) (ws:List (Int × Int × Int)),bP m ws/\ys=[.p (aN m ws)]/\ai=[]/\K (.p .non) []
noncomputable def Ci:WS:=(bo (cX (dT (au 1 BK (aj (aa 0) ag)))) uV cK)
theorem Sw:∀ ys ai K',ys.length=1->yj ys ai K'->Ci (bI ai.length K') ⟨ys.map some ++ List.replicate 0 none,ai.map some⟩:=by
 rintro ys ai K' - ⟨m,ws,W,rfl,rfl,k⟩;unfold Ci;simp? only [];refine⟨aN m ws,rfl,rfl,?_⟩;rw[Sv W];simp? only [];exact bW k
noncomputable def yk:GD:=fun ys ai K=>∃ y:Int × Int × Int,ys=[.p (bV y)]/\ai=[]/\K (.p (.tup [.int y.2.2,.int y.1,.int y.2.1])) []
noncomputable def Cj:WS:=(aI (de (aj (d2 (aa 0) (dC (.int 2)) aW) (aj (d2 (aa 0) (dC (.int 0)) aW) (aj (d2 (aa 0) (dC (.int 1)) aW) ag)))))
theorem Sx:∀ ys ai K',ys.length=1->yk ys ai K'->Cj (bI ai.length K') ⟨ys.map some ++ List.replicate 0 none,ai.map some⟩:=by
 rintro ys ai K' - ⟨y,rfl,rfl,k⟩;unfold Cj;simp? only [bV,fB,d_,at2];exact bW k
noncomputable def bM (ws:List (Int × Int × Int)) (n:Int):LK:=[(ws.getD n.toNat (0,0,0)).2.2,(ws.getD n.toNat (0,0,0)).1,(ws.getD n.toNat (0,0,0)).2.1]
structure bx (ws:List (Int × Int × Int)) (ns:List Int):Prop where
 perm:ns.Perm (aR ws.length)
 up:(ns.map (bM ws)).Pairwise kle
theorem bx.nums {ws:List (Int × Int × Int)} {ns:List Int} (h:bx ws ns):Nums ws ns:=fun n hn=>yb (h.perm.mem_iff.mp hn)
theorem bx.len {ws:List (Int × Int × Int)} {ns:List Int} (h:bx ws ns):ns.length=ws.length:=by rw[h.perm.length_eq];unfold aR;simp
theorem Cm {m:Int} {ws:List (Int × Int × Int)} (W:bP m ws) {a b:Int} (ha:0 <= a/\a < (ws.length:Int)) (hb:0 <= b/\b < (ws.length:Int)) (e:bM ws a=bM ws b):a=b:=by
 obtain⟨i,rfl⟩:∃ i:Nat,a=i:=⟨a.toNat,by omega⟩;obtain⟨j,rfl⟩:∃ j:Nat,b=j:=⟨b.toNat,by omega⟩;have hi:i < ws.length:=by omega
 have hj:j < ws.length:=by omega
 unfold bM at e;rw[Ya,Ya,Fs,qv hi,Fs,qv hj] at e;simp only[Option.getD_some,q1R,and_true] at e
 have q:(ws.map fun y=>(y.1,y.2.1))[i]'(by rw[qx];exact hi)=(ws.map fun y=>(y.1,y.2.1))[j]'(by rw[qx];exact hj):=by
  rw[Z4,Z4,e.2.1,e.2.2]
 have:=(q0N W.unlike).mp q;rw[this]
theorem Sy {out:List D} {l:List Int} (h:out.Perm (l.map D.int)):∃ ns:List Int,out=ns.map D.int/\ns.Perm l:=by
 refine⟨out.map fun d=>match d with
  | .int n=>n
  | _=>0,?_,?_⟩
 ·rw[Yj]
  refine (ZZ out).symm.trans (YY fun d hd => ?_);obtain⟨n,_,rfl⟩:=X0.mp (h.mem_iff.mp hd);rfl
 ·have:=h.map fun d=>match d with
   | .int n=>n
   | _=>0
  rw[Yj] at this;exact this.trans (q1S ((YY fun n _=>rfl).trans (ZZ l)))
noncomputable def Co:GD:=fun ys ai K=>∃ (m:Int) (ws:List (Int × Int × Int)),bP m ws/\ys=[.p (aN m ws)]/\ai=[]/\∀ ns,bx ws ns->K (.n (ns.map D.int)) []
noncomputable def Cp:WS:=(ay (kW (au 1 yj (aj (aa 0) ag))) (ay (aL 1 (d2 (aa 0) (dC (.int 1)) aW)) (aI (Cb (aj (dN (aj (aa 1) ag) cL) ag) [some 1] (au 1 yk (aj (d2 (aa 1) (aa 0) aW) ag))))))
theorem Sz:∀ ys ai K',ys.length=1->Co ys ai K'->Cp (bI ai.length K') ⟨ys.map some ++ List.replicate 1 none,ai.map some⟩:=by
 rintro ys ai K' - ⟨m,ws,W,rfl,rfl,k⟩;have pT:=W.iq;unfold Cp;refine aU fun N hN => ?_;simp? only [];refine⟨m,ws,W,rfl,rfl,?_⟩;simp? only [];subst hN;refine aU fun N hN => ?_;simp? only [d_,aN];subst hN;simp? only [Cb]
 refine⟨⟨by omega,by omega⟩,by rw[mw];omega,fun d=>match d with
  | .int n=>bM ws n
  | _=>[],fun d hd => ?_,fun out pm pw => ?_⟩
 ·obtain⟨i,hi⟩:=X9.mp hd
  obtain⟨hi,rfl⟩:=nP hi;have e0:(0 + (i:Int))=i:=by omega
  rw[e0];obtain⟨y,ey,hy,ea,_⟩:=lG W (n:=(i:Int)) (by omega) (by omega);refine⟨(by intro z;cases z),?_⟩;simp? only [ea];refine⟨y,rfl,rfl,?_⟩;simp? only [];unfold bM;rw[ey];rfl
 ·rw[Ya,nW] at pm
  obtain⟨ns,rfl,pn⟩:=Sy pm;refine⟨[],rfl,rfl,.inl (k ns ⟨pn,?_⟩)⟩;rw[Yj] at pw;exact pw
noncomputable def v8:GD:=fun ys ai K=>∃ (m:Int) (ws:List (Int × Int × Int)) (n:Int),bP m ws/\(0 <= n/\n < (ws.length:Int))/\ys=[.p (aN m ws),.p (.int n)]/\ai=[]/\K (.p (.tup ((bM ws n).map D.int))) []
noncomputable def Cq:WS:=(ay (jG (d2 (d2 (aa 0) (dC (.int 1)) aW) (aa 1) aW) (jF 3 (e8 (bG 2) (e8 (bG 3) (e8 (bG 4) je))))) (aI (de (aj (aa 4) (aj (aa 2) (aj (aa 3) ag))))))
theorem SA:∀ ys ai K',ys.length=2->v8 ys ai K'->Cq (bI ai.length K') ⟨ys.map some ++ List.replicate 3 none,ai.map some⟩:=by
 rintro ys ai K' - ⟨m,ws,n,W,⟨n0,n1⟩,rfl,rfl,k⟩;obtain⟨y,ey,hy,ea,_⟩:=lG W n0 n1;unfold Cq;simp? only [d_,aN,ea,bV];unfold bM at k;rw[ey] at k;exact bW k
noncomputable def Cr:GD:=fun ys ai K=>∃ (m:Int) (ws:List (Int × Int × Int)),bP m ws/\ys=[.p (aN m ws)]/\ai=[]/\∀ ns,bx ws ns->K (.p (bt ns)) []
noncomputable def Cs:WS:=(aI (fy (bO (dN (aj (fy (nM (aj (dN (aj (d2 (aa 0) (dC (.int 1)) aW) ag) cL) ag)) [none,some 0] (bG 0) dA (de (aj (au 2 v8 (aj (aa 1) (aj (aa 0) ag))) (aj (aa 0) ag)))) ag) tE)) [none] (bG 0) dA (d2 (aa 0) (dC (.int 1)) aW)))
noncomputable def eV (ws:List (Int × Int × Int)) (n:Int):D := .tup [.tup ((bM ws n).map D.int),.int n]
theorem IE {a b:LK} {n m:Int} (hl:a.length=b.length) (h:kle (a ++ [n]) (b ++ [m])):kle a b:=by
 unfold kle at h ⊢;rw[v7 _ _ hl.symm] at h
 by_cases e:b=a
 ·rw[e];exact rh a
 ·rw[NM e] at h;exact h
theorem SD:∀ ys ai K',ys.length=1->Cr ys ai K'->Cs (bI ai.length K') ⟨ys.map some ++ List.replicate 0 none,ai.map some⟩:=by
 rintro ys ai K' - ⟨m,ws,W,rfl,rfl,k⟩;have pT:=W.iq;unfold Cs;simp? only [d_,aN];refine⟨by omega,?_⟩;rw[Ya,nW]
 refine L2.j8 (fun d=>match d with
  | .int n=>eV ws n
  | _ => .non) (by rw[qx];unfold aR;rw[qx,YG];omega) trivial ?_ ?_
 ·intro d hd acc L ha h
  obtain⟨n,hn,rfl⟩:=X0.mp hd;obtain⟨n0,n1⟩:=yb hn;simp? only [];refine⟨m,ws,n,W,⟨n0,n1⟩,rfl,rfl,?_⟩;simp? only [];exact⟨ha,h⟩
 ·have e:((aR ws.length).map D.int).map (fun d=>match d with
   | .int n=>eV ws n
   | _ => .non)=(aR ws.length).map (eV ws):=by rw[Yj];rfl
  have il:(aR ws.length).length=ws.length:=by unfold aR;simp
  rw[e];simp? only [tE]
  refine⟨by omega,fun d=>match d with
   | .tup [.tup ks,.int n]=>(match intsOf ks with
    | some l=>l ++ [n]
    | none=>[])
   | _=>[],.inr ⟨3,fun d hd => ?_⟩,fun out pm pw => ?_⟩
  ·obtain⟨n,_,rfl⟩:=X0.mp hd
   refine⟨bM ws n,n,rfl,rfl,?_⟩
   show (match intsOf ((bM ws n).map D.int) with
    | some l=>l ++ [n]
    | none=>[])=_
   rw[nQ]
  ·have hex:∃ ns:List Int,out=ns.map (eV ws)/\ns.Perm (aR ws.length):=by
    refine⟨out.map fun d=>match d with
     | .tup [_,.int n]=>n
     | _=>0,?_,?_⟩
    ·rw[Yj]
     refine (ZZ out).symm.trans (YY fun d hd => ?_);obtain⟨n,_,rfl⟩:=X0.mp (pm.mem_iff.mp hd);rfl
    ·have:=pm.map fun d=>match d with
      | .tup [_,.int n]=>n
      | _=>0
     rw[Yj] at this;exact this.trans (q1S ((YY fun n _=>rfl).trans (ZZ _)))
   obtain⟨ns,rfl,pn⟩:=hex;have ol:ns.length=ws.length:=by rw[pn.length_eq,il]
   have up:bx ws ns:=by
    refine⟨pn,?_⟩;rw[Yj] at pw;rw[Zl] at pw ⊢;refine pw.imp fun {a b} h => ?_
    have h:kle ((match intsOf ((bM ws a).map D.int) with
     | some l=>l ++ [a]
     | none=>[])) ((match intsOf ((bM ws b).map D.int) with
     | some l=>l ++ [b]
     | none=>[])):=h
    rw[nQ,nQ] at h;exact IE rfl h
   refine L2.j8 (fun d=>match d with
    | .tup [_,n]=>n
    | _ => .non) (by rw[qx];omega) trivial ?_ ?_
   ·intro d hd acc L ha h
    obtain⟨n,_,rfl⟩:=X0.mp hd;simp? only [eV,d_];exact⟨ha,h⟩
   ·have e:(ns.map (eV ws)).map (fun d=>match d with
     | .tup [_,n]=>n
     | _ => .non)=ns.map D.int:=by rw[Yj];rfl
    rw[e];exact bW (k ns up)
end LJ
namespace L2
open PySem PySem.Spec PyProof.Rows
variable [aK]
noncomputable def bJ (af:List (Key × D)) (k:Key):Option D:=(af.find? fun kv=>decide (kv.1=k)).map (·.2)
noncomputable def putD (af:List (Key × D)) (k:Key) (d:D):List (Key × D) :=
 if (af.any fun kv=>decide (kv.1=k))=true then af.map (fun kv=>if kv.1=k then (kv.1,d) else kv) else af ++ [(k,d)]
theorem fu.val {F:Hp} (k:Key):∀ {fU:List (Key × D)} {ws:List (Key × V)},fu F fU ws->(bJ fU k=none/\dP ws k=none)\/∃ d v,bJ fU k=some d/\dP ws k=some v/\Is F d v
 | [],_,h=>by have h:_=[]:=h;subst h;exact .inl ⟨rfl,rfl⟩
 | kd :: r,_,⟨v,t,e,h1,h2⟩=>by
  subst e
  by_cases c:kd.1=k
  ·refine .inr ⟨kd.2,v,?_,wV c,h1⟩
   unfold bJ;rw[List.find?_cons_of_pos (by simpa using c)];rfl
  ·rw[wW c]
   have e:bJ (kd :: r) k=bJ r k:=by unfold bJ;rw[List.find?_cons_of_neg (by simpa using c)]
   rw[e];exact fu.val k h2
theorem fu.length {F:Hp}:∀ {fU:List (Key × D)} {ws:List (Key × V)},fu F fU ws->ws.length=fU.length
 | [],_,h=>by have h:_=[]:=h;subst h;rfl
 | kd :: r,_,⟨v,t,e,h1,h2⟩=>by subst e;rw[Fq,Fq,h2.length]
theorem fu.any {F:Hp} (k:Key):∀ {fU:List (Key × D)} {ws:List (Key × V)},fu F fU ws->(ws.any fun kv=>decide (kv.1=k))=fU.any fun kv=>decide (kv.1=k)
 | [],_,h=>by have h:_=[]:=h;subst h;rfl
 | kd :: r,_,⟨v,t,e,h1,h2⟩=>by subst e;rw[ZJ,ZJ,h2.any k]
theorem fu.iM {F:Hp} (k:Key) {d:D} {v:V} (hd:Is F d v):∀ {fU:List (Key × D)} {ws:List (Key × V)},fu F fU ws->fu F (fU.map fun kv=>if kv.1=k then (kv.1,d) else kv) (ws.map fun kv=>if kv.1=k then (kv.1,v) else kv)
 | [],_,h=>by have h:_=[]:=h;subst h;rfl
 | kd :: r,_,⟨u,t,e,h1,h2⟩=>by
  subst e
  by_cases c:kd.1=k
  ·rw[Yd,Yd,Xs c,Xs c]
   exact⟨v,_,rfl,hd,h2.iM k hd⟩
  ·rw[Yd,Yd,NM c,NM c]
   exact⟨u,_,rfl,h1,h2.iM k hd⟩
theorem fu.snoc {F:Hp} {k:Key} {d:D} {v:V} (hd:Is F d v):∀ {fU:List (Key × D)} {ws:List (Key × V)},fu F fU ws->fu F (fU ++ [(k,d)]) (ws ++ [(k,v)])
 | [],_,h=>by have h:_=[]:=h;subst h;exact⟨v,[],rfl,hd,rfl⟩
 | kd :: r,_,⟨u,t,e,h1,h2⟩=>by subst e;exact⟨u,_,rfl,h1,h2.snoc hd⟩
theorem fu.put {F:Hp} {fU:List (Key × D)} {ws:List (Key × V)} {k:Key} {d:D} {v:V} (h:fu F fU ws) (hd:Is F d v):fu F (putD fU k d) (putK ws k v):=by
 unfold putD putK;rw[h.any k];split
 ·exact h.iM k hd
 ·exact h.snoc hd
noncomputable def eB (x:DV) (δ : aA) (K:Nat->List (Key × D)->Prop):Prop:=match x with
 | .o k=>match δ.mu[k]? with
  | some (some (.dct af))=>K k af
  | _=>False
 | _=>False
theorem tF {F H:Hp} {ad:List Addr} {δ : aA} {σ : St} {x:DV} {v:V} {K:Nat->List (Key × D)->Prop} (S:SR F ad δ σ H) (V1:fw F ad x v) (h:eB x δ K):∃ k af a ws,x = .o k/\K k af/\v = .ref a/\ad[k]? = some a/\H a=some (.dK ws)/\fu F af ws /\ δ.mu[k]? = some (some (.dct af)):=by
 unfold eB at h;split at h
 ·rename_i k
  split at h
  ·rename_i af e
   obtain⟨a,e1,rfl⟩:=V1;obtain⟨a',o,e2,e3,ws,rfl,h4⟩:=S.mu k _ e;rw[e1] at e2;cases e2;exact⟨k,af,a,ws,rfl,h,rfl,e1,e3,h4,e⟩
  ·exact h.elim
 ·exact h.elim
noncomputable def eW (x:DV) (P:Int->Prop):Prop:=match x with
 | .p (.int i)=>P i
 | _=>False
theorem v9 {F:Hp} {ad:List Addr} {x:DV} {v:V} {P:Int->Prop} (hv:fw F ad x v) (h:eW x P):∃ i,v=kV (.inl i)/\P i:=by
 unfold eW at h;split at h
 ·rename_i i;exact⟨i,hv,h⟩
 ·exact h.elim
noncomputable def lL (neg:Bool) (fi fo:WE):WE:=fun δ K=>fi δ fun x δ1=>fo δ1 fun y δ2=>eW x fun i=>eB y δ2 fun _ af=>K (.p (.bl (neg != (bJ af (.inl i)).isSome))) δ2
noncomputable def rP (fo fi:WE):WE:=fun δ K=>fo δ fun x δ1=>fi δ1 fun y δ2=>eW y fun i=>eB x δ2 fun _ af=>match bJ af (.inl i) with
 | some d=>K (.p d) δ2
 | none=>False
noncomputable def Cu (fo fi fe:WE):WE:=fun δ K=>fo δ fun x δ1=>eB x δ1 fun _ _=>fi δ1 fun y δ2=>fe δ2 fun z δ3=>eW y fun i=>eB x δ3 fun _ af=>match bJ af (.inl i) with
 | some d=>K (.p d) δ3
 | none=>K z δ3
noncomputable def ym (fv fo fi:WE):WS:=fun K δ => fv δ fun z δ1=>fo δ1 fun x δ2=>fi δ2 fun y δ3=>mf z δ3 fun d δ4=>eW y fun i=>eB x δ4 fun k af=>af.length < 1000/\K.nx ⟨δ4.sl,δ4.mu.set k (some (.dct (putD af (.inl i) d)))⟩
noncomputable def Cv (fk fv:WE):WE:=fun δ K=>fk ⟨δ.sl,δ.mu ++ [some (.dct [])]⟩ fun x δ1=>fv δ1 fun y δ2=>mf y δ2 fun d δ3=>eW x fun i=>eB (.o δ.mu.length) δ3 fun _ af=>af=[]/\K (.o δ.mu.length) ⟨δ3.sl,δ3.mu.set δ.mu.length (some (.dct [(.inl i,d)]))⟩
section
variable {X:Cx} {o i e v:Expr} {fo fi fv fk fe:WE} {pos:Pos}
theorem SE {neg:Bool} (td:TE) (hn:∀ σ H (Q:VK),(tD fi σ H fun y H1=>tD fo σ H1 fun x H2=>∃ a o,x = .ref a/\d8 H2 a y o/\Q (.bl (neg != o.isSome)) H2)->td σ H Q):∀ σ H Q,tD (lL neg fi fo) σ H Q->td σ H Q:=fun σ H Q h0_ => el7 h0_ fun F ad δ K S q k =>hn σ H Q ⟨F,ad,δ,_,S,q,fun x δ1 h1 v F1 aP H1 E1 S1 V1=>⟨F1,aP,δ1,_,S1,h1,fun y δ2 h2 u F2 bL H2 E2 S2 V2=>by
  obtain⟨i,rfl,h3⟩:=v9 (V1.ext E2) h2;obtain⟨k0,af,a,ws,rfl,h4,rfl,e1,e2,i1,m1⟩:=tF S2 V2 h3;refine⟨a,_,rfl,d8.k e2,?_⟩
  have es:(dP ws (Sum.inl i:Key)).isSome=(bJ af (.inl i)).isSome:=by
   rcases i1.val (.inl i) with⟨z1,z2⟩ | ⟨d,v,z1,z2,_⟩
   ·rw[z1,z2];rfl
   ·rw[z1,z2];rfl
  rw[es]
  exact k _ _ h4 _ _ _ _ (E1.trans E2) S2 rfl⟩⟩
theorem SF {t:TE} {f:WE} (h:∀ σ H Q,tD f σ H Q->t σ H Q):∀ σ H Q,cI (dT f) σ H Q->tB t σ H Q:=fun σ H Q h0_ => el7 h0_ fun F ad δ K S q k =>h σ H _ ⟨F,ad,δ,_,S,q,fun x δ1 h1 v F1 aP H1 E1 S1 V1=>by
  obtain⟨b,rfl,h2⟩:=uS V1 h1
  exact⟨b,rfl,k _ _ h2 _ _ _ E1 S1⟩⟩
theorem SG (hu:X.A.units + 64 < cLine) (hi:JE X i (tD fi)) (ho:JE X o (tD fo)) (hm:behindInMarks .NotIn o=false:=by rfl):JT X (.Compare i [.NotIn] [o] pos) (cI (dT (lL true fi fo))) :=
 (OO (O_ (by omega) hi ho) hm).weak (SF (SE (Af (tD fi) (tD fo)) fun σ H Q h=>by simp only[Bool.true_bne] at h;exact h))
theorem IF (hu:X.A.units + 64 < cLine) (ho:JE X o (tD fo)) (hi:JE X i (tD fi)) (hs:nv i:=by intro _ _;rfl):JE X (.Subscript o i pos) (tD (rP fo fi)) :=
 (O9 (by omega) ho hi hs).weak fun σ H Q h0_ => el7 h0_ fun F ad δ K S q k =>⟨F,ad,δ,_,S,q,fun x δ1 h1 v F1 aP H1 E1 S1 V1=>⟨F1,aP,δ1,_,S1,h1,fun y δ2 h2 u F2 bL H2 E2 S2 V2=>by
  obtain⟨i,rfl,h3⟩:=v9 V2 h2;obtain⟨k0,af,a,ws,rfl,h4,rfl,e1,e2,i1,m1⟩:=tF S2 (V1.ext E2) h3;rcases i1.val (.inl i) with⟨z1,z2⟩ | ⟨d,v,z1,z2,z3⟩
  ·rw[z1] at h4;exact h4.elim
  ·rw[z1] at h4
   exact⟨a,v,rfl,by rw[<-z2];exact d8.k e2,k _ _ h4 _ _ _ _ (E1.trans E2) S2 z3⟩⟩⟩
theorem SH {apos:Pos} (hu:X.A.units + 64 < cLine) (ho:JE X o (tD fo)) (hi:JE X i (tD fi)) (he:JE X e (tD fe)) (m:M2 X o "get" apos i e pos:=by exact⟨rfl,rfl,rfl,rfl⟩):JE X (.Call (.Attribute o "get" apos) [i,e] [] pos) (tD (Cu fo fi fe)) :=
 (Pc (by omega) ho hi he m).weak fun σ H Q h0_ => el7 h0_ fun F ad δ K S q k =>⟨F,ad,δ,_,S,q,fun x δ1 h1 v F1 aP H1 E1 S1 V1=>by
  obtain⟨k0,af,a,ws,rfl,h2,rfl,e1,e2,i1,m1⟩:=tF S1 V1 h1;refine⟨a,rfl,.inl ⟨ws,.inl e2⟩,F1,aP,δ1,_,S1,h2,fun y δ2 h3 u F2 bL H2 E2 S2 V2=>⟨F2,bL,δ2,_,S2,h3,fun z δ3 h4 w F3 nH H3 E3 S3 V3 => ?_⟩⟩;obtain⟨i,rfl,h5⟩:=v9 V2 h4;obtain⟨k1,bX,b,XS,ek,h6,eb,f1,f2,j1,n1⟩:=tF S3 ((V1.ext E2).ext E3) h5;cases ek
  cases eb
  refine⟨_,d8.k f2,?_⟩;rcases j1.val (.inl i) with⟨z1,z2⟩ | ⟨d,v,z1,z2,z3⟩
  ·rw[z1] at h6
   rw[z2];exact k _ _ h6 _ _ _ _ ((E1.trans E2).trans E3) S3 V3
  ·rw[z1] at h6
   rw[z2]
   exact k _ _ h6 _ _ _ _ ((E1.trans E2).trans E3) S3 z3⟩
theorem SI [mj] {pos':Pos} (hu:X.A.units + 64 < cLine) (ho:JE X o (tD fo)) (hi:JE X i (tD fi)) (hv:JE X v (tD fv)) (hs:swapsWith v (some (.Subscript o i pos')) pos.line X.env=pure false:=by rfl):JS X (.Assign [.Subscript o i pos'] v pos) (dq (ym fv fo fi)) :=
 (Pa (by omega) ho hi hv hs).weak fun D σ H h0_ => el7 h0_ fun F ad δ K S q k =>⟨F,ad,δ,_,S,q,fun z δ1 h1 w F1 aP H1 E1 S1 V1=>⟨F1,aP,δ1,_,S1,h1,fun x δ2 h2 u F2 bL H2 E2 S2 V2=>⟨F2,bL,δ2,_,S2,h2,fun y δ3 h3 t F3 nH H3 E3 S3 V3=>by
  obtain⟨d,δ4,F4,h4,E4,S4,i4⟩:=sN S3 ((V1.ext E2).ext E3) h3;obtain⟨i,rfl,h5⟩:=v9 V3 h4;obtain⟨k0,af,a,ws,rfl,h6,rfl,e1,e2,i1,m1⟩:=tF S4 ((V2.ext E3).ext E4) h5;have oi:eS F4 (.dct (putD af (.inl i) d)) (.dK (putK ws (.inl i) w)):=⟨_,rfl,i1.put i4⟩;refine⟨a,_,rfl,kO.k e2 (qy (by rw[i1.length];exact Zg h6.1)),?_⟩
  exact k.nx _ h6.2 _ _ _ _ ((((E1.trans E2).trans E3).trans E4).trans (Ext.put S4 m1 e1)) (S4.put m1 e1 oi)⟩⟩⟩
theorem SJ (hk:JE X i (tD fk)) (hv:JE X v (tD fv)):JE X (.Dict [some i] [v] pos) (tD (Cv fk fv)) :=
 (Pb (OE hk.out hv.out OD) rfl rfl (by simp) (by simp)).weak fun σ H Q ⟨F,ad,δ,K,S,q,k⟩ p hp=>by
  have oi:eS F (.dct []) (.dK []):=⟨[],rfl,rfl⟩;have lp:(ad ++ [p])[δ.mu.length]? = some p:=by rw[<-S.cy,X7 (uu _),YI];rfl
  refine⟨F,ad ++ [p],_,_,S.own hp oi,q,fun x δ1 h1 u F1 aP H1 E1 S1 V1=>⟨F1,aP,δ1,_,S1,h1,fun y δ2 h2 w F2 bL H2 E2 S2 V2 => ?_⟩⟩;obtain⟨d,δ3,F3,h3,E3,S3,i3⟩:=sN S2 V2 h2;obtain⟨i,rfl,h4⟩:=v9 V1 h3;have Cw:=(E1.trans E2).trans E3;have Vp:fw F3 bL (.o δ.mu.length) (.ref p):=⟨p,Cw.pre _ _ lp,rfl⟩;obtain⟨k0,af,a,ws,ek,⟨h5,h6⟩,ea,e1,e2,i1,m1⟩:=tF S3 Vp h4;cases ek
  cases ea
  subst h5;have SK:ws=[]:=i1;subst SK;have oj:eS F3 (.dct [(.inl i,d)]) (.dK [((Sum.inl i:Key),w)]):=⟨_,rfl,w,[],rfl,i3,rfl⟩;refine⟨e2,[(.inl i,w)],rfl,by simp,?_⟩;exact k _ _ h6 _ _ _ _ (((Ext.own S hp).trans Cw).trans (Ext.put S3 m1 e1)) (S3.put m1 e1 oj) ⟨p,Cw.pre _ _ lp,rfl⟩
end
noncomputable def oN (δ0:aA) (t:WT) (b:WS) (K:KS):Nat->aA->Prop
 | 0,_=>False
 | n + 1,δ => t δ fun bb δ1=>if bb=true then b { nx:=fun δ2=>oN δ0 t b K n (δ0.trim δ2),ct:=fun δ2=>oN δ0 t b K n (δ0.trim δ2),bk:=K.nx,rt:=K.rt } δ1 else K.nx δ1
noncomputable def IG (t:WT) (b:WS):WS:=fun K δ => ∃ n,oN δ t b K n δ
theorem SM [mj] {X:Cx} {c:Expr} {body:List Stmt} {t:WT} {b:WS} {pos:Pos} (hp:PassesOwn (model X.prog X.w) X.A X.env X.xe) (hc:JT X c (cI t)) (hb:eF X body (dq b)):JS X (.While c body [] pos) (dq (IG t b)) :=
 (O1 hp hc hb).weak fun D σ H ⟨F,ad,δ,K,S,⟨n,q⟩,k⟩=>by
 refine⟨fun m σ' H'=>∃ F' aC δ',Ext F ad δ.mu H F' aC δ'.mu H'/\SR F' aC δ' σ' H'/\oN δ t b K m δ',⟨n,F,ad,δ,.refl,S,q⟩,?_⟩;rintro m σ' H' ⟨F',aC,δ',E',S',h⟩
 cases m with
 | zero=>exact h.elim
 | succ m =>
  refine⟨F',aC,δ',_,S',h,fun bb δ1 h1 F1 aP H1 E1 S1 => ?_⟩;have E2:=E'.trans E1
  cases bb with
  | false =>
   dsimp only at h1 ⊢;rw[NM X8] at h1 ⊢;exact k.nx _ h1 _ _ _ _ E2 S1
  | true =>
   dsimp only at h1 ⊢;rw[Xs rfl] at h1 ⊢;refine⟨fun σ2 H2=>∃ F2 bL δ2,Ext F ad δ.mu H F2 bL δ2.mu H2/\SR F2 bL δ2 σ2 H2/\oN δ t b K m δ2,fun σ2 H2 ⟨F2,bL,δ2,e1,e2,e3⟩=>⟨m,by omega,F2,bL,δ2,e1,e2,e3⟩,?_⟩;refine⟨F1,aP,δ1,_,S1,h1,⟨fun δ2 h2 F2 bL σ2 H2 X2 S2=>⟨F2,_,_,(E2.trans X2).trim S.cy,S2.trim,h2⟩,k.nx.ext E2,fun δ2 h2 F2 bL σ2 H2 X2 S2=>⟨F2,_,_,(E2.trans X2).trim S.cy,S2.trim,h2⟩,(k.ext E2).rt,(k.ext E2).kp⟩⟩
end L2
namespace LJ
open PySem L2
variable [aK]
theorem Cy {af:List (Key × D)} {k l:Key} {d:D} (h:bJ af k=none):bJ (putD af k d) l=if l=k then some d else bJ af l:=by
 have na:(af.any fun kv=>decide (kv.1=k))=false:=by
  cases q:af.any fun kv=>decide (kv.1=k) with
  | false=>rfl
  | true =>
   obtain⟨kv,h1,h2⟩:=q0R.mp q;unfold bJ at h;rw[Option.map_eq_none_iff] at h;exact absurd h2 (q06.mp h kv h1)
 unfold putD;rw[na,NM X8];unfold bJ;rw[List.find?_append]
 cases q:af.find? fun kv=>decide (kv.1=l) with
 | some kv =>
  have e:=q0W q;have e:kv.1=l:=by simpa using e
  rw[NM]
  ·rfl
  ·intro z
   subst z;have hm:=q1e q;have:=Zm.mp na kv hm;exact this (by simpa using e)
 | none =>
  by_cases c:l=k
  ·subst c
   rw[Xs rfl];simp
  ·rw[NM c]
   simp[show ¬ k=l from fun z=>c z.symm]
end LJ
namespace L2
open PySem PySem.Spec PyProof.Rows PySem.W
section
open PySem.SeqAt
open PySem.AutoSeq1 (wpAny_loadPart')
open PySem.MeetsSeq PySem.MeetsSeq2 PySem.MeetsSeq3
end
section
variable {prog:Program} {w:World} {A:Around} {E:Value->Shared->Prop} {s:Shared} {Q:Bool->Shared->Prop}
end
section
variable [aK] {X:Cx}
end
end L2
namespace LJ
open PySem L2
variable [aK]
end LJ
namespace L2
open PySem
variable [aK]
noncomputable def oO (δ : aA):aA:=⟨δ.sl,δ.mu.map fun _=>none⟩
section
variable {F F' H H':Hp} {ad aC:List Addr} {δ δ':aA} {σ σ':St}
theorem Cz {a:Addr}:¬ Lv ad (oO δ).mu a:=fun ⟨k,ov,_,e⟩=>by
 unfold oO at e;rw[show (aA.mk δ.sl (δ.mu.map fun _=>(none:Option OV))).mu = δ.mu.map fun _=>none from rfl,My] at e;obtain⟨_,_,z⟩:=Xt.mp e;cases z
theorem SR.hide (S:SR F ad δ σ H):SR F ad (oO δ) σ H:=by
 have no:∀ (k:Nat) (ov:OV),(oO δ).mu[k]? = some (some ov)->False:=fun k ov e=>by
  unfold oO at e;rw[show (aA.mk δ.sl (δ.mu.map fun _=>(none:Option OV))).mu = δ.mu.map fun _=>none from rfl,My] at e;obtain⟨_,_,z⟩:=Xt.mp e;cases z
 exact⟨S.sub,fun a l=>absurd l Cz,by rw[S.cy];unfold oO;rw[qx],fun k l a ov ow _ _ e _=>(no _ _ e).elim,fun k ov e=>(no _ _ e).elim,S.sl,S.len,S.tab,S.nt⟩
end
section
variable {X:Cx} {v_ iN ie kG:Stmt} {i n:Nat} {G:GD} {fa:WA} {t:WT} {B:TS} {E:XK}
end
end L2
namespace LJ
open PySem L2
variable [aK]
noncomputable def jP (p q:Int) (fs:List Int):List Int:=fs.map fun x=>if x=p then q else x
theorem CA {p q x y:Int}:(if x=p then q else x)=(if y=p then q else y)↔x=y\/((x=p\/x=q)/\(y=p\/y=q)):=by
 by_cases h1:x=p<;>by_cases h2:y=p
 ·rw[Xs h1,Xs h2];constructor<;>intro h<;>omega
 ·rw[Xs h1,NM h2];constructor<;>intro h<;>omega
 ·rw[NM h1,Xs h2];constructor<;>intro h<;>omega
 ·rw[NM h1,NM h2];constructor<;>intro h<;>omega
theorem tG {f:Int->Int} {fs:List Int} {i:Nat} (h:i < fs.length):(fs.map f).getD i 0=f (fs.getD i 0):=by
 rw[Fs,My,qv h,Fs,qv h];rfl
noncomputable def Part (n:Nat) (fs gs:List Int):Prop:=fs.length=n/\gs.length=n/\∀ i j,i < n->j < n->(fs.getD i 0=fs.getD j 0↔gs.getD i 0=gs.getD j 0)
theorem Part.merge {n i j:Nat} {fs gs:List Int} {p q r s:Int} (h:Part n fs gs) (hi:i < n) (hj:j < n) (e1:(p=fs.getD i 0/\q=fs.getD j 0)\/(p=fs.getD j 0/\q=fs.getD i 0)) (e2:(r=gs.getD i 0/\s=gs.getD j 0)\/(r=gs.getD j 0/\s=gs.getD i 0)):Part n (jP p q fs) (jP r s gs):=by
 obtain⟨h1,h2,h3⟩:=h;refine⟨by unfold jP;rw[qx,h1],by unfold jP;rw[qx,h2],fun k l hk hl => ?_⟩;unfold jP;rw[tG (by omega),tG (by omega),tG (by omega),tG (by omega),CA,CA];have a:=h3 k l hk hl;have b:=h3 k i hk hi;have c:=h3 k j hk hj;have d:=h3 l i hl hi;have e:=h3 l j hl hj;have f1:(fs.getD k 0=p\/fs.getD k 0=q)↔(fs.getD k 0=fs.getD i 0\/fs.getD k 0=fs.getD j 0):=by rcases e1 with⟨rfl,rfl⟩ | ⟨rfl,rfl⟩;rfl;exact Or.comm
 have f2:(fs.getD l 0=p\/fs.getD l 0=q)↔(fs.getD l 0=fs.getD i 0\/fs.getD l 0=fs.getD j 0):=by rcases e1 with⟨rfl,rfl⟩ | ⟨rfl,rfl⟩;rfl;exact Or.comm
 have f3:(gs.getD k 0=r\/gs.getD k 0=s)↔(gs.getD k 0=gs.getD i 0\/gs.getD k 0=gs.getD j 0):=by rcases e2 with⟨rfl,rfl⟩ | ⟨rfl,rfl⟩;rfl;exact Or.comm
 have f4:(gs.getD l 0=r\/gs.getD l 0=s)↔(gs.getD l 0=gs.getD i 0\/gs.getD l 0=gs.getD j 0):=by rcases e2 with⟨rfl,rfl⟩ | ⟨rfl,rfl⟩;rfl;exact Or.comm
 rw[f1,f2,f3,f4,a,b,c,d,e]
theorem IH (fs:List Int) (i j:Nat):jM fs i j=jP (max (fs.getD i 0) (fs.getD j 0)) (min (fs.getD i 0) (fs.getD j 0)) fs:=rfl
theorem II (a b:Int):(max a b=a/\min a b=b)\/(max a b=b/\min a b=a):=by
 by_cases h:a <= b
 ·exact .inr ⟨Int.max_eq_right h,Int.min_eq_left h⟩
 ·exact .inl ⟨Int.max_eq_left (by omega),Int.min_eq_right (by omega)⟩
noncomputable def jQ (ws:List (Int × Int × Int)) (st:List Int × List Int) (n:Int):List Int × List Int :=
 if st.2.getD (bK ws n).1 0=st.2.getD (bK ws n).2 0 then st else (st.1 ++ [n],jM st.2 (bK ws n).1 (bK ws n).2)
noncomputable def fZ (ws:List (Int × Int × Int)) (fs ns:List Int):List Int × List Int:=ns.foldl (jQ ws) ([],fs)
noncomputable def mK (m:Int) (ws:List (Int × Int × Int)) (ns:List Int):List Int:=sortI (fZ ws (aR m.toNat) ns).1
noncomputable def lM (ws:List (Int × Int × Int)) (us:List Int) (st:List Int × List Int) (n:Int):List Int × List Int :=
 if n∈us/\st.2.getD (bK ws n).1 0≠st.2.getD (bK ws n).2 0 then (st.1 ++ [n],jP (st.2.getD (bK ws n).2 0) (st.2.getD (bK ws n).1 0) st.2) else st
noncomputable def lN (ws:List (Int × Int × Int)) (us fs ns:List Int):List Int × List Int:=ns.foldl (lM ws us) ([],fs)
theorem SN (ws:List (Int × Int × Int)) (st:List Int × List Int) (n:Int):(jQ ws st n).2.length=st.2.length:=by
 unfold jQ;split
 ·rfl
 ·exact Ia _ _ _
theorem SO (ws:List (Int × Int × Int)) (us:List Int) (st:List Int × List Int) (n:Int):(lM ws us st n).2.length=st.2.length:=by
 unfold lM;split
 ·unfold jP;rw[qx]
 ·rfl
theorem CB (ws:List (Int × Int × Int)):∀ (ns:List Int) (st:List Int × List Int),∃ l,(ns.foldl (jQ ws) st).1=st.1 ++ l/\l.Sublist ns/\(ns.foldl (jQ ws) st).2.length=st.2.length
 | [],st=>⟨[],by simp,.slnil,rfl⟩
 | n :: r,st=>by
  obtain⟨l,h1,h2,h3⟩:=CB ws r (jQ ws st n);rw[ZS];rw[SN] at h3;unfold jQ at h1 h3 ⊢;split at h1
  ·rename_i q
   rw[Xs q] at h3 ⊢;exact⟨l,h1,h2.cons _,h3⟩
  ·rename_i q
   rw[NM q] at h3 ⊢;exact⟨n :: l,by rw[h1,ZC];rfl,h2.cons₂ _,h3⟩
theorem IJ (ws:List (Int × Int × Int)) (us:List Int):∀ (ns:List Int) (st:List Int × List Int),∃ l,(ns.foldl (lM ws us) st).1=st.1 ++ l/\l.Sublist ns/\(ns.foldl (lM ws us) st).2.length=st.2.length
 | [],st=>⟨[],by simp,.slnil,rfl⟩
 | n :: r,st=>by
  obtain⟨l,h1,h2,h3⟩:=IJ ws us r (lM ws us st n);rw[ZS];rw[SO] at h3;unfold lM at h1 h3 ⊢;split at h1
  ·rename_i q
   rw[Xs q] at h3 ⊢;exact⟨n :: l,by rw[h1,ZC];rfl,h2.cons₂ _,h3⟩
  ·rename_i q
   rw[NM q] at h3 ⊢;exact⟨l,h1,h2.cons _,h3⟩
theorem CC {m:Int} {ws:List (Int × Int × Int)} (W:bP m ws) {us:List Int}:∀ {ns:List Int} {acc fs gs:List Int},(∀ n∈ns,(0 <= n/\n < (ws.length:Int))/\n∈us)->Part m.toNat fs gs->(ns.foldl (jQ ws) (acc,fs)).1=(ns.foldl (lM ws us) (acc,gs)).1
 | [],acc,fs,gs,_,_=>rfl
 | n :: r,acc,fs,gs,hn,hp=>by
  obtain⟨⟨n0,n1⟩,nu⟩:=hn n NO;obtain⟨y,ey,hy,ea,i,j,e1,e2,h1,h2,_⟩:=lG W n0 n1;have en:bK ws n=(i,j):=by unfold bK;rw[ey,e1,e2,Ya,Ya]
  have hr:∀ n∈r,(0 <= n/\n < (ws.length:Int))/\n∈us:=fun x hx=>hn x (Xu _ hx);rw[ZS,ZS];unfold jQ lM;rw[en];dsimp only
  by_cases q:fs.getD i 0=fs.getD j 0
  ·rw[Xs q,NM fun z=>z.2 ((hp.2.2 i j h1 h2).mp q)]
   exact CC W hr hp
  ·rw[NM q,Xs ⟨nu,fun z=>q ((hp.2.2 i j h1 h2).mpr z)⟩]
   rw[IH];exact CC W hr (hp.merge h1 h2 (II _ _) (.inr ⟨rfl,rfl⟩))
theorem lO {a b:Int}:aD (.int a) (.int b)=decide (a=b):=by
 cases q:aD (.int a) (.int b)
 ·exact (Xp fun z=>by rw[z,eT] at q;cases q).symm
 ·simp only[aD] at q
  exact (NN (Y_ q)).symm
noncomputable def CD:GD:=fun ys ai K=>∃ (m:Int) (ws:List (Int × Int × Int)),bP m ws/\ys=[.p (aN m ws)]/\ai=[]/\∀ ns,bx ws ns->K (.n ((mK m ws ns).map D.int)) []
noncomputable def CF:WS:=(ay (aL 1 (au 1 Co (aj (aa 0) ag))) (ay (aL 2 (qJ ag)) (ay (aL 3 (au 2 vR (aj (aa 0) (aj (aa 2) ag)))) (ay (dR (bO (aa 1)) (bG 4) (ay (aL 5 (d2 (d2 (aa 0) (dC (.int 1)) aW) (aa 4) aW)) (bo (dT (d2 (d2 (aa 3) (d2 (aa 5) (dC (.int 0)) aW) aW) (d2 (aa 3) (d2 (aa 5) (dC (.int 1)) aW) aW) jg)) (ay (kW (iS (aa 2) (aj (aa 4) ag))) (aL 3 (au 3 vQ (aj (aa 3) (aj (d2 (aa 5) (dC (.int 0)) aW) (aj (d2 (aa 5) (dC (.int 1)) aW) ag)))))) cK))) (aI (xR (aj (aa 2) ag) xS))))))
theorem SQ:∀ ys ai K',ys.length=1->CD ys ai K'->CF (bI ai.length K') ⟨ys.map some ++ List.replicate 5 none,ai.map some⟩:=by
 rintro ys ai K' - ⟨m,ws,W,rfl,rfl,k⟩;have pT:=W.iq;have m1:=W.m1;have f_:=W.f_;unfold CF;refine aU fun N hN => ?_;simp? only [];refine⟨m,ws,W,rfl,rfl,fun ns ho => ?_⟩;simp? only [];subst hN;refine aU fun N hN => ?_;simp? only [];subst hN;refine aU fun N hN => ?_;simp? only [];refine⟨m,ws,[],W,fun n hn=>absurd hn Ym,.inr ⟨rfl,rfl,?_⟩⟩;simp? only [];subst hN;refine aU fun N hN=>pM fun g' b' K2 hg hb' hK => ?_;simp? only [];subst hg hb' hK;have il:(aR m.toNat).length=m.toNat:=by unfold aR;simp
 have hlen:=ho.len
 have inv:∀ i,(fZ ws (aR m.toNat) (ns.take i)).2.length=m.toNat/\(fZ ws (aR m.toNat) (ns.take i)).1.length <= 30:=fun i=>by
  obtain⟨l,h1,h2,h3⟩:=CB ws (ns.take i) ([],aR m.toNat);refine⟨h3.trans il,?_⟩;have:(fZ ws (aR m.toNat) (ns.take i)).1=l:=h1;rw[this];have:=h2.length_le;rw[Yr] at this;omega
 refine mz (fun i δ => δ = ⟨[some (.p (aN m ws)),some (.p (.lst (ns.map D.int))),some (.o 0),some (.p (bt (fZ ws (aR m.toNat) (ns.take i)).2)),none,none],[some (.lst ((fZ ws (aR m.toNat) (ns.take i)).1.map D.int))]⟩) rfl ?_ ?_
 ·rintro i d δ L hi rfl hL
  rw[My] at hi;obtain⟨n,wa,rfl⟩:=Xt.mp hi;obtain⟨n0,n1⟩:=ho.nums n (Yf wa);obtain⟨y,ey,hy,ea,a,b,e1,e2,h1,h2,_⟩:=lG W n0 n1;have en:bK ws n=(a,b):=by unfold bK;rw[ey,e1,e2,Ya,Ya]
  obtain⟨hf,hl⟩:=inv i
  have step:fZ ws (aR m.toNat) (ns.take (i + 1))=jQ ws (fZ ws (aR m.toNat) (ns.take i)) n:=by
   have:ns.take (i + 1)=ns.take i ++ [n]:=by rw[ZP,wa];rfl
   rw[this];unfold fZ;rw[q0H];rfl
  have eA:=hL _ rfl;rw[step] at eA;generalize fZ ws (aR m.toNat) (ns.take i)=st at hf hl eA;obtain⟨acc,fs⟩:=st;dsimp only at hf hl eA ⊢;unfold jQ at eA;rw[en] at eA;dsimp only at eA;refine⟨trivial,?_⟩;simp only[bG,YC,YD];refine aU fun N2 eg => ?_;simp? only [d_,aN,ea];subst eg;have a1:=mI (ns:=fs) (i:=a) (by omega);have a2:=mI (ns:=fs) (i:=b) (by omega);refine jh fun Ay Bn hA hB => ?_;simp? only [fB,d_,bV,e1,e2,bt,a1,a2,lO]
  by_cases q:fs.getD a 0=fs.getD b 0
  ·rw[NN q]
   simp? only [];subst hB;rw[Xs q] at eA;simp? only [];exact eA
  ·rw[Xp q]
   simp? only [];subst hA;rw[NM q] at eA;refine aU fun N2 eg => ?_;simp? only [];refine⟨by omega,?_⟩;subst eg;simp? only [fB,d_];refine⟨fs,a,b,rfl,rfl,by omega,by omega,by omega,?_⟩;simp? only [];rw[Yt] at eA;exact eA
 ·rintro δ rfl
  refine⟨trivial,?_⟩;obtain⟨hf,hl⟩:=inv ns.length;rw[qx,Yv (uu _)] at *;show N _;subst hN;simp? only [xS,nQ];exact⟨by omega,[],rfl,rfl,.inl (k ns ho)⟩
noncomputable def CG (m:Int) (ws:List (Int × Int × Int)) (us ns:List Int):List Int:=sortI (lN ws us (aR m.toNat) ns).1
noncomputable def CH:GD:=fun ys ai K=>∃ (m:Int) (ws:List (Int × Int × Int)) (us:List Int),bP m ws/\ys=[.p (aN m ws),.p (bt us)]/\ai=[]/\∀ ns,bx ws ns->K (.p (bt (CG m ws us ns))) []
noncomputable def CI:WS:=(ay (aL 2 (vh (aj (d2 (aa 0) (dC (.int 0)) aW) ag))) (ay (aL 3 (qJ ag)) (ay (dR (bO (au 1 Cr (aj (aa 0) ag))) (bG 4) (ay (jG (fy (bO (hV (d2 (d2 (aa 0) (dC (.int 1)) aW) (aa 4) aW) hU (pF (dC (.int 2))))) [none,some 2] (bG 0) dA (d2 (aa 1) (aa 0) aW)) (jF 2 (e8 (bG 5) (e8 (bG 6) je)))) (bo (gB (dT (d2 (aa 4) (aa 1) (iA false))) (dT (d2 (aa 5) (aa 6) jg))) (ay (aL 2 (fy (bO (aa 2)) [none,some 5,some 6] (bG 0) dA (xg (dT (d2 (aa 0) (aa 2) oEq)) (aa 1) (aa 0)))) (kW (iS (aa 3) (aj (aa 4) ag)))) cK))) (aI (dN (aj (aa 3) ag) xJ)))))
theorem SS {us:List Int} {n:Int}:((us.map D.int).any fun e=>aD e (.int n))=decide (n∈us):=by
 cases q:(us.map D.int).any fun e=>aD e (.int n)
 ·refine (Xp fun z => ?_).symm
  have:=Zm.mp q (.int n) (Za z);exact this (eT _)
 ·obtain⟨e,he,h⟩:=q0R.mp q
  obtain⟨z,hz,rfl⟩:=X0.mp he;rw[lO] at h;rw[<-YQ h];exact (NN hz).symm
theorem IK:∀ us:List Int,bw (us.map D.int) <= 55
 | []=>by simp[bw]
 | n :: r=>by
  have:=IK r;simp only[Yd,bw,dep];omega
theorem SU:∀ ys ai K',ys.length=2->CH ys ai K'->CI (bI ai.length K') ⟨ys.map some ++ List.replicate 5 none,ai.map some⟩:=by
 rintro ys ai K' - ⟨m,ws,us,W,rfl,rfl,k⟩;have pT:=W.iq;have m1:=W.m1;have f_:=W.f_;have il:(aR m.toNat).length=m.toNat:=by unfold aR;simp
 unfold CI;refine aU fun N hN => ?_;simp? only [fB,aN];refine⟨⟨by omega,by omega⟩,?_⟩;subst hN;rw[nW];refine aU fun N hN => ?_;simp? only [];subst hN;refine aU fun N hN=>pM fun g' b' K2 hg hb' hK => ?_;simp? only [];refine⟨m,ws,W,rfl,rfl,fun ns ho => ?_⟩;simp? only [bt];subst hg hb' hK;have hlen:=ho.len
 have inv:∀ i,(lN ws us (aR m.toNat) (ns.take i)).2.length=m.toNat/\(lN ws us (aR m.toNat) (ns.take i)).1.length <= 30:=fun i=>by
  obtain⟨l,h1,h2,h3⟩:=IJ ws us (ns.take i) ([],aR m.toNat);refine⟨h3.trans il,?_⟩;have:(lN ws us (aR m.toNat) (ns.take i)).1=l:=h1;rw[this];have:=h2.length_le;rw[Yr] at this;omega
 refine mz (fun i δ => δ = ⟨[some (.p (aN m ws)),some (.p (bt us)),some (.p (bt (lN ws us (aR m.toNat) (ns.take i)).2)),some (.o 0),none,none,none],[some (.lst ((lN ws us (aR m.toNat) (ns.take i)).1.map D.int))]⟩) rfl ?_ ?_
 ·rintro i d δ L hi rfl hL
  rw[My] at hi;obtain⟨n,wa,rfl⟩:=Xt.mp hi;obtain⟨n0,n1⟩:=ho.nums n (Yf wa);obtain⟨y,ey,hy,ea,a,b,e1,e2,h1,h2,_⟩:=lG W n0 n1;have en:bK ws n=(a,b):=by unfold bK;rw[ey,e1,e2,Ya,Ya]
  obtain⟨hf,hl⟩:=inv i
  have step:lN ws us (aR m.toNat) (ns.take (i + 1))=lM ws us (lN ws us (aR m.toNat) (ns.take i)) n:=by
   have:ns.take (i + 1)=ns.take i ++ [n]:=by rw[ZP,wa];rfl
   rw[this];unfold lN;rw[q0H];rfl
  have eA:=hL _ rfl;rw[step] at eA;generalize lN ws us (aR m.toNat) (ns.take i)=st at hf hl eA;obtain⟨acc,fs⟩:=st;dsimp only at hf hl eA ⊢;unfold lM at eA;rw[en] at eA;dsimp only at eA;refine⟨trivial,?_⟩;simp only[bG,YC,YD];have a1:=mI (ns:=fs) (i:=a) (by omega);have a2:=mI (ns:=fs) (i:=b) (by omega);refine aU fun N2 eg => ?_;have ec:cutD [D.int y.1,D.int y.2.1,D.int y.2.2] none (some 2)=[D.int a,D.int b]:=by rw[<-e1,<-e2];rfl
  simp? only [d_,aN,ea,bV,ec]
  refine L2.j8 (fun d=>match d with
   | .int z => .int (fs.getD z.toNat 0)
   | _ => .non) (by show 2 <= 1000;decide) trivial ?_ ?_
  ·intro d hd acc L' ha h'
   simp only[Xq,Ym,ZX] at hd;rcases hd with rfl | rfl
   ·simp? only [bt,a1]
    simp only[Ya] at h';exact⟨ha,h'⟩
   ·simp? only [bt,a2]
    simp only[Ya] at h';exact⟨ha,h'⟩
  ·simp? only [Ya]
   subst eg;refine jh fun Ay Bn hA hB => ?_;simp? only [bt,SS,lO];refine⟨IK us,?_⟩
   by_cases q1:n∈us
   ·rw[NN q1]
    simp? only []
    by_cases q:fs.getD a 0=fs.getD b 0
    ·rw[NN q]
     simp? only [];subst hB;rw[NM fun z=>z.2 q] at eA;simp? only [];exact eA
    ·rw[Xp q]
     simp? only [];subst hA;rw[Xs ⟨q1,q⟩] at eA;refine aU fun N2 eg => ?_;simp? only [bt]
     refine L2.j8 (fun d=>match d with
      | .int x => .int (if x=fs.getD b 0 then fs.getD a 0 else x)
      | _ => .non) (by rw[qx];omega) trivial ?_ ?_
     ·intro d hd acc L' ha h'
      obtain⟨z,_,rfl⟩:=X0.mp hd;dsimp only at h';simp? only [lO]
      by_cases qz:z=fs.getD b 0
      ·rw[NN qz]
       simp? only [];rw[Xs qz] at h';exact⟨ha,h'⟩
      ·rw[Xp qz]
       simp? only [];rw[NM qz] at h';exact⟨ha,h'⟩
     ·have e:(fs.map D.int).map (fun d=>match d with
       | .int x=>D.int (if x=fs.getD b 0 then fs.getD a 0 else x)
       | _ => .non)=(jP (fs.getD b 0) (fs.getD a 0) fs).map D.int:=by
       unfold jP;rw[Yj,Yj];rfl
      rw[e];simp? only [];subst eg;simp? only [];rw[Yt] at eA;exact⟨by omega,eA⟩
   ·rw[Xp q1]
    simp? only [];subst hB;rw[NM fun z=>q1 z.1] at eA;simp? only [];exact eA
 ·rintro δ rfl
  refine⟨trivial,?_⟩;obtain⟨hf,hl⟩:=inv ns.length;rw[qx,Yv (uu _)] at *;show N _;subst hN;simp? only [xJ,nQ];exact⟨by omega,[],rfl,rfl,k ns ho⟩
theorem SV {m:Int} {ws:List (Int × Int × Int)} (W:bP m ws) {ns:List Int} (ho:bx ws ns):mK m ws ns=CG m ws (aR ws.length) ns:=by
 unfold mK CG fZ lN;rw[CC W (us:=aR ws.length) (fun n hn=>⟨ho.nums n hn,ho.perm.mem_iff.mp hn⟩) ⟨by unfold aR;simp,by unfold aR;simp,fun _ _ _ _=>Iff.rfl⟩]
end LJ
namespace LJ
open PySem L2
noncomputable abbrev Wy:=Int × Int × Int
noncomputable def yn (S:Wy->Prop) (a b:Int):Prop:=∃ w,S w/\((w.1=a/\w.2.1=b)\/(w.1=b/\w.2.1=a))
inductive ax (S:Wy->Prop) (a:Int):Int->Prop
 | rf:ax S a a
 | st {b c:Int}:ax S a b->yn S b c->ax S a c
section
variable {S S':Wy->Prop} {a b c:Int}
theorem yn.symm (h:yn S a b):yn S b a:=let ⟨w,h1,h2⟩:=h; ⟨w,h1,h2.symm⟩
theorem ax.trans (h:ax S a b) (h':ax S b c):ax S a c:=by
 induction h' with
 | rf=>exact h
 | st _ e ih=>exact .st ih e
theorem ax.symm (h:ax S a b):ax S b a:=by
 induction h with
 | rf=>exact .rf
 | st _ e ih=>exact (ax.st .rf e.symm).trans ih
theorem ax.bind (h:ax S a b) (k:∀ w,S w->ax S' w.1 w.2.1):ax S' a b:=by
 induction h with
 | rf=>exact .rf
 | st _ e ih =>
  obtain⟨w,h1,h2⟩:=e;rcases h2 with⟨rfl,rfl⟩ | ⟨rfl,rfl⟩
  ·exact ih.trans (k w h1)
  ·exact ih.trans (k w h1).symm
theorem ax.one {w:Wy} (h:S w):ax S w.1 w.2.1 := .st .rf ⟨w,h,.inl ⟨rfl,rfl⟩⟩
theorem ax.mono (h:ax S a b) (k:∀ w,S w->S' w):ax S' a b:=h.bind fun w hw => .one (k w hw)
theorem ax.none (h:ax S a b) (k:∀ w,¬ S w):a=b:=by
 cases h with
 | rf=>rfl
 | st _ e=>obtain⟨w,h1,_⟩:=e;exact absurd h1 (k w)
theorem ax.add {w:Wy} (k:∀ v,S' v↔S v\/v=w):ax S' a b↔ax S a b\/(ax S a w.1/\ax S w.2.1 b)\/(ax S a w.2.1/\ax S w.1 b):=by
 constructor
 ·intro h
  induction h with
  | rf=>exact .inl .rf
  | st _ e ih =>
   rename_i b c _;obtain⟨v,h1,h2⟩:=e;rcases (k v).mp h1 with h1 | rfl
   ·have e':ax S b c := .st .rf ⟨v,h1,h2⟩
    rcases ih with i | ⟨i,j⟩ | ⟨i,j⟩
    ·exact .inl (i.trans e')
    ·exact .inr (.inl ⟨i,j.trans e'⟩)
    ·exact .inr (.inr ⟨i,j.trans e'⟩)
   ·rcases h2 with⟨rfl,rfl⟩ | ⟨rfl,rfl⟩
    ·rcases ih with i | ⟨i,j⟩ | ⟨i,j⟩
     ·exact .inr (.inl ⟨i,.rf⟩)
     ·exact .inr (.inl ⟨i,.rf⟩)
     ·exact .inl i
    ·rcases ih with i | ⟨i,j⟩ | ⟨i,j⟩
     ·exact .inr (.inr ⟨i,.rf⟩)
     ·exact .inl i
     ·exact .inr (.inr ⟨i,.rf⟩)
 ·have up:∀ {x y},ax S x y->ax S' x y:=fun h=>h.mono fun v hv=>(k v).mpr (.inl hv)
  have o:ax S' w.1 w.2.1 := .one ((k w).mpr (.inr rfl));rintro (h | ⟨h,h'⟩ | ⟨h,h'⟩)
  ·exact up h
  ·exact ((up h).trans o).trans (up h')
  ·exact ((up h).trans o.symm).trans (up h')
end
variable [aK]
noncomputable def bq (n:Nat) (fs:List Int) (S:Wy->Prop):Prop:=fs.length=n/\∀ i j:Nat,i < n->j < n->(fs.getD i 0=fs.getD j 0↔ax S i j)
theorem IL {n i:Nat} (h:i < n):(aR n).getD i 0=i:=by
 unfold aR;rw[Fs,My,YM h];rfl
theorem bq.start (n:Nat):bq n (aR n) (fun _=>False):=by
 refine⟨by unfold aR;simp,fun i j hi hj => ?_⟩;rw[IL hi,IL hj];exact⟨fun e=>by rw[e];exact .rf,fun h=>h.none fun _ z=>z⟩
theorem bq.join {n i j:Nat} {fs:List Int} {S S':Wy->Prop} {w:Wy} {p q:Int} (h:bq n fs S) (hi:i < n) (hj:j < n) (e1:w.1=i) (e2:w.2.1=j) (k:∀ v,S' v↔S v\/v=w) (pq:(p=fs.getD i 0/\q=fs.getD j 0)\/(p=fs.getD j 0/\q=fs.getD i 0)):bq n (jP p q fs) S':=by
 refine⟨by unfold jP;rw[qx,h.1],fun x y hx hy => ?_⟩;unfold jP;rw[tG (by rw[h.1];exact hx),tG (by rw[h.1];exact hy),CA,ax.add k,e1,e2,<-h.2 x y hx hy,<-h.2 x i hx hi,<-h.2 x j hx hj,<-h.2 j y hj hy,<-h.2 i y hi hy];rcases pq with⟨rfl,rfl⟩ | ⟨rfl,rfl⟩
 ·constructor
  ·rintro (h | ⟨h1 | h1,h2 | h2⟩)
   ·exact .inl h
   ·exact .inl (h1.trans h2.symm)
   ·exact .inr (.inl ⟨h1,h2.symm⟩)
   ·exact .inr (.inr ⟨h1,h2.symm⟩)
   ·exact .inl (h1.trans h2.symm)
  ·rintro (h | ⟨h1,h2⟩ | ⟨h1,h2⟩)
   ·exact .inl h
   ·exact .inr ⟨.inl h1,.inr h2.symm⟩
   ·exact .inr ⟨.inr h1,.inl h2.symm⟩
 ·constructor
  ·rintro (h | ⟨h1 | h1,h2 | h2⟩)
   ·exact .inl h
   ·exact .inl (h1.trans h2.symm)
   ·exact .inr (.inr ⟨h1,h2.symm⟩)
   ·exact .inr (.inl ⟨h1,h2.symm⟩)
   ·exact .inl (h1.trans h2.symm)
  ·rintro (h | ⟨h1,h2⟩ | ⟨h1,h2⟩)
   ·exact .inl h
   ·exact .inr ⟨.inr h1,.inl h2.symm⟩
   ·exact .inr ⟨.inl h1,.inr h2.symm⟩
theorem bq.ff {n i j:Nat} {fs:List Int} {S S':Wy->Prop} {w:Wy} (h:bq n fs S) (hi:i < n) (hj:j < n) (e1:w.1=i) (e2:w.2.1=j) (k:∀ v,S' v↔S v\/v=w) (e:fs.getD i 0=fs.getD j 0):bq n fs S':=by
 refine⟨h.1,fun x y hx hy=>(h.2 x y hx hy).trans ?_⟩;have ij:=(h.2 i j hi hj).mp e;rw[ax.add k,e1,e2];exact⟨.inl,fun z=>z.elim id fun z=>z.elim (fun ⟨a,b⟩=>(a.trans ij).trans b) fun ⟨a,b⟩=>(a.trans ij.symm).trans b⟩
noncomputable def av (ws:List Wy) (n:Int):Wy:=ws.getD n.toNat (0,0,0)
theorem SW {m:Int} {ws:List Wy} (W:bP m ws):∀ (ns:List Int),Nums ws ns->ns.Nodup->bq m.toNat (fZ ws (aR m.toNat) ns).2 (fun v=>∃ k∈ns,v=av ws k) ∧
  ∀ n,n∈(fZ ws (aR m.toNat) ns).1↔∃ as bs,ns=as ++ n :: bs/\¬ ax (fun v=>∃ k∈as,v=av ws k) (av ws n).1 (av ws n).2.1:=by
 intro ns
 have rev:∀ (rs:List Int),Nums ws rs.reverse->rs.reverse.Nodup->bq m.toNat (fZ ws (aR m.toNat) rs.reverse).2 (fun v=>∃ k∈rs.reverse,v=av ws k) ∧
  ∀ n,n∈(fZ ws (aR m.toNat) rs.reverse).1↔∃ as bs,rs.reverse=as ++ n :: bs/\¬ ax (fun v=>∃ k∈as,v=av ws k) (av ws n).1 (av ws n).2.1:=by
  intro rs
  induction rs with
  | nil =>
   intro _ _;refine⟨?_,fun n=>⟨fun h=>absurd h Ym,fun ⟨as,bs,e,_⟩ => ?_⟩⟩
   ·refine⟨(bq.start _).1,fun i j hi hj=>((bq.start _).2 i j hi hj).trans ⟨fun h=>h.mono fun _ z=>z.elim,fun h=>h.mono fun v ⟨k,hk,_⟩=>absurd hk Ym⟩⟩
   ·exact absurd e (by simp)
  | cons r rs ih =>
   intro hn nd;rw[List.reverse_cons] at hn nd ⊢;have l4:Nums ws rs.reverse:=fun x hx=>hn x (Yz _ hx);have wb:=(Ze.mp nd).1;obtain⟨mk,mem⟩:=ih l4 wb;obtain⟨r0,r1⟩:=hn r (NK _ NO);obtain⟨y,ey,hy,_,i,j,e1,e2,h1,h2,_⟩:=lG W r0 r1;have ew:av ws r=y:=ey;have en:bK ws r=(i,j):=by unfold bK;rw[ey,e1,e2,Ya,Ya]
   have step:fZ ws (aR m.toNat) (rs.reverse ++ [r])=jQ ws (fZ ws (aR m.toNat) rs.reverse) r:=by unfold fZ;rw[q0H];rfl
   have kS:∀ v,(∃ k∈rs.reverse ++ [r],v=av ws k)↔(∃ k∈rs.reverse,v=av ws k)\/v=av ws r:=fun v=>by
    constructor
    ·rintro ⟨k,hk,rfl⟩
     rcases Ys.mp hk with hk | hk
     ·exact .inl ⟨k,hk,rfl⟩
     ·rw[Yn.mp hk];exact .inr rfl
    ·rintro (⟨k,hk,rfl⟩ | rfl)
     ·exact⟨k,Yz _ hk,rfl⟩
     ·exact⟨r,NK _ NO,rfl⟩
   have split:∀ n (P:List Int->Prop),(∃ as bs,rs.reverse ++ [r]=as ++ n :: bs/\P as)↔(∃ as bs,rs.reverse=as ++ n :: bs/\P as)\/(n=r/\P rs.reverse):=fun n P=>by
    constructor
    ·rintro ⟨as,bs,e,hp⟩
     rcases List.eq_nil_or_concat bs with rfl | ⟨IM,z,rfl⟩
     ·have:=List.append_inj' e rfl
      obtain⟨rfl,e3⟩:=this;cases e3
      exact .inr ⟨rfl,hp⟩
     ·have e':rs.reverse ++ [r]=(as ++ n :: IM) ++ [z]:=by rw[e];simp
      obtain⟨e3,_⟩:=List.append_inj' e' rfl;exact .inl ⟨as,IM,e3,hp⟩
    ·rintro (⟨as,bs,e,hp⟩ | ⟨rfl,hp⟩)
     ·exact⟨as,bs ++ [r],by rw[e];simp,hp⟩
     ·exact⟨rs.reverse,[],rfl,hp⟩
   rw[step];unfold jQ;rw[en];dsimp only;have IP:=mk.2 i j h1 h2
   by_cases q:(fZ ws (aR m.toNat) rs.reverse).2.getD i 0=(fZ ws (aR m.toNat) rs.reverse).2.getD j 0
   ·rw[Xs q]
    refine⟨mk.ff (w:=av ws r) h1 h2 (by rw[ew];exact e1) (by rw[ew];exact e2) kS q,fun n => ?_⟩;rw[split n (fun as=>¬ ax (fun v=>∃ k∈as,v=av ws k) (av ws n).1 (av ws n).2.1),mem n];refine⟨.inl,fun z=>z.elim id fun ⟨e,hc⟩ => ?_⟩;subst e;rw[ew,e1,e2] at hc;exact absurd (IP.mp q) hc
   ·rw[NM q]
    refine⟨?_,fun n => ?_⟩
    ·dsimp only
     rw[IH];exact mk.join (w:=av ws r) h1 h2 (by rw[ew];exact e1) (by rw[ew];exact e2) kS (II _ _)
    ·rw[split n (fun as=>¬ ax (fun v=>∃ k∈as,v=av ws k) (av ws n).1 (av ws n).2.1)]
     dsimp only;rw[Ys,mem n,Yn];refine or_congr Iff.rfl ⟨fun e=>⟨e,?_⟩,fun h=>h.1⟩;subst e;rw[ew,e1,e2];exact fun z=>q (IP.mpr z)
 intro hn nd;have:=rev ns.reverse (by rw[q0U];exact hn) (by rw[q0U];exact nd);rw[q0U] at this;exact this
noncomputable def iE (w:Wy):LK:=[w.2.2,w.1,w.2.1]
noncomputable def e_ (v w:Wy):Prop:=HT.lexLt (iE v) (iE w)=true
noncomputable def gH (ws:List Wy) (w:Wy):Prop:=w∈ws/\¬ ax (fun v=>v∈ws/\e_ v w) w.1 w.2.1
theorem IQ (ws:List Wy) (n:Int):bM ws n=iE (av ws n):=rfl
theorem yo {ws:List Wy} {n:Int} (h0:0 <= n) (h1:n < (ws.length:Int)):av ws n∈ws:=by
 unfold av;exact Yf (getD_some (by omega))
theorem wc {ws:List Wy} {w:Wy} (h:w∈ws):∃ n:Int,(0 <= n/\n < (ws.length:Int))/\av ws n=w:=by
 obtain⟨i,hi⟩:=X9.mp h;have hl:=(sA.mp hi).1;refine⟨i,⟨by omega,by omega⟩,?_⟩;unfold av;rw[Ya,Fs,hi];rfl
theorem IS {a b:LK} (h:kle a b) (n:a≠b):HT.lexLt a b=true:=by
 cases q:HT.lexLt a b with
 | true=>rfl
 | false=>exact absurd (vt q h) n
theorem SX {m:Int} {ws:List Wy} (W:bP m ws) {ns:List Int} (ho:bx ws ns) {n:Int}:n∈mK m ws ns↔(0 <= n/\n < (ws.length:Int))/\gH ws (av ws n):=by
 have nd:ns.Nodup:=ho.perm.nodup_iff.mpr (Ie _);unfold mK;rw[(sortI_perm _).mem_iff,(SW W ns ho.nums nd).2 n]
 have before:∀ as bs,ns=as ++ n :: bs->∀ v,(∃ k∈as,v=av ws k)↔(v∈ws/\e_ v (av ws n)):=fun as bs e v=>by
  have up:=ho.up;rw[e,Yt,Yd,List.pairwise_append,Zh] at up;obtain⟨_,⟨u2,_⟩,u3⟩:=up;have hn:n∈ns:=by rw[e];exact NK _ NO
  have nn:=ho.nums n hn;rw[e] at nd;have SY:=Ze.mp nd
  constructor
  ·rintro ⟨k,hk,rfl⟩
   have d9:k∈ns:=by rw[e];exact Yz _ hk
   have kn:=ho.nums k d9;refine⟨yo kn.1 kn.2,IS (u3 _ (Za hk) _ NO) fun z => ?_⟩;have:=Cm W kn nn z;subst this;exact SY.2.2 k hk k NO rfl
  ·rintro ⟨hv,c5⟩
   obtain⟨k,kn,rfl⟩:=wc hv
   have hk:k∈ns:=ho.perm.mem_iff.mpr (by
    unfold aR
    exact X0.mpr ⟨k.toNat,Yq.mpr (by omega),by simp;omega⟩)
   rw[e] at hk;rcases Ys.mp hk with hk | hk
   ·exact⟨k,hk,rfl⟩
   ·exfalso
    rcases Xq.mp hk with rfl | hk
    ·have:HT.lexLt (iE (av ws k)) (iE (av ws k))=true:=c5
     rw[rh] at this;cases this
    ·have:=u2 _ (Za hk)
     have h2:HT.lexLt (bM ws k) (bM ws n)=true:=c5;unfold kle at this;rw[this] at h2;cases h2
 constructor
 ·rintro ⟨as,bs,e,hc⟩
  have nn:=ho.nums n (by rw[e];exact NK _ NO);exact⟨nn,yo nn.1 nn.2,fun z=>hc (z.mono fun v hv=>(before as bs e v).mpr hv)⟩
 ·rintro ⟨nn,_,hc⟩
  have hn:n∈ns:=ho.perm.mem_iff.mpr (by
   unfold aR
   exact X0.mpr ⟨n.toNat,Yq.mpr (by omega),by simp;omega⟩)
  obtain⟨as,bs,e⟩:=List.append_of_mem hn;exact⟨as,bs,e,fun z=>hc (z.mono fun v hv=>(before as bs e v).mp hv)⟩
theorem S7 {m:Int} {ws:List Wy} {ns:List Int} (ho:bx ws ns):(mK m ws ns).Nodup:=by
 unfold mK;refine (sortI_perm _).nodup_iff.mpr ?_;obtain⟨l,h1,h2,_⟩:=CB ws ns ([],aR m.toNat);have:(fZ ws (aR m.toNat) ns).1=l:=h1;rw[this];exact (ho.perm.nodup_iff.mpr (Ie _)).sublist h2
theorem S8 {m:Int} {ws:List Wy} (W:bP m ws):ws.Nodup:=by
 have:=W.unlike;unfold List.Nodup at this ⊢;rw[Zl] at this;exact this.imp fun {a b} h e=>h (by rw[e])
noncomputable def f6 (ws:List Wy) (w:Wy):Nat:=ws.countP fun v=>HT.lexLt (iE v) (iE w)
theorem IT {α : Type} {p q : α -> Bool} {x : α}:∀ {l:List α},(∀ y∈l,p y=true->q y=true)->x∈l->q x=true->p x=false->l.countP p < l.countP q
 | y :: l,h,hx,h1,h2=>by
  have le:l.countP p <= l.countP q:=List.countP_mono_left fun z hz=>h z (Xu _ hz);rw[Z1,Z1];rcases Xq.mp hx with rfl | hx
  ·rw[h1,h2];simp;omega
  ·have:=IT (fun z hz=>h z (Xu _ hz)) hx h1 h2
   have hy:=h y NO
   cases q1:p y with
   | false=>simp;split<;>omega
   | true=>rw[hy q1];simp;omega
theorem pU {ws:List Wy} {u v:Wy} (hu:u∈ws) (h:e_ u v):f6 ws u < f6 ws v :=
 IT (fun y _ hy=>sU hy h) hu h (rh _)
theorem CJ {ws:List Wy}:∀ (k:Nat) (v:Wy),v∈ws->f6 ws v <= k->ax (fun u=>gH ws u/\(e_ u v\/u=v)) v.1 v.2.1
 | k,v,hv,hk=>by
  by_cases t:gH ws v
  ·exact .one ⟨t,.inr rfl⟩
  ·have c:ax (fun u=>u∈ws/\e_ u v) v.1 v.2.1:=Zq fun z=>t ⟨hv,z⟩
   refine c.bind fun u hu => ?_;have lt:=pU hu.1 hu.2
   match k,hk with
   | 0,hk=>omega
   | k + 1,hk =>
    refine (CJ k u hu.1 (by omega)).mono fun x hx=>⟨hx.1,.inl ?_⟩;rcases hx.2 with h | rfl
    ·exact sU h hu.2
    ·exact hu.2
theorem tH (n:Nat):(aR n).length=n:=by unfold aR;simp
theorem S9 {m:Int} {ws:List Wy} (W:bP m ws) {n:Int} (h0:0 <= n) (h1:n < (ws.length:Int)):∃ i k:Nat,bK ws n=(i,k)/\(av ws n).1=i/\(av ws n).2.1=k/\i < m.toNat/\k < m.toNat:=by
 obtain⟨y,ey,hy,_,i,k,e1,e2,h1,h2,_⟩:=lG W h0 h1;refine⟨i,k,?_,by unfold av;rw[ey];exact e1,by unfold av;rw[ey];exact e2,h1,h2⟩;unfold bK;rw[ey,e1,e2,Ya,Ya]
theorem IU {m:Int} {ws:List Wy} (W:bP m ws):∀ (ns fs:List Int) (S:Wy->Prop),Nums ws ns->bq m.toNat fs S->bq m.toNat (jN ws fs ns) (fun v=>S v\/∃ k∈ns,v=av ws k)
 | [],fs,S,_,h=>by
  have:(fun v=>S v\/∃ k∈([]:List Int),v=av ws k)=S:=funext fun v=>propext (by simp);rw[this];exact h
 | n :: ns,fs,S,hn,h=>by
  have b:=hn n (NO ..);obtain⟨i,k,e,e1,e2,h1,h2⟩:=S9 W b.1 b.2
  have step:bq m.toNat (jM fs i k) (fun v=>S v\/v=av ws n):=by
   refine bq.join (w:=av ws n) (p:=max (fs.getD i 0) (fs.getD k 0)) (q:=min (fs.getD i 0) (fs.getD k 0)) h h1 h2 e1 e2 (fun v=>Iff.rfl) ?_;omega
  have:=IU W ns _ _ (fun x hx=>hn x (Xu _ hx)) step
  have eq:(fun v=>(S v\/v=av ws n)\/∃ k∈ns,v=av ws k)=(fun v=>S v\/∃ k∈n :: ns,v=av ws k):=funext fun v=>propext (by
   constructor
   ·rintro ((h | h) | ⟨k,hk,h⟩)
    ·exact .inl h
    ·exact .inr ⟨n,NO,h⟩
    ·exact .inr ⟨k,Xu _ hk,h⟩
   ·rintro (h | ⟨k,hk,h⟩)
    ·exact .inl (.inl h)
    ·rcases Xq.mp hk with rfl | hk
     ·exact .inl (.inr h)
     ·exact .inr ⟨k,hk,h⟩)
  rw[eq] at this;show bq _ (jN ws (jM fs (bK ws n).1 (bK ws n).2) ns) _;rw[e];exact this
noncomputable def eC (ws:List Wy) (ns:List Int):Wy->Prop:=fun v=>∃ k∈ns,v=av ws k
theorem IV {m:Int} {ws:List Wy} (W:bP m ws) {ns:List Int} (hn:Nums ws ns):bq m.toNat (s_ m ws ns) (eC ws ns):=by
 have:=IU W ns _ _ hn (bq.start m.toNat);have eq:(fun v=>False\/∃ k∈ns,v=av ws k)=eC ws ns:=funext fun v=>propext (by unfold eC;simp);rw[eq] at this;exact this
open Classical in
noncomputable def cls (n:Nat) (S:Wy->Prop) (h:Int):List Int:=(aR n).filter fun x=>decide (ax S h x)
theorem c9 {n:Nat} {x:Int}:x∈aR n↔0 <= x/\x < n:=by
 unfold aR
 constructor
 ·intro h
  obtain⟨k,hk,rfl⟩:=X0.mp h;have:=Yq.mp hk;omega
 ·intro h
  exact X0.mpr ⟨x.toNat,Yq.mpr (by omega),by omega⟩
theorem S_ (n:Nat):(aR n).Pairwise (· < ·):=by
 unfold aR;exact Zl.mpr ((List.pairwise_lt_range (n:=n)).imp fun h=>by omega)
open Classical in
theorem gJ {n:Nat} {S:Wy->Prop} {h x:Int}:x∈cls n S h↔(0 <= x/\x < n)/\ax S h x:=by
 unfold cls;rw[YT,c9,Y0]
open Classical in
theorem Ta (n:Nat) (S:Wy->Prop) (h:Int):(cls n S h).Pairwise (· < ·):=(S_ n).filter _
theorem CK:∀ a b:List Int,bR (a.map D.int) (b.map D.int)=decide (a=b)
 | [],[]=>by simp[bR]
 | [],_ :: _=>by simp[bR]
 | _ :: _,[]=>by simp[bR]
 | x :: a,y :: b=>by
  rw[Yd,Yd];simp only[bR];rw[lO,CK a b]
  by_cases e:x=y<;>by_cases e2:a=b<;>simp[e,e2]
theorem IW (a b:List Int):aD (bt a) (bt b)=decide (a=b):=by
 unfold bt;simp only[aD];exact CK a b
theorem tI:∀ us:List Int,bw (us.map D.int)=0
 | []=>by simp[bw]
 | u :: r=>by rw[Yd];simp only[bw,dep];rw[tI r];rfl
theorem rQ (l:List Int) (x:Int):((l.map D.int).any fun e=>aD e (.int x))=decide (x∈l):=by
 rw[List.any_map]
 cases q:decide (x∈l) with
 | true=>exact q0R.mpr ⟨x,YQ q,eT _⟩
 | false =>
  refine Zm.mpr fun y hy => ?_;show ¬ aD (.int y) (.int x)=true;rw[lO];intro z;have:=YQ z;subst this;exact of_decide_eq_false q hy
end LJ
namespace HT
open PySem PySem.Spec PyProof.Rows
theorem IX (A:Around) (s:Shared) (a:Int) (t:Tok) (c:Int) (u:Tok) (prog:Program) (w:World) (E:Value->Shared->Prop) (Q:Value->Shared->Prop) (h:Q (.bool (decide (c < a))) s) :
  wpAny (model prog w) A (richCompare .Gt (.int a t) (.int c u)) Q E s :=
 (PyProof.Rows.gt_int h:wpAny (model prog w) A (compareOp .Gt (.int a t) (.int c u)) Q E s)
section
open PySem.SeqAt
open PySem.AutoSeq1 (wpAny_loadPart')
open PySem.MeetsSeq PySem.MeetsSeq2 PySem.MeetsSeq3
theorem Tb (l b:Addr) (items aE:Array Value) (n n2:Nat) (dd ig:Option Addr) (sl ik:Array (Option Value)) (ns ms:List Int) (hi:IntsAre items.toList ns) (hj:IntsAre aE.toList ms) :
  Meets (Builtin.«tuple.__gt__» ⟨[.ref l,.ref b],[]⟩)
   (fun _ R s=>s.heap.get? l=some { cls := .type "tuple",dict:=dd,data := .seq items n,slots:=sl }/\s.heap.get? b=some { cls := .type "tuple",dict:=ig,data := .seq aE n2,slots:=ik } ∧
    R (.ok (.ret (.bool (lexLt ms ns)))) s) :=
 .of_wp fun prog w A R s h=>by
  obtain⟨hp,g,d,tk,os⟩:=s;obtain⟨hl,hb,h⟩:=h;have f2:=q0p;have z1:items.size=ns.length:=by rw[<-hi.length];simp
  have z2:aE.size=ms.length:=by rw[<-hj.length];simp
  wp_walk using YB hl,YB hb,Z2 _ (fun rest b s'=>b.1=none/\s'=⟨hp,g,d,tk,os⟩/\∃ (vs ws:List Value) (fG jw:List Int),rest=vs.zip ws ∧
   IntsAre vs fG/\IntsAre ws jw/\fG.length + aE.size=jw.length + items.size/\R (.ok (.ret (.bool (lexLt jw fG)))) ⟨hp,g,d,tk,os⟩) _
  case turn =>
   rintro ⟨y,x⟩ rest b s' ⟨hb',rfl,vs,ws,fG,jw,hz,qj,mZ,hlen,hR⟩
   cases qj with
   | nil=>rw[q0k] at hz;cases hz
   | cons a t qk =>
    cases mZ with
    | nil=>rw[q09] at hz;cases hz
    | cons c u ql =>
     rw[Y4] at hz;injection hz with uo gY;injection uo with hy hx;subst hy hx;rw[mY] at hR;simp only[Fq] at hlen;obtain⟨e,he,iK⟩:=zw A.in1 ⟨hp,g,d,tk,os⟩ a t c u;refine ni (he prog w _ _ ?_)
     cases e with
     | true =>
      rw[Xs (iK.mp rfl).symm] at hR
      wp_walk
      exact⟨rfl,rfl,_,_,_,_,gY,qk,ql,by omega,hR⟩
     | false =>
      rw[NM (fun q=>absurd (iK.mpr q.symm) X8)] at hR;have uq:=IX A.in1 ⟨hp,g,d,tk,os⟩ a t c u prog w
      wp_walk using uq
      exact⟨_,rfl,by simpa using hR⟩
  case fin =>
   rintro ⟨b1,b2⟩ s' ⟨hb',rfl,vs,ws,fG,jw,hz,qj,mZ,hlen,hR⟩;simp only at hb';subst hb'
   have hv:lexLt jw fG=decide (aE.size < items.size):=by
    cases qj with
    | nil =>
     cases mZ with
     | nil =>
      simp only[Y8] at hlen;rw[EU];exact (Xp (by omega)).symm
     | cons c u hw =>
      simp only[Y8,Fq] at hlen;rw[EW];exact (Xp (by omega)).symm
    | cons a t hv =>
     cases mZ with
     | nil =>
      simp only[Y8,Fq] at hlen;rw[EV];exact (NN (by omega)).symm
     | cons c u hw =>
      rw[Y4] at hz;cases hz
   rw[hv] at hR
   wp_walk
   exact⟨_,rfl,by simpa [Builtin.Tuple.tupleCompareSizes] using hR⟩
  case h =>
   exact⟨rfl,rfl,items.toList,aE.toList,ns,ms,rfl,hi,hj,by omega,h⟩
end
section
variable {prog:Program} {w:World} {A:Around} {E:Value->Shared->Prop} {s:Shared}
theorem IY {l b:Addr} {items aE:Array Value} {ns ms:List Int} {Q:Value->Shared->Prop} (hl:IsTup s.heap l items) (hb:IsTup s.heap b aE) (hi:IntsAre items.toList ns) (hj:IntsAre aE.toList ms)
  (hu:A.units < cLine) (h:Q (.bool (lexLt ms ns)) s):wpAny (model prog w) A (compareOp .Gt (.ref l) (.ref b)) Q E s:=by
 obtain⟨⟨cls,dd,data,sl⟩,ho,hc,n,hd⟩:=id hl;obtain⟨⟨m8,ig,data2,ik⟩,d6,eZ,n2,hd2⟩:=id hb;simp only at hc hd eZ hd2;subst hc hd eZ hd2
 exact q0F (op := .Gt) ⟨_,ho,rfl⟩ ⟨_,d6,rfl⟩ PySem.F.slot_tuple_gt PySem.F.entry_tuple_gt (PySem.F.args_tuple_gt_2 _ _) (Tb l b items aE n n2 dd ig sl ik ns ms hi hj)
  ⟨ho,d6,show Value.bool (lexLt ms ns)≠Value.notImplemented/\Q (.bool (lexLt ms ns)) s from ⟨(fun x=>nomatch x),h⟩⟩ hu
end
end HT
namespace L2
open PySem PySem.Spec PyProof.Rows PySem.W
noncomputable def f7:Bool->String
 | false => "min"
 | true => "max"
noncomputable def lP:Bool->String
 | false => "min.loop"
 | true => "max.loop"
noncomputable def CL:Bool->CmpOp
 | false => .Lt
 | true => .Gt
noncomputable def Tc:String->CmpOp->Builtin:=(fun (f:String->CmpOp->Builtin) (_:f "min" .Lt=Builtin.«min.loop»)=>f) _ rfl
noncomputable def Td:String->Builtin:=(fun (f:String->Builtin) (_:f "min" = Builtin.«min»)=>f) _ rfl
theorem yp (mx:Bool):entryFor table (lP mx)=some (Tc (f7 mx) (CL mx)):=by cases mx;exact PySem.F.entry_min_loop;exact PySem.F.entry_max_loop
theorem IZ (mx:Bool):entryFor table (f7 mx)=some (Td (f7 mx)):=by cases mx;exact PySem.F.entry_min;exact PySem.F.entry_max
theorem I_ (mx:Bool):builtinKind (f7 mx)=none:=by cases mx;exact PySem.F.kind_min;exact PySem.F.kind_max
theorem Ja (mx:Bool):plainId (f7 mx)=true:=by cases mx;exact PySem.F.plain_min;exact PySem.F.plain_max
theorem kj (mx:Bool):plainId (lP mx)=true:=by cases mx;exact PySem.F.plain_min_loop;exact PySem.F.plain_max_loop
noncomputable def jR:Bool->LK->LK->Prop
 | false,a,b=>kle a b
 | true,a,b=>kle b a
noncomputable def we:Bool->LK->LK->Bool
 | false,a,b=>HT.lexLt a b
 | true,a,b=>HT.lexLt b a
theorem yq (mx:Bool) (a:LK):jR mx a a:=by cases mx<;>exact kle_refl _
theorem Jb {mx:Bool} {a b c:LK} (h:we mx a b=true) (k:jR mx b c):jR mx a c:=by
 cases mx
 ·exact kle_trans (sV h) k
 ·exact kle_trans k (sV h)
theorem Jc {mx:Bool} {a b:LK} (h:¬ we mx a b=true):jR mx b a:=by cases mx<;>exact Bool.eq_false_iff.mpr h
theorem Te {prog:Program} {w:World} {A:Around} {E:Value->Shared->Prop} {s:Shared} {mx:Bool} {l b:Addr} {items aE:Array Value} {ns ms:List Int} {Q:Value->Shared->Prop} (hl:IsTup s.heap l items) (hb:IsTup s.heap b aE) (hi:IntsAre items.toList ns) (hj:IntsAre aE.toList ms)
  (hu:A.units < cLine) (h:Q (.bool (we mx ns ms)) s):wpAny (model prog w) A (richCompare (CL mx) (.ref l) (.ref b)) Q E s:=by
 cases mx
 ·exact HT.zy hl hb hi hj hu h
 ·exact HT.IY hl hb hi hj hu h
theorem Tf (mx:Bool) (a v d:Value):argsOk (f7 mx) ⟨[a],[(Str.ofString "key",v),(Str.ofString "default",d)]⟩:=by cases mx<;>(unfold argsOk;kernel_rfl)
section
variable {X:Cx} {pins:List (Addr × Obj)} {σ : St} {H:Hp} {s:Shared} {E:Value->Shared->Prop} {l q I S:Addr} {P:List V->Hp->Prop} {xs:List V} {d:Value} {R:Result->Shared->Prop}
noncomputable def Tg (mx:Bool) (kf:Nat->LK) (xs af:List V) (gn:Array Value):Prop :=
 (af=[]/\gn = #[])\/∃ (b:Nat) (x:V) (vb:Value) (t:Addr),b < af.length/\xs[b]? = some x/\RelV x vb/\af[b]? = some (.ref t)/\gn = #[vb,.ref t]/\∀ j,j < af.length->jR mx (kf b) (kf j)
theorem Th (mx:Bool) (kf:Nat->LK) (hh:X.A.handled=none) (hu:X.A.units + 1 < cLine) (lQ:l≠I) (lR:S≠I) (fI:∀ H',H' I=none->a_ X pins H' I) (fS:∀ H',H' S=none->a_ X pins H' S)
  (hl:∀ af H',P af H'->H' l=some (.lst xs)) (hP:∀ af H',P af H'->∀ i,i < af.length->∃ t,af[i]? = some (.ref t)/\H' t=some (.tup ((kf i).map V.int)))
  (iV:∀ (bu:List (Addr × Obj)) (x:V) (u:Value) (af:List V) (H':Hp) (s':Shared),xs[af.length]? = some x->RelV x u->Inv X bu σ H' s'->P af H'->wpAny (model X.prog X.w) X.A.in1 (call (.ref q) [u]) (EP X bu σ fun k iy=>P (af ++ [k]) iy) (fun _ _=>False) s')
  (fin:∀ af H' s',af.length=xs.length->P af H'->Inv X pins σ H' s'->(xs=[]->R (.ok (.ret d)) s')/\∀ (b:Nat) (x:V) (u:Value),xs[b]? = some x->RelV x u->(∀ j,j < xs.length->jR mx (kf b) (kf j))->R (.ok (.ret u)) s') :
  ∀ (r:Nat) (af:List V) (H':Hp) (s':Shared) (gn:Array Value) (c:Nat) (oI:Obj),af.length + r=xs.length->Inv X ((S,seqObj "list" gn c) :: (I,oI) :: pins) σ H' s'->P af H'->oI.cls = .type "list_iterator" -> oI.data = .fields #[.ref l,.int af.length 0]->Tg mx kf xs af gn →
   codeAny (model X.prog X.w) X.A (.builtin (lP mx) ⟨[.ref I,.ref q,.ref S],[(Str.ofString "default",d)]⟩) R s':=by
 have cZ:(toString (f7 mx) ++ toString ".loop" : String)=lP mx:=by cases mx<;>decide
 intro r
 induction r with
 | zero =>
  intro af H' s' gn c oI hr J pk l8 rR hb;have pS:=J.pin (S,seqObj "list" gn c) (NK _ (.head _));have pI:=J.pin (I,oI) (NK _ (.tail _ (.head _)));have Jn:=J.bH.bH;obtain⟨aq,rv,pl,_⟩:=Jn.list (bz.of (hl af H' pk));have lv:aq.length=xs.length:=rv.length.symm;have CM:af.length=aq.length:=by omega
  refine Zp (yp mx) ?_;rw[Y5 (kj mx) _];show wpAny _ X.A.in1 (seqItems? (.ref S) >>= _) _ _ _;refine ni (YN pS.1 rfl ?_);show wpAny _ X.A.in1 (tryCatch (pyNext (.ref I)) _ >>= _) _ _ _;have W:=q0P (prog:=X.prog) (w:=X.w) (A:=X.A.in1) hh I l lQ aq.toArray;refine ni (Z5 (W.done _ _ _ ⟨⟨oI,pI.1,l8,by rw[rR,wO,<-CM]⟩,q0t pl⟩ fun h' jK d9 => ?_));have J1:Inv X pins σ H' { s' with heap:=h',toks:=jK }:=Jn.cb (fI H' pI.2.1) fun c o n e=>d9 c o (by simpa using n) e;have jj:=d9 S _ (by simpa using lR) pS.1;rcases hb with⟨mB,rfl⟩ | ⟨b,x,vb,t,hb,hx,rx,ht,rfl,best⟩
  ·refine ni (q0Q (zR ?_))
   refine (fin af H' _ (by omega) pk J1).1 ?_
   cases xs with
   | nil=>rfl
   | cons _ _=>rw[mB] at hr;simp at hr
  ·have s1:=Yo h' S (Obj.mapSeq fun _=>(#[]:Array Value))
   show wpAny _ X.A.in1 (updateSeq S (fun _ => #[]) >>= _) _ _ _;refine ni (q0e jj rfl (ni (ZA (zR ?_))));exact (fin af H' _ (by omega) pk (J1.cb (fS H' pS.2.1) fun c o n e=>(s1.2 c n).trans e)).2 b x vb hx rx fun j hj=>best j (by omega)
 | succ r ih =>
  intro af H' s' gn c oI hr J pk l8 rR hb;have pS:=J.pin (S,seqObj "list" gn c) (NK _ (.head _));have pI:=J.pin (I,oI) (NK _ (.tail _ (.head _)));have Jn:=J.bH.bH;obtain⟨aq,rv,pl,_⟩:=Jn.list (bz.of (hl af H' pk));have lv:aq.length=xs.length:=rv.length.symm;have c5:af.length < aq.length:=by omega
  refine Zp (yp mx) ?_;rw[Y5 (kj mx) _];show wpAny _ X.A.in1 (seqItems? (.ref S) >>= _) _ _ _;refine ni (YN pS.1 rfl ?_);show wpAny _ X.A.in1 (tryCatch (pyNext (.ref I)) _ >>= _) _ _ _;have W:=q0P (prog:=X.prog) (w:=X.w) (A:=X.A.in1) hh I l lQ aq.toArray;refine ni (Z5 (W.item af.length _ _ _ (by rw[wO];exact c5) ⟨⟨oI,pI.1,l8,rR⟩,q0t pl⟩ fun v h' jK hv rS d9 => ?_));have hv:aq[af.length]? = some v:=by simpa using hv
  obtain⟨jS,oP,lS,jT⟩:=id rS.1;have hi:af.length < xs.length:=by omega
  obtain⟨u,e1,rx⟩:=rv.get (qv hi);rw[hv] at e1;cases e1
  have hx:=qv hi;generalize xs[af.length]=x at hx rx;have jj:=d9 S _ (by simpa using lR) pS.1;have nI:∀ z,jS.data ≠ .cell z:=fun z e=>by rw[jT] at e;cases e
  have J1:Inv X pins σ H' { s' with heap:=h',toks:=jK }:=Jn.cb (fI H' pI.2.1) fun c o n e=>d9 c o (by simpa using n) e;have J2:=(J1.dj (fI H' pI.2.1) oP nI).dj ((fS H' pS.2.1).cons (p:=(I,jS)) lR.symm) jj mJ;show wpAny _ X.A.in1 (tryCatch (holding [v] (call (.ref q) [v])) _ >>= _) _ _ _;refine ni (Z5 (Yp (Y3 (iV _ x v af H' _ hx rx J2 pk) (fun kv s2 he => ?_) fun _ _ hF=>hF.elim)));obtain⟨kx,H2,J3,rk,jO⟩:=he;obtain⟨t2,et,jB⟩:=hP _ H2 jO af.length (by rw[Fv];exact Zs _)
  have ek:kx = .ref t2:=by
   rw[X7 (uu _),YI] at et;simpa using et
  subst ek;cases rk
  have qS:=J3.pin (S,seqObj "list" gn c) (NK _ (.head _));have qI:=J3.pin (I,jS) (NK _ (.tail _ (.head _)));have Jm:=J3.bH.bH;have Jd:(af ++ [V.ref t2]).length + r=xs.length:=by rw[Fv,Yi];omega
  have wg:jS.data = .fields #[.ref l,.int ((af ++ [V.ref t2]).length:Nat) 0]:=by rw[jT,Fv];rfl
  have put:∀ (b:Nat),b < af.length + 1->b=af.length->(∀ j,j < af.length + 1->jR mx (kf b) (kf j))->codeAny (model X.prog X.w) X.A (.builtin (lP mx) ⟨[.ref I,.ref q,.ref S],[(Str.ofString "default",d)]⟩) R { s2 with heap:=s2.heap.update S (Obj.mapSeq fun _ => #[v,.ref t2]) }:=fun b hb eb best=>by
   subst eb;have s1:=Yo s2.heap S (Obj.mapSeq fun _ => #[v,Value.ref t2]);obtain⟨c2,eZ⟩:∃ c2,(s2.heap.update S (Obj.mapSeq fun _ => #[v,Value.ref t2])).get? S=some (seqObj "list" #[v,.ref t2] c2):=⟨_,ZU qS.1 fun _ => #[v,Value.ref t2]⟩;have J4:Inv X pins σ H2 { s2 with heap:=s2.heap.update S (Obj.mapSeq fun _ => #[v,Value.ref t2]) }:=Jm.cb (t':=s2.toks) (fS H2 qS.2.1) fun c o n e=>(s1.2 c n).trans e;have J5:=(J4.dj (fI H2 qI.2.1) ((s1.2 I lR.symm).trans qI.1) nI).dj ((fS H2 qS.2.1).cons (p:=(I,jS)) lR.symm) eZ mJ;refine ih _ H2 _ _ c2 jS Jd J5 jO lS wg (.inr ⟨af.length,x,v,t2,by rw[Fv];exact Zs _,hx,rx,et,rfl,fun j hj=>best j (by rw[Fv] at hj;exact hj)⟩)
  rcases hb with⟨mB,rfl⟩ | ⟨b,y,vb,t,hb,hy,ry,ht,rfl,best⟩
  ·show wpAny _ X.A.in1 (updateSeq S (fun _ => #[v,.ref t2]) >>= _) _ _ _
   refine ni (q0e qS.1 rfl ?_);rw[cZ];refine zR ⟨Zx (kj mx) _,put af.length (Zs _) rfl fun j hj => ?_⟩;rw[mB] at hj ⊢;have:j=0:=by simp at hj;omega
   subst this;exact yq _ _
  ·obtain⟨t',Je,Ti⟩:=hP _ H2 jO b (by rw[Fv];omega)
   rw[X1 hb,ht] at Je;cases Je
   obtain⟨i1,r1,CN,_⟩:=Jm.tuple (bF.of jB);obtain⟨i2,r2,CO,_⟩:=Jm.tuple (bF.of Ti);show wpAny _ X.A.in1 (tryCatch (holding [v,.ref t2] (richCompare _ (.ref t2) (.ref t) >>= _)) _ >>= _) _ _ _;refine ni (Z5 (Yp (ni ?_)));refine Te (A:=X.A.in1) (mx:=mx) (ns:=kf af.length) (ms:=kf b) CN CO (by simpa using intsAre_of r1) (by simpa using intsAre_of r2) hu ?_;refine ni (Yp (Zc ?_));refine ni (ZA (zR ?_));split
   ·rename_i hq
    refine ni (q0e qS.1 rfl (ni (ZA ?_)));rw[cZ];refine zR ⟨Zx (kj mx) _,put af.length (Zs _) rfl fun j hj => ?_⟩
    by_cases e:j=af.length
    ·subst e;exact yq _ _
    ·exact Jb hq (best j (by omega))
   ·rename_i hq
    refine ni (ZA ?_);rw[cZ];refine zR ⟨Zx (kj mx) _,ih _ H2 _ _ c jS Jd J3 jO lS wg (.inr ⟨b,y,vb,t,by rw[Fv];omega,hy,ry,by rw[X1 hb];exact ht,rfl,fun j hj => ?_⟩)⟩
    by_cases e:j=af.length
    ·subst e;exact Jc hq
    ·exact best j (by rw[Fv,Yi] at hj;omega)
theorem Tj (mx:Bool) {Q:Value->Shared->Prop} (kf:Nat->LK) (J:Inv X pins σ H s) (hh:X.A.handled=none) (hu:X.A.units + 1 < cLine) (p0:P [] H)
  (hl:∀ af H',P af H'->H' l=some (.lst xs)) (hP:∀ af H',P af H'->∀ i,i < af.length->∃ t,af[i]? = some (.ref t)/\H' t=some (.tup ((kf i).map V.int)))
  (iV:∀ (bu:List (Addr × Obj)) (x:V) (u:Value) (af:List V) (H':Hp) (s':Shared),xs[af.length]? = some x->RelV x u->Inv X bu σ H' s'->P af H'->wpAny (model X.prog X.w) X.A.in1 (call (.ref q) [u]) (EP X bu σ fun k iy=>P (af ++ [k]) iy) (fun _ _=>False) s')
  (fin:∀ af H' s',af.length=xs.length->P af H'->Inv X pins σ H' s'->(xs=[]->Q d s')/\∀ (b:Nat) (x:V) (u:Value),xs[b]? = some x->RelV x u->(∀ j,j < xs.length->jR mx (kf b) (kf j))->Q u s') :
  wpAny (model X.prog X.w) X.A (call (.builtin (f7 mx)) [.ref l] [(Str.ofString "key",.ref q),(Str.ofString "default",d)]) Q E s:=by
 have cZ:(toString (f7 mx) ++ toString ".loop" : String)=lP mx:=by cases mx<;>decide
 obtain⟨aq,rv,pl,_⟩:=J.list (bz.of (hl _ _ p0));have sQ:=PlainL.lt pl;refine kmk_tree (I_ mx) (Ja mx) (IZ mx) (Tf _ _ _ _) ?_;show wpAny _ X.A.in1 (Builtin.Builtins.bindParams (f7 mx) ["key", "default"] 0 ⟨[],[(Str.ofString "key",.ref q),(Str.ofString "default",d)]⟩ >>= _) _ _ s;refine ni (wpAny_of_eq (show Builtin.Builtins.bindParams (f7 mx) ["key", "default"] 0 ⟨[],[(Str.ofString "key",.ref q),(Str.ofString "default",d)]⟩=pure [some (.ref q),some d] from rfl) ?_);refine ni (zR ?_);refine ni (ZE (q0t pl) ?_);refine ni (q0s ?_ (Yy _));rw[cZ];refine zR ⟨Zx (kj mx) _,?_⟩;have J1:Inv X pins σ H { s with heap:=s.heap.push { cls := .type "list_iterator",data := .fields #[.ref l,.int 0 0] } }:=J.kept (h':=s.heap.push { cls := .type "list_iterator",data := .fields #[.ref l,.int 0 0] }) (t':=s.toks) fun b u e=>qw _ e
 have gI:(s.heap.push { cls := .type "list_iterator",data := .fields #[.ref l,.int 0 0] }).get? s.heap.objs.size=some { cls := .type "list_iterator",data := .fields #[.ref l,.int 0 0] }:=Xr _ rfl;have hS:(s.heap.push { cls := .type "list_iterator",data := .fields #[.ref l,.int 0 0] }).objs.size≠s.heap.objs.size:=fun z=>Zf _ (Nat.lt_of_lt_of_eq (NL gI) z);have fI:∀ H',H' s.heap.objs.size=none->a_ X pins H' s.heap.objs.size:=fun H' e=>J.d5 (uu _) e;have wj:H s.heap.objs.size=none:=J.aM.fresh (uu _);have lQ:l≠s.heap.objs.size:=Yb sQ;generalize s.heap.objs.size=I at gI hS fI wj lQ;generalize s.heap.push { cls := .type "list_iterator",data := .fields #[.ref l,.int 0 0] }=g1 at J1 gI hS
 have fS:∀ H',H' g1.objs.size=none->a_ X pins H' g1.objs.size:=fun H' e=>J1.d5 (uu _) e;have CP:H g1.objs.size=none:=J1.aM.fresh (uu _);have J2:Inv X pins σ H { s with heap:=g1.push (seqObj "list" #[] 0) }:=J1.kept (h':=g1.push (seqObj "list" #[] 0)) (t':=s.toks) fun b u e=>qw _ e;have J3:=(J2.dj (fI H wj) (qw _ gI) (fun z e=>by cases e)).dj ((fS H CP).cons (p:=(I,_)) hS.symm) (Xr _ rfl) mJ;exact Th mx kf hh hu lQ hS fI fS hl hP iV fin xs.length [] H _ #[] 0 _ (by simp) J3 p0 rfl rfl (.inl ⟨rfl,rfl⟩)
end
variable [aK]
noncomputable def oQ (mx:Bool) (cp:List (Option Nat)) (fb:WE) (δ : aA) (ds:List D) (K:D->Prop):Prop :=
 ∃ key:D->LK,Iy cp fb δ ds key/\(ds=[]->K .non)/\∀ d∈ds,(∀ e∈ds,jR mx (key d) (key e))->K d
noncomputable def oR (mx:Bool) (cp:List (Option Nat)) (fb:WE) (x:DV) (δ : aA) (K:D->Prop):Prop:=∃ ds,x = .p (.lst ds)/\oQ mx cp fb δ ds K
theorem Tn {mx:Bool} {cp:List (Option Nat)} {fb:WE} {x:DV} {δ : aA} {K:D->Prop} (h:oR mx cp fb x δ K):∃ ds,x = .p (.lst ds)/\oQ mx cp fb δ ds K:=h
noncomputable def CQ (mx:Bool) (f:WE) (cp:List (Option Nat)) (fb:WE):WE:=fun δ K=>f δ fun x δ1=>oR mx cp fb x δ1 fun d=>K (.p d) δ1
noncomputable def yr (mx:Bool):Str:=Str.ofString (f7 mx)
section
variable {X:Cx} {params:Arguments} {body:Expr} {scope:Scope} {cN:Pos} {x:Str} {Nb:List Str} {cp:List (Option Nat)} {fb:WE} {T:Addr}
theorem To {mx:Bool} {pins:List (Addr × Obj)} {σ : St} {H:Hp} {s:Shared} {E:Value->Shared->Prop} {l:Addr} {F:Hp} {ad:List Addr} {δ : aA} {ds:List D} {xs:List V} {fq lT pos j p2} {Q:VK} (L:fD X params body scope cN T x Nb cp fb) (hu:X.A.units + 64 < cLine)
  (I:Inv X pins σ H s) (S:SR F ad δ σ H) (hl:F l=some (.lst xs)) (hx:ae F ds xs)
  (hs:oQ mx cp fb δ ds fun d=>∀ v F' H',Ext F ad δ.mu H F' ad δ.mu H'->SR F' ad δ σ H'->Is F' d v->Q v H') :
  wpAny (model X.prog X.w) X.A (evalAll ((backToKw pos (keywordEach [⟨some "key",.Lambda params body scope cN,fq⟩,⟨some "default",.Constant .none j p2,lT⟩] X.env)).map (·.2))) (fun af s₂ => wpAny (model X.prog X.w) X.A (call (.builtin (f7 mx)) [.ref l] (((backToKw pos (keywordEach [⟨some "key",.Lambda params body scope cN,fq⟩,⟨some "default",.Constant .none j p2,lT⟩] X.env)).filterMap (·.1)).zip af)) (EP X pins σ Q) E s₂) E s:=by
 obtain⟨key,hk,K0,K⟩:=hs;obtain⟨k,lJ,J⟩:=L.room;obtain⟨cc,gj,hC⟩:=L.env.code;show wpAny _ _ (evalAll [do let v <- eval (.Lambda params body scope cN) X.env;standAt pos;pure v,do let v <- eval (.Constant .none j p2) X.env;standAt pos;pure v]) _ _ _;refine evalAll_cons (ni ?_);have rO:=L.names;unfold vW at rO;simp only[Yl,YV,Y0] at rO;have SC:=x0p L.kind rO.1.1.1;obtain⟨cl,mC,oK,tu⟩:=zT (scope:=scope) (env:=X.env) fun y hy e=>I.ok.has y.1 (SC.free y hy e);refine Ik I (L.tbl.get H S.tab) L.Iz mC gj (hC.keeps I.bk) L.env.ng (I.mod.glob.keeps I.bk) (L.env.blt.keeps I.bk) fun f H1 s1 c I1 t1 k1 Ij hf hc => ?_
 refine ni (q0f (zR ?_));refine evalAll_cons (ni (zR ?_));refine ni (q0f (zR ?_));refine evalAll_nil ?_;show wpAny _ _ (call (.builtin (f7 mx)) [.ref l] [(Str.ofString "key",.ref f),(Str.ofString "default",.none)]) _ _ _;have kT:∀ b o,H b=some o->b∉aK.ad->H1 b=some o:=fun b o e t=>k1 b o e fun z=>t (by rw[z];exact L.tbl.mem);have jc:=L.tbl.put H H1 S.tab t1 k1;have S1:=S.rN kT jc;have E1:=Ext.rN S kT jc;have lx:=hx.length;have r1:bh (k + 2) X.A.in1:=bh.in1 (k:=k + 2) lJ;have gd:∀ {i:Nat} {d:D},ds[i]? = some d->ds.getD i .non=d:=fun {i d} e=>by rw[Fs,e];rfl
 refine Tj mx (l:=l) (xs:=xs) (d := .none) (fun i=>key (ds.getD i .non)) (P:=fun af H'=>∃ F',Ext F ad δ.mu H F' ad δ.mu H'/\SR F' ad δ σ H'/\H' f=some (h8 f "<lambda>" (X.env.qual ++ "<lambda>") params body scope cl ((X.mg "__name__").getD .none) (.ref c))/\H' c=some (lH c (X.env.qual ++ "<lambda>"))/\af.length <= ds.length/\∀ (i:Nat) (d:D) (kv:V),ds[i]? = some d->af[i]? = some kv->Is F' (.tup ((key d).map D.int)) kv)
  I1 r1.hd (by omega) ⟨_,E1,S1,hf,hc,Yy _,fun i d kv _ e=>by simp at e⟩ (fun af H' ⟨F',E',S',_⟩=>S'.sub _ _ (E'.same _ _ hl)) (fun af H' ⟨F',E',S',pQ,gX,hle,pR⟩ i hi => ?_) (fun bu v u af H' s' hv rv I' ⟨F',E',S',pQ,gX,hle,pR⟩ => ?_) fun af H' s' iz ⟨F',E',S',pQ,gX,hle,pR⟩ I'=>⟨fun h0 => ?_,fun b y u hy ry best => ?_⟩
 ·have hd:=qv (show i < ds.length by omega)
  have is:=pR i _ _ hd (qv hi);simp only[Is] at is;obtain⟨t,us,e1,e2,e3⟩:=is;refine⟨t,by rw[qv hi,e1],?_⟩;rw[gd hd,<-nU e3];exact S'.sub _ _ e2
 ·have hi:af.length < ds.length:=by rw[<-lx];exact (sA.mp hv).1
  have hd:=qv hi;have B9:Is F' ds[af.length] v:=ae.at (hx.same E'.same) hd hv;obtain⟨R_,B_⟩:=hk _ (ZL hi);refine Io I' pQ gX (by rw[show X.A.in1.frames=X.A.frames from rfl];exact I'.ok.frames) r1.hd (bh.depth (r1.mono (by omega:k + 1 <= k + 2))) L.kind L.names L.co L.gen oK tu (fun ct=>L.bind cl _ _ ct u) rv (J ⟨X.A.in1,cl,f,.ref c,s',H'⟩ ((r1.mono (by omega:k + 1 <= k + 2)).deeper _)) ?_;refine⟨F',ad,_,_,(S'.qN (cp:=cp)).pP B9,B_,fun y δ' ⟨ey,em⟩ w F2 bL H2 E2 S2 V2 => ?_⟩;subst ey
  have ea:bL=ad:=by
   have l2:bL.length=ad.length:=by rw[S2.cy,em,S'.cy]
   refine ZV fun i => ?_
   by_cases hi:i < ad.length
   ·rw[qv hi];exact E2.pre i _ (qv hi)
   ·rw[YF (by omega),YF (by omega)]
  subst ea;obtain⟨zb,cQ⟩ := δ';have em:cQ = δ.mu:=em;subst em;refine⟨F2,E'.trans E2,SR.back S' E2 S2,E2.jk S' pQ (fun _ z=>by cases z) (fun _ z=>by cases z) (fun _ z=>by cases z),E2.jk S' gX (fun _ z=>by cases z) (fun _ z=>by cases z) (fun _ z=>by cases z),by rw[Fv,Yi];exact hi,fun i d kv e1 e2 => ?_⟩
  by_cases lh:i < af.length
  ·rw[X1 lh] at e2
   exact Is.same E2.same (pR i d kv e1 e2)
  ·have:i=af.length:=by
    have:=(sA.mp e2).1;rw[Fv,Yi] at this;omega
   subst this;rw[X7 (uu _),YI] at e2;cases (show some w=some kv from e2)
   rw[hd] at e1;cases e1;exact V2
 ·have Tp:ds=[]:=Zj.mp (by rw[<-lx,h0];rfl)
  exact⟨.non,H',I',rfl,K0 Tp _ F' H' E' S' (by simp only[Is])⟩
 ·have hb:b < ds.length:=by rw[<-lx];exact (sA.mp hy).1
  have hd:=qv hb;refine⟨y,H',I',ry,K ds[b] (ZL hb) (fun e he => ?_) _ F' H' E' S' (ae.at (hx.same E'.same) hd hy)⟩;obtain⟨j,hj,rfl⟩:=Y2.mp he;have:=best j (by omega);rw[gd hd,gd (qv hj)] at this;exact this
variable {e:Expr} {f:WE} {p1 q1 fq lT:Pos}
theorem Tq {j p2} (mx:Bool) (L:fD X params body scope cN T x Nb cp fb) (hu:X.A.units + 64 < cLine) (vZ:Gl X (yr mx)) (hs:X.mg (yr mx)=none) (v5:bootBuiltins (yr mx)=some (.builtin (f7 mx))) (ha:JA X [e] (cz (aj f ag)))
  (he:starEach [e] X.env=[(false,eval e X.env)]:=by rfl):JE X (.Call (.Name (yr mx) p1) [e] [⟨some "key",.Lambda params body scope cN,fq⟩,⟨some "default",.Constant .none j p2,lT⟩] q1) (tD (CQ mx f cp fb)) :=
 ⟨fun pins s σ H Q I h0_ => el7 h0_ fun F ad δ K S q k =>by
  refine Z8 (l9 I vZ hs v5 ?_ (hn:=by cases mx<;>decide) (hd:=by cases mx<;>decide));refine callWith_kw ?_ (he:=by rw[he];rfl) (hplain:=by rw[he];rfl);refine a0 (ha.out q1 pins s σ H (fun vs H1=>∃ (l:Addr) (F1:Hp) (aP:List Addr) (δ1:aA) (ds:List D) (us:List V),vs=[.ref l]/\F1 l=some (.lst us)/\ae F1 ds us/\Ext F ad δ.mu H F1 aP δ1.mu H1/\SR F1 aP δ1 σ H1/\oQ mx cp fb δ1 ds fun d=>K (.p d) δ1) I ?_) fun us s1 Cc => ?_
  ·refine⟨F,ad,δ,fun xs δ1=>match xs with
    | [x]=>oR mx cp fb x δ1 fun d=>K (.p d) δ1
    | _=>False,S,q,fun xs δ1 h1 vs F1 aP H1 E1 S1 V1 => ?_⟩
   cases xs with
   | nil=>exact h1.elim
   | cons x xs =>
    cases xs with
    | cons _ _=>exact h1.elim
    | nil =>
     obtain⟨v,r,rfl,W1,W2⟩:=V1;have W2:r=[]:=W2;subst W2;obtain⟨ds,rfl,h2⟩:=Tn h1;have W1:Is F1 (.lst ds) v:=W1;simp only[Is] at W1;obtain⟨a,us,rfl,g1,g2⟩:=W1;exact⟨a,F1,aP,δ1,ds,us,rfl,g1,g2,E1,S1,h2⟩
  ·obtain⟨vs,H1,I1,r1,l,F1,aP,δ1,ds,ws,ev,hl,hi,E1,S1,yh⟩:=Cc
   subst ev;obtain⟨u,rfl,rx⟩:=vals1 r1;cases rx
   refine To L hu I1 S1 hl hi ?_;obtain⟨key,hk,K0,hK⟩:=yh
   exact⟨key,hk,fun h0 v F' H' E' S' is=>k _ _ (K0 h0) _ _ _ _ (E1.trans E') S' is,fun d hd hb v F' H' E' S' is=>k _ _ (hK d hd hb) _ _ _ _ (E1.trans E') S' is⟩⟩
end
end L2
namespace LJ
open PySem L2
variable [aK]
noncomputable def CS:D->D
 | .tup [.int i,_] => .int i
 | _ => .non
noncomputable def CT (p:Int->Bool):D->Bool
 | .tup [.int i,_]=>p i
 | _=>false
theorem Jf (p:Int->Bool):∀ (ds:List D) (i:Nat),((mq i ds).filter (CT p)).map CS=((List.range' i ds.length).filter fun k:Nat=>p k).map fun k:Nat=>D.int k
 | [],_=>rfl
 | d :: r,i=>by
  have ih:=Jf p r (i + 1);show (((D.tup [.int i,d]) :: mq (i + 1) r).filter _).map _=_;rw[Fq,List.range'_succ,List.filter_cons,List.filter_cons];show (if p i=true then _ else _:List D).map _=_
  cases q:p i with
  | true=>simp only[Z0,Yd,ih];rfl
  | false=>simp only[Ye,YS,ih]
noncomputable def iF (l:List Int) (y:Wy):Bool:=decide (y.1∈l) != decide (y.2.1∈l)
noncomputable def tJ (ws:List Wy) (l:List Int):List Int:=(aR ws.length).filter fun n=>iF l (av ws n)
theorem Tr {ws:List Wy} {l:List Int}:(tJ ws l).length <= ws.length:=by
 unfold tJ;have:=q0h (fun n=>iF l (av ws n)) (aR ws.length);rw[tH] at this;exact this
theorem Jg {ws:List Wy} {us:List Int} (hu:Nums ws us) (nd:us.Nodup):us.length <= ws.length:=by
 have h:us.Subset (aR ws.length):=fun n h=>by
  have:=hu n h;exact c9.mpr this
 have:=Z6 nd h;rw[tH] at this;exact this
end LJ
namespace L2
open PySem PySem.Spec PyProof.Rows PySem.W
section
variable {X:Cx}
end
variable [aK] {X:Cx}
end L2
namespace LJ
open PySem L2
variable [aK]
noncomputable def Indep (A:Wy->Prop):Prop:=∀ a,A a->¬ ax (fun v=>A v/\v≠a) a.1 a.2.1
omit [aK] in
theorem Indep.add {A B:Wy->Prop} {w:Wy} (h:Indep A) (k:∀ v,B v↔A v\/v=w) (n:¬ ax A w.1 w.2.1):Indep B:=by
 intro a ha c;rcases (k a).mp ha with ha | rfl
 ·have aw:a≠w:=fun e=>n (by rw[<-e];exact .one ha)
  have c':ax (fun v=>(A v/\v≠a)\/v=w) a.1 a.2.1:=c.mono fun v hv=>by
   rcases (k v).mp hv.1 with z | z
   ·exact .inl ⟨z,hv.2⟩
   ·exact .inr z
  have m:∀ {x y:Int},ax (fun v=>A v/\v≠a) x y->ax A x y:=fun z=>z.mono fun v hv=>hv.1;rcases (ax.add fun v=>Iff.rfl).mp c' with z | ⟨z1,z2⟩ | ⟨z1,z2⟩
  ·exact h a ha z
  ·exact n (((m z1).symm.trans (.one ha)).trans (m z2).symm)
  ·exact n (((m z2).trans (ax.one ha).symm).trans (m z1))
 ·exact n (c.mono fun v hv=>by
   rcases (k v).mp hv.1 with z | z
   ·exact z
   ·exact absurd z hv.2)
theorem tK {m:Int} {ws:List Wy} (W:bP m ws) {u v:Wy} (hu:u∈ws) (hv:v∈ws) (ne:u≠v):e_ u v\/e_ v u:=by
 by_cases c:e_ u v
 ·exact .inl c
 ·refine .inr ?_
  have c:kle (iE v) (iE u):=by
   unfold kle
   cases q:HT.lexLt (iE u) (iE v) with
   | false=>rfl
   | true=>exact absurd q c
  refine IS c fun e=>ne ?_;obtain⟨a1,a2,a3⟩:=u;obtain⟨b1,b2,b3⟩:=v;unfold iE at e;simp only[q1R,and_true] at e;obtain⟨e1,e2,e3⟩:=e;subst e1 e2 e3;rfl
theorem CU {m:Int} {ws:List Wy} (W:bP m ws):Indep (gH ws):=by
 have key:∀ k,Indep fun u=>gH ws u/\f6 ws u < k:=by
  intro k
  induction k with
  | zero=>intro a ha;omega
  | succ k ih =>
   by_cases e:∃ w,gH ws w/\f6 ws w=k
   ·obtain⟨w,tw,cw⟩:=e
    refine ih.add (w:=w) (fun v => ?_) fun c => ?_
    ·constructor
     ·rintro ⟨tv,cv⟩
      by_cases z:v=w
      ·exact .inr z
      ·refine .inl ⟨tv,?_⟩
       rcases tK W tv.1 tw.1 z with y | y
       ·have:=pU tv.1 y;omega
       ·have:=pU tw.1 y;omega
     ·rintro (⟨tv,cv⟩ | rfl)
      ·exact⟨tv,by omega⟩
      ·exact⟨tw,by omega⟩
    ·refine tw.2 (c.mono fun v hv=>⟨hv.1.1,?_⟩)
     by_cases z:v=w
     ·subst z;omega
     ·rcases tK W hv.1.1 tw.1 z with y | y
      ·exact y
      ·have:=pU tw.1 y;omega
   ·have eq:(fun u=>gH ws u/\f6 ws u < k + 1)=fun u=>gH ws u/\f6 ws u < k:=funext fun u=>propext ⟨fun ⟨a,b⟩=>⟨a,by
     by_cases z:f6 ws u=k
     ·exact absurd ⟨u,a,z⟩ e
     ·omega⟩,fun ⟨a,b⟩=>⟨a,by omega⟩⟩
    rw[eq];exact ih
 have eq:(fun u=>gH ws u/\f6 ws u < ws.length + 1)=gH ws:=funext fun u=>propext ⟨fun h=>h.1,fun h=>⟨h,by
  have:=List.countP_le_length (p:=fun v=>HT.lexLt (iE v) (iE u)) (l:=ws)
  unfold f6;omega⟩⟩
 have:=key (ws.length + 1);rw[eq] at this;exact this
theorem yt {m:Int} {ws:List Wy} (W:bP m ws) {a b:Int} (ha:0 <= a/\a < (ws.length:Int)) (hb:0 <= b/\b < (ws.length:Int)) (e:av ws a=av ws b):a=b:=by
 have nd:=S8 W;unfold av at e;have h1:a.toNat < ws.length:=by omega
 have h2:b.toNat < ws.length:=by omega
 rw[Fs,Fs,qv h1,qv h2] at e;have:=(q0N (h₀ := h1) (h₁ := h2) nd).mp (by simpa using e);omega
theorem Tt {l:List Int} {v:Wy} (h:iF l v=true):(v.1∈l/\v.2.1∉l)\/(v.2.1∈l/\v.1∉l):=by
 unfold iF at h
 by_cases p:v.1∈l
 ·by_cases q:v.2.1∈l
  ·rw[NN p,NN q] at h;cases h
  ·exact .inl ⟨p,q⟩
 ·by_cases q:v.2.1∈l
  ·exact .inr ⟨q,p⟩
  ·rw[Xp p,Xp q] at h;cases h
noncomputable def below (ws:List Wy) (g:Wy):Wy->Prop:=fun v=>v∈ws/\e_ v g
noncomputable def km (ws:List Wy) (g:Wy):Wy->Prop:=fun v=>gH ws v/\v≠g
structure cC (ws:List Wy) (g:Wy) (a b:Int):Prop where
 mem:g∈ws
 up:ax (fun v=>below ws g v\/v=g) a b
 dn:¬ ax (below ws g) a b
theorem Jh {v:Wy} (h:e_ v v):False:=by
 unfold e_ at h;rw[rh] at h;cases h
theorem Ji {u v w:Wy} (h:e_ u v) (h':e_ v w):e_ u w:=sU h h'
theorem Tu {u v:Wy} (h:e_ u v) (h':e_ v u):False:=Jh (Ji h h')
theorem Jj {m:Int} {ws:List Wy} (W:bP m ws) {u v:Wy} (hu:u∈ws) (hv:v∈ws):e_ u v↔f6 ws u < f6 ws v:=by
 refine⟨pU hu,fun h => ?_⟩
 by_cases e:u=v
 ·subst e;omega
 ·rcases tK W hu hv e with z | z
  ·exact z
  ·have:=pU hv z;omega
theorem Tv {m:Int} {ws:List Wy} (W:bP m ws) {u v:Wy} (hu:u∈ws) (hv:v∈ws) (h:f6 ws u=f6 ws v):u=v:=by
 by_cases e:u=v
 ·exact e
 ·rcases tK W hu hv e with z | z
  ·have:=pU hu z;omega
  ·have:=pU hv z;omega
theorem Jk {m:Int} {ws:List Wy} (W:bP m ws) {a b:Int} (ne:a≠b):∀ k,ax (fun v=>v∈ws/\f6 ws v < k) a b->∃ g,cC ws g a b
 | 0,c=>absurd (c.none fun v hv=>by omega) ne
 | k + 1,c=>by
  by_cases d:ax (fun v=>v∈ws/\f6 ws v < k) a b
  ·exact Jk W ne k d
  ·by_cases e:∃ w,w∈ws/\f6 ws w=k
   ·obtain⟨w,hw,cw⟩:=e
    refine⟨w,hw,c.mono fun v hv => ?_,fun z=>d (z.mono fun v hv=>⟨hv.1,by have:=(Jj W hv.1 hw).mp hv.2;omega⟩)⟩
    by_cases q:f6 ws v < k
    ·exact .inl ⟨hv.1,(Jj W hv.1 hw).mpr (by omega)⟩
    ·exact .inr (Tv W hv.1 hw (by omega))
   ·exact absurd (c.mono fun v hv=>⟨hv.1,by
     by_cases q:f6 ws v=k
     ·exact absurd ⟨v,hv.1,q⟩ e
     ·omega⟩) d
theorem Tw (ws:List Wy) (w:Wy):f6 ws w < ws.length + 1:=by
 have:=List.countP_le_length (p:=fun v=>HT.lexLt (iE v) (iE w)) (l:=ws);unfold f6;omega
theorem Jl {m:Int} {ws:List Wy} (W:bP m ws) {a b:Int} (ne:a≠b) (c:ax (fun v=>v∈ws) a b):∃ g,cC ws g a b :=
 Jk W ne (ws.length + 1) (c.mono fun v hv=>⟨hv,Tw ws v⟩)
theorem cC.all {ws:List Wy} {g:Wy} {a b:Int} (h:cC ws g a b):ax (fun v=>v∈ws) a b:=h.up.mono fun v hv=>hv.elim (fun z=>z.1) fun z=>z ▸ h.mem
theorem cC.lU {ws:List Wy} {g:Wy} {a b:Int} (h:cC ws g a b):(ax (below ws g) a g.1/\ax (below ws g) g.2.1 b)\/(ax (below ws g) a g.2.1/\ax (below ws g) g.1 b):=by
 rcases (ax.add fun v=>Iff.rfl).mp h.up with z | z
 ·exact absurd z h.dn
 ·exact z
theorem cC.tree {ws:List Wy} {g:Wy} {a b:Int} (h:cC ws g a b):gH ws g:=by
 refine⟨h.mem,fun c=>h.dn ?_⟩;rcases h.lU with⟨p,q⟩ | ⟨p,q⟩
 ·exact (p.trans c).trans q
 ·exact (p.trans c.symm).trans q
theorem Jo {ws:List Wy} {g:Wy} {a b:Int} (h:ax (below ws g) a b):ax (fun v=>gH ws v/\e_ v g) a b :=
 h.bind fun u hu=>(CJ _ u hu.1 (uu _)).mono fun x hx=>⟨hx.1,hx.2.elim (fun z=>Ji z hu.2) fun z=>z ▸ hu.2⟩
theorem oS {ws:List Wy} {g:Wy} {a b:Int} (h:ax (below ws g) a b):ax (km ws g) a b :=
 (Jo h).mono fun v hv=>⟨hv.1,fun e=>Jh (e ▸ hv.2)⟩
theorem Tx {ws:List Wy} {a b:Int} (h:ax (fun v=>v∈ws) a b):ax (gH ws) a b :=
 h.bind fun u hu=>(CJ _ u hu (uu _)).mono fun x hx=>hx.1
theorem cC.parts {m:Int} {ws:List Wy} (W:bP m ws) {g:Wy} {a b:Int} (h:cC ws g a b):¬ ax (km ws g) a b:=fun c=>by
 refine CU W g h.tree ?_;rcases h.lU with⟨p,q⟩ | ⟨p,q⟩
 ·exact ((oS p).symm.trans c).trans (oS q).symm
 ·exact ((oS q).trans c.symm).trans (oS p)
theorem cC.top {m:Int} {ws:List Wy} (W:bP m ws) {g t:Wy} {a b:Int} (h:cC ws g a b) (ht:gH ws t) (p:¬ ax (km ws t) a b):e_ t g\/t=g:=by
 by_cases e:t=g
 ·exact .inr e
 ·rcases tK W ht.1 h.mem e with z | z
  ·exact .inl z
  ·refine absurd (h.up.bind fun u hu => ?_) p
   rcases hu with hu | rfl
   ·exact (ax.mono (Jo (ax.one hu))) fun v hv=>⟨hv.1,fun e=>by subst e;exact Tu hv.2 z⟩
   ·exact .one ⟨h.tree,fun x=>e x.symm⟩
theorem cC.cut {m:Int} {ws:List Wy} (W:bP m ws) {g:Wy} {a b:Int} (h:cC ws g a b) {l:List Int} (hl:∀ x,0 <= x/\x < m->(x∈l↔ax (km ws g) a x)):iF l g=true/\∀ v∈ws,iF l v=true->e_ g v\/v=g:=by
 have gm:=W.ends g h.mem;have ng:¬ ax (km ws g) g.1 g.2.1:=CU W g h.tree;have r1:0 <= g.1/\g.1 < m:=by omega
 have r2:0 <= g.2.1/\g.2.1 < m:=by omega
 constructor
 ·unfold iF
  rcases h.lU with⟨p,q⟩ | ⟨p,q⟩
  ·rw[NN ((hl _ r1).mpr (oS p)),Xp fun z=>ng ((oS p).symm.trans ((hl _ r2).mp z))];rfl
  ·rw[NN ((hl _ r2).mpr (oS p)),Xp fun z=>ng (((hl _ r1).mp z).symm.trans (oS p))];rfl
 ·intro v hv lv
  by_cases e:v=g
  ·exact .inr e
  ·rcases tK W hv h.mem e with z | z
   ·have vm:=W.ends v hv
    have c:ax (km ws g) v.1 v.2.1:=oS (.one ⟨hv,z⟩);have r1:0 <= v.1/\v.1 < m:=by omega
    have r2:0 <= v.2.1/\v.2.1 < m:=by omega
    rcases Tt lv with⟨p,q⟩ | ⟨p,q⟩
    ·exact absurd ((hl _ r2).mpr (((hl _ r1).mp p).trans c)) q
    ·exact absurd ((hl _ r1).mpr (((hl _ r2).mp p).trans c.symm)) q
   ·exact .inl z
noncomputable def CV:GD:=fun ys ai K=>∃ (m:Int) (ws:List Wy) (ns:List Int),bP m ws/\Nums ws ns/\ys=[.p (aN m ws),.p (bt ns)]/\ai=[]/\(ns=[]->K (.p .non) [])/\∀ n∈ns,(∀ e∈ns,kle (bM ws e) (bM ws n))->K (.p (.int n)) []
noncomputable def CW:WS:=(aI (CQ true (aa 1) [some 0] (au 1 yk (aj (d2 (d2 (aa 1) (dC (.int 1)) aW) (aa 0) aW) ag))))
theorem Tz:∀ ys ai K',ys.length=2->CV ys ai K'->CW (bI ai.length K') ⟨ys.map some ++ List.replicate 0 none,ai.map some⟩:=by
 rintro ys ai K' - ⟨m,ws,ns,W,hn,rfl,rfl,k0,k⟩;unfold CW;simp? only [CQ,oR,aN,bt]
 refine⟨ns.map D.int,rfl,fun d=>match d with
  | .int n=>bM ws n
  | _=>[],fun d hd => ?_,fun h0 => ?_,fun d hd best => ?_⟩
 ·obtain⟨n,h,rfl⟩:=X0.mp hd
  obtain⟨n0,n1⟩:=hn n h;obtain⟨y,ey,hy,ea,_⟩:=lG W n0 n1;refine⟨(by intro z;cases z),?_⟩;simp? only [d_,ea];refine⟨y,rfl,rfl,?_⟩;simp? only [];unfold bM;rw[ey];rfl
 ·exact bW (k0 (List.map_eq_nil_iff.mp h0))
 ·obtain⟨n,h,rfl⟩:=X0.mp hd
  exact bW (k n h fun e he=>best _ (X0.mpr ⟨e,he,rfl⟩))
noncomputable def oT (us:List Int) (g:Int):List Int:=us.filter fun n=>decide (n≠g)
open Classical in
noncomputable def rT (ws:List Wy) (us:List Int) (g one other:Int):Bool := !decide (ax (eC ws (oT us g)) one other)
noncomputable def pV (ws:List Wy) (us:List Int) (one other:Int):List Int:=us.filter fun n=>rT ws us n one other
noncomputable def CY:GD:=fun ys ai K=>∃ (m:Int) (ws:List Wy) (us:List Int) (g:Int) (i j:Nat),bP m ws/\Nums ws us/\us.length <= 900/\i < m.toNat/\j < m.toNat/\ys=[.p (aN m ws),.p (bt us),.p (.int g),.p (.int i),.p (.int j)]/\ai=[]/\K (.p (.bl (rT ws us g i j))) []
noncomputable def CZ:WS:=(ay (aL 5 (au 2 vR (aj (aa 0) (aj (fy (bO (aa 1)) [none,some 2] (bG 0) (dT (d2 (aa 0) (aa 1) jg)) (aa 0)) ag)))) (aI (d2 (d2 (aa 5) (aa 3) aW) (d2 (aa 5) (aa 4) aW) jg)))
open Classical in
theorem TB:∀ ys ai K',ys.length=5->CY ys ai K'->CZ (bI ai.length K') ⟨ys.map some ++ List.replicate 1 none,ai.map some⟩:=by
 rintro ys ai K' - ⟨m,ws,us,g,i,j,W,hu,ul,hi,hj,rfl,rfl,k⟩;unfold CZ;refine aU fun N hN => ?_;rw[show bt us = .lst (us.map D.int) from rfl];simp? only []
 refine L2.nZ (fun d=>match d with
  | .int n=>decide (n≠g)
  | _=>false) id (by rw[qx];omega) trivial ?_ ?_
 ·intro d hd acc L' ha h1 h2
  obtain⟨n,l4,rfl⟩:=X0.mp hd;dsimp only at h1 h2;simp? only [];rw[lO]
  by_cases c:n=g
  ·rw[NN c]
   simp? only [];exact h2 (Xp fun z=>z c)
  ·rw[Xp c]
   simp? only [];exact⟨ha,h1 (NN c)⟩
 have e:((us.map D.int).filter fun d=>match d with
  | .int n=>decide (n≠g)
  | _=>false).map id=(oT us g).map D.int:=by
  rw[ZZ,q0d];rfl
 rw[e];have su:Nums ws (oT us g):=fun n h=>hu n (YT.mp h).1;simp? only [];refine⟨m,ws,oT us g,W,su,.inl ⟨rfl,rfl,?_⟩⟩;have mo:=IV W su;unfold rT at k;generalize s_ m ws (oT us g)=fs at mo;have a1:=mI (ns:=fs) (i:=i) (by rw[mo.1];exact hi);have a2:=mI (ns:=fs) (i:=j) (by rw[mo.1];exact hj);simp? only [];subst hN;simp? only [bt,a1,a2];rw[lO]
 have:decide (fs.getD i 0=fs.getD j 0)=@decide (ax (eC ws (oT us g)) i j) (Classical.propDecidable _):=by
  by_cases c:fs.getD i 0=fs.getD j 0
  ·rw[NN c,NN ((mo.2 i j hi hj).mp c)]
  ·rw[Xp c,Xp fun z=>c ((mo.2 i j hi hj).mpr z)]
 rw[this];exact bW k
end LJ
namespace L2
open PySem PySem.Spec PyProof.Rows PySem.W
section
variable {X:Cx} {pins:List (Addr × Obj)} {σ : St} {H:Hp} {s:Shared} {E:Value->Shared->Prop} {l I S:Addr} {ts:List Addr} {d:Value} {R:Result->Shared->Prop}
end
variable [aK]
noncomputable def tupI (k:LK):D := .tup (k.map D.int)
section
variable {X:Cx} {e:Expr} {f:WE} {p1 q1 lT:Pos}
end
end L2
namespace LJ
open PySem L2
variable [aK]
structure bY (ws:List Wy) (fo:List Int):Prop where
 nd:fo.Nodup
 mem:∀ n,n∈fo↔(0 <= n/\n < (ws.length:Int))/\gH ws (av ws n)
theorem Jp {m:Int} {ws:List Wy} (W:bP m ws) {os:List Int} (ho:bx ws os):bY ws (mK m ws os):=⟨S7 ho,fun n=>SX W ho⟩
theorem bY.nums {ws:List Wy} {fo:List Int} (F:bY ws fo):Nums ws fo:=fun n h=>((F.mem n).mp h).1
theorem bY.len {ws:List Wy} {fo:List Int} (F:bY ws fo):fo.length <= ws.length:=Jg F.nums F.nd
theorem Jq {S S':Wy->Prop} {a b:Int} (h:∀ v,S v↔S' v):ax S a b↔ax S' a b:=⟨fun c=>c.mono fun v hv=>(h v).mp hv,fun c=>c.mono fun v hv=>(h v).mpr hv⟩
theorem bY.rU {ws:List Wy} {fo:List Int} (F:bY ws fo) (v:Wy):eC ws fo v↔gH ws v :=
 ⟨by rintro ⟨k,hk,rfl⟩;exact ((F.mem k).mp hk).2,fun h=>by obtain⟨n,hn,rfl⟩:=wc h.1;exact⟨n,(F.mem n).mpr ⟨hn,h⟩,rfl⟩⟩
theorem bY.conn {ws:List Wy} {fo:List Int} (F:bY ws fo) {a b:Int}:ax (eC ws fo) a b↔ax (fun v=>v∈ws) a b :=
 (Jq F.rU).trans ⟨fun c=>c.mono fun v hv=>hv.1,Tx⟩
theorem bY.wk {m:Int} {ws:List Wy} (W:bP m ws) {fo:List Int} (F:bY ws fo) {g:Int} (hg:0 <= g/\g < (ws.length:Int)) (v:Wy):eC ws (oT fo g) v↔km ws (av ws g) v:=by
 constructor
 ·rintro ⟨k,hk,rfl⟩
  obtain⟨h1,h2⟩:=YT.mp hk;exact⟨((F.mem k).mp h1).2,fun e=>YQ h2 (yt W ((F.mem k).mp h1).1 hg e)⟩
 ·rintro ⟨h1,h2⟩
  obtain⟨n,hn,rfl⟩:=wc h1.1;exact⟨n,YT.mpr ⟨(F.mem n).mpr ⟨hn,h1⟩,NN fun e=>h2 (by rw[e])⟩,rfl⟩
theorem yu {m:Int} {ws:List Wy} (W:bP m ws) {fo:List Int} (F:bY ws fo) {n a b:Int}:n∈pV ws fo a b↔((0 <= n/\n < (ws.length:Int))/\gH ws (av ws n))/\¬ ax (km ws (av ws n)) a b:=by
 unfold pV;rw[YT,F.mem];refine and_congr_right fun h => ?_;unfold rT;rw[q0l,decide_eq_false_iff_not,Jq (F.wk W h.1)]
theorem C0 {ws:List Wy} {a b:Int} (h:kle (bM ws a) (bM ws b)):¬ e_ (av ws b) (av ws a):=fun z=>by
 unfold kle at h;rw[IQ,IQ] at h;unfold e_ at z;rw[h] at z;cases z
theorem cC.lV {m:Int} {ws:List Wy} (W:bP m ws) {fo:List Int} (F:bY ws fo) {n a b:Int} (hn:0 <= n/\n < (ws.length:Int)) (h:cC ws (av ws n) a b):n∈pV ws fo a b:=(yu W F).mpr ⟨⟨hn,h.tree⟩,h.parts W⟩
theorem TC {m:Int} {ws:List Wy} (W:bP m ws) {fo:List Int} (F:bY ws fo) {n a b:Int} (ne:a≠b) (c:ax (fun v=>v∈ws) a b) (h:n∈pV ws fo a b) (best:∀ e∈pV ws fo a b,kle (bM ws e) (bM ws n)):cC ws (av ws n) a b:=by
 obtain⟨g,hg⟩:=Jl W ne c;obtain⟨k,hk,rfl⟩:=wc hg.mem;obtain⟨h1,h2⟩:=(yu W F).mp h;rcases hg.top W h1.2 h2 with z | z
 ·exact absurd z (C0 (best k (hg.lV W F hk)))
 ·rw[z];exact hg
noncomputable def yw:GD:=fun ys ai K=>∃ (m:Int) (ws:List Wy) (us:List Int) (i:Nat),bP m ws/\Nums ws us/\i < m.toNat/\ys=[.p (aN m ws),.p (bt us),.p (.int i)]/\ai=[]/\K (.p (bt (cls m.toNat (eC ws us) i))) []
noncomputable def C1:WS:=(ay (aL 3 (au 2 vR (aj (aa 0) (aj (aa 1) ag)))) (aI (fy (nN (aj (aa 3) ag)) [none,none,some 3,some 2] (jF 2 (e8 (bG 0) (e8 (bG 1) je))) (dT (d2 (aa 1) (d2 (aa 2) (aa 3) aW) oEq)) (aa 0))))
open Classical in
theorem TF:∀ ys ai K',ys.length=3->yw ys ai K'->C1 (bI ai.length K') ⟨ys.map some ++ List.replicate 1 none,ai.map some⟩:=by
 rintro ys ai K' - ⟨m,ws,us,i,W,hu,hi,rfl,rfl,k⟩;have f_:=W.f_;unfold C1;refine aU fun N hN => ?_;simp? only [];refine⟨m,ws,us,W,hu,.inl ⟨rfl,rfl,?_⟩⟩;have mo:=IV W hu;generalize s_ m ws us=fs at mo;have a1:=mI (ns:=fs) (i:=i) (by rw[mo.1];exact hi);rw[show bt fs = .lst (fs.map D.int) from rfl];simp? only [];subst hN;simp? only [];refine L2.nZ (CT fun x=>decide (ax (eC ws us) i x)) CS (by rw[xv,qx,mo.1];omega) trivial ?_ ?_
 ·intro d hd acc L' ha h1 h2
  obtain⟨z,hz⟩:=X9.mp hd;obtain⟨e,z1,z2⟩:=u4 hz;rw[My] at z1;obtain⟨y,z3,rfl⟩:=Xt.mp z1;rw[Yu] at z2;subst z2;have zl:z < m.toNat:=by rw[<-mo.1];exact (sA.mp z3).1
  have ez:fs.getD z 0=y:=by rw[Fs,z3];rfl
  simp only[CT,CS] at h1 h2;simp? only [a1];rw[lO]
  by_cases c:ax (eC ws us) i z
  ·rw[NN (show y=fs.getD i 0 by rw[<-ez];exact ((mo.2 i z hi zl).mpr c).symm)]
   simp? only [];exact⟨ha,h1 (NN c)⟩
  ·rw[Xp (show ¬ y=fs.getD i 0 from fun e=>c ((mo.2 i z hi zl).mp (by rw[<-e,ez])))]
   simp? only [];exact h2 (Xp c)
 ·have e:=Jf (fun x=>decide (ax (eC ws us) i x)) (fs.map D.int) 0
  have e2:(cls m.toNat (eC ws us) i).map D.int=((List.range' 0 (fs.map D.int).length).filter fun k:Nat=>decide (ax (eC ws us) i k)).map fun k:Nat=>D.int k:=by
   unfold cls aR;rw[q0d,Yj,qx,<-List.range_eq_range',mo.1];rfl
  rw[<-e2] at e;rw[e];exact bW k
noncomputable def C2:GD:=fun ys ai K=>∃ (m:Int) (ws:List Wy) (us:List Int) (i j:Nat),bP m ws/\Nums ws us/\us.length <= 900/\i < m.toNat/\j < m.toNat/\ys=[.p (aN m ws),.p (bt us),.p (.int i),.p (.int j)]/\ai=[]/\K (.p (bt (pV ws us i j))) []
noncomputable def C3:WS:=(aI (fy (bO (aa 1)) [none,some 0,some 1,some 2,some 3] (bG 0) (dT (au 5 CY (aj (aa 1) (aj (aa 2) (aj (aa 0) (aj (aa 3) (aj (aa 4) ag))))))) (aa 0)))
theorem TH:∀ ys ai K',ys.length=4->C2 ys ai K'->C3 (bI ai.length K') ⟨ys.map some ++ List.replicate 0 none,ai.map some⟩:=by
 rintro ys ai K' - ⟨m,ws,us,i,j,W,hu,ul,hi,hj,rfl,rfl,k⟩;unfold C3;rw[show bt us = .lst (us.map D.int) from rfl];simp? only []
 refine L2.nZ (fun d=>match d with
  | .int n=>rT ws us n i j
  | _=>false) id (by rw[qx];omega) trivial ?_ ?_
 ·intro d hd acc L' ha h1 h2
  obtain⟨n,l4,rfl⟩:=X0.mp hd;dsimp only at h1 h2;simp? only [];refine⟨m,ws,us,n,i,j,W,hu,ul,hi,hj,rfl,rfl,?_⟩;simp? only []
  cases q:rT ws us n i j with
  | true=>simp? only [];exact⟨ha,h1 q⟩
  | false=>simp? only [];exact h2 q
 ·have e:((us.map D.int).filter fun d=>match d with
   | .int n=>rT ws us n i j
   | _=>false).map id=(pV ws us i j).map D.int:=by
   rw[ZZ,q0d];rfl
  rw[e];exact bW k
noncomputable def C4:GD:=fun ys ai K=>∃ (m:Int) (ws:List Wy) (i j:Nat),bP m ws/\i < m.toNat/\j < m.toNat/\i≠j/\ys=[.p (aN m ws),.p (.int i),.p (.int j)]/\ai=[]/\K (.p .non) []
noncomputable def C5:WS:=(ay (kW (au 1 yj (aj (aa 0) ag))) (ay (bo (cX (dT (au 3 oa (aj (aa 1) (aj (dC (.int 0)) (aj (d2 (d2 (aa 0) (dC (.int 0)) aW) (dC (.int 1)) (oI fun i j => .int (i - j))) ag)))))) uV cK) (bo (j6 (cX (dT (au 3 oa (aj (aa 2) (aj (dC (.int 0)) (aj (d2 (d2 (aa 0) (dC (.int 0)) aW) (dC (.int 1)) (oI fun i j => .int (i - j))) ag)))))) (dT (d2 (aa 1) (aa 2) oEq))) uV cK)))
theorem TJ:∀ ys ai K',ys.length=3->C4 ys ai K'->C5 (bI ai.length K') ⟨ys.map some ++ List.replicate 0 none,ai.map some⟩:=by
 rintro ys ai K' - ⟨m,ws,i,j,W,hi,hj,ne,rfl,rfl,k⟩
 have wi:∀ x:Nat,x < m.toNat->ji (.int x) 0 (m - 1)=true:=fun x hx=>by
  show (decide ((0:Int) <= x) && decide ((x:Int) <= m - 1))=true;rw[NN (show (0:Int) <= x by omega),NN (show (x:Int) <= m - 1 by omega)];rfl
 unfold C5;refine aU fun N hN => ?_;simp? only [];refine⟨m,ws,W,rfl,rfl,?_⟩;show N _;subst hN;refine aU fun N hN => ?_;refine jh fun A1 B1 hA hB => ?_;simp? only [aN,fB];refine⟨.int i,0,m - 1,rfl,rfl,?_⟩;rw[wi i hi];simp? only [];subst hB;show N _;subst hN;refine jh fun A1 B1 hA hB => ?_;simp? only [fB];refine⟨.int j,0,m - 1,rfl,rfl,?_⟩;rw[wi j hj];simp? only [];rw[lO,Xp (show ¬ ((i:Int)=j) by omega)];simp? only [];subst hB;exact bW k
noncomputable def C6:GD:=fun ys ai K=>∃ (m:Int) (ws:List Wy) (fo:List Int) (i j:Nat),bP m ws/\bY ws fo/\i < m.toNat/\j < m.toNat/\i≠j/\ys=[.p (aN m ws),.p (bt fo),.p (.int i),.p (.int j)]/\ai=[] ∧
 (¬ ax (fun v=>v∈ws) i j->K (.p .non) [])/\∀ n:Int,0 <= n/\n < (ws.length:Int)->cC ws (av ws n) i j->K (.p (.int n)) []
noncomputable def C7:WS:=(ay (bo (dT (d2 (aa 3) (au 3 yw (aj (aa 0) (aj (aa 1) (aj (aa 2) ag)))) (iA true))) (aI (dC .non)) cK) (aI (au 2 CV (aj (aa 0) (aj (au 4 C2 (aj (aa 0) (aj (aa 1) (aj (aa 2) (aj (aa 3) ag))))) ag)))))
theorem TK:∀ ys ai K',ys.length=4->C6 ys ai K'->C7 (bI ai.length K') ⟨ys.map some ++ List.replicate 0 none,ai.map some⟩:=by
 rintro ys ai K' - ⟨m,ws,fo,i,j,W,F,hi,hj,ne,rfl,rfl,k0,k⟩;have fl:=F.len;have pT:=W.iq;unfold C7;refine aU fun N hN => ?_;refine jh fun A1 B1 hA hB => ?_;simp? only [];refine⟨m,ws,fo,i,W,F.nums,hi,rfl,rfl,?_⟩;have hm:(j:Int)∈cls m.toNat (eC ws fo) i↔ax (fun v=>v∈ws) i j:=gJ.trans ((and_iff_right ⟨by omega,by omega⟩).trans F.conn);generalize cls m.toNat (eC ws fo) i=l at hm;rw[show bt l = .lst (l.map D.int) from rfl];simp? only [];have d0:=tI l;refine⟨by omega,?_⟩;rw[rQ]
 by_cases c:ax (fun v=>v∈ws) i j
 ·rw[NN (hm.mpr c)]
  simp? only [];subst hB;show N _;subst hN;simp? only [];refine⟨m,ws,fo,i,j,W,F.nums,by omega,hi,hj,rfl,rfl,?_⟩;simp? only [];refine⟨m,ws,pV ws fo i j,W,fun n h=>((yu W F).mp h).1.1,rfl,rfl,fun h0 => ?_,fun n hn best => ?_⟩
  ·obtain⟨g,hg⟩:=Jl W (show (i:Int)≠j by omega) c
   obtain⟨x,hx,rfl⟩:=wc hg.mem;have:=hg.lV W F hx;rw[h0] at this;exact nomatch this
  ·exact bW (k n ((yu W F).mp hn).1.1 (TC W F (show (i:Int)≠j by omega) c hn best))
 ·rw[Xp fun z=>c (hm.mp z)]
  simp? only [];subst hA;simp? only [];exact bW (k0 c)
noncomputable def kq (m:Int) (ws:List Wy) (n:Int) (i:Int):List Int:=cls m.toNat (km ws (av ws n)) i
theorem TL {n:Nat} {S S':Wy->Prop} {a:Int} (h:∀ v,S v↔S' v):cls n S a=cls n S' a:=by
 rw[show S=S' from funext fun v=>propext (h v)]
noncomputable def yx:GD:=fun ys ai K=>∃ (m:Int) (ws:List Wy) (i j:Nat),bP m ws/\i < m.toNat/\j < m.toNat/\i≠j/\ys=[.p (aN m ws),.p (.int i),.p (.int j)]/\ai=[] ∧
 (¬ ax (fun v=>v∈ws) i j->K (.p .non) [])/\∀ n:Int,0 <= n/\n < (ws.length:Int)->cC ws (av ws n) i j->K (.p (.tup [.int n,bt (kq m ws n i)])) []
noncomputable def C8:WS:=(ay (kW (au 3 C4 (aj (aa 0) (aj (aa 1) (aj (aa 2) ag))))) (ay (aL 3 (au 1 CD (aj (aa 0) ag))) (ay (aL 4 (au 4 C6 (aj (aa 0) (aj (aa 3) (aj (aa 1) (aj (aa 2) ag)))))) (ay (bo (dT (d2 (aa 4) (dC .non) hW)) (aI (dC .non)) cK) (aI (de (aj (aa 4) (aj (au 3 yw (aj (aa 0) (aj (fy (bO (aa 3)) [none,some 4] (bG 0) (dT (d2 (aa 0) (aa 1) jg)) (aa 0)) (aj (aa 1) ag)))) ag))))))))
theorem TM:∀ ys ai K',ys.length=3->yx ys ai K'->C8 (bI ai.length K') ⟨ys.map some ++ List.replicate 2 none,ai.map some⟩:=by
 rintro ys ai K' - ⟨m,ws,i,j,W,hi,hj,ne,rfl,rfl,k0,k⟩;have pT:=W.iq;unfold C8;refine aU fun N hN => ?_;simp? only [];refine⟨m,ws,i,j,W,hi,hj,ne,rfl,rfl,?_⟩;show N _;subst hN;refine aU fun N hN => ?_;simp? only [];refine⟨m,ws,W,rfl,rfl,fun os ho => ?_⟩;have F:=Jp W ho;generalize mK m ws os=fo at F;have fl:=F.len;simp? only [];subst hN;refine aU fun N hN => ?_;simp? only [];refine⟨m,ws,fo,i,j,W,F,hi,hj,ne,rfl,rfl,fun c => ?_,fun n hn nk => ?_⟩
 ·simp? only []
  subst hN;refine aU fun N hN => ?_;simp? only [];exact bW (k0 c)
 ·simp? only []
  subst hN;refine aU fun N hN => ?_;simp? only [];subst hN;simp? only []
  refine L2.nZ (fun d=>match d with
   | .int x=>decide (x≠n)
   | _=>false) id (by rw[qx];omega) trivial ?_ ?_
  ·intro d hd acc L' ha h1 h2
   obtain⟨x,hx,rfl⟩:=X0.mp hd;dsimp only at h1 h2;simp? only [];rw[lO]
   by_cases c:x=n
   ·rw[NN c]
    simp? only [];exact h2 (Xp fun z=>z c)
   ·rw[Xp c]
    simp? only [];exact⟨ha,h1 (NN c)⟩
  have e:((fo.map D.int).filter fun d=>match d with
   | .int x=>decide (x≠n)
   | _=>false).map id=(oT fo n).map D.int:=by
   rw[ZZ,q0d];rfl
  rw[e];simp? only [];refine⟨m,ws,oT fo n,i,W,fun x h=>F.nums x (YT.mp h).1,hi,rfl,rfl,?_⟩;rw[TL (F.wk W hn),show cls m.toNat (km ws (av ws n)) i=kq m ws n i from rfl];simp? only [];exact bW (k n hn nk)
theorem TN {δ0:aA} {t:WT} {b:WS} {K:KS} {n:Nat} {δ : aA} (h:∀ A B:aA->Prop,A=b { nx:=fun δ2=>oN δ0 t b K n (δ0.trim δ2),ct:=fun δ2=>oN δ0 t b K n (δ0.trim δ2),bk:=K.nx,rt:=K.rt }->B=K.nx->t δ fun bb δ1=>if bb=true then A δ1 else B δ1):oN δ0 t b K (n + 1) δ := h _ _ rfl rfl
theorem TQ (n:Nat):seqIndex? 0 (n + 1)=some 0:=by
 unfold seqIndex?;simp
noncomputable def rV (ws:List Wy) (us:List Int) (n:Int):Wy->Prop:=fun v=>eC ws us v/\v≠av ws n
noncomputable def isKey (af:List (Key × D)) (x:Int):Prop:=(bJ af (.inl x)).isSome=true
structure RI (m:Int) (ws:List Wy) (us:List Int) (i:Int) (af:List (Key × D)):Prop where
 val:∀ x d,bJ af (.inl x)=some d->∃ R:List Int,d=bt R/\(0 <= x/\x < m)/\ax (eC ws us) i x/\R.Nodup/\(∀ n,n∈R↔n∈us/\¬ ax (rV ws us n) i x)/\∀ n∈R,isKey af (av ws n).1/\isKey af (av ws n).2.1
 one:isKey af i
 nd:(af.map (·.1)).Nodup
 rng:∀ k∈af.map (·.1),∃ x:Int,k = .inl x/\0 <= x/\x < m
theorem Jr {af:List (Key × D)} {x:Int} (h:Sum.inl x∈af.map (·.1)):isKey af x:=by
 obtain⟨kv,h1,h2⟩:=X0.mp h;unfold isKey bJ;rw[q1g];exact List.find?_isSome.mpr ⟨kv,h1,NN h2⟩
theorem C9 {af:List (Key × D)} {y:Int} (h:¬ isKey af y) (d:D):putD af (.inl y) d=af ++ [(.inl y,d)]:=by
 unfold putD;rw[NM fun z=>h (Jr ?_)];obtain⟨kv,h1,h2⟩:=q0R.mp z;exact X0.mpr ⟨kv,h1,YQ h2⟩
theorem RI.len {m:Int} {ws:List Wy} {us:List Int} {i:Int} {af:List (Key × D)} (h:RI m ws us i af) (hm:m <= 12):af.length <= 12:=by
 have sub:(af.map (·.1)).length <= ((aR m.toNat).map fun x=>(Sum.inl x:Key)).length:=by
  refine Z6 h.nd fun k hk => ?_;obtain⟨x,rfl,h0,h1⟩:=h.rng k hk;exact X0.mpr ⟨x,c9.mpr ⟨h0,by omega⟩,rfl⟩
 rw[qx,qx,tH] at sub;omega
theorem yy {af:List (Key × D)} {y:Int} (h:¬ isKey af y):bJ af (.inl y)=none:=by
 unfold isKey at h
 cases q:bJ af (.inl y) with
 | none=>rfl
 | some d=>rw[q] at h;exact absurd rfl h
theorem gK {af:List (Key × D)} {x y:Int} {d:D} (h:¬ isKey af y):isKey (putD af (.inl y) d) x↔isKey af x\/x=y:=by
 unfold isKey;rw[Cy (yy h)]
 by_cases c:x=y
 ·subst c;rw[Xs rfl];simp
 ·rw[NM (fun z=>c (by cases z;rfl))];simp[c]
theorem RI.put {m:Int} {ws:List Wy} (W:bP m ws) {us:List Int} (hu:Nums ws us) (ind:Indep (eC ws us)) {i:Int} {af:List (Key × D)} (h:RI m ws us i af) {x y n:Int} {R:List Int} (hx:bJ af (.inl x)=some (bt R)) (hn:n∈us) (e:((av ws n).1=x/\(av ws n).2.1=y)\/((av ws n).1=y/\(av ws n).2.1=x)) (nr:n∉R) (ny:¬ isKey af y):RI m ws us i (putD af (.inl y) (bt (R ++ [n]))):=by
 obtain⟨R',eR,hr,cx,rd,rm,re⟩:=h.val x _ hx
 have eR:R=R':=by
  have:=IW R R';rw[eR,eT] at this;exact YQ this.symm
 subst eR;have kx:isKey af x:=by unfold isKey;rw[hx];rfl
 have An:eC ws us (av ws n):=⟨n,hn,rfl⟩;obtain⟨n0,n1⟩:=hu n hn;have en:=W.ends _ (yo n0 n1)
 have co:∀ {S:Wy->Prop},S (av ws n)->ax S x y:=fun {S} hS=>by
  rcases e with⟨rfl,rfl⟩ | ⟨rfl,rfl⟩
  ·exact .one hS
  ·exact (ax.one hS).symm
 have nc:¬ ax (rV ws us n) x y:=fun z=>ind _ An (by
  rcases e with⟨rfl,rfl⟩ | ⟨rfl,rfl⟩
  ·exact z
  ·exact z.symm)
 have cn:ax (rV ws us n) i x:=Zq fun z=>nr ((rm n).mpr ⟨hn,z⟩);refine⟨fun z d hz => ?_,(gK ny).mpr (.inl h.one),?_,?_⟩
 ·rw[Cy (yy ny)] at hz
  by_cases c:z=y
  ·subst c
   rw[Xs rfl] at hz;cases hz
   refine⟨R ++ [n],rfl,by omega,cx.trans (co An),Ze.mpr ⟨rd,by simp,fun a ha b hb z=>nr (by rw[Yn] at hb;rw[<-hb,<-z];exact ha)⟩,fun k => ?_,fun k hk => ?_⟩
   ·rw[Ys,Yn,rm]
    by_cases kn:k=n
    ·subst kn
     exact⟨fun _=>⟨hn,fun z=>nc (cn.symm.trans z)⟩,fun _ => .inr rfl⟩
    ·constructor
     ·rintro (⟨h1,h2⟩ | z)
      ·have:rV ws us k (av ws n):=⟨An,fun z=>kn (yt W (hu k h1) (hu n hn) z.symm)⟩
       exact⟨h1,fun z=>h2 (z.trans (co this).symm)⟩
      ·exact absurd z kn
     ·rintro ⟨h1,h2⟩
      have:rV ws us k (av ws n):=⟨An,fun z=>kn (yt W (hu k h1) (hu n hn) z.symm)⟩;exact .inl ⟨h1,fun z=>h2 (z.trans (co this))⟩
   ·rcases Ys.mp hk with hk | hk
    ·exact⟨(gK ny).mpr (.inl (re k hk).1),(gK ny).mpr (.inl (re k hk).2)⟩
    ·obtain rfl:k=n:=Yn.mp hk
     rcases e with⟨e1,e2⟩ | ⟨e1,e2⟩
     ·exact⟨(gK ny).mpr (.inl (e1 ▸ kx)),(gK ny).mpr (.inr e2)⟩
     ·exact⟨(gK ny).mpr (.inr e1),(gK ny).mpr (.inl (e2 ▸ kx))⟩
  ·rw[NM (fun q=>c (by cases q;rfl))] at hz
   obtain⟨S,e1,e2,e3,e4,e5,e6⟩:=h.val z d hz;exact⟨S,e1,e2,e3,e4,e5,fun k hk=>⟨(gK ny).mpr (.inl (e6 k hk).1),(gK ny).mpr (.inl (e6 k hk).2)⟩⟩
 ·rw[C9 ny,Yt]
  refine Ze.mpr ⟨h.nd,by simp,fun a ha b hb z=>ny (Jr ?_)⟩;have hb:b = .inl y:=by simpa using hb
  rw[<-hb,<-z];exact ha
 ·intro k hk
  rw[C9 ny,Yt] at hk;rcases Ys.mp hk with hk | hk
  ·exact h.rng k hk
  ·refine⟨y,by simpa using hk,?_⟩
   omega
noncomputable def C_:GD:=fun ys ai K=>∃ (m:Int) (ws:List Wy) (us:List Int) (i j:Nat),bP m ws/\Nums ws us/\us.length <= 900/\Indep (eC ws us)/\i < m.toNat/\j < m.toNat/\ys=[.p (aN m ws),.p (bt us),.p (.int i),.p (.int j)]/\ai=[] ∧
 (¬ ax (eC ws us) i j->K (.p .non) [])/\∀ R:List Int,R.Nodup->(∀ n,n∈R↔n∈us/\¬ ax (rV ws us n) i j)->ax (eC ws us) i j->K (.p (bt R)) []
noncomputable def Dc:WS:=(ay (aL 4 (Cv (aa 2) (dw ag))) (ay (aL 5 (qJ (aj (aa 2) ag))) (ay (IG (dT (d2 (aa 5) (dw ag) jg)) (ay (aL 6 (vq (aa 5) (aj (dC (.int 0)) ag))) (dR (bO (aa 1)) (bG 7) (ay (aL 8 (hV (d2 (d2 (aa 0) (dC (.int 1)) aW) (aa 7) aW) hU (pF (dC (.int 2))))) (bo (gB (dT (d2 (aa 6) (aa 8) (iA false))) (dT (d2 (aa 7) (rP (aa 4) (aa 6)) (iA true)))) (ay (aL 9 (d2 (d2 (d2 (aa 8) (dC (.int 0)) aW) (d2 (aa 8) (dC (.int 1)) aW) dH) (aa 6) (oI fun i j => .int (i - j)))) (bo (dT (lL true (aa 9) (aa 4))) (ay (ym (d2 (rP (aa 4) (aa 6)) (dw (aj (aa 7) ag)) dH) (aa 4) (aa 9)) (kW (iS (aa 5) (aj (aa 9) ag)))) cK)) cK))))) (aI (Cu (aa 4) (aa 3) (dC .non))))))
noncomputable def TR (ws:List Wy) (us:List Int) (af:List (Key × D)) (jm:List Int):Prop:=∀ x,isKey af x->x∉jm->∀ n∈us,((av ws n).1=x->isKey af (av ws n).2.1)/\((av ws n).2.1=x->isKey af (av ws n).1)
theorem TU:∀ ys ai K',ys.length=4->C_ ys ai K'->Dc (bI ai.length K') ⟨ys.map some ++ List.replicate 6 none,ai.map some⟩:=by
 rintro ys ai K' - ⟨m,ws,us,i,j,W,hu,ul,ind,hi,hj,rfl,rfl,k0,k⟩;have f_:=W.f_;have ri:(0:Int) <= i/\(i:Int) < m:=by omega
 unfold Dc;rw[show bt us = .lst (us.map D.int) from rfl];refine aU fun N hN => ?_;simp? only [Cv,eW,eB];subst hN;refine aU fun N hN => ?_;simp? only [];subst hN;refine aU fun N hN => ?_
 have I0:RI m ws us i [(.inl (i:Int),bt [])]:=by
  have v1:∀ x:Int,bJ [((.inl (i:Int):Key),bt [])] (.inl x)=if x=i then some (bt []) else none:=fun x=>by
   unfold bJ
   by_cases c:x=i
   ·subst c;rw[Xs rfl];simp
   ·rw[NM c];simp[show ¬ ((i:Int)=x) from fun z=>c z.symm]
  refine⟨fun x d hx => ?_,by unfold isKey;rw[v1,Xs rfl];rfl,by simp,fun k hk=>⟨i,by simpa using hk,ri⟩⟩;rw[v1] at hx;split at hx
  ·rename_i e
   subst e;cases hx
   exact⟨[],rfl,ri,.rf,q1a,(fun n=>⟨(fun z=>nomatch z),fun z=>absurd .rf z.2⟩),fun n z=>nomatch z⟩
  ·cases hx
 have go:∀ (fuel:Nat) (af:List (Key × D)) (jm:List Int),RI m ws us i af->(∀ x∈jm,isKey af x)->TR ws us af jm->jm.length <= af.length->jm.length + 12 < fuel + af.length →
   oN ⟨[some (.p (aN m ws)),some (.p (.lst (us.map D.int))),some (.p (.int i)),some (.p (.int j)),some (.o 0),some (.o 1),none,none,none,none],[some (.dct [(.inl (i:Int),bt [])]),some (.lst [.int i])]⟩ (dT (d2 (aa 5) (dw ag) jg)) (ay (aL 6 (vq (aa 5) (aj (dC (.int 0)) ag))) (dR (bO (aa 1)) (bG 7) (ay (aL 8 (hV (d2 (d2 (aa 0) (dC (.int 1)) aW) (aa 7) aW) hU (pF (dC (.int 2))))) (bo (gB (dT (d2 (aa 6) (aa 8) (iA false))) (dT (d2 (aa 7) (rP (aa 4) (aa 6)) (iA true)))) (ay (aL 9 (d2 (d2 (d2 (aa 8) (dC (.int 0)) aW) (d2 (aa 8) (dC (.int 1)) aW) dH) (aa 6) (oI fun i j => .int (i - j)))) (bo (dT (lL true (aa 9) (aa 4))) (ay (ym (d2 (rP (aa 4) (aa 6)) (dw (aj (aa 7) ag)) dH) (aa 4) (aa 9)) (kW (iS (aa 5) (aj (aa 9) ag)))) cK)) cK)))) { bI 0 K' with nx:=N } fuel ⟨[some (.p (aN m ws)),some (.p (.lst (us.map D.int))),some (.p (.int i)),some (.p (.int j)),some (.o 0),some (.o 1),none,none,none,none],[some (.dct af),some (.lst (jm.map D.int))]⟩:=by
  intro fuel
  induction fuel with
  | zero=>intro af jm I _ _ _ hf;have:=I.len f_;omega
  | succ fuel ih =>
   intro af jm I dk cl hd hf;have kl:=I.len f_;refine TN fun A B hA hB => ?_;have d0:=tI jm;simp? only [];refine⟨by omega,?_⟩;rw[show (D.lst [])=D.lst (([]:List Int).map D.int) from rfl];simp only[aD,CK]
   cases jm with
   | nil =>
    rw[NN rfl];simp? only [];rw[hB];show N _;rw[hN];simp? only [Cu,eW,eB]
    have all:∀ {y:Int},ax (eC ws us) i y->isKey af y:=fun {y} c=>by
     induction c with
     | rf=>exact I.one
     | st _ a hb =>
      obtain⟨w,⟨n,hn,rfl⟩,e⟩:=a;have:=cl _ hb (fun z=>nomatch z) n hn;rcases e with⟨e1,e2⟩ | ⟨e1,e2⟩
      ·exact e2 ▸ this.1 e1
      ·exact e1 ▸ this.2 e2
    by_cases c:ax (eC ws us) i j
    ·have hk:=all c
     unfold isKey at hk;obtain⟨d,hd⟩:=Zv.mp hk;obtain⟨R,rfl,_,_,rd,rm,_⟩:=I.val j d hd;simp only[hd];exact⟨[],rfl,rfl,k R rd rm c⟩
    ·cases q:bJ af (.inl (j:Int)) with
     | none=>exact⟨[],rfl,rfl,k0 c⟩
     | some d=>obtain⟨R,_,_,cj,_⟩:=I.val j d q;exact absurd cj c
   | cons x jm =>
    rw[Fq] at hd hf;rw[Xp (by simp)];simp? only [];subst hA;obtain⟨dx,hx⟩:=Zv.mp (dk x (.head _));obtain⟨R,rfl,rx,cx,rd,rm,re⟩:=I.val x dx hx;refine aU fun N2 eg => ?_;simp? only [TQ];refine⟨by decide,?_⟩;simp only[List.eraseIdx_cons_zero];subst eg;refine pM fun g' b' K2 hg hb' hK => ?_;simp? only [];subst hg hb' hK;have dz:∀ R:List Int,bw (R.map D.int)=0:=tI
    refine mz (fun t δ => ∃ (bX:List (Key × D)) (fE:List Int),RI m ws us i bX/\(∀ z,isKey af z->isKey bX z)/\bJ bX (.inl x)=some (bt R)/\(∀ z∈fE,isKey bX z)/\(∀ z,isKey bX z->z∉fE->z≠x->∀ n∈us,((av ws n).1=z->isKey bX (av ws n).2.1)/\((av ws n).2.1=z->isKey bX (av ws n).1))/\(∀ n∈us.take t,((av ws n).1=x->isKey bX (av ws n).2.1)/\((av ws n).2.1=x->isKey bX (av ws n).1))/\fE.length + af.length=jm.length + bX.length ∧
     δ = ⟨[some (.p (aN m ws)),some (.p (.lst (us.map D.int))),some (.p (.int i)),some (.p (.int j)),some (.o 0),some (.o 1),some (.p (.int x)),none,none,none],[some (.dct bX),some (.lst (fE.map D.int))]⟩) ?_ ?_ ?_
    ·exact⟨af,jm,I,fun _ h=>h,hx,fun z hz=>dk z (.tail _ hz),(fun z hz zd zx=>cl z hz (fun q=>(Xq.mp q).elim zx zd)),(fun n z=>nomatch z),rfl,rfl⟩
    ·rintro t d δ L ht ⟨bX,fE,I',mono,gz,rD,yz,dn,ln,rfl⟩ hL
     rw[My] at ht;obtain⟨n,hn,rfl⟩:=Xt.mp ht;have hm:=Yf hn;have et:us.take (t + 1)=us.take t ++ [n]:=by rw[ZP,hn];rfl
     obtain⟨n0,n1⟩:=hu n hm;obtain⟨y,ey,hy,ea,_⟩:=lG W n0 n1;have ey:av ws n=y:=ey;have ends:=W.ends y hy;have XT:=I'.len f_;obtain⟨R',eR,_,_,_,XU,xH⟩:=I'.val x _ gz
     have eR:R=R':=by
      have:=IW R R';rw[eR,eT] at this;exact YQ this.symm
     subst eR;have kx:isKey bX x:=by unfold isKey;rw[gz];rfl
     refine⟨trivial,?_⟩;simp only[bG,YC,YD];have ec:cutD [D.int y.1,D.int y.2.1,D.int y.2.2] none (some 2)=[D.int y.1,D.int y.2.1]:=rfl;refine aU fun N2 eg => ?_;simp? only [aN,d_,ea,bV,ec];subst eg
     have same:((av ws n).1=x->isKey bX (av ws n).2.1)/\((av ws n).2.1=x->isKey bX (av ws n).1)->L ⟨[some (.p (aN m ws)),some (.p (.lst (us.map D.int))),some (.p (.int i)),some (.p (.int j)),some (.o 0),some (.o 1),some (.p (.int x)),none,none,none],[some (.dct bX),some (.lst (fE.map D.int))]⟩:=fun h=>by
      refine hL _ ⟨bX,fE,I',mono,gz,rD,yz,fun z hz => ?_,ln,rfl⟩;rw[et] at hz;rcases Ys.mp hz with hz | hz
      ·exact dn z hz
      ·obtain rfl:z=n:=Yn.mp hz
       exact h
     refine jh fun A1 B1 hA hB => ?_;simp? only [rP,eW,eB];have ia:([D.int y.1,D.int y.2.1].any fun e=>aD e (.int x))=decide (x∈[y.1,y.2.1]):=rQ [y.1,y.2.1] x;simp only[ZJ,List.any_nil,Bool.or_false] at ia;rw[ia]
     by_cases ce:x∈[y.1,y.2.1]
     ·rw[NN ce]
      have ce:x=y.1\/x=y.2.1:=by simpa using ce
      simp? only [gz,bt];have dy:=dz R;refine⟨by omega,?_⟩;rw[rQ]
      by_cases cr:n∈R
      ·rw[NN cr]
       simp? only [];subst hB;exact same ⟨fun _=>(xH n cr).2,fun _=>(xH n cr).1⟩
      ·rw[Xp cr]
       simp? only [];subst hA;refine aU fun N2 eg => ?_;simp? only [fB,d_];subst eg
       obtain⟨o,eo,he⟩:∃ o:Int,y.1 + y.2.1 - x=o/\(((av ws n).1=x/\(av ws n).2.1=o)\/((av ws n).1=o/\(av ws n).2.1=x)):=by
        rw[ey];rcases ce with c | c
        ·exact⟨y.2.1,by omega,.inl ⟨c.symm,rfl⟩⟩
        ·exact⟨y.1,by omega,.inr ⟨rfl,c.symm⟩⟩
       rw[eo]
       have xo:x≠o:=by
        rw[ey] at he;omega
       refine jh fun A1 B1 hA hB => ?_;simp? only [lL,eW,eB]
       by_cases ko:isKey bX o
       ·rw[show (bJ bX (.inl o)).isSome=true from ko,NM (by decide)]
        subst hB;refine same ?_;rcases he with⟨e1,e2⟩ | ⟨e1,e2⟩
        ·exact⟨fun _=>e2 ▸ ko,fun z=>absurd (e2.symm.trans z) fun z=>xo z.symm⟩
        ·exact⟨fun z=>absurd (e1.symm.trans z) fun z=>xo z.symm,fun _=>e1 ▸ ko⟩
       ·rw[yy ko,Option.isSome_none,Xs (by decide)]
        subst hA;have I2:=I'.put W hu ind gz hm he cr ko;refine aU fun N2 eg => ?_;simp? only [ym,rP,eW,eB,gz,bt];refine⟨by have:=(I'.val x _ gz);have rl:R.length <= us.length:=Z6 rd (fun z hz=>((rm z).mp hz).1);omega,by omega,?_⟩;subst eg;simp? only [];refine⟨by omega,?_⟩;have:=hL ⟨[some (.p (aN m ws)),some (.p (.lst (us.map D.int))),some (.p (.int i)),some (.p (.int j)),some (.o 0),some (.o 1),some (.p (.int x)),none,none,none],[some (.dct (putD bX (.inl o) (bt (R ++ [n])))),some (.lst ((fE ++ [o]).map D.int))]⟩ ⟨_,fE ++ [o],I2,fun z hz=>(gK ko).mpr (.inl (mono z hz)),?_,?_,?_,?_,?_,rfl⟩
        ·rw[Yt] at this
         unfold bt at this;rw[Yt] at this;exact this
        ·rw[Cy (yy ko),NM (fun q=>xo (by cases q;rfl))];exact gz
        ·intro z hz
         rcases Ys.mp hz with hz | hz
         ·exact (gK ko).mpr (.inl (rD z hz))
         ·exact (gK ko).mpr (.inr (Yn.mp hz))
        ·intro z hz zd zx w hw
         rcases (gK ko).mp hz with hz | rfl
         ·have:=yz z hz (fun q=>zd (Yz _ q)) zx w hw
          exact⟨fun e=>(gK ko).mpr (.inl (this.1 e)),fun e=>(gK ko).mpr (.inl (this.2 e))⟩
         ·exact absurd (NK _ (.head _)) zd
        ·intro z hz
         rw[et] at hz;rcases Ys.mp hz with hz | hz
         ·exact⟨fun e=>(gK ko).mpr (.inl ((dn z hz).1 e)),fun e=>(gK ko).mpr (.inl ((dn z hz).2 e))⟩
         ·obtain rfl:z=n:=Yn.mp hz
          rcases he with⟨e1,e2⟩ | ⟨e1,e2⟩
          ·exact⟨fun _=>(gK ko).mpr (.inr e2),fun q=>absurd (e2.symm.trans q) fun q=>xo q.symm⟩
          ·exact⟨fun q=>absurd (e1.symm.trans q) fun q=>xo q.symm,fun _=>(gK ko).mpr (.inr e1)⟩
        ·rw[C9 ko,Fv,Fv,Yi,Yi];omega
     ·rw[Xp ce]
      simp? only [];subst hB;rw[ey] at same;refine same ⟨fun e=>absurd ?_ ce,fun e=>absurd ?_ ce⟩
      ·rw[e];exact .head _
      ·rw[e];exact .tail _ (.head _)
    ·rintro δ ⟨bX,fE,I',mono,gz,rD,yz,dn,ln,rfl⟩
     rw[qx,q1t] at dn;refine⟨trivial,?_⟩;simp? only [];refine ih bX fE I' rD (fun z hz zd w hw => ?_) (by omega) (by omega)
     by_cases c:z=x
     ·subst c;exact dn w hw
     ·exact yz z hz zd c w hw
 exact⟨13,go 13 _ [(i:Int)] I0 (fun x hx=>by rw[Yn.mp hx];exact I0.one) (fun x hx xd=>absurd (by
  have:x=i:=by
   unfold isKey bJ at hx
   by_cases c:x=i
   ·exact c
   ·simp[show ¬ ((i:Int)=x) from fun z=>c z.symm] at hx
  rw[this];exact .head _) xd) (by simp) (by simp)⟩
end LJ
namespace PySem
open Sem (wp)
structure ZG (z TI TO i j:Addr) (fp gp:List Addr):Prop where
 a1:TI≠z
 a2:TO≠z
 a3:i≠z
 a4:j≠z
 a5:TI≠TO
 a6:TI≠i
 a7:TI≠j
 a8:TO≠i
 a9:TO≠j
 b1:i≠j
 f1:z∉fp
 f2:TO∉fp
 f3:j∉fp
 g1:z∉gp
 g2:TO∉gp
 g3:i∉gp
theorem bk {a:Addr} {h h':Heap} (hs:Heap.SameBut a h h') {b:Addr} {o:Obj} (n:b≠a) (e:h.get? b=some o):h'.get? b=some o:=(hs.2 b n).trans e
section
variable {prog:Program} {w:World} {A:Around} {E:Value->Shared->Prop} {s:Shared} {z TI TO i j:Addr} {fp gp:List Addr} {n m k:Nat} {P P':Nat->Value->Prop} {St jU:Nat->Heap->Prop} {a b:Value}
theorem TV {Q:Value->Shared->Prop} (D:Draws prog w A i fp n P St) (D':Draws prog w A j gp m P' jU) (Z:ZG z TI TO i j fp gp)
  (hz:IsZip s.heap z TI TO .none) (hI:IsPair s.heap TI (.ref i) (.ref j)) (hO:IsPair s.heap TO a b) (st:St k s.heap) (dX:jU k s.heap) (hk:k < n) (d9:k < m)
  (hQ:∀ x y h' tk,P k x->P' k y->IsZip h' z TI TO (rawInt s.heap.objs.size)->IsPair h' TO x y->St (k + 1) h'->jU (k + 1) h'->IsPair h' s.heap.objs.size x y →
   (∀ c o,c≠z->c≠TO->c≠i->c≠j->s.heap.get? c=some o->h'.get? c=some o)->Q (.ref s.heap.objs.size) { s with heap:=h',toks:=tk }) :
  wpAny (model prog w) A (Builtin.«zip.__next__» ⟨[.ref z],[]⟩) (fun fin s'=>∃ v,fin = .done (.ret v)/\Q v s') E s:=by
 show wpAny _ _ (field (.ref z) 2 >>= _) _ _ _;refine ni (Zd hz rfl (x := .bool false) rfl ?_);show wpAny _ _ (field (.ref z) 3 >>= _) _ _ _;refine ni (Zd hz rfl (x := .ref TI) rfl (ni (YN hI rfl ?_)));show wpAny _ _ (Builtin.SmallTypes.ownedTupleIsFree (.ref z) >>= _) _ _ _;refine ni ?_;unfold Builtin.SmallTypes.ownedTupleIsFree;refine ni (Zd hz rfl (x := .none) rfl (zR ?_));simp only[Z0];refine ni (q0Q (ni (Zd hz rfl (x := .ref TO) rfl (ni (ZQ hz (by simp) fun k1 z1 s1 => ?_)))));have z1:IsZip k1 z TI TO .ellipsis:=z1;refine ni ?_;simp only[List.zipIdx_cons,List.zipIdx_nil,q1O,q13];refine ni (ni (q1l ?_));show wpAny _ _ (Builtin.SmallTypes.nextOf (.ref i) >>= _) _ _ _
 refine ni (D.item k { s with heap:=k1 } _ _ hk (D.frame k _ _ st fun c hc o e=>bk s1 (fun y=>Z.f1 (y ▸ hc)) e) fun x k2 t2 px ie s2=>zR ?_);have o2:IsPair k2 TO a b:=bk s2 Z.a8 (bk s1 Z.a2 hO);refine ni (YN o2 rfl (ni (q0V o2 fun k3 o3 s3 => ?_)));have o3:IsPair k3 TO x b:=o3;refine ni (ZA (zR (ni (ni (q1l ?_)))));show wpAny _ _ (Builtin.SmallTypes.nextOf (.ref j) >>= _) _ _ _;have rW:jU k k3:=D'.frame k _ _ dX fun c hc o e=>bk s3 (fun y=>Z.g2 (y ▸ hc)) (bk s2 (fun y=>Z.g3 (y ▸ hc)) (bk s1 (fun y=>Z.g1 (y ▸ hc)) e));have kG:St (k + 1) k3:=D.frame _ _ _ ie fun c hc o e=>bk s3 (fun y=>Z.f2 (y ▸ hc)) e
 refine ni (D'.item k { s with heap:=k3,toks:=t2 } _ _ d9 rW fun y k4 t4 py Js s4=>zR ?_);have o4:IsPair k4 TO x b:=bk s4 Z.a9 o3;refine ni (YN o4 rfl (ni (q0V o4 fun k5 o5 s5 => ?_)));have o5:IsPair k5 TO x y:=o5;refine ni (ZA (zR (zR (ni (YN o5 rfl (ni (wpAny_newTuple ?_)))))));have sz:k5.objs.size=s.heap.objs.size:=by rw[s5.1,s4.1,s3.1,s2.1,s1.1]
 have z5:IsZip k5 z TI TO .ellipsis:=bk s5 Z.a2.symm (bk s4 Z.a4.symm (bk s3 Z.a2.symm (bk s2 Z.a3.symm z1)));have kp:∀ c o,c≠z->c≠TO->c≠i->c≠j->s.heap.get? c=some o->k5.get? c=some o:=fun c o c1 c2 c3 c4 e=>bk s5 c2 (bk s4 c4 (bk s3 c2 (bk s2 c3 (bk s1 c1 e))));have t5:St (k + 1) k5:=D.frame _ _ _ kG fun c hc o e=>bk s5 (fun y=>Z.f2 (y ▸ hc)) (bk s4 (fun y=>Z.f3 (y ▸ hc)) e);have TX:jU (k + 1) k5:=D'.frame _ _ _ Js fun c hc o e=>bk s5 (fun y=>Z.g2 (y ▸ hc)) e;have zl:z < k5.objs.size:=NL z5;show wpAny _ _ (Builtin.SmallTypes.ownedTupleHandOut (.ref z) (.ref k5.objs.size) >>= _) _ _ _;refine ni ?_;unfold Builtin.SmallTypes.ownedTupleHandOut
 refine ni (ZQ (show IsZip (k5.push { cls := .type "tuple",data := .seq #[x,y] }) z TI TO .ellipsis from qw _ z5) (by simp) fun k7 z7 s7 => ?_);have z7:IsZip k7 z TI TO (rawInt k5.objs.size):=z7;refine ZQ z7 (by simp) fun k8 z8 s8 => ?_;have z8:IsZip k8 z TI TO (rawInt k5.objs.size):=z8;have up:∀ c o,c≠z->k5.get? c=some o->k8.get? c=some o:=fun c o c1 e=>bk s8 c1 (bk s7 c1 (qw _ e));have p8:IsPair k8 k5.objs.size x y:=bk s8 (ZI zl) (bk s7 (ZI zl) (Xr _ rfl));rw[sz] at z8 p8;refine zR ⟨_,rfl,?_⟩;show Q (.ref k5.objs.size) _;rw[sz];exact hQ x y k8 t4 px py z8 (up _ _ Z.a2 o5) (D.frame _ _ _ t5 fun c hc o e=>up c o (fun y=>Z.f1 (y ▸ hc)) e) (D'.frame _ _ _ TX fun c hc o e=>up c o (fun y=>Z.g1 (y ▸ hc)) e) p8 fun c o c1 c2 c3 c4 e=>up c o c1 (kp c o c1 c2 c3 c4 e)
theorem TY {Q:Fin->Shared->Prop} (D:Draws prog w A i fp n P St) (D':Draws prog w A j gp m P' jU) (Z:ZG z TI TO i j fp gp)
  (hz:IsZip s.heap z TI TO .none) (hI:IsPair s.heap TI (.ref i) (.ref j)) (hO:IsPair s.heap TO a b) (st:St k s.heap) (dX:jU k s.heap) (hk:k=n\/(k < n/\k=m))
  (hE:∀ h' e tk,(∀ c o,c≠z->c≠TO->c≠i->c≠j->s.heap.get? c=some o->h'.get? c=some o)->(∃ o,h'.get? e=some o/\o.cls = .type "StopIteration")->E (.ref e) { s with heap:=h',toks:=tk }) :
  wpAny (model prog w) A (Builtin.«zip.__next__» ⟨[.ref z],[]⟩) Q E s:=by
 show wpAny _ _ (field (.ref z) 2 >>= _) _ _ _;refine ni (Zd hz rfl (x := .bool false) rfl ?_);show wpAny _ _ (field (.ref z) 3 >>= _) _ _ _;refine ni (Zd hz rfl (x := .ref TI) rfl (ni (YN hI rfl ?_)));show wpAny _ _ (Builtin.SmallTypes.ownedTupleIsFree (.ref z) >>= _) _ _ _;refine ni ?_;unfold Builtin.SmallTypes.ownedTupleIsFree;refine ni (Zd hz rfl (x := .none) rfl (zR ?_));simp only[Z0];refine ni (q0Q (ni (Zd hz rfl (x := .ref TO) rfl (ni (ZQ hz (by simp) fun k1 z1 s1 => ?_)))));have z1:IsZip k1 z TI TO .ellipsis:=z1;refine ni ?_;simp only[List.zipIdx_cons,List.zipIdx_nil,q1O,q13];refine ni (ni (q1l ?_));show wpAny _ _ (Builtin.SmallTypes.nextOf (.ref i) >>= _) _ _ _
 have iN:St k k1:=D.frame k _ _ st fun c hc o e=>bk s1 (fun y=>Z.f1 (y ▸ hc)) e;rcases hk with rfl | ⟨hk,rfl⟩
 ·refine ni (D.done { s with heap:=k1 } _ _ iN fun k2 e s2 he => ?_)
  obtain⟨oe,ho,hc⟩:=he;have z2:IsZip k2 z TI TO .ellipsis:=s2 _ _ Z.a3.symm z1;have ez:e≠z:=fun x=>by subst x;rw[z2] at ho;cases ho;simp at hc
  exact ZQ z2 (by simp) fun k3 _ s3=>hE k3 e _ (fun c o c1 _ c3 _ x=>bk s3 c1 (s2 _ _ c3 (bk s1 c1 x))) ⟨oe,bk s3 ez ho,hc⟩
 ·refine ni (D.item k { s with heap:=k1 } _ _ hk iN fun x k2 t2 px ie s2=>zR ?_)
  have o2:IsPair k2 TO a b:=bk s2 Z.a8 (bk s1 Z.a2 hO);refine ni (YN o2 rfl (ni (q0V o2 fun k3 o3 s3 => ?_)));refine ni (ZA (zR (ni (ni (q1l ?_)))));show wpAny _ _ (Builtin.SmallTypes.nextOf (.ref j) >>= _) _ _ _;have rW:jU k k3:=D'.frame k _ _ dX fun c hc o e=>bk s3 (fun y=>Z.g2 (y ▸ hc)) (bk s2 (fun y=>Z.g3 (y ▸ hc)) (bk s1 (fun y=>Z.g1 (y ▸ hc)) e));refine ni (D'.done { s with heap:=k3,toks:=t2 } _ _ rW fun k4 e s4 he => ?_);obtain⟨oe,ho,hc⟩:=he;have z4:IsZip k4 z TI TO .ellipsis:=s4 _ _ Z.a4.symm (bk s3 Z.a2.symm (bk s2 Z.a3.symm z1));have ez:e≠z:=fun x=>by subst x;rw[z4] at ho;cases ho;simp at hc
  exact ZQ z4 (by simp) fun k5 _ s5=>hE k5 e _ (fun c o c1 c2 c3 c4 x=>bk s5 c1 (s4 _ _ c4 (bk s3 c2 (bk s2 c3 (bk s1 c1 x))))) ⟨oe,bk s5 ez ho,hc⟩
theorem TZ {Q:Option Value->Shared->Prop} (D:Draws prog w A.in1 i fp n P St) (D':Draws prog w A.in1 j gp m P' jU) (Z:ZG z TI TO i j fp gp)
  (hz:IsZip s.heap z TI TO .none) (hI:IsPair s.heap TI (.ref i) (.ref j)) (hO:IsPair s.heap TO a b) (st:St k s.heap) (dX:jU k s.heap) (hk:k < n) (d9:k < m)
  (hQ:∀ x y h' tk,P k x->P' k y->IsZip h' z TI TO (rawInt s.heap.objs.size)->IsPair h' TO x y->St (k + 1) h'->jU (k + 1) h'->IsPair h' s.heap.objs.size x y →
   (∀ c o,c≠z->c≠TO->c≠i->c≠j->s.heap.get? c=some o->h'.get? c=some o)->Q (some (.ref s.heap.objs.size)) { s with heap:=h',toks:=tk }):wpAny (model prog w) A (pyNext (.ref z)) Q E s:=by
 have hT:s.TypeIs (.ref z) "zip" := ⟨_,hz,rfl⟩;unfold pyNext;exact ni (wpAny_attempt (Zi (name:=Str.ofString "__next__") hT q01 (ZK q01 hT F.entry_zip_next (TV D D' Z hz hI hO st dX hk d9 fun x y h' tk a1 a2 a3 a4 a5 a6 a7 a8=>zR (hQ x y h' tk a1 a2 a3 a4 a5 a6 a7 a8)) (F.args_zip_next_1 _))))
theorem T1 {Q:Option Value->Shared->Prop} (D:Draws prog w A.in1 i fp n P St) (D':Draws prog w A.in1 j gp m P' jU) (Z:ZG z TI TO i j fp gp)
  (hz:IsZip s.heap z TI TO .none) (hI:IsPair s.heap TI (.ref i) (.ref j)) (hO:IsPair s.heap TO a b) (st:St k s.heap) (dX:jU k s.heap) (hk:k=n\/(k < n/\k=m))
  (hQ:∀ h' tk,(∀ c o,c≠z->c≠TO->c≠i->c≠j->s.heap.get? c=some o->h'.get? c=some o)->Q none { s with heap:=h',toks:=tk }):wpAny (model prog w) A (pyNext (.ref z)) Q E s:=by
 have hT:s.TypeIs (.ref z) "zip" := ⟨_,hz,rfl⟩;unfold pyNext;refine ni (wpAny_attempt (Zi (name:=Str.ofString "__next__") hT q01 (ZK q01 hT F.entry_zip_next (TY D D' Z hz hI hO st dX hk fun h' e tk kp he => ?_) (F.args_zip_next_1 _))));obtain⟨o,ho,hc⟩:=he;exact ni (wpAny_isInstance (T := "StopIteration") (b:=true) ⟨o,ho,hc⟩ isSubtype_stop (zR (hQ _ _ kp)))
end
noncomputable def dE (h:Heap) (t:Bool) (l:Addr) (xs:Array Value):Prop:=match t with
 | true=>h.IsTuple l xs
 | false=>h.IsList l xs
noncomputable abbrev iW (t:Bool) (l:Addr) (k:Nat):Obj:={ cls := .type (match t with | true => "tuple_iterator" | false => "list_iterator"),data := .fields #[.ref l,.int k 0] }
noncomputable def eX (h:Heap) (t:Bool) (it l:Addr) (k:Nat):Prop:=match t with
 | true=>h.IsTupleIter it l k
 | false=>h.IsListIter it l k
theorem dE.lt {h:Heap} {t:Bool} {l:Addr} {xs:Array Value} (x:dE h t l xs):l < h.objs.size:=by
 cases t<;>(obtain⟨o,e,_⟩:=x;exact NL e)
theorem dE.at {h h':Heap} {t:Bool} {l:Addr} {xs:Array Value} (x:dE h t l xs) (k:∀ o,h.get? l=some o->h'.get? l=some o):dE h' t l xs:=by
 cases t with
 | true=>exact Heap.IsTuple.at x k
 | false=>exact Heap.IsList.at x k
theorem eX.at {h h':Heap} {t:Bool} {i l:Addr} {n:Nat} (x:eX h t i l n) (k:∀ o,h.get? i=some o->h'.get? i=some o):eX h' t i l n:=by
 cases t with
 | true=>exact Heap.IsTupleIter.at x k
 | false=>exact Heap.IsListIter.at x k
theorem eX.obj {h:Heap} {t:Bool} {i l:Addr} {n:Nat} (x:eX h t i l n):∃ o,h.get? i=some o/\∀ v,o.data ≠ .cell v:=by
 cases t<;>(obtain⟨o,e,_,d⟩:=x;exact⟨o,e,fun v z=>by rw[d] at z;cases z⟩)
theorem eX.new {h:Heap} {t:Bool} {i l:Addr} (e:h.get? i=some (iW t l 0)):eX h t i l 0:=by
 cases t<;>exact⟨_,e,rfl,rfl⟩
section
variable {prog:Program} {w:World} {A:Around} {E:Value->Shared->Prop} {s:Shared}
theorem yA (hh:A.handled=none) (t:Bool) (it l:Addr) (gQ:l≠it) (items:Array Value):Draws prog w A it [it,l] items.size (fun i v=>items[i]? = some v) (fun i h=>eX h t it l i/\dE h t l items):=by
 cases t
 ·exact Draws.list hh it l gQ items
 ·exact AK hh it l gQ items
theorem Jt {t:Bool} {l:Addr} {xs:Array Value} {Q:Value->Shared->Prop} (hl:dE s.heap t l xs) (h:Q (.ref s.heap.objs.size) { s with heap:=s.heap.push (iW t l 0) }):wpAny (model prog w) A (pyIter (.ref l)) Q E s:=by
 cases t
 ·exact ZE hl h
 ·exact Z9 hl h
end
noncomputable abbrev yB (h:Heap) (t:Bool) (l:Addr):Heap:=h.push (iW t l 0)
noncomputable abbrev yC (h:Heap) (t u:Bool) (l m:Addr):Heap:=(yB h t l).push (iW u m 0)
noncomputable abbrev yD (h:Heap) (t u:Bool) (l m:Addr):Heap:=(yC h t u l m).push { cls := .type "tuple",data := .seq #[.ref h.objs.size,.ref (yB h t l).objs.size] }
noncomputable abbrev yE (h:Heap) (t u:Bool) (l m:Addr):Heap:=(yD h t u l m).push { cls := .type "tuple",data := .seq #[.none,.none] }
noncomputable abbrev tL (h:Heap) (t u:Bool) (l m:Addr):Heap:=(yE h t u l m).push { cls := .type "zip",data := .fields #[.none,.bool false,.bool false,.ref (yC h t u l m).objs.size,.ref (yD h t u l m).objs.size] }
theorem T2 (t u:Bool) (l m:Addr) (xs ys:Array Value) :
  Meets (Builtin.«zip.__new__» ⟨[.type "zip",.ref l,.ref m],[]⟩) (fun _ R s=>dE s.heap t l xs/\dE s.heap u m ys/\R (.ok (.ret (.ref (yE s.heap t u l m).objs.size))) { s with heap:=tL s.heap t u l m }) :=
 .of_wp fun prog w A R s h=>by
  obtain⟨hp,g,d,tk,os⟩:=s;obtain⟨h1,h2,h⟩:=h;have AH:=sub_zip;have e1:dE (Shared.heap ⟨hp,g,d,tk,os⟩) t l xs:=h1;have e2:dE (Shared.heap ⟨hp.push (iW t l 0),g,d,tk,os⟩) u m ys:=dE.at h2 fun o e=>qw _ e
  wp_walk using Jt e1,Jt e2
  exact⟨_,rfl,h⟩
section
variable {prog:Program} {w:World} {A:Around} {E:Value->Shared->Prop} {s:Shared}
theorem T3 {t u:Bool} {l m:Addr} {xs ys:Array Value} {Q:Value->Shared->Prop} (h1:dE s.heap t l xs) (h2:dE s.heap u m ys)
  (h:∀ h',IsZip h' (s.heap.objs.size + 4) (s.heap.objs.size + 2) (s.heap.objs.size + 3) .none->IsPair h' (s.heap.objs.size + 2) (.ref s.heap.objs.size) (.ref (s.heap.objs.size + 1)) →
   IsPair h' (s.heap.objs.size + 3) .none .none->eX h' t s.heap.objs.size l 0->eX h' u (s.heap.objs.size + 1) m 0->(∀ c o,s.heap.get? c=some o->h'.get? c=some o)->Q (.ref (s.heap.objs.size + 4)) { s with heap:=h' }) :
  wpAny (model prog w) A (call (.type "zip") [.ref l,.ref m]) Q E s:=by
 refine callType_new F.called_zip (by decide) (F.typeCall_zip_2 _ _) (F.newCall_zip_2 _ _) (fun obj=>F.args_object_init_3 obj _ _) F.entry_zip_new (T2 t u l m xs ys) ⟨h1,h2,?_⟩;have z1:(yB s.heap t l).objs.size=s.heap.objs.size + 1:=Zo ..;have z2:(yC s.heap t u l m).objs.size=s.heap.objs.size + 2:=by rw[Zo,z1]
 have z3:(yD s.heap t u l m).objs.size=s.heap.objs.size + 3:=by rw[Zo,z2]
 have z4:(yE s.heap t u l m).objs.size=s.heap.objs.size + 4:=by rw[Zo,z3]
 have q5:(tL s.heap t u l m).get? (yE s.heap t u l m).objs.size=some _:=Xr _ rfl;have q4:(tL s.heap t u l m).get? (yD s.heap t u l m).objs.size=some _:=qw _ (Xr _ rfl);have q3:(tL s.heap t u l m).get? (yC s.heap t u l m).objs.size=some _:=qw _ (qw _ (Xr _ rfl));have q2:(tL s.heap t u l m).get? (yB s.heap t l).objs.size=some (iW u m 0):=qw _ (qw _ (qw _ (Xr _ rfl)));have q1:(tL s.heap t u l m).get? s.heap.objs.size=some (iW t l 0):=qw _ (qw _ (qw _ (qw _ (Xr _ rfl))));show _/\_;rw[z2,z3,z4] at q5;rw[z1,z2] at q3;rw[z3] at q4;rw[z1] at q2;rw[z4];exact⟨⟨_,q5,rfl⟩,h _ q5 q3 q4 (.new q1) (.new q2) fun c o x=>qw _ (qw _ (qw _ (qw _ (qw _ x))))⟩
end
end PySem
namespace L2
open PySem PySem.Spec PyProof.Rows
noncomputable def jV (K:PySem.W.Frag) (H:Hp) (t:Bool) (a:Addr) (xs:List V):Prop:=match t with
 | true=>bF K H a xs
 | false=>bz K H a xs
section
variable {X:Cx} {pins:List (Addr × Obj)} {σ : St} {H:Hp} {s:Shared}
theorem Inv.sq {t:Bool} {a:Addr} {xs:List V} (I:Inv X pins σ H s) (h:jV X.K H t a xs):∃ aq:List Value,Vals xs aq/\dE s.heap t a aq.toArray:=by
 cases t
 ·obtain⟨aq,r,p,_⟩:=I.list h;exact⟨aq,r,p.isList⟩
 ·obtain⟨aq,r,⟨o,o1,o2,n,o3⟩,_⟩:=I.tuple h;exact⟨aq,r,o,o1,o2,n,o3⟩
theorem Inv.lW {t:Bool} {a:Addr} {xs ys:List V} (I:Inv X pins σ H s) (h:jV X.K H t a xs) (h':jV X.K H t a ys):xs=ys:=by
 cases t
 ·exact I.fm h h'
 ·exact I.d4 h h'
end
noncomputable def wm (K:PySem.W.Frag) (t u:Bool) (a b:Addr):It :=
 ⟨fun i H=>∃ xs ys x y,jV K H t a xs/\jV K H u b ys/\xs[i]? = some x/\ys[i]? = some y,
  fun i H v H'=>∃ T x y,v = .ref T/\H T=none/\H'=upd H T (.tup [x,y])/\(∀ xs,jV K H t a xs->xs[i]? = some x)/\∀ ys,jV K H u b ys->ys[i]? = some y,
  fun i H=>∃ xs ys,jV K H t a xs/\jV K H u b ys/\((xs.length=i)\/(i < xs.length/\ys.length=i))⟩
structure Dd (t u:Bool) (z TI TO i1 i2 l1 l2:Addr) (i:Nat) (h:Heap):Prop where
 hz:IsZip h z TI TO .none
 kr:IsPair h TI (.ref i1) (.ref i2)
 lX:∃ x y,IsPair h TO x y
 h1:eX h t i1 l1 i
 h2:eX h u i2 l2 i
theorem T4 {P:Program} {w:World} {K:PySem.W.Frag} {elts:List Expr} {x1} {tp:Pos} {t u:Bool} {z TI TO i1 i2 l1 l2:Addr} (D:ZG z TI TO i1 i2 [i1,l1] [i2,l2]) (n1:l1≠i1) (n2:l2≠i2) :
  Turn P w K (.Tuple elts x1 tp) (wm K t u l1 l2) [z,TI,TO,i1,i2] z (Dd t u z TI TO i1 i2 l1 l2) where
 mem:=by simp
 obj:=fun i h st b hb=>by
  obtain⟨hz,kr,⟨x,y,lX⟩,g1,g2⟩:=st;simp only[Xq,Ym,ZX] at hb;rcases hb with rfl | rfl | rfl | rfl | rfl
  ·exact⟨_,hz,fun v z=>by cases z⟩
  ·exact⟨_,kr,fun v z=>by cases z⟩
  ·exact⟨_,lX,fun v z=>by cases z⟩
  ·exact g1.obj
  ·exact g2.obj
 keep:=fun i h h' st k=>by
  obtain⟨hz,kr,⟨x,y,lX⟩,g1,g2⟩:=st;exact⟨k z (by simp) _ hz,k TI (by simp) _ kr,⟨x,y,k TO (by simp) _ lX⟩,g1.at fun o q=>k i1 (by simp) o q,g2.at fun o q=>k i2 (by simp) o q⟩
 item:=by
  intro X hP hw hK hc i pins s σ H E I hf st hg;subst hP hw hK;obtain⟨hz,kr,⟨a,b,lX⟩,g1,g2⟩:=id st;obtain⟨xs,ys,x,y,tM,tN,hx,hy⟩:=hg;obtain⟨aq,rv,p⟩:=I.sq tM;obtain⟨bc,wo,p2⟩:=I.sq tN;have hh:X.A.in1.handled=none:=by rw[ZN];exact I.ok.hd hc
  have lx:=(sA.mp hx).1;have ly:=(sA.mp hy).1;refine TZ (yA hh t i1 l1 n1 aq.toArray) (yA hh u i2 l2 n2 bc.toArray) D hz kr lX ⟨g1,p⟩ ⟨g2,p2⟩ (by rw[wO,<-rv.length];exact lx) (by rw[wO,<-wo.length];exact ly) fun cu cv k1 tk pu pv z1 t1 a1 a2 T5 yF=>⟨_,rfl,?_⟩;obtain⟨u',hu,ru⟩:=rv.get hx;obtain⟨v',hv,T6⟩:=wo.get hy;have pu:aq[i]? = some cu:=by simpa using pu
  have pv:bc[i]? = some cv:=by simpa using pv
  rw[hu] at pu;rw[hv] at pv;obtain rfl:=Yh pu;obtain rfl:=Yh pv;refine wpAny_letOwnedTupleGo_zip z1 fun k2 z2 dY => ?_;have T7:s.heap.objs.size≠z:=ZI (NL hz);have T8:IsPair k2 s.heap.objs.size u' v':=(dY.2 _ T7).trans T5
  have T9:∀ b o,b∉[z,TI,TO,i1,i2]->s.heap.get? b=some o->k2.get? b=some o:=fun b o hb q=>by
   simp only[Xq,Ym,ZX,not_or] at hb;exact (dY.2 _ hb.1).trans (yF b o hb.1 hb.2.2.1 hb.2.2.2.1 hb.2.2.2.2 q)
  have hn:H s.heap.objs.size=none:=I.aM.fresh (uu _);refine⟨.ref s.heap.objs.size,upd H s.heap.objs.size (.tup [x,y]),I.ft (ch:=[z,TI,TO,i1,i2]) (t':=tk) hf T9 (uu _) ?_,rfl,⟨_,x,y,rfl,hn,rfl,fun zs hy=>by rw[I.lW hy tM];exact hx,fun zs sZ=>by rw[I.lW sZ tN];exact hy⟩,⟨z2,?_,⟨u',v',(dY.2 _ D.a2).trans t1⟩,a1.1.at fun o q=>(dY.2 _ D.a3).trans q,a2.1.at fun o q=>(dY.2 _ D.a4).trans q⟩,fun b hb => ?_⟩
  ·exact⟨by show 2 <= sizeLine;decide,[u',v'],.cons ru (.cons T6 .nil),_,T8,rfl,_,rfl⟩
  ·exact (dY.2 _ D.a1).trans (yF TI _ D.a1 D.a5 D.a6 D.a7 kr)
  ·have:b < s.heap.objs.size:=by
    obtain⟨o1,q1,_⟩:=g1.obj;obtain⟨o2,q2,_⟩:=g2.obj;simp only[Xq,Ym,ZX] at hb;rcases hb with rfl | rfl | rfl | rfl | rfl
    ·exact NL hz
    ·exact NL kr
    ·exact NL lX
    ·exact NL q1
    ·exact NL q2
   rw[aS (Yb this)];exact (hf b hb).1
 done:=by
  intro X hP hw hK hc i pins s σ H E I hf st hg;subst hP hw hK;obtain⟨hz,kr,⟨a,b,lX⟩,g1,g2⟩:=id st;obtain⟨xs,ys,tM,tN,hx⟩:=hg;obtain⟨aq,rv,p⟩:=I.sq tM;obtain⟨bc,wo,p2⟩:=I.sq tN;have hh:X.A.in1.handled=none:=by rw[ZN];exact I.ok.hd hc
  have hl:=rv.length;have sy:=wo.length;refine T1 (yA hh t i1 l1 n1 aq.toArray) (yA hh u i2 l2 n2 bc.toArray) D hz kr lX ⟨g1,p⟩ ⟨g2,p2⟩ ?_ fun k1 tk yF=>⟨rfl,I.jA (t':=tk) (ch:=[z,TI,TO,i1,i2]) hf fun b o hb q => ?_⟩
  ·rw[wO,wO];omega
  ·simp only[Xq,Ym,ZX,not_or] at hb
   exact yF b o hb.1 hb.2.2.1 hb.2.2.2.1 hb.2.2.2.2 q
 self:=fun A i s Q E st h=>wpAny_pyIter_zip st.hz h
theorem T_ (n l1 l2:Nat) (q1:l1 < n) (q2:l2 < n):ZG (n + 4) (n + 2) (n + 3) n (n + 1) [n,l1] [n + 1,l2]:=by
 constructor<;>first | (show @Ne Nat _ _;omega) | (intro h;simp only[Xq,Ym,ZX] at h;rcases h with h | h<;>(have h:(_:Nat)=_:=h;omega))
section
variable {X:Cx} {elts:List Expr} {x1:Nat} {tp:Pos}
noncomputable def Ua (K:PySem.W.Frag) (ta:TA):TI:=fun σ H R=>ta σ H fun vs H1=>∃ a b t u,vs=[.ref a,.ref b]/\(∃ xs,jV K H1 t a xs)/\(∃ ys,jV K H1 u b ys)/\R (wm K t u a b) H1
theorem Ub {a b:Expr} {ta:TA} {p pos:Pos} (hg:Gl X "zip") (hm:X.mg "zip" = none) (ha:JA X [a,b] ta) (hs:starEach [a,b] X.env=[(false,eval a X.env),(false,eval b X.env)]:=by rfl) (dY:starEach [b] X.env=[(false,eval b X.env)]:=by rfl) :
  JI X (.Tuple elts x1 tp) (.Call (.Name "zip" p) [a,b] [] pos) (Ua X.K ta):=by
 refine⟨fun pins s σ H R I h => ?_⟩;refine Call_ (l9 I hg hm Ob (YZ (a0 (ha.out pos pins s σ H _ I h) fun us s1 h0_ => el5 h0_ fun vs H1 I1 r1 q1 => ?_) (by rw[hs,dY]) (by rw[dY];rfl)));obtain⟨l1,l2,t,u,e,⟨xs,tM⟩,⟨ys,tN⟩,q⟩:=q1;subst e
 cases r1 with
 | cons r rr =>
  cases rr with
  | cons r' Uc =>
   cases Uc
   cases r
   cases r'
   obtain⟨aq,rv,p⟩:=I1.sq tM;obtain⟨bc,wo,p2⟩:=I1.sq tN;have b1:l1 < s1.heap.objs.size:=p.lt;have b2:l2 < s1.heap.objs.size:=p2.lt;refine T3 p p2 fun h' hz kr lX uC lh hk => ?_;have I2:Inv X pins σ H1 { s1 with heap:=h' }:=I1.kept (t':=s1.toks) hk;have D:=T_ s1.heap.objs.size l1 l2 b1 b2;refine wpAny_pyIter_zip hz ?_;refine⟨_,_,_,_,H1,rfl,I2,T4 D (Yb b1) (Yb (Zb b2)),⟨hz,kr,⟨_,_,lX⟩,uC,lh⟩,fun b hb => ?_,q⟩
   have hb':s1.heap.objs.size <= b:=by
    simp only[Xq,Ym,ZX] at hb;rcases hb with rfl | rfl | rfl | rfl | rfl
    ·exact Z3 _ _
    ·exact Z3 _ _
    ·exact Z3 _ _
    ·exact uu _
    ·exact Z3 _ _
   exact I1.d5 hb' (I1.aM.fresh hb')
end
section
variable [aK] {X:Cx} {a b:Expr} {fa:WA}
noncomputable def yG (fa:WA):WI:=fun δ K=>fa δ fun xs δ1=>match xs with
 | [x,y]=>pC x δ1 fun i=>pC y δ1 fun j=>K ⟨cE i.items j.items,fun δ'=>i.bE δ'/\j.bE δ'⟩ δ1
 | _=>False
theorem Ju {F H:Hp} {ad:List Addr} {δ : aA} {σ : St} {x:DV} {v:V} {K0:PySem.W.Frag} {K:pA->Prop} (S:SR F ad δ σ H) (hv:fw F ad x v) (h:pC x δ K):∃ a it t,v = .ref a/\K it/\(∃ xs,jV K0 H t a xs) ∧
  ∀ (F':Hp) (aC:List Addr) (δ':aA) (σ':St) (H':Hp),aF F F'->(∀ (k:Nat) (a:Addr),ad[k]? = some a->aC[k]? = some a)->SR F' aC δ' σ' H'->it.bE δ'->∃ ws,jV K0 H' t a ws/\ae F' it.items ws:=by
 obtain⟨a,it,e,hk,r⟩:=AQ S hv h;rcases r with⟨⟨vs,e1⟩,r⟩ | ⟨⟨vs,e1⟩,r⟩
 ·exact⟨a,it,false,e,hk,⟨vs,bz.of e1⟩,fun F' aC δ' σ' H' s pre S' ck=>let ⟨ws,q1,q2⟩:=r F' aC δ' σ' H' s pre S' ck; ⟨ws,bz.of q1,q2⟩⟩
 ·exact⟨a,it,true,e,hk,⟨vs,bF.of e1⟩,fun F' aC δ' σ' H' s pre S' ck=>let ⟨ws,q1,q2⟩:=r F' aC δ' σ' H' s pre S' ck; ⟨ws,bF.of q1,q2⟩⟩
theorem Ud {elts:List Expr} {x1:Nat} {tp p pos:Pos} (hg:Gl X "zip") (hm:X.mg "zip" = none) (ha:JA X [a,b] (cz fa)) (hs:starEach [a,b] X.env=[(false,eval a X.env),(false,eval b X.env)]:=by rfl) (dY:starEach [b] X.env=[(false,eval b X.env)]:=by rfl) :
  JI X (.Tuple elts x1 tp) (.Call (.Name "zip" p) [a,b] [] pos) (kY (yG fa)):=(Ub hg hm ha hs dY).weak fun σ H R h0_ => el7 h0_ fun F ad δ K S q k =>⟨F,ad,δ,_,S,q,fun xs δ1 h1 vs F1 aP H1 E1 S1 V1=>by
 match xs,h1,V1 with
 | [x,y],g1,⟨v,r,e,W1,w,r2,e2,W2,W3⟩ =>
  subst e;subst e2;have W4:r2=[]:=W3;subst W4;obtain⟨a,it,t,rfl,mB,Ue,r⟩:=Ju (K0:=X.K) S1 W1 g1;obtain⟨b,jt,u,rfl,hk,dY,r'⟩:=Ju (K0:=X.K) S1 W2 mB;refine⟨a,b,t,u,rfl,Ue,dY,k _ _ hk _ _ _ _ E1 S1 fun F' aC δ' σ' H' s pre S' ck => ?_⟩;obtain⟨ws,e1,e2⟩:=r F' aC δ' σ' H' s pre S' ck.1;obtain⟨zs,e3,e4⟩:=r' F' aC δ' σ' H' s pre S' ck.2;refine⟨⟨ws,zs,e1,e3,?_⟩,fun i d ed => ?_⟩
  ·rw[e2.length,e4.length,xw];omega
  ·obtain⟨d1,d2,Ug,Uh,rfl⟩:=GK ed
   obtain⟨w1,f1,g1⟩:=pD e2 Ug;obtain⟨w2,f2,g2⟩:=pD e4 Uh;refine⟨⟨ws,zs,w1,w2,e1,e3,f1,f2⟩,fun y iy ⟨T,v1,v2,ey,hT,eh,Ui,Uj⟩ => ?_⟩;subst eh ey;have q1:=Ui ws e1;have q2:=Uj zs e3;rw[f1] at q1;cases q1;rw[f2] at q2;cases q2;exact⟨c_ hT,AR S'.sub hT g1 g2⟩
 | [],h1,_=>exact h1.elim
 | [_],h1,_=>exact h1.elim
 | _ :: _ :: _ :: _,h1,_=>exact h1.elim⟩
end
end L2
namespace LJ
open PySem L2
variable [aK]
theorem Uk {ds:List D} {t:Nat} (h:t <= ds.length):cutD ds none (some (t:Int))=ds.take t:=by
 unfold cutD;rw[HT.EX,HT.wL ds.length ds.length t,Nat.min_eq_left h,q0D,q1y]
noncomputable def De:GD:=fun ys ai K=>∃ (m:Int) (ws:List Wy) (l:List Int) (n:Int),bP m ws/\(0 <= n/\n < (ws.length:Int))/\ys=[.p (aN m ws),.p (bt l),.p (.int n)]/\ai=[]/\K (.p (.bl (iF l (av ws n)))) []
noncomputable def Df:WS:=(ay (jG (hV (d2 (d2 (aa 0) (dC (.int 1)) aW) (aa 2) aW) hU (pF (dC (.int 2)))) (jF 2 (e8 (bG 3) (e8 (bG 4) je)))) (aI (d2 (d2 (aa 3) (aa 1) (iA false)) (d2 (aa 4) (aa 1) (iA false)) jg)))
theorem Ul:∀ ys ai K',ys.length=3->De ys ai K'->Df (bI ai.length K') ⟨ys.map some ++ List.replicate 2 none,ai.map some⟩:=by
 rintro ys ai K' - ⟨m,ws,l,n,W,⟨n0,n1⟩,rfl,rfl,k⟩;obtain⟨y,ey,hy,ea,_⟩:=lG W n0 n1;have ew:av ws n=y:=ey;rw[ew] at k;unfold Df;refine aU fun N hN => ?_;have c2:cutD [D.int y.1,D.int y.2.1,D.int y.2.2] none (some 2)=[D.int y.1,D.int y.2.1]:=rfl;simp? only [aN,d_,ea,bV,c2];subst hN;simp? only [bt];have d0:=tI l;refine⟨by omega,by omega,?_⟩;rw[rQ,rQ];unfold iF at k;generalize decide (y.1∈l)=p at k;generalize decide (y.2.1∈l)=q at k;cases p<;>cases q<;>exact bW k
noncomputable def wq:D->D
 | .tup [_,n]=>n
 | _ => .non
noncomputable def Dg:GD:=fun ys ai K=>∃ (m:Int) (ws:List Wy) (l:List Int),bP m ws/\ys=[.p (aN m ws),.p (bt l),.p (bt (aR ws.length))]/\ai=[]/\∀ os:List Int,os.Perm (tJ ws l)->(os.map (bM ws)).Pairwise kle->K (.p (bt os)) []
noncomputable def Dh:WS:=(ay (aL 3 (fy (bO (aa 2)) [none,some 0,some 1] (bG 0) (dT (au 3 De (aj (aa 1) (aj (aa 2) (aj (aa 0) ag))))) (de (aj (au 2 v8 (aj (aa 1) (aj (aa 0) ag))) (aj (aa 0) ag))))) (aI (fy (bO (dN (aj (aa 3) ag) tE)) [none,none] (jF 2 (e8 (bG 0) (e8 (bG 1) je))) dA (aa 1))))
theorem Um:∀ ys ai K',ys.length=3->Dg ys ai K'->Dh (bI ai.length K') ⟨ys.map some ++ List.replicate 1 none,ai.map some⟩:=by
 rintro ys ai K' - ⟨m,ws,l,W,rfl,rfl,k⟩;have pT:=W.iq;have il:=tH ws.length;have ol:=Tr (ws:=ws) (l:=l);unfold Dh;refine aU fun N hN => ?_;rw[show bt (aR ws.length) = .lst ((aR ws.length).map D.int) from rfl];simp? only []
 refine nZ (fun d=>match d with
  | .int n=>iF l (av ws n)
  | _=>false) (fun d=>match d with
  | .int n=>eV ws n
  | _ => .non) (by rw[qx];omega) trivial ?_ ?_
 ·intro d hd acc L ha h1 h2
  obtain⟨n,hn,rfl⟩:=X0.mp hd;have nn:=yb hn;dsimp only at h1 h2;simp? only [];refine⟨m,ws,l,n,W,nn,rfl,rfl,?_⟩;simp? only []
  cases q:iF l (av ws n) with
  | false=>simp? only [];exact h2 q
  | true =>
   simp? only [];refine⟨m,ws,n,W,nn,rfl,rfl,?_⟩;simp? only [];exact⟨ha,h1 q⟩
 have e:(((aR ws.length).map D.int).filter fun d=>match d with
  | .int n=>iF l (av ws n)
  | _=>false).map (fun d=>match d with
  | .int n=>eV ws n
  | _ => .non)=(tJ ws l).map (eV ws):=by
  rw[q0d,Yj];rfl
 rw[e];subst hN;simp? only [tE]
 refine⟨by omega,fun d=>match d with
  | .tup [.tup ks,.int n]=>(match intsOf ks with
   | some l=>l ++ [n]
   | none=>[])
  | _=>[],.inr ⟨3,fun d hd => ?_⟩,fun out pm pw => ?_⟩
 ·obtain⟨n,_,rfl⟩:=X0.mp hd
  refine⟨bM ws n,n,rfl,rfl,?_⟩
  show (match intsOf ((bM ws n).map D.int) with
   | some l=>l ++ [n]
   | none=>[])=_
  rw[nQ]
 ·obtain⟨ns,rfl,pn⟩:∃ ns:List Int,out=ns.map (eV ws)/\ns.Perm (tJ ws l):=by
   refine⟨out.map fun d=>match d with
    | .tup [_,.int n]=>n
    | _=>0,?_,?_⟩
   ·rw[Yj]
    refine (ZZ out).symm.trans (YY fun d hd => ?_);obtain⟨n,_,rfl⟩:=X0.mp (pm.mem_iff.mp hd);rfl
   ·have:=pm.map fun d=>match d with
     | .tup [_,.int n]=>n
     | _=>0
    rw[Yj] at this;exact this.trans (q1S ((YY fun n _=>rfl).trans (ZZ _)))
  have nl:ns.length <= ws.length:=by rw[pn.length_eq];exact ol
  have up:(ns.map (bM ws)).Pairwise kle:=by
   rw[Yj] at pw;rw[Zl] at pw ⊢;refine pw.imp fun {a b} h => ?_
   have h:kle ((match intsOf ((bM ws a).map D.int) with
    | some l=>l ++ [a]
    | none=>[])) ((match intsOf ((bM ws b).map D.int) with
    | some l=>l ++ [b]
    | none=>[])):=h
   rw[nQ,nQ] at h;exact IE rfl h
  refine L2.j8 wq (by rw[qx];omega) trivial ?_ ?_
  ·intro d hd acc L ha h
   obtain⟨n,_,rfl⟩:=X0.mp hd;simp? only [eV];exact⟨ha,h⟩
  ·have e:(ns.map (eV ws)).map wq=ns.map D.int:=by rw[Yj];rfl
   rw[e];exact bW (k ns pn up)
end LJ
namespace LJT
open PySem L2 LJ
variable [aK]
mutual
noncomputable def oU:D->Bool
 | .lst ds=>decide (ds.length <= 1000) && iX ds
 | .tup ds=>decide (ds.length <= 1000) && iX ds
 | _=>true
noncomputable def iX:List D->Bool
 | []=>true
 | d :: r=>oU d && iX r
end
theorem gL:∀ {ds:List D},iX ds=true->∀ d∈ds,oU d=true
 | [],_,d,h=>nomatch h
 | a :: r,hn,d,h=>by
  simp only[iX,Yl] at hn;rcases Xq.mp h with rfl | h
  ·exact hn.1
  ·exact gL hn.2 d h
noncomputable def aQ (n:Nat):GD:=fun ys ai K=>∃ d,dep d <= n/\n <= 50/\oU d=true/\ys=[.p d,.p d]/\ai=[]/\K (.p (.bl true)) []
noncomputable def aH (Di:GD):WS:=(ay (bo (dT (d2 (aa 1) (dC .non) hW)) (aI (d2 (aa 0) (dC .non) hW)) cK) (ay (bo (j6 (dT (d1 (aa 1) (b9 "bool"))) (dT (d1 (aa 0) (b9 "bool")))) (aI (iP (d1 (aa 1) (b9 "bool")) (iP (d1 (aa 0) (b9 "bool")) (d2 (aa 0) (aa 1) oEq)))) cK) (ay (bo (dT (d1 (aa 1) (b9 "int"))) (aI (iP (d1 (aa 0) (b9 "int")) (d2 (aa 0) (aa 1) oEq))) cK) (ay (bo (dT (d1 (aa 1) (b9 "str"))) (aI (iP (d1 (aa 0) (b9 "str")) (d2 (aa 0) (aa 1) oEq))) cK) (ay (bo (j6 (dT (d2 (d1 (aa 1) (b9 "tuple")) (d1 (aa 0) (b9 "tuple")) jg)) (dT (d2 (d1 (aa 1) (b9 "list")) (d1 (aa 0) (b9 "list")) jg))) (aI (dC (.bl false))) cK) (ay (bo (dT (d2 (dN (aj (aa 0) ag) cL) (dN (aj (aa 1) ag) cL) jg)) (aI (dC (.bl false))) cK) (aI (d2 (dC (.bl false)) (fy (yG (aj (aa 0) (aj (aa 1) ag))) [none,none] (jF 2 (e8 (bG 0) (e8 (bG 1) je))) dA (au 2 Di (aj (aa 0) (aj (aa 1) ag)))) (iA true)))))))))
noncomputable def h9 (g:Nat->GD):Nat->GD
 | 0=>fun _ _ _=>False
 | n + 1=>g n
theorem Uo (g:GD) {K':RV->List OV->Prop} (k:K' (.p (.bl true)) []):aH g (bI 0 K') ⟨[some (.p .non),some (.p .non)],[]⟩:=by
 unfold aH;refine aU fun N hN => ?_;simp? only [cf,oh,om,oo,oq,ou,aD];exact jL k
theorem Uq (g:GD) {K':RV->List OV->Prop} (b:Bool) (k:K' (.p (.bl true)) []):aH g (bI 0 K') ⟨[some (.p (.bl b)),some (.p (.bl b))],[]⟩:=by
 unfold aH;refine aU fun N hN => ?_;simp? only [cf,mD,mE,mF,mG,mH,eT];subst hN;refine aU fun N hN => ?_;simp? only [cf,mD,mE,mF,mG,mH,eT];exact jL k
theorem same_int (g:GD) {K':RV->List OV->Prop} (b:Int) (k:K' (.p (.bl true)) []):aH g (bI 0 K') ⟨[some (.p (.int b)),some (.p (.int b))],[]⟩:=by
 unfold aH;refine aU fun N hN => ?_;simp? only [cf,lB,lC,lD,lE,lF,eT];subst hN;refine aU fun N hN => ?_;simp? only [cf,lB,lC,lD,lE,lF,eT];subst hN;refine aU fun N hN => ?_;simp? only [cf,lB,lC,lD,lE,lF,eT];exact jL k
theorem same_str (g:GD) {K':RV->List OV->Prop} (b:Str) (k:K' (.p (.bl true)) []):aH g (bI 0 K') ⟨[some (.p (.str b)),some (.p (.str b))],[]⟩:=by
 unfold aH;refine aU fun N hN => ?_;simp? only [cf,j_,ka,kg,kh,ki,eT];subst hN;refine aU fun N hN => ?_;simp? only [cf,j_,ka,kg,kh,ki,eT];subst hN;refine aU fun N hN => ?_;simp? only [cf,j_,ka,kg,kh,ki,eT];subst hN;refine aU fun N hN => ?_;simp? only [cf,j_,ka,kg,kh,ki,eT];exact jL k
theorem Ur {n:Nat} {K':RV->List OV->Prop} {ds:List D} (hd:dep (.lst ds) <= n) (hn:n <= 50) (nd:oU (.lst ds)=true) (k:K' (.p (.bl true)) []):aH (h9 aQ n) (bI 0 K') ⟨[some (.p (.lst ds)),some (.p (.lst ds))],[]⟩:=by
 unfold aH;refine aU fun N hN => ?_;simp? only [cf,oh,om,oo,oq,ou,mD,mE,mF,mG,mH,lB,lC,lD,lE,lF,j_,ka,kg,kh,ki,oy,oz,oA,oB,oC,oD,oE,oF,oG,oH];subst hN;refine aU fun N hN => ?_;simp? only [cf,oh,om,oo,oq,ou,mD,mE,mF,mG,mH,lB,lC,lD,lE,lF,j_,ka,kg,kh,ki,oy,oz,oA,oB,oC,oD,oE,oF,oG,oH];subst hN;refine aU fun N hN => ?_;simp? only [cf,oh,om,oo,oq,ou,mD,mE,mF,mG,mH,lB,lC,lD,lE,lF,j_,ka,kg,kh,ki,oy,oz,oA,oB,oC,oD,oE,oF,oG,oH];subst hN;refine aU fun N hN => ?_;simp? only [cf,oh,om,oo,oq,ou,mD,mE,mF,mG,mH,lB,lC,lD,lE,lF,j_,ka,kg,kh,ki,oy,oz,oA,oB,oC,oD,oE,oF,oG,oH];subst hN;refine aU fun N hN => ?_;simp? only [cf,oD,oE,oF,oG,oH]
 subst hN;simp only[eT,Zu,Ye,YS];refine aU fun N hN => ?_;simp? only [eT];subst hN;obtain⟨m,rfl⟩:∃ m,n=m + 1:=⟨n - 1,by simp only[dep] at hd;omega⟩;have Dj:bw ds <= m:=by simp only[dep] at hd;omega
 have wb:iX ds=true:=by simp only[oU,Yl] at nd;exact nd.2
 have wt:ds.length <= 1000:=by simp only[oU,Yl,Y0] at nd;exact nd.1
 have zl:(cE ds ds).length <= 1000:=by rw[xw];omega
 simp? only [yG];refine L2.j8 (fun d => .bl true) zl trivial ?_ ?_
 ·intro d tZ acc L ha h
  obtain⟨a,rfl,ma⟩:=BO tZ;simp? only [];refine⟨a,Yw (BN ma) Dj,by omega,gL wb a ma,rfl,rfl,?_⟩;simp? only [];exact⟨ha,h⟩
 ·simp? only []
  have e1:((cE ds ds).map fun _=>D.bl true).any (fun e=>aD e (.bl false))=false:=by
   rw[Zm];intro x hx;obtain⟨_,_,rfl⟩:=X0.mp hx;simp[aD]
  have e2:bw ((cE ds ds).map fun _=>D.bl true) <= 55:=BP _;exact⟨e2,by rw[e1];exact jL k⟩
theorem lY {n:Nat} {K':RV->List OV->Prop} {ds:List D} (hd:dep (.tup ds) <= n) (hn:n <= 50) (nd:oU (.tup ds)=true) (k:K' (.p (.bl true)) []):aH (h9 aQ n) (bI 0 K') ⟨[some (.p (.tup ds)),some (.p (.tup ds))],[]⟩:=by
 unfold aH;refine aU fun N hN => ?_;simp? only [cf,oh,om,oo,oq,ou,mD,mE,mF,mG,mH,lB,lC,lD,lE,lF,j_,ka,kg,kh,ki,oy,oz,oA,oB,oC,oD,oE,oF,oG,oH];subst hN;refine aU fun N hN => ?_;simp? only [cf,oh,om,oo,oq,ou,mD,mE,mF,mG,mH,lB,lC,lD,lE,lF,j_,ka,kg,kh,ki,oy,oz,oA,oB,oC,oD,oE,oF,oG,oH];subst hN;refine aU fun N hN => ?_;simp? only [cf,oh,om,oo,oq,ou,mD,mE,mF,mG,mH,lB,lC,lD,lE,lF,j_,ka,kg,kh,ki,oy,oz,oA,oB,oC,oD,oE,oF,oG,oH];subst hN;refine aU fun N hN => ?_;simp? only [cf,oh,om,oo,oq,ou,mD,mE,mF,mG,mH,lB,lC,lD,lE,lF,j_,ka,kg,kh,ki,oy,oz,oA,oB,oC,oD,oE,oF,oG,oH];subst hN;refine aU fun N hN => ?_;simp? only [cf,oy,oz,oA,oB,oC]
 subst hN;simp only[eT,Zu,Ye,YS];refine aU fun N hN => ?_;simp? only [eT];subst hN;obtain⟨m,rfl⟩:∃ m,n=m + 1:=⟨n - 1,by simp only[dep] at hd;omega⟩;have Dj:bw ds <= m:=by simp only[dep] at hd;omega
 have wb:iX ds=true:=by simp only[oU,Yl] at nd;exact nd.2
 have wt:ds.length <= 1000:=by simp only[oU,Yl,Y0] at nd;exact nd.1
 have zl:(cE ds ds).length <= 1000:=by rw[xw];omega
 simp? only [yG];refine L2.j8 (fun d => .bl true) zl trivial ?_ ?_
 ·intro d tZ acc L ha h
  obtain⟨a,rfl,ma⟩:=BO tZ;simp? only [];refine⟨a,Yw (BN ma) Dj,by omega,gL wb a ma,rfl,rfl,?_⟩;simp? only [];exact⟨ha,h⟩
 ·simp? only []
  have e1:((cE ds ds).map fun _=>D.bl true).any (fun e=>aD e (.bl false))=false:=by
   rw[Zm];intro x hx;obtain⟨_,_,rfl⟩:=X0.mp hx;simp[aD]
  have e2:bw ((cE ds ds).map fun _=>D.bl true) <= 55:=BP _;exact⟨e2,by rw[e1];exact jL k⟩
theorem fF (n:Nat):∀ ys ai K',ys.length=2->aQ n ys ai K'->aH (h9 aQ n) (bI ai.length K') ⟨ys.map some ++ List.replicate 0 none,ai.map some⟩:=by
 rintro ys ai K' - ⟨d,hd,hn,nd,rfl,rfl,k⟩
 ·cases d with
  | tup ds=>exact lY hd hn nd k
  | non=>exact Uo _ k
  | bl b=>exact Uq _ b k
  | int b=>exact same_int _ b k
  | str b=>exact same_str _ b k
  | lst ds=>exact Ur hd hn nd k
end LJT
namespace L2
open PySem PySem.Spec PyProof.Rows PySem.W
section
variable {X:Cx} {pins:List (Addr × Obj)} {σ : St} {H:Hp} {s:Shared} {E:Value->Shared->Prop} {l I S:Addr} {ts:List Addr} {kw:List (Str × Value)} {R:Result->Shared->Prop}
noncomputable def Us (mx:Bool) (kf:Nat->LK) (ts:List Addr) (i:Nat) (gn:Array Value):Prop :=
 (i=0/\gn = #[])\/∃ (b:Nat) (t:Addr),b < i/\ts[b]? = some t/\gn = #[.ref t,.ref t]/\∀ j,j < i->jR mx (kf b) (kf j)
noncomputable def rX (X:Cx) (mx:Bool) (pins:List (Addr × Obj)) (σ : St) (H:Hp) (kf:Nat->LK) (ts:List Addr):Prop:=∀ (i j:Nat) (t u:Addr) (bu:List (Addr × Obj)) (s':Shared) (Q:Value->Shared->Prop) (E:Value->Shared->Prop),ts[i]? = some t->ts[j]? = some u->Inv X bu σ H s'->Q (.bool (we mx (kf i) (kf j))) s'->wpAny (model X.prog X.w) X.A.in1 (richCompare (CL mx) (.ref t) (.ref u)) Q E s'
theorem Ut (mx:Bool) (kf:Nat->LK) (hh:X.A.handled=none) (hu:X.A.units + 1 < cLine) (lQ:l≠I) (lR:S≠I) (fI:H I=none->a_ X pins H I) (fS:H S=none->a_ X pins H S)
  (hl:H l=some (.lst (ts.map V.ref))) (cmp:rX X mx pins σ H kf ts)
  (fin:∀ s',Inv X pins σ H s'->(ts=[]->∃ d,kw=[(Str.ofString "default",d)]/\R (.ok (.ret d)) s')/\∀ (b:Nat) (t:Addr),ts[b]? = some t->(∀ j,j < ts.length->jR mx (kf b) (kf j))->R (.ok (.ret (.ref t))) s') :
  ∀ (r i:Nat) (s':Shared) (gn:Array Value) (c:Nat) (oI:Obj),i + r=ts.length->Inv X ((S,seqObj "list" gn c) :: (I,oI) :: pins) σ H s'->oI.cls = .type "list_iterator" -> oI.data = .fields #[.ref l,.int i 0]->Us mx kf ts i gn →
   codeAny (model X.prog X.w) X.A (.builtin (lP mx) ⟨[.ref I,.none,.ref S],kw⟩) R s':=by
 have cZ:(toString (f7 mx) ++ toString ".loop" : String)=lP mx:=by cases mx<;>decide
 intro r
 induction r with
 | zero =>
  intro i s' gn c oI hr J l8 rR hb;have pS:=J.pin (S,seqObj "list" gn c) (NK _ (.head _));have pI:=J.pin (I,oI) (NK _ (.tail _ (.head _)));have Jn:=J.bH.bH;obtain⟨aq,rv,pl,_⟩:=Jn.list (bz.of hl);have lv:=rv.length;rw[qx] at lv;have CM:i=aq.length:=by omega
  refine Zp (yp mx) ?_;rw[Y5 (kj mx) _];show wpAny _ X.A.in1 (seqItems? (.ref S) >>= _) _ _ _;refine ni (YN pS.1 rfl ?_);show wpAny _ X.A.in1 (tryCatch (pyNext (.ref I)) _ >>= _) _ _ _;have W:=q0P (prog:=X.prog) (w:=X.w) (A:=X.A.in1) hh I l lQ aq.toArray;refine ni (Z5 (W.done _ _ _ ⟨⟨oI,pI.1,l8,by rw[rR,wO,<-CM]⟩,q0t pl⟩ fun h' jK d9 => ?_));have J1:Inv X pins σ H { s' with heap:=h',toks:=jK }:=Jn.cb (fI pI.2.1) fun c o n e=>d9 c o (by simpa using n) e;have jj:=d9 S _ (by simpa using lR) pS.1;rcases hb with⟨mB,rfl⟩ | ⟨b,t,hb,ht,rfl,best⟩
  ·obtain⟨d,rfl,q⟩:=(fin _ J1).1 (Zj.mp (by omega))
   exact ni (q0Q (zR q))
  ·have s1:=Yo h' S (Obj.mapSeq fun _=>(#[]:Array Value))
   show wpAny _ X.A.in1 (updateSeq S (fun _ => #[]) >>= _) _ _ _;refine ni (q0e jj rfl (ni (ZA (zR ?_))));exact (fin _ (J1.cb (fS pS.2.1) fun c o n e=>(s1.2 c n).trans e)).2 b t ht fun j hj=>best j (by omega)
 | succ r ih =>
  intro i s' gn c oI hr J l8 rR hb;have pS:=J.pin (S,seqObj "list" gn c) (NK _ (.head _));have pI:=J.pin (I,oI) (NK _ (.tail _ (.head _)));have Jn:=J.bH.bH;obtain⟨aq,rv,pl,_⟩:=Jn.list (bz.of hl);have lv:=rv.length;rw[qx] at lv;refine Zp (yp mx) ?_;rw[Y5 (kj mx) _];show wpAny _ X.A.in1 (seqItems? (.ref S) >>= _) _ _ _;refine ni (YN pS.1 rfl ?_);show wpAny _ X.A.in1 (tryCatch (pyNext (.ref I)) _ >>= _) _ _ _;have W:=q0P (prog:=X.prog) (w:=X.w) (A:=X.A.in1) hh I l lQ aq.toArray;refine ni (Z5 (W.item i _ _ _ (by rw[wO];omega) ⟨⟨oI,pI.1,l8,rR⟩,q0t pl⟩ fun v h' jK hv rS d9 => ?_));have hv:aq[i]? = some v:=by simpa using hv
  obtain⟨jS,oP,lS,jT⟩:=id rS.1;have hi:i < ts.length:=by omega
  have hx:=qv hi;generalize ts[i]=t2 at hx;obtain⟨u,e1,rx⟩:=rv.get (x := .ref t2) (by rw[My,hx];rfl);rw[hv] at e1;cases e1
  cases rx
  have jj:=d9 S _ (by simpa using lR) pS.1;have nI:∀ z,jS.data ≠ .cell z:=fun z e=>by rw[jT] at e;cases e
  have J1:Inv X pins σ H { s' with heap:=h',toks:=jK }:=Jn.cb (fI pI.2.1) fun c o n e=>d9 c o (by simpa using n) e;have J2:=(J1.dj (fI pI.2.1) oP nI).dj ((fS pS.2.1).cons (p:=(I,jS)) lR.symm) jj mJ
  have put:(∀ j,j < i + 1->jR mx (kf i) (kf j))->codeAny (model X.prog X.w) X.A (.builtin (lP mx) ⟨[.ref I,.none,.ref S],kw⟩) R { s' with heap:=h'.update S (Obj.mapSeq fun _ => #[.ref t2,.ref t2]),toks:=jK }:=fun best=>by
   have s1:=Yo h' S (Obj.mapSeq fun _ => #[Value.ref t2,Value.ref t2]);obtain⟨c2,eZ⟩:∃ c2,(h'.update S (Obj.mapSeq fun _ => #[Value.ref t2,Value.ref t2])).get? S=some (seqObj "list" #[.ref t2,.ref t2] c2):=⟨_,ZU jj fun _ => #[Value.ref t2,Value.ref t2]⟩;have J4:Inv X pins σ H { s' with heap:=h'.update S (Obj.mapSeq fun _ => #[Value.ref t2,Value.ref t2]),toks:=jK }:=J1.cb (t':=jK) (fS pS.2.1) fun c o n e=>(s1.2 c n).trans e;have J5:=(J4.dj (fI pI.2.1) ((s1.2 I lR.symm).trans oP) nI).dj ((fS pS.2.1).cons (p:=(I,jS)) lR.symm) eZ mJ;exact ih (i + 1) _ _ c2 jS (by omega) J5 lS jT (.inr ⟨i,t2,by omega,hx,rfl,best⟩)
  rcases hb with⟨mB,rfl⟩ | ⟨b,t,hb,ht,rfl,best⟩
  ·show wpAny _ X.A.in1 (updateSeq S (fun _ => #[.ref t2,.ref t2]) >>= _) _ _ _
   refine ni (q0e jj rfl ?_);rw[cZ];refine zR ⟨Zx (kj mx) _,put fun j hj => ?_⟩;obtain rfl:j=i:=by omega
   exact yq _ _
  ·show wpAny _ X.A.in1 (tryCatch (holding [.ref t2,.ref t2] (richCompare _ (.ref t2) (.ref t) >>= _)) _ >>= _) _ _ _
   refine ni (Z5 (Yp (ni (cmp i b t2 t _ _ _ _ hx ht J2 ?_))));refine ni (Yp (Zc ?_));refine ni (ZA (zR ?_));split
   ·rename_i hq
    refine ni (q0e jj rfl (ni (ZA ?_)));rw[cZ];refine zR ⟨Zx (kj mx) _,put fun j hj => ?_⟩
    by_cases e:j=i
    ·subst e;exact yq _ _
    ·exact Jb hq (best j (by omega))
   ·rename_i hq
    refine ni (ZA ?_);rw[cZ];refine zR ⟨Zx (kj mx) _,ih (i + 1) _ _ c jS (by omega) J2 lS jT (.inr ⟨b,t,by omega,ht,rfl,fun j hj => ?_⟩)⟩
    by_cases e:j=i
    ·subst e;exact Jc hq
    ·exact best j (by omega)
theorem Uu (mx:Bool) {Q:Value->Shared->Prop} {dd:Option Value} (kf:Nat->LK) (ak:argsOk (f7 mx) ⟨[.ref l],kw⟩) (bp:Builtin.Builtins.bindParams (f7 mx) ["key", "default"] 0 ⟨[],kw⟩=pure [none,dd]) (ek:(dd.toList.map fun d=>(Str.ofString "default",d))=kw) (J:Inv X pins σ H s) (hh:X.A.handled=none) (hu:X.A.units + 1 < cLine)
  (hl:H l=some (.lst (ts.map V.ref))) (cmp:∀ bu,rX X mx bu σ H kf ts)
  (fin:∀ s',Inv X pins σ H s'->(ts=[]->∃ d,kw=[(Str.ofString "default",d)]/\Q d s')/\∀ (b:Nat) (t:Addr),ts[b]? = some t->(∀ j,j < ts.length->jR mx (kf b) (kf j))->Q (.ref t) s') :
  wpAny (model X.prog X.w) X.A (call (.builtin (f7 mx)) [.ref l] kw) Q E s:=by
 have cZ:(toString (f7 mx) ++ toString ".loop" : String)=lP mx:=by cases mx<;>decide
 obtain⟨aq,rv,pl,_⟩:=J.list (bz.of hl);have sQ:=PlainL.lt pl;refine kmk_tree (I_ mx) (Ja mx) (IZ mx) ak ?_;show wpAny _ X.A.in1 (Builtin.Builtins.bindParams (f7 mx) ["key", "default"] 0 ⟨[],kw⟩ >>= _) _ _ s;refine ni (wpAny_of_eq bp ?_);refine ni (zR ?_);refine ni (ZE (q0t pl) ?_);refine ni (q0s ?_ (Yy _));rw[cZ];show wpAny _ _ (again (.builtin (lP mx) ⟨[_,.none,_],dd.toList.map fun d=>(Str.ofString "default",d)⟩)) _ _ _;rw[ek];refine zR ⟨Zx (kj mx) _,?_⟩;have J1:Inv X pins σ H { s with heap:=s.heap.push { cls := .type "list_iterator",data := .fields #[.ref l,.int 0 0] } }:=J.kept (t':=s.toks) fun b u e=>qw _ e
 have gI:(s.heap.push { cls := .type "list_iterator",data := .fields #[.ref l,.int 0 0] }).get? s.heap.objs.size=some { cls := .type "list_iterator",data := .fields #[.ref l,.int 0 0] }:=Xr _ rfl;have hS:(s.heap.push { cls := .type "list_iterator",data := .fields #[.ref l,.int 0 0] }).objs.size≠s.heap.objs.size:=fun z=>Zf _ (Nat.lt_of_lt_of_eq (NL gI) z);have fI:H s.heap.objs.size=none->a_ X pins H s.heap.objs.size:=J.d5 (uu _);have wj:H s.heap.objs.size=none:=J.aM.fresh (uu _);have lQ:l≠s.heap.objs.size:=Yb sQ;generalize s.heap.objs.size=I at gI hS fI wj lQ;generalize s.heap.push { cls := .type "list_iterator",data := .fields #[.ref l,.int 0 0] }=g1 at J1 gI hS
 have fS:H g1.objs.size=none->a_ X pins H g1.objs.size:=J1.d5 (uu _);have CP:H g1.objs.size=none:=J1.aM.fresh (uu _);have J2:Inv X pins σ H { s with heap:=g1.push (seqObj "list" #[] 0) }:=J1.kept (t':=s.toks) fun b u e=>qw _ e;have J3:=(J2.dj (fI wj) (qw _ gI) (fun z e=>by cases e)).dj ((fS CP).cons (p:=(I,_)) hS.symm) (Xr _ rfl) mJ;exact Ut mx kf hh hu lQ hS fI fS hl (cmp _) fin ts.length 0 _ #[] 0 _ (by simp) J3 rfl rfl (.inl ⟨rfl,rfl⟩)
end
end L2
namespace HT
open PySem PySem.Spec PyProof.Rows
structure El (A:Around) (s:Shared) (v w:Value) (e g:Bool):Prop where
 eq:SeqAt.EqAt A s v w e
 gt:e=false->∀ (prog:Program) (wd:World) (Q:Value->Shared->Prop) (E:Value->Shared->Prop),Q (.bool g) s->wpAny (model prog wd) A (richCompare .Gt v w) Q E s
inductive pW (A:Around) (s:Shared):List Value->List Value->Bool->Prop
 | nil:pW A s [] [] false
 | cons {v w vs ws e g r}:El A s v w e g->pW A s vs ws r->pW A s (v :: vs) (w :: ws) (if e=true then r else g)
theorem pW.length {A:Around} {s:Shared} {vs ws:List Value} {r:Bool} (h:pW A s vs ws r):vs.length=ws.length:=by
 induction h with
 | nil=>rfl
 | cons _ _ ih=>rw[Fq,Fq,ih]
section
open PySem.SeqAt
open PySem.AutoSeq1 (wpAny_loadPart')
open PySem.MeetsSeq PySem.MeetsSeq2 PySem.MeetsSeq3
theorem Uv (l b:Addr) (items aE:Array Value) (n n2:Nat) (dd ig:Option Addr) (sl ik:Array (Option Value)) (v:Bool) :
  Meets (Builtin.«tuple.__gt__» ⟨[.ref l,.ref b],[]⟩)
   (fun A R s=>s.heap.get? l=some { cls := .type "tuple",dict:=dd,data := .seq items n,slots:=sl }/\s.heap.get? b=some { cls := .type "tuple",dict:=ig,data := .seq aE n2,slots:=ik } ∧
    pW A.in1 s items.toList aE.toList v/\R (.ok (.ret (.bool v))) s) :=
 .of_wp fun prog w A R s h=>by
  obtain⟨hp,g,d,tk,os⟩:=s;obtain⟨hl,hb,hE,h⟩:=h;have f2:=q0p;have zz:items.size=aE.size:=by have:=hE.length;simpa using this
  wp_walk using YB hl,YB hb,Z2 _ (fun rest b s'=>b.1=none/\s'=⟨hp,g,d,tk,os⟩/\∃ (vs ws:List Value) (r:Bool),rest=vs.zip ws/\pW A.in1 ⟨hp,g,d,tk,os⟩ vs ws r/\R (.ok (.ret (.bool r))) ⟨hp,g,d,tk,os⟩) _
  case turn =>
   rintro ⟨y,x⟩ rest b s' ⟨hb',rfl,vs,ws,r,hz,Dl,hR⟩
   cases Dl with
   | nil=>cases hz
   | @cons v1 w1 XW XX e1 g1 r1 he hr =>
    rw[Y4] at hz;injection hz with uo gY;injection uo with hy hx;subst hy hx;refine ni (he.eq prog w _ _ ?_)
    cases e1 with
    | true =>
     rw[Xs rfl] at hR
     wp_walk
     exact⟨rfl,rfl,_,_,_,gY,hr,hR⟩
    | false =>
     rw[NM X8] at hR;have uq:=fun Q E=>he.gt rfl prog w Q E
     wp_walk using uq
     exact⟨_,rfl,by simpa using hR⟩
  case fin =>
   rintro ⟨b1,b2⟩ s' ⟨hb',rfl,vs,ws,r,hz,Dl,hR⟩;simp only at hb';subst hb'
   have hv:r=decide (aE.size < items.size):=by
    cases Dl with
    | nil=>exact (Xp (by omega)).symm
    | cons _ _=>rw[Y4] at hz;cases hz
   rw[hv] at hR
   wp_walk
   exact⟨_,rfl,by simpa [Builtin.Tuple.tupleCompareSizes] using hR⟩
  case h =>
   exact⟨rfl,rfl,items.toList,aE.toList,v,rfl,hE,h⟩
end
section
variable {prog:Program} {w:World} {A:Around} {E:Value->Shared->Prop} {s:Shared}
theorem Uw {l b:Addr} {items aE:Array Value} {v:Bool} {Q:Value->Shared->Prop} (hl:IsTup s.heap l items) (hb:IsTup s.heap b aE) (he:pW A.in1 s items.toList aE.toList v)
  (hu:A.units < cLine) (h:Q (.bool v) s):wpAny (model prog w) A (richCompare .Gt (.ref l) (.ref b)) Q E s:=by
 obtain⟨⟨cls,dd,data,sl⟩,ho,hc,n,hd⟩:=id hl;obtain⟨⟨m8,ig,data2,ik⟩,d6,eZ,n2,hd2⟩:=id hb;simp only at hc hd eZ hd2;subst hc hd eZ hd2
 exact q0F (op := .Gt) ⟨_,ho,rfl⟩ ⟨_,d6,rfl⟩ PySem.F.slot_tuple_gt PySem.F.entry_tuple_gt (PySem.F.args_tuple_gt_2 _ _) (Uv l b items aE n n2 dd ig sl ik v)
  ⟨ho,d6,he,show Value.bool v≠Value.notImplemented/\Q (.bool v) s from ⟨(fun x=>nomatch x),h⟩⟩ hu
end
end HT
namespace L2
open PySem PySem.Spec PyProof.Rows PySem.W
noncomputable def lZ (p:LK × Int):D := .tup [tupI p.1,.int p.2]
theorem Jv:∀ a b:List Int,bR (a.map D.int) (b.map D.int)=decide (a=b)
 | [],[]=>by simp[bR]
 | [],_ :: _=>by simp[bR]
 | _ :: _,[]=>by simp[bR]
 | a :: r,b :: s=>by
  rw[Yd,Yd];simp only[bR,aD,Jv r s,q1R,Bool.decide_and];congr 1
theorem Jw:∀ k:List Int,bw (k.map D.int) <= 1
 | []=>by simp[bw]
 | a :: r=>by have:=Jw r;simp only[Yd,bw,dep];omega
theorem Ux (a b:LK):aD (tupI a) (tupI b)=decide (a=b):=by
 unfold tupI;simp only[aD];exact Jv a b
noncomputable def kp (p:LK × Int):LK:=p.1 ++ [p.2]
noncomputable def kpr (ps:List (LK × Int)) (i:Nat):LK:=(ps[i]?.map kp).getD []
theorem yH {ps:List (LK × Int)} {i:Nat} {p:LK × Int} (h:ps[i]? = some p):kpr ps i=kp p:=by unfold kpr;rw[h];rfl
theorem Uy (a:Value):argsOk "max" ⟨[a],[]⟩:=by unfold argsOk;kernel_rfl
section
variable [aK] {X:Cx} {pins:List (Addr × Obj)} {σ : St} {H:Hp} {ts:List Addr}
theorem Uz {L:Nat} {ps:List (LK × Int)} (hu:X.A.units + 8 < cLine) (hL:∀ p∈ps,p.1.length=L)
  (hP:∀ (i:Nat) (t:Addr),ts[i]? = some t->∃ (p:LK × Int) (a:Addr),ps[i]? = some p/\H t=some (.tup [.ref a,.int p.2])/\H a=some (.tup (p.1.map V.int))) :
  rX X true pins σ H (kpr ps) ts:=by
 intro i j t u bu s' Q E hi hj J h;obtain⟨p,a,e1,h1,h2⟩:=hP i t hi;obtain⟨q,b,e2,h3,h4⟩:=hP j u hj;rw[yH e1,yH e2] at h;obtain⟨i1,r1,CN,_⟩:=J.tuple (bF.of h1);obtain⟨i2,r2,CO,_⟩:=J.tuple (bF.of h3);obtain⟨x1,y1,rfl,x2,y2⟩:=vals2 r1;obtain⟨x3,y3,rfl,x4,y4⟩:=vals2 r2;cases x2
 cases x4
 obtain⟨jc,rfl⟩:=y2;obtain⟨uO,rfl⟩:=y4;obtain⟨i3,r3,UA,_⟩:=J.tuple (bF.of h2);obtain⟨i4,r4,UB,_⟩:=J.tuple (bF.of h4);have g1:Is H (tupI p.1) (.ref a):=by unfold tupI;simp only[Is];exact⟨a,_,rfl,h2,my⟩
 have g2:Is H (tupI q.1) (.ref b):=by unfold tupI;simp only[Is];exact⟨b,_,rfl,h4,my⟩
 have ee:=(xy J 3 (A:=X.A.in1.in1) (by unfold tupI;have:=Jw p.1;simp only[dep];omega) (by show X.A.units + 1 + 1 + 3 < cLine;omega) g1 g2 (show RelV (.ref a) (.ref a) from rfl) (show RelV (.ref b) (.ref b) from rfl)).1;obtain⟨e,he,iK⟩:=HT.zw X.A.in1.in1 s' p.2 jc q.2 uO;refine HT.Uw (A:=X.A.in1) CN CO (.cons ⟨ee,fun _ prog wd Q' E' k=>HT.IY (ns:=p.1) (ms:=q.1) UA UB (by simpa using intsAre_of r3) (by simpa using intsAre_of r4) (by show X.A.units + 1 + 1 < cLine;omega) k⟩ (.cons ⟨he,fun _ prog wd Q' E' k=>HT.IX _ _ _ _ _ _ prog wd E' Q' k⟩ .nil)) (by show X.A.units + 1 < cLine;omega) ?_;have lp:=hL p (Yf e1)
 have lq:=hL q (Yf e2)
 have hv:we true (kp p) (kp q)=(if aD (tupI p.1) (tupI q.1)=true then (if e=true then false else decide (q.2 < p.2)) else HT.lexLt q.1 p.1):=by
  show HT.lexLt (q.1 ++ [q.2]) (p.1 ++ [p.2])=_;rw[v7 _ _ (by rw[lp,lq]),Ux]
  by_cases c:p.1=q.1
  ·rw[Xs c.symm,Xs (NN c)]
   cases e with
   | true=>rw[Xs rfl];exact Xp (by have:=iK.mp rfl;omega)
   | false=>rw[NM X8]
  ·rw[NM (fun z=>c z.symm),NM (by simpa using c)]
 rw[hv] at h;exact h
theorem pairs_at {F:Hp}:∀ {ps:List (LK × Int)} {us:List V},ae F (ps.map lZ) us->∃ ts:List Addr,us=ts.map V.ref/\ts.length=ps.length/\∀ (i:Nat) (t:Addr),ts[i]? = some t->∃ (p:LK × Int) (a:Addr),ps[i]? = some p/\F t=some (.tup [.ref a,.int p.2])/\F a=some (.tup (p.1.map V.int))
 | [],us,h=>by
  have:=h.length;exact⟨[],Zj.mp this,rfl,fun i t e=>by simp at e⟩
 | p :: ps,us,h=>by
  cases us with
  | nil=>have:=h.length;cases this
  | cons u us =>
   have h1:Is F (lZ p) u:=ae.at h (i:=0) rfl rfl;have h2:ae F (ps.map lZ) us:=AX 1 h;obtain⟨ts,rfl,e1,e2⟩:=pairs_at h2;unfold lZ at h1;simp only[Is] at h1;obtain⟨t,ws,rfl,g1,g2⟩:=h1;refine⟨t :: ts,rfl,by rw[Fq,Fq,e1],fun i t' e => ?_⟩
   cases i with
   | zero =>
    cases (show some t=some t' from e)
    have l2:=g2.length
    match ws,l2,g1,g2 with
    | [w1,w2],_,g1,g2 =>
     have j1:Is F (tupI p.1) w1:=ae.at g2 (i:=0) rfl rfl;have j2:Is F (.int p.2) w2:=ae.at g2 (i:=1) rfl rfl;unfold tupI at j1;simp only[Is] at j1 j2;obtain⟨a,vs,rfl,k1,k2⟩:=j1;rw[nU k2] at k1;cases j2
     exact⟨p,a,rfl,g1,k1⟩
   | succ i=>exact e2 i t' e
noncomputable def Dm (ds:List D) (K:D->Prop):Prop:=∃ (ps:List (LK × Int)) (L:Nat),ds=[.lst (ps.map lZ)]/\ps≠[]/\(∀ p∈ps,p.1.length=L)/\∀ p∈ps,(∀ q∈ps,kle (kp q) (kp p))->K (lZ p)
theorem UC (hu:X.A.units + 64 < cLine) (hc:X.calm=true):cW X (.builtin "max") Dm:=by
 rintro pins s σ H xs us Q I r ⟨F,ds,K,sub,rd,q,md⟩;obtain⟨ps,L,rfl,ne,hL,q⟩:=q;obtain⟨v,rfl,a,vs,rfl,h1,h2⟩:=c8 rd;obtain⟨u,rfl,rx⟩:=vals1 r;cases rx
 obtain⟨ts,rfl,tl,ht⟩:=pairs_at h2;refine Uu true (l:=a) (ts:=ts) (kw:=[]) (dd:=none) (kpr ps) (Uy _) rfl rfl I (I.ok.hd hc) (by omega) h1 (fun bu=>Uz (by omega) hL fun i t e => ?_) fun s' I'=>⟨fun h0 => ?_,fun b t e best => ?_⟩
 ·obtain⟨p,a',e1,e2,e3⟩:=ht i t e
  exact⟨p,a',e1,sub _ _ e2,sub _ _ e3⟩
 ·exact (ne (Zj.mp (by rw[<-tl,h0];rfl))).elim
 ·obtain⟨p,a',e1,e2,e3⟩:=ht b t e
  refine⟨.ref t,H,I',rfl,md _ _ _ (q p (Yf e1) fun x hx => ?_) (fun _ _ e=>e) ?_⟩
  ·obtain⟨j,hj⟩:=X9.mp hx
   have:=best j (by rw[tl];exact (sA.mp hj).1);rw[yH e1,yH hj] at this;exact this
  ·rw[Nw.refl sub];unfold lZ tupI
   simp only[Is];exact⟨t,_,rfl,e2,_,_,rfl,⟨a',_,rfl,e3,my⟩,_,_,rfl,rfl,rfl⟩
end
end L2
namespace L2
open PySem
variable [aK]
mutual
noncomputable def mL:D->Bool
 | .lst _=>false
 | .tup ds=>gM ds
 | _=>true
noncomputable def gM:List D->Bool
 | []=>true
 | d :: r=>mL d && gM r
end
noncomputable def h_ (F:Hp):Hp:=fun a=>match F a with
 | some (.tup vs)=>some (.tup vs)
 | _=>none
theorem Dp {F:Hp} {a:Addr} {o:HO} (h:h_ F a=some o):F a=some o/\∃ vs,o = .tup vs:=by
 unfold h_ at h
 cases q:F a with
 | none=>rw[q] at h;cases h
 | some u =>
  rw[q] at h
  cases u with
  | tup vs=>cases h;exact⟨rfl,vs,rfl⟩
  | _=>cases h
theorem UD {F:Hp} {a:Addr} {vs:List V} (h:F a=some (.tup vs)):h_ F a=some (.tup vs):=by
 unfold h_;rw[h]
mutual
theorem is_tup {F:Hp}:∀ {d:D} {v:V},mL d=true->Is F d v->Is (h_ F) d v
 | .lst _,_,h,_=>by simp[mL] at h
 | .tup ds,v,h,i=>by
  simp only[mL] at h;simp only[Is] at i ⊢;obtain⟨a,vs,e,f,k⟩:=i;exact⟨a,vs,e,UD f,Jx h k⟩
 | .non,_,_,i=>by simp only[Is] at i ⊢;exact i
 | .bl _,_,_,i=>by simp only[Is] at i ⊢;exact i
 | .int _,_,_,i=>by simp only[Is] at i ⊢;exact i
 | .str _,_,_,i=>by simp only[Is] at i ⊢;exact i
theorem Jx {F:Hp}:∀ {ds:List D} {vs:List V},gM ds=true->ae F ds vs->ae (h_ F) ds vs
 | [],_,_,i=>by simp only[ae] at i ⊢;exact i
 | d :: r,vs,h,i=>by
  simp only[gM,Yl] at h;simp only[ae] at i ⊢;obtain⟨v,t,e,h1,h2⟩:=i;exact⟨v,t,e,is_tup h.1 h1,Jx h.2 h2⟩
end
section
variable {F F' H H':Hp} {ad aC:List Addr} {δ δ':aA} {σ σ':St}
end
section
variable {X:Cx} {v_ iN ie kG:Stmt} {i j:Nat} {G:GD} {t t2:WT} {B:TS} {E:XK}
end
section
variable {F F' H H':Hp} {ad aC:List Addr} {δ δ':aA} {σ σ':St}
theorem UE {x y:V}:eO [x,y] 1=some y:=by
 unfold eO i9;rw[Xs (by decide),Xs (by show (1:Int) < 2;decide)];rfl
end
section
variable {X:Cx} {v_ iN ie kG Js:Stmt} {i j l:Nat} {G:GD} {t u:WT} {B B':TS} {E:XK}
end
section
variable {F F' H H':Hp} {ad aC:List Addr} {δ δ':aA} {σ σ':St}
theorem drop_new {i:Nat} {v:V} {H5:Hp} (S:SR F ad δ σ H) (hi:i < δ.sl.length) (old:∀ x o,H x=some o->x∉aK.ad->H5 x=some o) (dm:∀ x o,H x=some o->∃ o',H5 x=some o') (tk:aK.ok H5) :
  Ext F ad δ.mu H F ad δ.mu H5/\SR F ad ⟨δ.sl.set i none,δ.mu⟩ (σ.set i (some v)) H5:=by
 refine⟨⟨fun _ _ e=>e,fun _ _ e => .inl e,fun x o e _ n=>old x o e n,fun _ _ e=>e,fun _ e => .inl e,dm⟩,⟨fun x o e=>old x o (S.sub x o e) (fun z=>by rw[S.nt x z] at e;cases e),S.off,S.cy,S.inj,fun k ov e => ?_,fun j x e => ?_,?_,tk,S.nt⟩⟩
 ·obtain⟨x,o,e1,e2,e3⟩:=S.mu k ov e
  refine⟨x,o,e1,old x o e2 fun z => ?_,e3⟩;obtain⟨ps,q⟩:=aK.tb S.tab z;rw[e2] at q;rcases e3.kind with⟨_,y⟩ | ⟨_,y⟩<;>rw[y] at q<;>cases q
 ·have e:(δ.sl.set i none)[j]? = some (some x):=e
  by_cases c:i=j
  ·subst c;rw[Yx hi] at e;cases e
  ·rw[YH c] at e ⊢
   exact S.sl j x e
 ·show (σ.set i _).length=(δ.sl.set i none).length
  rw[Y9,Y9];exact S.len
noncomputable def Dq (i j1 j2 j3:Nat) (G:GD) (t t2:WT) (R:WS):WS:=fun K δ => i < δ.sl.length/\∃ d1 d2 d3,δ.sl[j1]? = some (some (.p d1)) /\ δ.sl[j2]? = some (some (.p d2)) /\ δ.sl[j3]? = some (some (.p d3))/\mL d1=true/\mL d2=true/\mL d3=true ∧
 G [.p d1,.p d2,.p d3] [] fun res _=>∃ dd,res = .p dd/\(dd = .non\/∃ n es,dd = .tup [.int n,.lst es]/\es.length <= 900) ∧
  t ⟨δ.sl.set i (some (.p dd)),(oO δ).mu⟩ fun b δ2=>b=false/\t2 δ2 fun b2 _=>(b2=true->∃ n es,dd = .tup [.int n,.lst es])/\if b2=true then R K ⟨δ.sl.set i none,δ.mu⟩ else K.nx ⟨δ.sl.set i none,δ.mu⟩
theorem UG {Kf:PySem.W.Frag} {i j1 j2 j3:Nat} {G:GD} {t t2:WT} {R:WS} {B:TS} {E:XK} {c:Int}:∀ D σ H,dq (Dq i j1 j2 j3 G t t2 R) D σ H->jo (fQ (sj (k6 G 3) [] E (fR (eK j1) (fR (eK j2) (fR (eK j3) jr)))) (mR i)) (jo (jq (cI t) B r_) (jq (cI t2) (jo (wH (qq Kf "list" wN (kH (qo Kf) (eK i) (tC (.int 1))) (fR (tC (.int c)) jr))) (dq R)) r_)) D σ H:=fun D σ H ⟨F,ad,δ,K,S,⟨hi,d1,d2,d3,h1,h2,h3,n1,n2,n3,g⟩,C⟩=>by
 obtain⟨v1,UH,Dr⟩:=S.sl j1 _ h1;obtain⟨v2,UI,Ds⟩:=S.sl j2 _ h2;obtain⟨v3,UJ,Dt⟩:=S.sl j3 _ h3;have Dr:Is F d1 v1:=Dr;have Ds:Is F d2 v2:=Ds;have Dt:Is F d3 v3:=Dt;refine⟨v1,UH,v2,UI,v3,UJ,rfl,h_ F,[],[.p d1,.p d2,.p d3],[],_,⟨fun a o e=>S.sub _ _ (Dp e).1,fun a ⟨k,ov,e,_⟩=>by simp at e,rfl,fun k l a ov ow e _ _ _=>by simp at e,fun k ov e=>by simp at e,fun k x e => ?_,rfl,S.tab,fun a ha => ?_⟩,g,fun r ows hk v4 F2 H2 P => ?_⟩
 ·match k,e with
  | 0,e=>cases (show some (some (DV.p d1))=some (some x) from e);exact⟨v1,rfl,is_tup n1 Dr⟩
  | 1,e=>cases (show some (some (DV.p d2))=some (some x) from e);exact⟨v2,rfl,is_tup n2 Ds⟩
  | 2,e=>cases (show some (some (DV.p d3))=some (some x) from e);exact⟨v3,rfl,is_tup n3 Dt⟩
  | k + 3,e=>simp at e
 ·unfold h_;rw[S.nt a ha]
 obtain⟨dd,rfl,sh,ht⟩:=hk;have ia:Is F2 dd v4:=P.res;have kp:∀ b o,H b=some o->b∉aK.ad->H2 b=some o:=fun b o e t=>P.keep b o e (by simp) t;have S2:=S.hide.rN kp P.tab;have E2:=Ext.rN S.hide kp P.tab
 have sm:aF F2 (Nw F H H2):=fun x o e=>by
  unfold Nw
  cases q:H x with
  | none=>exact P.sub x o e
  | some u =>
   rcases P.new x o e with z | z
   ·exact (Dp z).1
   ·rw[q] at z;cases z
 have Bg:Is (Nw F H H2) dd v4:=ia.same sm;have UK:=S2.set (i:=i) (x := .p dd) (v:=v4) Bg;refine⟨Nw F H H2,ad,_,_,UK,ht,fun b δ3 ⟨hb,h3⟩ F3 nH H3 E3 S3 => ?_⟩;subst hb;rw[NM (by decide)];refine⟨F3,nH,δ3,_,S3,h3,fun b2 δ4 ⟨UL,hk⟩ F4 uX H4 E4 S4 => ?_⟩;have ET:=(E2.trans E3).trans E4;have up:∀ x o,Nw F H H2 x=some o->H4 x=some o:=fun x o e=>S4.sub _ _ (E4.same _ _ (E3.same _ _ e));have gi:(σ.set i (some v4))[i]? = some (some v4):=Yx (by rw[S.len];exact hi)
 cases b2 with
 | false =>
  rw[NM (by decide)] at hk;dsimp only;rw[NM (by decide)];obtain⟨e5,s5⟩:=drop_new (v:=v4) S hi (fun x o e n=>ET.keep x o e Cz n) ET.iw S4.tab;exact C.nx _ hk _ _ _ _ e5 s5
 | true =>
  rw[Xs rfl] at hk;dsimp only;rw[Xs rfl];obtain⟨n,es,rfl⟩:=UL rfl
  have UM:es.length <= 900:=by
   rcases sh with z | ⟨_,_,z,l⟩
   ·cases z
   ·cases z;exact l
  have Jy:=ia;simp only[Is,ae] at Jy;obtain⟨a,vs,rfl,fa,x,tl,rfl,rfl,y,XY,rfl,⟨b,us,rfl,fb,iu⟩,rfl⟩:=Jy
  have hb:H b=none:=by
   rcases P.new b _ fb with z | z
   ·obtain⟨_,ws,y⟩:=Dp z
    cases y
   ·exact z
  have Du:=up b _ (sm _ _ fb);have UN:=up a _ (sm _ _ fa);have lu:us.length <= 900:=by rw[iu.length];exact UM
  refine⟨_,gi,a,_,1,V.ref b,rfl,rfl,bF.of UN,UE,Or.inl ⟨rfl,us,bz.of Du⟩,b,us,_,rfl,rfl,Du,qy (by omega),?_⟩;obtain⟨e5,s5⟩:=drop_new (v:=V.ref a) (H5:=upd H4 b (.lst (us ++ [V.int c]))) S hi (fun x o e n=>by rw[aS (c6 e hb)];exact ET.keep x o e Cz n) (fun x o e=>by rw[aS (c6 e hb)];exact ET.iw x o e) (aK.put S4.tab Du (.inl ⟨_,rfl⟩));exact⟨F,ad,_,K,s5,hk,C.ext e5⟩
end
section
variable {X:Cx} {v_ iN ie kG:Stmt} {i j1 j2 j3:Nat} {G:GD} {t t2:WT} {R:WS} {B:TS} {E:XK} {c:Int} {ct:Expr} {pos:Pos}
theorem UO (h0:JS X v_ (fQ (sj (k6 G 3) [] E (fR (eK j1) (fR (eK j2) (fR (eK j3) jr)))) (mR i))) (h1:JS X iN (jq (cI t) B r_)) (h2:JS X ie (jq (cI t2) (jo (wH (qq X.K "list" wN (kH (qo X.K) (eK i) (tC (.int 1))) (fR (tC (.int c)) jr))) (dq R)) r_)):eF X [v_,iN,ie] (dq (Dq i j1 j2 j3 G t t2 R)):=(qC h0 (qC h1 (wX h2))).weak UG
end
end L2
namespace L2
open PySem PySem.Spec PyProof.Rows
noncomputable def oV:List D->(D->Prop)->Prop
 | [.bl b],K=>K (.int (if b then 1 else 0))
 | _,_=>False
variable [aK] {X:Cx}
theorem UP:cW X (.type "int") oV:=by
 rintro pins s σ H xs us Q I r ⟨F,ds,K,sub,rd,q,md⟩;unfold oV at q;split at q
 ·rename_i b
  obtain⟨v,rfl,rfl⟩:=c8 rd;obtain⟨u,rfl,rx⟩:=vals1 r;cases rx
  refine call_int_bool ⟨.int (if b then 1 else 0),H,I.tok _,⟨_,rfl⟩,md _ _ _ q (fun _ _ e=>e) rfl⟩
 ·exact q.elim
end L2
namespace LJ
open PySem L2
variable [aK]
noncomputable def Dv:GD:=fun ys ai K=>∃ l:List Int,l.length <= 900/\ys=[.p (bt l)]/\ai=[]/\K (.p (.bl true)) []
noncomputable def Dw:WS:=(aI (iP (d1 (aa 0) (b9 "list")) (d2 (fy (bO (aa 0)) [none] (bG 0) (cX (dT (au 1 x_ (aj (aa 0) ag)))) (dC (.int 1))) (dw ag) oEq)))
theorem UQ:∀ ys ai K',ys.length=1->Dv ys ai K'->Dw (bI ai.length K') ⟨ys.map some ++ List.replicate 0 none,ai.map some⟩:=by
 rintro ys ai K' - ⟨l,ll,rfl,rfl,k⟩;unfold Dw;rw[show bt l = .lst (l.map D.int) from rfl];simp? only [cf,aV,Bool.true_or];refine L2.nZ (fun _=>false) id (by rw[qx];omega) trivial ?_ ?_
 ·intro d hd acc L' ha h1 h2
  obtain⟨x,_,rfl⟩:=X0.mp hd;simp? only [];refine⟨.int x,rfl,rfl,?_⟩;simp? only [Bx];exact h2 rfl
 rw[show (((l.map D.int).filter fun _=>false).map id)=([]:List D) by rw[List.filter_eq_nil_iff.mpr (fun _ _=>X8)];rfl];simp? only [];rw[eT];exact bW k
noncomputable def Dy:GD:=fun ys ai K=>∃ (l:List Int) (m:Int),l.length <= 900/\l.Pairwise (· < ·)/\(∀ x∈l,0 <= x/\x < m)/\ys=[.p (bt l),.p (.int m)]/\ai=[]/\K (.p (.bl true)) []
noncomputable def Dz:WS:=(ay (dR (nN (aj (aa 0) ag)) (jF 2 (e8 (bG 2) (e8 (bG 3) je))) (bo (j6 (cX (dT (au 3 BM (aj (aa 3) (aj (dC (.int 0)) (aj (d2 (aa 1) (dC (.int 1)) (oI fun i j => .int (i - j))) ag)))))) (gB (dT (d2 (aa 2) (dC (.int 0)) (oI fun i j => .bl (decide (j < i))))) (dT (d2 (d2 (aa 0) (d2 (aa 2) (dC (.int 1)) (oI fun i j => .int (i - j))) aW) (aa 3) (oI fun i j => .bl (decide (j <= i))))))) (aI (dC (.bl false))) cK)) (aI (dC (.bl true))))
theorem UR:∀ ys ai K',ys.length=2->Dy ys ai K'->Dz (bI ai.length K') ⟨ys.map some ++ List.replicate 2 none,ai.map some⟩:=by
 rintro ys ai K' - ⟨l,m,ll,up,rg,rfl,rfl,k⟩;unfold Dz;rw[show bt l = .lst (l.map D.int) from rfl];refine aU fun N hN => ?_;refine pM fun g' b' K2 hg hb' hK => ?_;simp? only [];subst hg hb' hK;refine mz (fun _ δ => δ = ⟨[some (.p (.lst (l.map D.int))),some (.p (.int m)),none,none],[]⟩) rfl ?_ ?_
 ·rintro j d δ L hj rfl hL
  have hL:=hL _ rfl;obtain⟨e,he,rfl⟩:=u4 hj;rw[My] at he;obtain⟨x,hx,rfl⟩:=Xt.mp he;obtain⟨rq,ex⟩:=sA.mp hx;refine⟨trivial,?_⟩;simp only[jF,e8,je,bG,g7,bI,Fq,Y8,Yd,Zw,YC,YD,Yu,Nat.reduceAdd,and_self,true_and,q0A,ZF];refine jh fun A1 B1 hA hB => ?_;simp? only [];refine⟨.int x,0,m - 1,rfl,rfl,?_⟩;have rx:=rg x (Yf hx);rw[show ji (.int x) 0 (m - 1)=(decide (0 <= x) && decide (x <= m - 1)) from rfl,NN rx.1,NN (show x <= m - 1 by omega)];simp? only []
  have Jz:B1 ⟨[some (.p (.lst (l.map D.int))),some (.p (.int m)),some (.p (.int (j:Nat))),some (.p (.int x))],[]⟩:=by
   subst hB;simp? only [];exact hL
  clear hA hB hj he
  cases j with
  | zero=>rw[NM (by simp)];exact Jz
  | succ i =>
   rw[Xs (NN (by omega)),show (((i + 1:Nat):Int) - 1)=(i:Int) by omega,mI (by omega)]
   have lt:l.getD i 0 < x:=by
    have:=Zr.mp up i (i + 1) (by omega) rq (by omega);rw[ex] at this;rw[Fs,qv (by omega)];exact this
   simp? only [];rw[Xp (by omega)];simp? only [];exact Jz
 ·rintro δ rfl
  refine⟨trivial,?_⟩;subst hN;simp? only [];exact bW k
theorem US {m:Int} {ws:List Wy} (W:bP m ws) {l os:List Int} {n:Int} (hn:0 <= n/\n < (ws.length:Int)) (ln:iF l (av ws n)=true) (lv:∀ v∈ws,iF l v=true->e_ (av ws n) v\/v=av ws n) (pm:os.Perm (tJ ws l)) (up:(os.map (bM ws)).Pairwise kle):os.take 1=[n]:=by
 have no:n∈os:=pm.mem_iff.mpr (YT.mpr ⟨c9.mpr hn,ln⟩)
 cases os with
 | nil=>cases no
 | cons a r =>
  have ha:=YT.mp (pm.mem_iff.mp (.head r));have ar:=yb ha.1
  have le:kle (bM ws a) (bM ws n):=by
   rcases Xq.mp no with e | e
   ·rw[e];exact kle_refl _
   ·rw[Yd] at up
    exact (Zh.mp up).1 _ (Za e)
  have e:a=n:=by
   rcases lv _ (yo ar.1 ar.2) ha.2 with c | c
   ·exact absurd c (C0 le)
   ·exact Cm W ar hn (by unfold bM;unfold av at c;rw[c])
  rw[e];rfl
noncomputable def DA:GD:=fun ys ai K=>∃ (m:Int) (ws:List Wy) (n:Int) (l:List Int),bP m ws/\(0 <= n/\n < (ws.length:Int))/\l.length <= 900/\l.Pairwise (· < ·)/\(∀ x∈l,0 <= x/\x < m)/\iF l (av ws n)=true/\(∀ v∈ws,iF l v=true->e_ (av ws n) v\/v=av ws n) ∧
 ys=[.p (aN m ws),.p (.int n),.p (bt l)]/\ai=[]/\K (.p (.bl true)) []
noncomputable def DB:WS:=(ay (bo (cX (dT (au 2 Dy (aj (aa 2) (aj (d2 (aa 0) (dC (.int 0)) aW) ag))))) (aI (dC (.bl false))) cK) (aI (d2 (hV (au 3 Dg (aj (aa 0) (aj (aa 2) (aj (vh (aj (dN (aj (d2 (aa 0) (dC (.int 1)) aW) ag) cL) ag)) ag)))) hU (pF (dC (.int 1)))) (dw (aj (aa 1) ag)) oEq)))
theorem UT:∀ ys ai K',ys.length=3->DA ys ai K'->DB (bI ai.length K') ⟨ys.map some ++ List.replicate 0 none,ai.map some⟩:=by
 rintro ys ai K' - ⟨m,ws,n,l,W,hn,ll,up,rg,ln,lv,rfl,rfl,k⟩;have pT:=W.iq;unfold DB;rw[show bt l = .lst (l.map D.int) from rfl];refine aU fun N hN => ?_;refine jh fun A1 B1 hA hB => ?_;simp? only [aN,fB];refine⟨l,m,ll,up,rg,rfl,rfl,?_⟩;simp? only [];subst hB;show N _;subst hN;simp? only [d_];refine⟨by omega,?_⟩;refine⟨m,ws,l,W,by rw[Ya,nW];rfl,rfl,fun os pm UU => ?_⟩;rw[show bt os = .lst (os.map D.int) from rfl];simp? only []
 have ct:cutD (os.map D.int) none (some 1)=(os.take 1).map D.int:=by
  cases os with
  | nil=>rfl
  | cons a r=>rw[show (1:Int)=((1:Nat):Int) from rfl,Uk (by simp),List.map_take]
 rw[ct,US W hn ln lv pm UU];simp? only [];rw[eT];exact bW k
noncomputable abbrev Di:=LJT.aQ 1
theorem UW {ws:List Wy} {a b:Int} (ne:bM ws a≠bM ws b) (h:kle (kp (bM ws a,a)) (kp (bM ws b,b))):kle (bM ws a) (bM ws b):=by
 have h:HT.lexLt (bM ws b ++ [b]) (bM ws a ++ [a])=false:=h;rw[v7 (k:=bM ws b) (l:=bM ws a) b a rfl,NM (fun z=>ne z.symm)] at h;exact h
noncomputable def yI:GD:=fun ys ai K=>∃ (m:Int) (ws:List Wy) (i j:Nat) (fd:D),bP m ws/\i < m.toNat/\j < m.toNat/\i≠j/\ys=[.p (aN m ws),.p (.int i),.p (.int j),.p fd]/\ai=[] ∧
 ((¬ ax (fun v=>v∈ws) i j/\fd = .non)\/∃ n:Int,(0 <= n/\n < (ws.length:Int))/\cC ws (av ws n) i j/\fd = .tup [.int n,bt (kq m ws n i)])/\K (.p (.bl true)) []
noncomputable def DC:WS:=(ay (aL 4 (au 4 C_ (aj (aa 0) (aj (au 2 CH (aj (aa 0) (aj (au 1 BR (aj (aa 0) ag)) ag))) (aj (aa 1) (aj (aa 2) ag)))))) (ay (bo (dT (d2 (aa 4) (dC .non) hW)) (aI (d2 (aa 3) (dC .non) hW)) cK) (ay (bo (j6 (cX (dT (d1 (aa 3) (b9 "tuple")))) (j6 (dT (d2 (dN (aj (aa 3) ag) cL) (dC (.int 2)) jg)) (cX (dT (au 1 Dv (aj (d2 (aa 3) (dC (.int 1)) aW) ag)))))) (aI (dC (.bl false))) cK) (ay (aL 5 (d2 (dN (aj (fy (bO (aa 4)) [none,some 0] (bG 0) dA (de (aj (au 2 v8 (aj (aa 1) (aj (aa 0) ag))) (aj (aa 0) ag)))) ag) Dm) (dC (.int 1)) aW)) (ay (bo (j6 (cX (dT (au 2 Di (aj (d2 (aa 3) (dC (.int 0)) aW) (aj (aa 5) ag))))) (j6 (dT (d2 (aa 1) (d2 (aa 3) (dC (.int 1)) aW) (iA true))) (dT (d2 (aa 2) (d2 (aa 3) (dC (.int 1)) aW) (iA false))))) (aI (dC (.bl false))) cK) (aI (au 3 DA (aj (aa 0) (aj (aa 5) (aj (d2 (aa 3) (dC (.int 1)) aW) ag))))))))))
theorem UX:∀ ys ai K',ys.length=4->yI ys ai K'->DC (bI ai.length K') ⟨ys.map some ++ List.replicate 2 none,ai.map some⟩:=by
 rintro ys ai K' - ⟨m,ws,i,j,fd,W,hi,hj,ne,rfl,rfl,hf,k⟩;have pT:=W.iq;have f_:=W.f_;unfold DC;refine aU fun N hN => ?_;simp? only [];refine⟨m,ws,W,rfl,rfl,?_⟩;simp? only [];refine⟨m,ws,aR ws.length,W,rfl,rfl,fun os ho => ?_⟩;rw[<-SV W ho];have F:=Jp W ho;generalize mK m ws os=fo at F;simp? only [];have fl:=F.len;have ind:Indep (eC ws fo):=by rw[show eC ws fo=gH ws from funext fun v=>propext (F.rU v)];exact CU W
 refine⟨m,ws,fo,i,j,W,F.nums,by omega,ind,hi,hj,rfl,rfl,fun c => ?_,fun R nd hR c => ?_⟩
 ·simp? only []
  rcases hf with⟨_,rfl⟩ | ⟨n,hn,nk,_⟩
  ·subst hN
   refine aU fun N hN => ?_;simp? only [];exact bW k
  ·exact absurd (F.conn.mpr nk.all) c
 ·simp? only []
  rcases hf with⟨z,_⟩ | ⟨n,hn,nk,rfl⟩
  ·exact absurd (F.conn.mp c) z
  have hl:∀ x,0 <= x/\x < m->(x∈kq m ws n i↔ax (km ws (av ws n)) i x):=fun x hx=>by
   unfold kq;rw[gJ];exact and_iff_right (by omega)
  have ul:(kq m ws n i).Pairwise (· < ·):=Ta _ _ _
  have rl:∀ x∈kq m ws n i,0 <= x/\x < m:=fun x hx=>by
   have:=(gJ.mp hx).1;omega
  have sl:(kq m ws n i).length <= 900:=by
   unfold kq cls;refine Yw (q0h _ _) ?_;rw[tH];omega
  generalize kq m ws n i=l at hl ul rl sl;have il:(i:Int)∈l:=(hl _ (by omega)).mpr .rf;have jl:(j:Int)∉l:=fun z=>nk.parts W ((hl _ (by omega)).mp z);obtain⟨c1,c2⟩:=nk.cut W hl;have d0:=tI l;have sa:∀ e,rV ws fo e=km ws (av ws e):=fun e=>funext fun v=>propext (and_congr_left fun _=>F.rU v);have nR:n∈R:=(hR n).mpr ⟨(F.mem n).mpr ⟨hn,nk.tree⟩,by rw[sa];exact nk.parts W⟩
  have top:∀ e∈R,kle (kp (bM ws n,n)) (kp (bM ws e,e))->e=n:=fun e he h=>by
   obtain⟨h1,h2⟩:=(hR e).mp he;obtain⟨er,et⟩:=(F.mem e).mp h1;rw[sa] at h2
   by_cases q:bM ws n=bM ws e
   ·exact Cm W er hn q.symm
   ·rcases nk.top W et h2 with z | z
    ·exact absurd z (C0 (UW q h))
    ·exact yt W er hn z
  have Rl:R.length <= ws.length:=Jg (fun e he=>F.nums e ((hR e).mp he).1) nd;have Rn:∀ e∈R,0 <= e/\e < (ws.length:Int):=fun e he=>F.nums e ((hR e).mp he).1;subst hN;refine aU fun N hN => ?_;rw[show bt R = .lst (R.map D.int) from rfl,show bt l = .lst (l.map D.int) from rfl];simp? only [];subst hN;refine aU fun N hN => ?_;refine jh fun A1 B1 hA hB => ?_;simp? only [cf,aV,Bool.true_or,d_];rw[show aD (.int ((2:Nat):Int)) (.int 2)=true from eT _];simp? only [];refine⟨l,sl,rfl,rfl,?_⟩;simp? only [];subst hB;show N _;subst hN;refine aU fun N hN => ?_;simp? only []
  refine L2.nZ (fun _=>true) (fun d=>match d with
   | .int e=>lZ (bM ws e,e)
   | _ => .non) (by rw[qx];omega) trivial ?_ ?_
  ·intro d hd acc L' ha h1 h2
   obtain⟨e,he,rfl⟩:=X0.mp hd;simp? only [];refine⟨m,ws,e,W,Rn e he,rfl,rfl,?_⟩;simp? only [];exact⟨ha,h1 rfl⟩
  have e:((R.map D.int).filter fun _=>true).map (fun d=>match d with
   | .int e=>lZ (bM ws e,e)
   | _ => .non)=(R.map fun e=>(bM ws e,e)).map lZ:=by
   rw[List.filter_eq_self.mpr (fun _ _=>rfl),Yj,Yj];rfl
  rw[e];simp? only [Dm];refine⟨R.map fun e=>(bM ws e,e),3,rfl,fun z => ?_,fun p hp => ?_,fun p hp best => ?_⟩
  ·rw[List.map_eq_nil_iff.mp z] at nR;cases nR
  ·obtain⟨e,_,rfl⟩:=X0.mp hp
   rfl
  obtain⟨e',he,rfl⟩:=X0.mp hp;have en:=top e' he (best _ (Za nR));subst en;simp? only [lZ,d_];subst hN;refine aU fun N hN => ?_;refine jh fun A1 B1 hA hB => ?_;simp? only [fB,d_];refine⟨.int e',by simp only[dep];omega,by decide,rfl,rfl,rfl,?_⟩;simp? only [d_];refine⟨by omega,?_⟩;rw[rQ,NN il];simp? only [d_];refine⟨by omega,?_⟩;rw[rQ,Xp jl];simp? only [];subst hB;show N _;subst hN;simp? only [d_];refine⟨m,ws,e',l,W,hn,sl,ul,rl,c1,c2,rfl,rfl,?_⟩;simp? only [];exact bW k
theorem JB:∀ ws:List Wy,gM (ws.map bV)=true
 | []=>by simp[gM]
 | y :: r=>by
  rw[Yd];simp only[gM,JB r,q1j];unfold bV;simp[mL,gM]
theorem UY (m:Int) (ws:List Wy):mL (aN m ws)=true:=by
 unfold aN;simp only[mL,gM,JB,Bool.and_self,q1j]
theorem UZ {m:Int} {ws:List Wy} (W:bP m ws) (n i:Int):((kq m ws n i).map D.int).length <= 900:=by
 have:=W.f_;rw[qx];unfold kq cls;refine Yw (q0h _ _) ?_;rw[tH];omega
noncomputable abbrev KL:KS:=⟨fun _=>False,fun x _=>x = .p (.bl true),fun _=>False,fun _=>False⟩
noncomputable def DD:WS:=(ay (dR (nM (aj (dC (.int 3)) ag)) (bG 2) (ay (aL 3 (au 3 Bv (aj (au 1 Bo (aj (aa 1) ag)) (aj (d2 (dw (aj (dC (.int 12)) (aj (dC (.int 6)) (aj (dC (.int 9)) ag)))) (aa 2) aW) (aj (dC (.int 30)) ag))))) (dR (nM (aj (d2 (dC (.int 3)) (dN (aj (d2 (d2 (aa 3) (dC (.int 0)) aW) (dC (.int 1)) (oI fun i j => .bl (decide (j < i)))) ag) oV) fz) ag)) (bG 4) (ay (aL 5 (au 2 iD (aj (aa 1) (aj (d2 (aa 3) (dC (.int 0)) aW) ag)))) (ay (aL 6 (d2 (d2 (d2 (aa 5) (dC (.int 1)) dH) (au 2 iD (aj (aa 1) (aj (d2 (d2 (aa 3) (dC (.int 0)) aW) (dC (.int 1)) (oI fun i j => .int (i - j))) ag))) dH) (d2 (aa 3) (dC (.int 0)) aW) (dS (fun _ j=>0 < j) fun i j => .int (i % j)))) (dR (bO (dw (aj (de (aj (aa 5) (aj (aa 6) ag))) (aj (de (aj (aa 6) (aj (aa 5) ag))) ag)))) (jF 2 (e8 (bG 7) (e8 (bG 8) je))) (Dq 9 3 7 8 yx (cX (dT (au 4 yI (aj (aa 3) (aj (aa 7) (aj (aa 8) (aj (aa 9) ag))))))) (dT (d2 (aa 9) (dC .non) xZ)) (bo (cX (dT (au 4 yI (aj (aa 3) (aj (aa 7) (aj (aa 8) (aj (au 3 yx (aj (aa 3) (aj (aa 7) (aj (aa 8) ag)))) ag))))))) (aI (dC (.bl false))) cK)))))))) (aI (dC (.bl true))))
theorem U0 {m r s:Int} (hr:0 <= r/\r < m) (hs:0 <= s/\s < m - 1):0 <= (r + 1 + s) % m/\(r + 1 + s) % m < m/\(r + 1 + s) % m≠r:=by
 have h0:=Y6 (r + 1 + s) (show m≠0 by omega);have h1:=YJ (r + 1 + s) (show 0 < m by omega);refine⟨h0,h1,?_⟩
 by_cases c:r + 1 + s < m
 ·rw[Int.emod_eq_of_lt (by omega) c];omega
 ·rw[<-Int.sub_emod_right,Int.emod_eq_of_lt (by omega) (by omega)];omega
theorem U1 (ns:List Int) (hn:ns.length <= 63):DD KL ⟨none :: some (.o 0) :: List.replicate 8 none,[some (iT ns 0 0)]⟩:=by
 unfold DD;refine aU fun N hN => ?_;simp? only [];refine⟨by decide,?_⟩;refine mz (fun i δ => ∃ o,bA (1000 * i) o /\ δ = ⟨none :: some (.o 0) :: List.replicate 8 none,[some o]⟩) ⟨iT ns 0 0,⟨ns,0,0,rfl,hn,by omega,by omega⟩,rfl⟩ ?_ ?_
 ·rintro j d δ L hj ⟨o,P,rfl⟩ hL
  obtain⟨DE,rfl⟩:=nP hj;have DE:j < 3:=DE;refine⟨trivial,?_⟩;simp only[bG,YX,List.replicate_zero,YC,YD]
  obtain⟨hs,ea,h1,HR⟩:∃ hs:Int,eO [D.int 12,D.int 6,D.int 9] (0 + (j:Int))=some (.int hs)/\1 <= hs/\hs <= 12:=by
   match j,DE with
   | 0,_=>exact⟨12,rfl,by decide,by decide⟩
   | 1,_=>exact⟨6,rfl,by decide,by decide⟩
   | 2,_=>exact⟨9,rfl,by decide,by decide⟩
  generalize (0 + (j:Int))=jt at ea;refine aU fun N2 eg => ?_;simp? only [];refine⟨1000 * j,o,rfl,rfl,P,fun o1 P1 => ?_⟩;simp? only [ea];refine⟨1000 * j,hs,30,o1,rfl,rfl,P1,by omega,by omega,by omega,by omega,by omega,fun m ws o2 W _ _ P2 => ?_⟩;have f_:=W.f_;have m1:=W.m1;simp? only [];subst eg;refine pM fun g' b' K2 hg hb' hK => ?_;simp? only [aN,fB,oV];have cm:∀ b:Bool,kI 3 (if b=true then 1 else 0):=fun b=>by cases b<;>exact .inl ⟨by decide,by decide⟩
  refine⟨cm _,?_⟩
  obtain⟨t,et,ht⟩:∃ t:Nat,(3 * (if decide (1 < m)=true then 1 else 0):Int)=t/\(t <= 3/\(m=1->t=0)):=by
   by_cases c:1 < m
   ·exact⟨3,by rw[NN c];rfl,by omega,fun z=>by omega⟩
   ·exact⟨0,by rw[Xp c];rfl,by omega,fun _=>rfl⟩
  rw[et];refine⟨by omega,?_⟩;subst hg hb' hK;refine mz (fun i δ => ∃ o',bA (1000 * j + 500 + 2 * i) o' /\ δ = ⟨[none,some (.o 0),some (.p (.int jt)),some (.p (.tup [.int m,.tup (ws.map bV)])),none,none,none,none,none,none],[some o']⟩) ⟨o2,P2.mono (by omega),rfl⟩ ?_ ?_
  ·rintro i d δ L3 hi ⟨o',P',rfl⟩ U2
   obtain⟨U3,rfl⟩:=nP hi;rw[Ya] at U3
   have m2:2 <= m:=by
    by_cases c:m=1
    ·have:=ht.2 c;omega
    ·omega
   refine⟨trivial,?_⟩;simp only[bG,YC,YD];refine aU fun N3 DF => ?_;simp? only [fB];refine⟨1000 * j + 500 + 2 * i,m,o',rfl,rfl,P',by omega,by omega,by omega,fun r o3 r0 r1 P3 => ?_⟩;simp? only [];subst DF;refine aU fun N3 DF => ?_;simp? only [fB];refine⟨1000 * j + 500 + 2 * i + 1,m - 1,o3,rfl,rfl,P3,by omega,by omega,by omega,fun s o4 s0 s1 P4 => ?_⟩;simp? only [fB];refine⟨by omega,?_⟩;obtain⟨e0,e1,e2⟩:=U0 ⟨r0,r1⟩ ⟨s0,s1⟩;generalize (r + 1 + s) % m=ot at e0 e1 e2;subst DF;refine pM fun g' b' K2 hg hb' hK => ?_;simp? only [];subst hg hb' hK;refine mz (fun _ δ => δ = ⟨[none,some (.o 0),some (.p (.int jt)),some (.p (.tup [.int m,.tup (ws.map bV)])),some (.p (.int (0 + (i:Int)))),some (.p (.int r)),some (.p (.int ot)),none,none,none],[some o4]⟩) rfl ?_ ?_
   ·rintro x d δ L4 hx rfl yJ
    have yJ:=yJ _ rfl
    obtain⟨a,b,rfl,ha,hb,ab⟩:∃ a b:Nat,d = .tup [.int (a:Int),.int (b:Int)]/\a < m.toNat/\b < m.toNat/\a≠b:=by
     match x,hx with
     | 0,hx =>
      cases hx
      exact⟨r.toNat,ot.toNat,by rw[ZH (by omega),ZH (by omega)],by omega,by omega,by omega⟩
     | 1,hx =>
      cases hx
      exact⟨ot.toNat,r.toNat,by rw[ZH (by omega),ZH (by omega)],by omega,by omega,by omega⟩
    refine⟨trivial,?_⟩;simp only[jF,e8,je,bG,g7,bI,Fq,Y8,Yd,Zw,YC,YD,Yu,Nat.reduceAdd,and_self,true_and,q0A,ZF];refine⟨by simp,_,_,_,rfl,rfl,rfl,UY m ws,rfl,rfl,m,ws,a,b,W,ha,hb,ab,rfl,rfl,fun c => ?_,fun n hn nk => ?_⟩
    ·refine⟨.non,rfl,.inl rfl,?_⟩
     simp? only [oO];refine⟨m,ws,a,b,.non,W,ha,hb,ab,rfl,rfl,.inl ⟨c,rfl⟩,?_⟩;simp? only [];exact⟨(fun z=>nomatch z),yJ⟩
    ·refine⟨_,rfl,.inr ⟨n,_,rfl,UZ W n a⟩,?_⟩
     simp? only [oO];refine⟨m,ws,a,b,_,W,ha,hb,ab,rfl,rfl,.inr ⟨n,hn,nk,rfl⟩,?_⟩;simp? only [];refine⟨fun _=>⟨n,_,rfl⟩,?_⟩;refine⟨m,ws,a,b,W,ha,hb,ab,rfl,rfl,fun c=>absurd nk.all c,fun n2 BZ U4 => ?_⟩;simp? only [];refine⟨m,ws,a,b,_,W,ha,hb,ab,rfl,rfl,.inr ⟨n2,BZ,U4,rfl⟩,?_⟩;simp? only [];exact yJ
   ·rintro δ rfl
    refine⟨trivial,?_⟩;exact U2 _ ⟨o4,P4.mono (by omega),rfl⟩
  ·rintro δ ⟨o',P',rfl⟩
   rw[mw,Ya] at P';refine⟨trivial,?_⟩;exact hL _ ⟨o',P'.mono (by omega),rfl⟩
 ·rintro δ ⟨o,P,rfl⟩
  refine⟨trivial,?_⟩;subst hN;simp? only []
end LJ
namespace LJ
open PySem L2 PySem.Spec PySem.W PyProof.Rows
structure Ev where
 P:Program
 w:World
 K:PySem.W.Frag
 mg:Str->Option Value
 base:Heap
section
variable [aK]
structure Fx (V:Ev) (k:Nat) (x:Str) (ps:List Str) (n:Nat) (G:GD):Prop where
 ex:∃ f fd,Fn V.P V.w V.K V.mg V.base k x ps (k6 G n) f fd
noncomputable def Dx (V:Ev) (x:Str) (st:Stmt):Prop:=∃ f fd,V.mg x=some (.ref f)/\g5 V.K x x st f fd
noncomputable def wu (V:Ev) (x:Str) (st:Stmt) (T:Addr) (pos:Pos) (q:Str):Prop:=∃ f fd,(V.mg x=some (.ref f)/\g5 V.K x x st f fd)/\gG V.mg V.base fd T pos q
noncomputable def Ct (V:Ev) (x:Str) (i:Int):Prop:=∃ u,V.mg x=some u/\RelV (.int i) u
section
variable {X:Cx} {x:Str} {ps:List Str} {G:GD} {e:Expr} {es:List Expr} {fa:WA} {p pos:Pos} {j k n:Nat}
theorem aG (F:Fx ⟨X.prog,X.w,X.K,X.mg,X.base⟩ j x ps n G) (hr:bh k X.A) (ha:JA X (e :: es) (cz fa)) (hj:Nat.ble j k=true:=by rfl) (hg:Gl X x:=by rfl) (eM:(x == ("__debug__" : Str))=false:=by decide) (he:starEach (e :: es) X.env=(false,eval e X.env) :: starEach es X.env:=by rfl) (eE:(backTo pos (starEach es X.env)).any (·.1)=false:=by rfl) :
  JE X (.Call (.Name x p) (e :: es) [] pos) (tD (au n G fa)):=let ⟨_,_,F⟩:=F.ex; PQ F.ok (hr.mono (Nat.le_of_ble_eq_true hj)) hg F.w_ F.kp F.bd ha eM he eE
theorem U5 (F:Fx ⟨X.prog,X.w,X.K,X.mg,X.base⟩ j x ps n G) (hr:bh k X.A) (ha:JA X (e :: es) (cz fa)) (hj:Nat.ble j k=true:=by rfl) (hg:Gl X x:=by rfl) (eM:(x == ("__debug__" : Str))=false:=by decide) (he:starEach (e :: es) X.env=(false,eval e X.env) :: starEach es X.env:=by rfl) (eE:(backTo pos (starEach es X.env)).any (·.1)=false:=by rfl) :
  JE X (.Call (.Name x p) (e :: es) [] pos) (tD (uY n G fa)):=let ⟨_,_,F⟩:=F.ex; PR F.ok (hr.mono (Nat.le_of_ble_eq_true hj)) hg F.w_ F.kp F.bd ha eM he eE
theorem DG {i:Int} (C:Ct ⟨X.prog,X.w,X.K,X.mg,X.base⟩ x i) (hg:Gl X x:=by rfl) (hd:(x == ("__debug__" : Str))=false:=by decide):JE X (.Name x pos) (tD (dC (.int i))):=let ⟨_,a,b⟩:=C; Pt hg a b hd
end
theorem _root_.L2.gG.env {mg:Str->Option Value} {base:Heap} {fd:FuncData} {T:Addr} {lp:Pos} {q:Str} {ba:Value} (L:gG mg base fd T lp q) (h:fd.code=ba):∃ cc,ba = .ref cc/\CodeHd base cc T:=let ⟨cc,e1,e2⟩:=L.code; ⟨cc,h.symm.trans e1,e2⟩
noncomputable def U6:NameKind->Bool
 | .local=>true
 | .cell=>true
 | _=>false
noncomputable def U7:NameKind->Bool
 | .free=>false
 | _=>true
noncomputable def U8:ScopeKind->Bool
 | .function=>true
 | _=>false
noncomputable def yK (N P:List Str) (sc:Scope):Bool:=U8 sc.kind && !sc.isCoroutine && !sc.isGenerator && decide N.Nodup && decide (N.take P.length=P) && (P.all fun x=>match sc.names.lookup x with
 | some k=>U6 k
 | none=>false) && sc.names.all fun y=>U7 y.2
theorem jW {N P:List Str} {sc:Scope} (h:yK N P sc=true):mV N P sc:=by
 unfold yK at h;simp only[Yl,q0l,Y0,YV] at h;obtain⟨⟨⟨⟨⟨⟨h1,h2⟩,h3⟩,h4⟩,h5⟩,h6⟩,h7⟩:=h;refine⟨?_,h2,h3,h4,h5,fun x hx => ?_,fun y hy z => ?_⟩
 ·cases q:sc.kind<;>rw[q] at h1<;>first | rfl | cases h1
 ·have:=h6 x hx
  split at this
  ·rename_i k e
   rw[e];cases k<;>first | exact .inl rfl | exact .inr rfl | cases this
  ·cases this
 ·have:=h7 y hy
  rw[z] at this;cases this
noncomputable def ib (x:Str) (st:Stmt) (ps:List Str):Prop:=∀ (kV doc pm:Value) (an:Option Addr) (ba ct:Value) (us:List Value),us.length=ps.length->bindArgs (PySem.W.fnOf x x (jY st) (gx st) (cV st) .none kV doc pm an ba ct) ⟨us,[]⟩=pure (ps.zip us)
section
theorem JD {us:List Value} (h:us.length=1):∃ a,us=[a]:=List.length_eq_one_iff.mp h
theorem JH {us:List Value} (h:us.length=2):∃ a b,us=[a,b]:=by
 cases us with
 | nil=>cases h
 | cons a r=>obtain⟨b,rfl⟩:=JD (q1K h);exact⟨a,b,rfl⟩
theorem JJ {us:List Value} (h:us.length=3):∃ a b c,us=[a,b,c]:=by
 cases us with
 | nil=>cases h
 | cons a r=>obtain⟨b,c,rfl⟩:=JH (q1K h);exact⟨a,b,c,rfl⟩
theorem JK {us:List Value} (h:us.length=4):∃ a b c d,us=[a,b,c,d]:=by
 cases us with
 | nil=>cases h
 | cons a r=>obtain⟨b,c,d,rfl⟩:=JJ (q1K h);exact⟨a,b,c,d,rfl⟩
theorem U9 {us:List Value} (h:us.length=5):∃ a b c d e,us=[a,b,c,d,e]:=by
 cases us with
 | nil=>cases h
 | cons a r=>obtain⟨b,c,d,e,rfl⟩:=JK (q1K h);exact⟨a,b,c,d,e,rfl⟩
theorem ku {x:Str} {st:Stmt} {ps:List Str} (h:∀ (kV doc pm:Value) (an:Option Addr) (ba ct a:Value),bindArgs (PySem.W.fnOf x x (jY st) (gx st) (cV st) .none kV doc pm an ba ct) ⟨[a],[]⟩=pure (ps.zip [a]):=by intros;rfl) (hl:ps.length=1:=by rfl):ib x st ps:=fun kV doc pm an ba ct us hu=>by
 obtain⟨a,rfl⟩:=JD (hu.trans hl);exact h kV doc pm an ba ct a
theorem kz {x:Str} {st:Stmt} {ps:List Str} (h:∀ (kV doc pm:Value) (an:Option Addr) (ba ct a b:Value),bindArgs (PySem.W.fnOf x x (jY st) (gx st) (cV st) .none kV doc pm an ba ct) ⟨[a,b],[]⟩=pure (ps.zip [a,b]):=by intros;rfl) (hl:ps.length=2:=by rfl):ib x st ps:=fun kV doc pm an ba ct us hu=>by
 obtain⟨a,b,rfl⟩:=JH (hu.trans hl);exact h kV doc pm an ba ct a b
theorem kA {x:Str} {st:Stmt} {ps:List Str} (h:∀ (kV doc pm:Value) (an:Option Addr) (ba ct a b c:Value),bindArgs (PySem.W.fnOf x x (jY st) (gx st) (cV st) .none kV doc pm an ba ct) ⟨[a,b,c],[]⟩=pure (ps.zip [a,b,c]):=by intros;rfl) (hl:ps.length=3:=by rfl):ib x st ps:=fun kV doc pm an ba ct us hu=>by
 obtain⟨a,b,c,rfl⟩:=JJ (hu.trans hl);exact h kV doc pm an ba ct a b c
theorem yL {x:Str} {st:Stmt} {ps:List Str} (h:∀ (kV doc pm:Value) (an:Option Addr) (ba ct a b c d:Value),bindArgs (PySem.W.fnOf x x (jY st) (gx st) (cV st) .none kV doc pm an ba ct) ⟨[a,b,c,d],[]⟩=pure (ps.zip [a,b,c,d]):=by intros;rfl) (hl:ps.length=4:=by rfl):ib x st ps:=fun kV doc pm an ba ct us hu=>by
 obtain⟨a,b,c,d,rfl⟩:=JK (hu.trans hl);exact h kV doc pm an ba ct a b c d
theorem U_ {x:Str} {st:Stmt} {ps:List Str} (h:∀ (kV doc pm:Value) (an:Option Addr) (ba ct a b c d e:Value),bindArgs (PySem.W.fnOf x x (jY st) (gx st) (cV st) .none kV doc pm an ba ct) ⟨[a,b,c,d,e],[]⟩=pure (ps.zip [a,b,c,d,e]):=by intros;rfl) (hl:ps.length=5:=by rfl):ib x st ps:=fun kV doc pm an ba ct us hu=>by
 obtain⟨a,b,c,d,e,rfl⟩:=U9 (hu.trans hl);exact h kV doc pm an ba ct a b c d e
variable {V:Ev} {x:Str} {st:Stmt} {N ps:List Str} {k:Nat} {G:GD}
theorem cO (D:Dx V x st) (bd:ib x st ps) (h:∀ {ba:Value} {A:Around} {outer:List Env} {s:Shared} {H:Hp} {E:XK} {f:Addr},bh k (A.deeper (envOfC x (cV st) s.heap.objs.size f ba))->N.Nodup->(A.deeper (envOfC x (cV st) s.heap.objs.size f ba)).units + 64 < cLine →
   ∃ B:WS,eF (eN f9 V.P V.w V.K V.mg V.base N x (cV st) f ba A outer s H E).kE (gx st) (dq B)/\∀ ys ai K',ys.length=ps.length->G ys ai K'->B (bI ai.length K') ⟨ys.map some ++ List.replicate (N.length - ps.length) none,ai.map some⟩) (sc:yK N ps (cV st)=true:=by decide +kernel):Fx V (k + 1) x ps ps.length G :=
 let ⟨f,fd,a,F⟩:=D
 ⟨f,fd,F.PH (jW sc) fun ba A outer s H E hr=>h hr (jW sc).nd hr.units,a,F.kp,F.binds bd⟩
theorem JL {T:Addr} {lp:Pos} {q:Str} (D:wu V x st T lp q) (bd:ib x st ps) (h:∀ {ba:Value} {A:Around} {outer:List Env} {s:Shared} {H:Hp} {E:XK} {f:Addr} {fd:FuncData},gG V.mg V.base fd T lp q->fd.code=ba->bh k (A.deeper (envOfC x (cV st) s.heap.objs.size f ba))->N.Nodup->(A.deeper (envOfC x (cV st) s.heap.objs.size f ba)).units + 64 < cLine →
   ∃ B:WS,eF (eN f9 V.P V.w V.K V.mg V.base N x (cV st) f ba A outer s H E).kE (gx st) (dq B)/\∀ ys ai K',ys.length=ps.length->G ys ai K'->B (bI ai.length K') ⟨ys.map some ++ List.replicate (N.length - ps.length) none,ai.map some⟩) (sc:yK N ps (cV st)=true:=by decide +kernel):Fx V (k + 1) x ps ps.length G :=
 let ⟨f,fd,⟨a,F⟩,LD⟩:=D
 ⟨f,fd,F.Ca (jW sc) fun ba A outer s H E hc hr=>h LD hc hr (jW sc).nd hr.units,a,F.kp,F.binds bd⟩
end
end
section
variable {K:PySem.W.Frag} {h:Heap} {mg:Str->Option Value}
noncomputable def Dk (K:PySem.W.Frag) (x:Str) (st:Stmt):Prop:=∃ f fd,PySem.W.nsIn K mainGlobals x=some (some (.ref f))/\g5 K x x st f fd
inductive gN (K:PySem.W.Frag):List (Str × Stmt)->Prop
 | nil:gN K []
 | cons {x st r}:Dk K x st->gN K r->gN K ((x,st) :: r)
theorem DH {x:Str} {st:Stmt} {r:List (Str × Stmt)} {f:Addr} {od an:Option Addr} {sl:Array (Option Value)} {oc kV dc pm cd ct:Value} (a:PySem.W.nsIn K mainGlobals x=some (some (.ref f))) (l:K.lookup f=some ⟨oc,od,.func (PySem.W.fnOf x x (jY st) (gx st) (cV st) .none kV dc pm an cd ct),sl⟩) (q:PySem.W.codeIn K cd x=true) (k:PySem.W.keepIn K (.ref f)=true) (h:gN K r):gN K ((x,st) :: r) :=
 .cons ⟨f,_,a,Fw l q k⟩ h
theorem gN.at {ds:List (Str × Stmt)} (h:gN K ds) (i:Nat) {x:Str} {st:Stmt} (e:ds[i]? = some (x,st)):Dk K x st:=by
 induction h generalizing i with
 | nil=>cases e
 | cons d _ ih=>cases i with
  | zero=>cases e;exact d
  | succ i=>exact ih i e
noncomputable def yM (K:PySem.W.Frag) (x:Str) (st:Stmt) (T:Addr):Prop:=∃ f fd,(PySem.W.nsIn K mainGlobals x=some (some (.ref f))/\g5 K x x st f fd)/\∃ cc,fd.code = .ref cc/\PySem.W.codeHdIn K cc T=true
inductive eD (K:PySem.W.Frag):List (Str × Stmt × Addr)->Prop
 | nil:eD K []
 | cons {x st T r}:yM K x st T->eD K r->eD K ((x,st,T) :: r)
theorem wx {x:Str} {st:Stmt} {T:Addr} {r:List (Str × Stmt × Addr)} {f cc:Addr} {od an:Option Addr} {sl:Array (Option Value)} {oc kV dc pm ct:Value} (a:PySem.W.nsIn K mainGlobals x=some (some (.ref f))) (l:K.lookup f=some ⟨oc,od,.func (PySem.W.fnOf x x (jY st) (gx st) (cV st) .none kV dc pm an (.ref cc) ct),sl⟩) (q:PySem.W.codeIn K (.ref cc) x=true) (k:PySem.W.keepIn K (.ref f)=true) (c:PySem.W.codeHdIn K cc T=true) (h:eD K r):eD K ((x,st,T) :: r) :=
 .cons ⟨f,_,⟨a,Fw l q k⟩,cc,rfl,c⟩ h
theorem eD.at {ds:List (Str × Stmt × Addr)} (h:eD K ds) (i:Nat) {x:Str} {st:Stmt} {T:Addr} (e:ds[i]? = some (x,st,T)):yM K x st T:=by
 induction h generalizing i with
 | nil=>cases e
 | cons d _ ih=>cases i with
  | zero=>cases e;exact d
  | succ i=>exact ih i e
theorem eD.code {ds:List (Str × Stmt × Addr)} (h:eD K ds) {hp:Heap} (X:K.In hp):∀ T∈ds.map (·.2.2),∃ cc,PySem.W.CodeHd hp cc T:=by
 induction h with
 | nil=>intro T hT;exact nomatch hT
 | cons d _ ih =>
  intro T hT;rcases Xq.mp hT with rfl | hT
  ·obtain⟨_,_,_,cc,_,e⟩:=d
   exact⟨cc,PySem.W.codeHd_of_K X e⟩
  ·exact ih T hT
theorem Va {x:Str} {r:List Str} (a:PySem.W.nsIn K mainGlobals x=some none) (h:∀ y∈r,PySem.W.nsIn K mainGlobals y=some none):∀ y∈x :: r,PySem.W.nsIn K mainGlobals y=some none:=fun y hy=>by
 rcases Xq.mp hy with rfl | hy
 ·exact a
 ·exact h y hy
theorem Vb {ls:List lI} (nd:(ls.map (·.T)).Nodup):∀ {a b:lI},a∈ls->b∈ls->a.T=b.T->a=b:=by
 induction ls with
 | nil=>intro a b ha;exact nomatch ha
 | cons c r ih =>
  intro a b ha hb e;rw[Yd,q0a] at nd;rcases Xq.mp ha with rfl | ha'<;>rcases Xq.mp hb with rfl | hb'
  ·rfl
  ·exact absurd (X0.mpr ⟨b,hb',e.symm⟩) nd.1
  ·exact absurd (X0.mpr ⟨a,ha',e⟩) nd.1
  ·exact ih nd.2 ha' hb' e
theorem Dk.v {P:Program} {w:World} {base:Heap} {x:Str} {st:Stmt} (d:Dk K x st) (X:K.In h) (G:h.Ns mainGlobals mg):Dx ⟨P,w,K,mg,base⟩ x st :=
 let ⟨f,fd,a,F⟩:=d
 ⟨f,fd,q1m X G a,F⟩
theorem yM.v {P:Program} {w:World} {base:Heap} {x:Str} {st:Stmt} {ls:List lI} {T:Addr} {lp:Pos} {q:Str} (d:yM K x st T) (X:K.In h) (G:h.Ns mainGlobals mg) (KB:K.In base) (hB:∀ t∈ls,base.BuiltinsAt mg t.T) (nd:(ls.map (·.T)).Nodup) (ng:∀ t∈ls,mainGlobals≠t.T) (hl:⟨T,lp,q⟩∈ls):@wu (oM ls) ⟨P,w,K,mg,base⟩ x st T lp q :=
 let ⟨f,fd,⟨a,F⟩,cc,e1,e2⟩:=d
 letI:aK:=oM ls
 ⟨f,fd,⟨q1m X G a,F⟩,⟨cc,e1,PySem.W.codeHd_of_K KB e2⟩,ng _ hl,hB _ hl,R7 hl fun a ha b hb e=>Vb nd ha hb e⟩
noncomputable def Ck (K:PySem.W.Frag) (x:Str) (i:Int):Prop:=∃ u,PySem.W.nsIn K mainGlobals x=some (some u)/\RelV (.int i) u
theorem Ck.v {P:Program} {w:World} {base:Heap} {x:Str} {i:Int} (d:Ck K x i) (X:K.In h) (G:h.Ns mainGlobals mg):Ct ⟨P,w,K,mg,base⟩ x i :=
 let ⟨u,a,r⟩:=d
 ⟨u,q1m X G a,r⟩
noncomputable def DI:List Str:=["len", "range", "list", "tuple", "set", "sorted", "min", "max", "sum", "all", "any", "enumerate", "zip", "isinstance", "int", "bool", "str"]
theorem Vc (X:K.In h) (G:h.Ns mainGlobals mg) (N:∀ x∈DI,PySem.W.nsIn K mainGlobals x=some none):BT mg :=
 have n:∀ i x,DI[i]? = some x->mg x=none:=fun i x e=>PySem.W.mg_none_of X G (N x (Yf e))
 ⟨n 0 _ rfl,n 1 _ rfl,n 2 _ rfl,n 3 _ rfl,n 4 _ rfl,n 5 _ rfl,n 6 _ rfl,n 7 _ rfl,n 8 _ rfl,n 9 _ rfl,n 10 _ rfl,n 11 _ rfl,n 12 _ rfl,n 13 _ rfl,n 14 _ rfl,n 15 _ rfl,n 16 _ rfl⟩
end
end LJ
namespace LJ
open PySem L2
noncomputable def top (i:Nat):Stmt:=PySem.Challenge.pw_lotjoin_k70_narrow_ways_told.main.body.getD i (.Pass ⟨0,0,0,0⟩)
section
variable [aK] {Z:Ev}
noncomputable abbrev JM:Stmt:=top 8
noncomputable abbrev JN (Z:Ev):Prop:=Fx Z 1 "is_whole" ["thing"] 1 x8
theorem Vd (D:Dx Z "is_whole" JM) (B:BT Z.mg):JN Z:=cO (N:=["thing"]) D ku fun hr nd hu=>⟨By,(aZ (bD (jE (gg xM (by rfl) B.isinstance (by rfl) B.int uN (dv 0)) (j7 (Gu (gg sT (by rfl) B.isinstance (by rfl) B.bool sI (dv 0))))))),HU⟩
noncomputable abbrev JO:Stmt:=top 9
noncomputable abbrev wy (Z:Ev):Prop:=Fx Z 2 "is_within" ["thing", "least", "most"] 3 oa
theorem Ve (D:Dx Z "is_within" JO) (B:BT Z.mg) (Vf:JN Z):wy Z:=cO (N:=["thing", "least", "most"]) D kA fun hr nd hu=>⟨Bz,(aZ (bD (jE (aG Vf hr (ah (dv 0) aB)) (j7 (GZ xD xD (dv 1) (dv 0) (dv 2)))))),HV⟩
noncomputable abbrev JP:Stmt:=top 10
noncomputable abbrev DJ (Z:Ev):Prop:=Fx Z 1 "is_tuple_of" ["thing", "size"] 2 x9
theorem Vg (D:Dx Z "is_tuple_of" JP) (B:BT Z.mg):DJ Z:=cO (N:=["thing", "size"]) D kz fun hr nd hu=>⟨BA,(aZ (bD (jE (gg vo (by rfl) B.isinstance (by rfl) B.tuple sJ (dv 0)) (j7 (g9 (gf hu) (fx iR (by rfl) B.len YE (ah (dv 0) aB)) (dv 1) (by rfl)))))),Ru⟩
noncomputable abbrev JQ:Stmt:=top 11
noncomputable abbrev JR (Z:Ev):Prop:=Fx Z 3 "are_ends" ["many", "one", "other"] 3 BB
theorem Vh (D:Dx Z "are_ends" JQ) (B:BT Z.mg) (oW:wy Z):JR Z:=cO (N:=["many", "one", "other"]) D kA fun hr nd hu=>⟨BC,(aZ (bD (jE (aG oW hr (ah (dv 1) (br az (fH (bC lb (dv 0) az) aB)))) (j7 (aG oW hr (ah (dv 2) (fH (bC eU (dv 1) az) (fH (bC lb (dv 0) az) aB)))))))),Rv⟩
noncomputable abbrev JU:Stmt:=top 12
noncomputable abbrev JV (Z:Ev):Prop:=Fx Z 4 "is_way" ["many", "thing"] 2 BE
theorem Vi (D:Dx Z "is_way" JU) (B:BT Z.mg) (Vj:Ct Z "MOST_PRICE" 1000000000) (DK:DJ Z) (Vk:JR Z) (oW:wy Z):JV Z:=cO (N:=["many", "thing"]) D kz fun hr nd hu=>⟨BF,(aY (c7 (iQ (fV (aG DK hr (ah (dv 1) (br az aB))))) (aZ (bD iO)) df) (aZ (bD (jE (aG Vk hr (ah (dv 0) (bB (bf bg (dv 1) az (fun _ _=>rfl)) (bB (bf bg (dv 1) az (fun _ _=>rfl)) aB)))) (j7 (aG oW hr (bB (bf bg (dv 1) az (fun _ _=>rfl)) (br az (ah (DG Vj) aB))))))))),Rx⟩
noncomputable abbrev JX:Stmt:=top 13
noncomputable abbrev JY (Z:Ev):Prop:=Fx Z 5 "are_ways" ["many", "thing"] 2 BI
theorem Vl (D:Dx Z "are_ways" JX) (B:BT Z.mg) (Vm:Ct Z "MOST_WAYS" 30) (Vn:JV Z):JY Z:=cO (N:=["many", "thing"]) D kz fun hr nd hu=>⟨BJ,(aY (c7 (JW.jt (nB (iQ (fV (gg vo (by rfl) B.isinstance (by rfl) B.tuple sJ (dv 1)))) (qK (cB sS (fx iR (by rfl) B.len YE (ah (dv 1) aB)) (DG Vm) (by rfl))))) (aZ (bD iO)) df) (aY (c7 (iQ (fV (fx (Qf rfl) (by rfl) B.all Pn (fH (g_ [none,some 0] ["way", "many"] rfl (fK (dv 1)) (fun d=>(bT (i:=0) (show (["way", "many"]:List Str).Nodup by decide +kernel) rfl (by trivial))) (fun d=>jH) (fun d=>(aG Vn hr (ah (dv 1) (ah (dv 0) aB))))) aB)))) (aZ (bD iO)) df) (aZ (bD (g9 (gf hu) (Rt rfl hu (by rfl) B.len YE (by rfl) B.set Pl (fH (g_ [none] ["way"] rfl (fK (dv 1)) (fun d=>(bT (i:=0) (show (["way"]:List Str).Nodup by decide +kernel) rfl (by trivial))) (fun d=>jH) (fun d=>(vK (dv 0) vd (vf az)))) aB)) (fx iR (by rfl) B.len YE (ah (dv 1) aB)) (by rfl)))))),Ry⟩
noncomputable abbrev JZ:Stmt:=top 14
noncomputable abbrev J0 (Z:Ev):Prop:=Fx Z 6 "is_web" ["thing"] 1 BK
theorem Vo (D:Dx Z "is_web" JZ) (B:BT Z.mg) (Vq:Ct Z "MOST_HOUSES" 12) (DK:DJ Z) (oW:wy Z) (Vr:JY Z):J0 Z:=cO (N:=["thing"]) D ku fun hr nd hu=>⟨BL,(aY (c7 (iQ (fV (aG DK hr (ah (dv 0) (br az aB))))) (aZ (bD iO)) df) (aZ (bD (jE (aG oW hr (bB (bf bg (dv 0) az (fun _ _=>rfl)) (br az (ah (DG Vq) aB)))) (j7 (aG Vr hr (bB (bf bg (dv 0) az (fun _ _=>rfl)) (bB (bf bg (dv 0) az (fun _ _=>rfl)) aB)))))))),RA⟩
noncomputable abbrev J6:Stmt:=top 15
noncomputable abbrev DL (Z:Ev):Prop:=Fx Z 7 "need_web" ["web"] 1 yj
theorem Vs (D:Dx Z "need_web" J6) (B:BT Z.mg) (Vt:J0 Z):DL Z:=cO (N:=["web"]) D ku fun hr nd hu=>⟨Ci,(aZ (c7 (iQ (fV (aG Vt hr (ah (dv 0) aB)))) (aZ A_) df)),Sw⟩
noncomputable abbrev J7:Stmt:=top 16
noncomputable abbrev DM (Z:Ev):Prop:=Fx Z 1 "rank_of" ["way"] 1 yk
theorem Vu (D:Dx Z "rank_of" J7) (B:BT Z.mg):DM Z:=cO (N:=["way"]) D ku fun hr nd hu=>⟨Cj,(aZ (bD (jd (bB (bf bg (dv 0) az (fun _ _=>rfl)) (bB (bf bg (dv 0) az (fun _ _=>rfl)) (bB (bf bg (dv 0) az (fun _ _=>rfl)) aB)))))),Sx⟩
noncomputable abbrev J8:Stmt:=top 17
noncomputable abbrev J9 (Z:Ev):Prop:=Fx Z 11 "order_of" ["web"] 1 Co
theorem Vv {T:Addr} (D:wu Z "order_of" J8 T ⟨44,40,44,76⟩ ((("order_of" : Str) ++ ".<locals>.") ++ "<lambda>")) (B:BT Z.mg) (DN:DL Z) (DO:DM Z):J9 Z:=JL (N:=["web", "ways"]) D ku fun LD hc hr nd hu=>⟨Cp,(aY (ph (aG DN hr (ah (dv 0) aB))) (aY (b7 (i:=1) nd rfl (by trivial) (bf bg (dv 0) az (fun _ _=>rfl))) (aZ (bD (Sf (fD.mk (x := "number") (Nb:=["ways"]) (cp:=[some 1]) ⟨LD.env hc,LD.ng,LD.blt⟩ LD.tbl rfl rfl (by first | rfl | kernel_rfl) rfl rfl (fun _ _ _ _ _=>rfl) ⟨1,hr.mono (by decide),fun d hr=>(aG DO hr (bB (bf bg (dv 1) (dv 0) (fun _ _=>rfl)) aB))⟩) rfl (by rfl) B.sorted vy (by rfl) B.range vx (b8 (fx iR (by rfl) B.len YE (ah (dv 1) aB)) aB)))))),Sz⟩
noncomputable abbrev J_:Stmt:=top 19
noncomputable abbrev DP (Z:Ev):Prop:=Fx Z 1 "joined" ["firsts", "one", "other"] 3 vQ
theorem Vw (D:Dx Z "joined" J_) (B:BT Z.mg):DP Z:=cO (N:=["firsts", "one", "other", "gone", "kept"]) D kA fun hr nd hu=>⟨BQ,(aY (b7 (i:=3) nd rfl (by trivial) (fx (Qg rfl) (by rfl) B.max A7 (bB (bf bg (dv 0) (dv 1) (fun _ _=>rfl)) (bB (bf bg (dv 0) (dv 2) (fun _ _=>rfl)) aB)))) (aY (b7 (i:=4) nd rfl (by trivial) (fx (G6 rfl) (by rfl) B.min Hi (bB (bf bg (dv 0) (dv 1) (fun _ _=>rfl)) (bB (bf bg (dv 0) (dv 2) (fun _ _=>rfl)) aB)))) (aZ (bD (g_ [none,some 4,some 3] ["first", "kept", "gone"] rfl (fK (dv 0)) (fun d=>(bT (i:=0) (show (["first", "kept", "gone"]:List Str).Nodup by decide +kernel) rfl (by trivial))) (fun d=>jH) (fun d=>(Gv (cB (gf hu) (dv 0) (dv 2) (by rfl)) (dv 1) (dv 0)))))))),RD⟩
noncomputable abbrev Ka:Stmt:=top 20
noncomputable abbrev yN (Z:Ev):Prop:=Fx Z 2 "firsts_of" ["web", "ways"] 2 vR
theorem Vx (D:Dx Z "firsts_of" Ka) (B:BT Z.mg) (DQ:DP Z):yN Z:=cO (N:=["web", "ways", "firsts", "number", "way"]) D kz fun hr nd hu=>⟨ya,(aY (b7 (i:=2) nd rfl (by trivial) (A2 rfl (by rfl) B.list qF (by rfl) B.range vx (bB (bf bg (dv 0) az (fun _ _=>rfl)) aB))) (aY (ml YU rfl (fK (dv 1)) (bT (i:=3) nd rfl (by trivial)) (aY (b7 (i:=4) nd rfl (by trivial) (bf bg (bf bg (dv 0) az (fun _ _=>rfl)) (dv 3) (fun _ _=>rfl))) (aZ (b7 (i:=2) nd rfl (by trivial) (aG DQ hr (ah (dv 2) (bB (bf bg (dv 4) az (fun _ _=>rfl)) (bB (bf bg (dv 4) az (fun _ _=>rfl)) aB)))))))) (aZ (bD (dv 2))))),RE⟩
noncomputable abbrev Kb:Stmt:=top 22
noncomputable abbrev Kc (Z:Ev):Prop:=Fx Z 5 "greatest_of" ["web", "ways"] 2 CV
theorem Vy {T:Addr} (D:wu Z "greatest_of" Kb T ⟨58,25,58,63⟩ ((("greatest_of" : Str) ++ ".<locals>.") ++ "<lambda>")) (B:BT Z.mg) (DO:DM Z):Kc Z:=JL (N:=["web", "ways"]) D kz fun LD hc hr nd hu=>⟨CW,(aZ (bD (Tq true (fD.mk (x := "number") (Nb:=["web"]) (cp:=[some 0]) ⟨LD.env hc,LD.ng,LD.blt⟩ LD.tbl rfl rfl (by first | rfl | kernel_rfl) rfl rfl (fun _ _ _ _ _=>rfl) ⟨1,hr.mono (by decide),fun d hr=>(aG DO hr (bB (bf bg (bf bg (dv 1) az (fun _ _=>rfl)) (dv 0) (fun _ _=>rfl)) aB))⟩) hu (by rfl) B.max A7 (ah (dv 1) aB)))),Tz⟩
noncomputable abbrev Kd:Stmt:=top 23
noncomputable abbrev DR (Z:Ev):Prop:=Fx Z 3 "lot_at" ["web", "ways", "house"] 3 yw
theorem Vz (D:Dx Z "lot_at" Kd) (B:BT Z.mg) (wz:yN Z):DR Z:=cO (N:=["web", "ways", "house", "firsts"]) D kA fun hr nd hu=>⟨C1,(aY (b7 (i:=3) nd rfl (by trivial) (aG wz hr (ah (dv 0) (ah (dv 1) aB)))) (aZ (bD (g_ [none,none,some 3,some 2] ["near", "first", "firsts", "house"] rfl (GN (by rfl) B.enumerate (ah (dv 3) aB)) (fun d=>(nG rfl (gC (bT (i:=0) (show (["near", "first", "firsts", "house"]:List Str).Nodup by decide +kernel) rfl (by trivial)) (gC (bT (i:=1) (show (["near", "first", "firsts", "house"]:List Str).Nodup by decide +kernel) rfl (by trivial)) nE)))) (fun d=>(mn (cB (gf hu) (dv 1) (bf bg (dv 2) (dv 3) (fun _ _=>rfl)) (by rfl)))) (fun d=>(dv 0)))))),TF⟩
noncomputable abbrev Ke:Stmt:=top 24
noncomputable abbrev Kg (Z:Ev):Prop:=Fx Z 3 "parts" ["web", "ways", "gone", "one", "other"] 5 CY
theorem VA (D:Dx Z "parts" Ke) (B:BT Z.mg) (wz:yN Z):Kg Z:=cO (N:=["web", "ways", "gone", "one", "other", "firsts"]) D U_ fun hr nd hu=>⟨CZ,(aY (b7 (i:=5) nd rfl (by trivial) (aG wz hr (ah (dv 0) (fH (g_ [none,some 2] ["number", "gone"] rfl (fK (dv 1)) (fun d=>(bT (i:=0) (show (["number", "gone"]:List Str).Nodup by decide +kernel) rfl (by trivial))) (fun d=>(mn (cB (lg hu) (dv 0) (dv 1) (by rfl)))) (fun d=>(dv 0))) aB)))) (aZ (bD (g9 (lg hu) (bf bg (dv 5) (dv 3) (fun _ _=>rfl)) (bf bg (dv 5) (dv 4) (fun _ _=>rfl)) (by rfl))))),TB⟩
noncomputable abbrev Kh:Stmt:=top 25
noncomputable abbrev Ki (Z:Ev):Prop:=Fx Z 4 "road_of" ["web", "ways", "one", "other"] 4 C2
theorem VB (D:Dx Z "road_of" Kh) (B:BT Z.mg) (VC:Kg Z):Ki Z:=cO (N:=["web", "ways", "one", "other"]) D yL fun hr nd hu=>⟨C3,(aZ (bD (g_ [none,some 0,some 1,some 2,some 3] ["number", "web", "ways", "one", "other"] rfl (fK (dv 1)) (fun d=>(bT (i:=0) (show (["number", "web", "ways", "one", "other"]:List Str).Nodup by decide +kernel) rfl (by trivial))) (fun d=>(mn (fV (aG VC hr (ah (dv 1) (ah (dv 2) (ah (dv 0) (ah (dv 3) (ah (dv 4) aB))))))))) (fun d=>(dv 0))))),TH⟩
noncomputable abbrev Kj:Stmt:=top 27
noncomputable abbrev Kk (Z:Ev):Prop:=Fx Z 12 "forest_of" ["web"] 1 CD
theorem VD (D:Dx Z "forest_of" Kj) (B:BT Z.mg) (VE:J9 Z) (wz:yN Z) (DQ:DP Z):Kk Z:=cO (N:=["web", "order", "forest", "firsts", "number", "way"]) D ku fun hr nd hu=>⟨CF,(aY (b7 (i:=1) nd rfl (by trivial) (aG VE hr (ah (dv 0) aB))) (aY (b7 (i:=2) nd rfl (by trivial) (uR aB)) (aY (b7 (i:=3) nd rfl (by trivial) (aG wz hr (ah (dv 0) (ah (dv 2) aB)))) (aY (ml YU rfl (fK (dv 1)) (bT (i:=4) nd rfl (by trivial)) (aY (b7 (i:=5) nd rfl (by trivial) (bf bg (bf bg (dv 0) az (fun _ _=>rfl)) (dv 4) (fun _ _=>rfl))) (aZ (c7 (cB (lg hu) (bf bg (dv 3) (bf bg (dv 5) az (fun _ _=>rfl)) (fun _ _=>rfl)) (bf bg (dv 3) (bf bg (dv 5) az (fun _ _=>rfl)) (fun _ _=>rfl)) (by rfl)) (aY (ph ((pf YO Zy Zz sx (dv 2) (ah (dv 4) aB)).weak xN)) (aZ (b7 (i:=3) nd rfl (by trivial) (aG DQ hr (ah (dv 3) (bB (bf bg (dv 5) az (fun _ _=>rfl)) (bB (bf bg (dv 5) az (fun _ _=>rfl)) aB))))))) df)))) (aZ (bD (Qq Qr (by rfl) B.sorted vy (ah (dv 2) aB)))))))),SQ⟩
noncomputable abbrev Kl:Stmt:=top 29
noncomputable abbrev Km (Z:Ev):Prop:=Fx Z 8 "need_two" ["web", "one", "other"] 3 C4
theorem VF (D:Dx Z "need_two" Kl) (B:BT Z.mg) (DN:DL Z) (oW:wy Z):Km Z:=cO (N:=["web", "one", "other"]) D kA fun hr nd hu=>⟨C5,(aY (ph (aG DN hr (ah (dv 0) aB))) (aY (c7 (iQ (fV (aG oW hr (ah (dv 1) (br az (fH (bC lb (bf bg (dv 0) az (fun _ _=>rfl)) az) aB)))))) (aZ A_) df) (aZ (c7 (JW.jt (nB (iQ (fV (aG oW hr (ah (dv 2) (br az (fH (bC lb (bf bg (dv 0) az (fun _ _=>rfl)) az) aB)))))) (qK (cB (gf hu) (dv 1) (dv 2) (by rfl))))) (aZ A_) df)))),TJ⟩
noncomputable abbrev Kn:Stmt:=top 30
noncomputable abbrev Ko (Z:Ev):Prop:=Fx Z 6 "greatest_between" ["web", "forest", "one", "other"] 4 C6
theorem VG (D:Dx Z "greatest_between" Kn) (B:BT Z.mg) (DT:DR Z) (VH:Kc Z) (VI:Ki Z):Ko Z:=cO (N:=["web", "forest", "one", "other"]) D yL fun hr nd hu=>⟨C7,(aY (c7 (cB (xE hu) (dv 3) (aG DT hr (ah (dv 0) (ah (dv 1) (ah (dv 2) aB)))) (by rfl)) (aZ (bD nA)) df) (aZ (bD (aG VH hr (ah (dv 0) (b8 (aG VI hr (ah (dv 0) (ah (dv 1) (ah (dv 2) (ah (dv 3) aB))))) aB)))))),TK⟩
noncomputable abbrev Kp:Stmt:=top 31
noncomputable abbrev Kq (Z:Ev):Prop:=Fx Z 13 "narrow_of" ["web", "one", "other"] 3 yx
theorem VJ (D:Dx Z "narrow_of" Kp) (B:BT Z.mg) (VL:Km Z) (VM:Kk Z) (VN:Ko Z) (DT:DR Z):Kq Z:=cO (N:=["web", "one", "other", "forest", "number"]) D kA fun hr nd hu=>⟨C8,(aY (ph (aG VL hr (ah (dv 0) (ah (dv 1) (ah (dv 2) aB))))) (aY (b7 (i:=3) nd rfl (by trivial) (aG VM hr (ah (dv 0) aB))) (aY (b7 (i:=4) nd rfl (by trivial) (aG VN hr (ah (dv 0) (ah (dv 3) (ah (dv 1) (ah (dv 2) aB)))))) (aY (c7 (cB vL (dv 4) nA (by rfl)) (aZ (bD nA)) df) (aZ (bD (jd (ah (dv 4) (b8 (aG DT hr (ah (dv 0) (fH (g_ [none,some 4] ["way", "number"] rfl (fK (dv 3)) (fun d=>(bT (i:=0) (show (["way", "number"]:List Str).Nodup by decide +kernel) rfl (by trivial))) (fun d=>(mn (cB (lg hu) (dv 0) (dv 1) (by rfl)))) (fun d=>(dv 0))) (ah (dv 1) aB)))) aB))))))))),TM⟩
noncomputable abbrev Kr:Stmt:=top 33
noncomputable abbrev Ks (Z:Ev):Prop:=Fx Z 1 "_law_spread" ["cell", "at"] 2 Bl
theorem VO (D:Dx Z "_law_spread" Kr) (B:BT Z.mg):Ks Z:=cO (N:=["cell", "at", "primes", "one", "two", "three"]) D kz fun hr nd hu=>⟨Bm,(aY (c7 (cB GU (dv 0) (bC qX az az) (by rfl)) (aZ (bD (dv 0))) df) (aY (b7 (i:=2) nd rfl (by trivial) (mi (br az (br az (br az (br az (br az (br az (br az (br az aB)))))))))) (aY (b7 (i:=2) nd rfl (by trivial) (bC eU (dv 2) (mi (br az (br az (br az (br az (br az aB)))))))) (aY (b7 (i:=3) nd rfl (by trivial) (bC jI (bC qX (bC eU (bC eU (bC pE (bC jI (dv 0) az) (bC eU (bC pE az (dv 1)) az)) (bC pE (dv 1) az)) az) az) (bf bg (dv 2) (bC jI (dv 1) az) (fun _ _=>rfl)))) (aY (b7 (i:=4) nd rfl (by trivial) (bC jI (bC qX (bC eU (bC eU (bC pE (dv 3) (bC eU (dv 1) az)) (bC jI (dv 0) az)) az) az) (bf bg (dv 2) (bC jI (bC eU (dv 1) az) az) (fun _ _=>rfl)))) (aY (b7 (i:=5) nd rfl (by trivial) (bC jI (bC qX (bC eU (bC eU (dv 4) (bC jI (dv 3) az)) (dv 1)) az) (bf bg (dv 2) (bC jI (bC eU (dv 1) az) az) (fun _ _=>rfl)))) (aZ (bD (bC eU (bC pE (bC eU (bC pE (dv 3) az) (dv 4)) az) (dv 5)))))))))),Rc⟩
noncomputable abbrev Kt:Stmt:=top 35
noncomputable abbrev Ku (Z:Ev):Prop:=Fx Z 1 "_law_anew" ["pen"] 1 Bo
theorem VP (D:Dx Z "_law_anew" Kt) (B:BT Z.mg):Ku Z:=cO (N:=["pen"]) D ku fun hr nd hu=>⟨Bp,(aY ((sH az (uK (dv 0) az set_list)).weak xO) (aZ (bD (dv 0)))),Rf⟩
noncomputable abbrev Kv:Stmt:=top 36
noncomputable abbrev yO (Z:Ev):Prop:=Fx Z 2 "_law_take" ["pen", "many"] 2 iD
theorem VQ (D:Dx Z "_law_take" Kv) (B:BT Z.mg) (VR:Ks Z):yO Z:=cO (N:=["pen", "many", "at", "cell", "found"]) D kz fun hr nd hu=>⟨Bq,(aY (c7 (cB (xC hu) (bf bg (dv 0) az (fun _ _=>rfl)) (dv 1) (by rfl)) (aY (b7 (i:=2) nd rfl (by trivial) (bf bg (dv 0) az (fun _ _=>rfl))) (aY (b7 (i:=3) nd rfl (by trivial) az) (aY (c7 (cB (xC hu) (dv 2) (fx iR (by rfl) B.len YE (bB (bf bg (dv 0) az (fun _ _=>rfl)) aB)) (by rfl)) (aZ (b7 (i:=3) nd rfl (by trivial) (bf bg (bf bg (dv 0) az (fun _ _=>rfl)) (dv 2) (fun _ _=>rfl)))) (aZ (c7 (cB sS (fx iR (by rfl) B.len YE (bB (bf bg (dv 0) az (fun _ _=>rfl)) aB)) az (by rfl)) (aZ (b7 (i:=3) nd rfl (by trivial) (bC jI (bf bg (bf bg (dv 0) az (fun _ _=>rfl)) (bC jI (bC eU (bC pE (dv 2) az) az) (fx iR (by rfl) B.len YE (bB (bf bg (dv 0) az (fun _ _=>rfl)) aB))) (fun _ _=>rfl)) (bC eU (bC qX az az) (dv 2))))) df))) (aY ((sH (bC eU (dv 2) az) (uK (dv 0) az set_list)).weak xO) (aZ ((sH (aG VR hr (ah (dv 3) (ah (dv 2) aB))) (uK (dv 0) az set_list)).weak xO)))))) df) (aY (b7 (i:=4) nd rfl (by trivial) (bC jI (bf bg (dv 0) az (fun _ _=>rfl)) (dv 1))) (aY ((sH (bC P_ (bf bg (dv 0) az (fun _ _=>rfl)) (dv 1)) (uK (dv 0) az set_list)).weak xO) (aZ (bD (dv 4)))))),Rg⟩
noncomputable abbrev Kw:Stmt:=top 37
noncomputable abbrev DU (Z:Ev):Prop:=Fx Z 1 "_law_is_whole" ["thing"] 1 x_
theorem VS (D:Dx Z "_law_is_whole" Kw) (B:BT Z.mg):DU Z:=cO (N:=["thing"]) D ku fun hr nd hu=>⟨HZ,(aZ (bD (jE (gg xM (by rfl) B.isinstance (by rfl) B.int uN (dv 0)) (j7 (Gu (gg sT (by rfl) B.isinstance (by rfl) B.bool sI (dv 0))))))),RB⟩
noncomputable abbrev Kx:Stmt:=top 39
noncomputable abbrev Ky (Z:Ev):Prop:=Fx Z 3 "_law_pairs_of" ["pen", "kind", "many"] 3 Br
theorem VT (D:Dx Z "_law_pairs_of" Kx) (B:BT Z.mg) (iG:yO Z):Ky Z:=cO (N:=["pen", "kind", "many", "every", "other", "ring", "half"]) D kA fun hr nd hu=>⟨Bs,(aY (b7 (i:=3) nd rfl (by trivial) (uR aB)) (aY (ml YU rfl (qT (by rfl) B.range (ah (dv 2) aB)) (bT (i:=4) nd rfl (by trivial)) (aZ (ph ((pf YO PySem.F.slot_list_extend PySem.F.type_list_extend NG (dv 3) (fH (g_ [none,some 4] ["one", "other"] rfl (qT (by rfl) B.range (ah (dv 4) aB)) (fun d=>(bT (i:=0) (show (["one", "other"]:List Str).Nodup by decide +kernel) rfl (by trivial))) (fun d=>jH) (fun d=>(jd (ah (dv 0) (ah (dv 1) aB))))) aB)).weak Qk)))) (aY (c7 (cB (gf hu) (dv 1) az (by rfl)) (aZ (bD (xp [none,some 0] ["other", "pen"] rfl (P8 (by rfl) B.range (br az (ah (dv 2) aB))) (fun d=>(bT (i:=0) (show (["other", "pen"]:List Str).Nodup by decide +kernel) rfl (by trivial))) (fun d=>jH) (fun d=>(jd (b8 (aG iG hr (ah (dv 1) (ah (dv 0) aB))) (ah (dv 0) aB))))))) df) (aY (c7 (cB (gf hu) (dv 1) az (by rfl)) (aY (Gz [none] ["k"] (i:=5) nd rfl (by trivial) rfl (qT (by rfl) B.range (fH (bC lb (dv 2) az) aB)) (fun d=>(bT (i:=0) (show (["k"]:List Str).Nodup by decide +kernel) rfl (by trivial))) (fun d=>jH) (fun d=>(jd (ah (dv 0) (fH (bC eU (dv 0) az) aB))))) (aZ (bD (Qt (dv 5) (g_ [none,some 2] ["pair", "many"] rfl (fK (dv 3)) (fun d=>(bT (i:=0) (show (["pair", "many"]:List Str).Nodup by decide +kernel) rfl (by trivial))) (fun d=>(mn (JW.jt (uU (cB (gf hu) (dv 0) (jd (br az (fH (bC lb (dv 1) az) aB))) (by rfl)) (uT (cB sS (dv 1) az (by rfl))))))) (fun d=>(dv 0))))))) df) (aY (c7 (cB (gf hu) (dv 1) az (by rfl)) (aZ (bD (dv 3))) df) (aY (c7 (cB (gf hu) (dv 1) az (by rfl)) (aZ (bD (xp [none,some 0] ["pair", "pen"] rfl (fK (dv 3)) (fun d=>(bT (i:=0) (show (["pair", "pen"]:List Str).Nodup by decide +kernel) rfl (by trivial))) (fun d=>(mn (cB (gf hu) (aG iG hr (ah (dv 1) (br az aB))) az (by rfl)))) (fun d=>(dv 0))))) df) (aY (c7 (cB (gf hu) (dv 1) az (by rfl)) (aY (b7 (i:=6) nd rfl (by trivial) (aG iG hr (ah (dv 0) (fH (bC eU (dv 2) az) aB)))) (aZ (bD (xp [none,some 6,some 0] ["pair", "half", "pen"] rfl (fK (dv 3)) (fun d=>(bT (i:=0) (show (["pair", "half", "pen"]:List Str).Nodup by decide +kernel) rfl (by trivial))) (fun d=>(mn (JW.jt (uU (cB (gf hu) (g9 (xC hu) (bf bg (dv 0) az (fun _ _=>rfl)) (dv 1) (by rfl)) (g9 (xC hu) (bf bg (dv 0) az (fun _ _=>rfl)) (dv 1) (by rfl)) (by rfl)) (uT (cB sS (aG iG hr (ah (dv 2) (br az aB))) az (by rfl))))))) (fun d=>(dv 0)))))) df) (aZ (bD (xp [none,some 0] ["pair", "pen"] rfl (fK (dv 3)) (fun d=>(bT (i:=0) (show (["pair", "pen"]:List Str).Nodup by decide +kernel) rfl (by trivial))) (fun d=>(mn (cB (gf hu) (aG iG hr (ah (dv 1) (br az aB))) az (by rfl)))) (fun d=>(dv 0)))))))))))),Rj⟩
noncomputable abbrev Kz:Stmt:=top 40
noncomputable abbrev KC (Z:Ev):Prop:=Fx Z 4 "_law_web" ["pen", "houses", "most"] 3 Bv
theorem VU (D:Dx Z "_law_web" Kz) (B:BT Z.mg) (iG:yO Z) (VW:Ky Z):KC Z:=cO (N:=["pen", "houses", "most", "kind", "prices", "many", "pairs", "ways", "k", "one", "other", "price"]) D kA fun hr nd hu=>⟨Bw,(aY (b7 (i:=3) nd rfl (by trivial) (aG iG hr (ah (dv 0) (br az aB)))) (aY (b7 (i:=4) nd rfl (by trivial) (aG iG hr (ah (dv 0) (br az aB)))) (aY (b7 (i:=5) nd rfl (by trivial) (bC eU az (aG iG hr (ah (dv 0) (ah (dv 1) aB))))) (aY (b7 (i:=6) nd rfl (by trivial) (U5 VW hr (ah (dv 0) (ah (dv 3) (ah (dv 5) aB))))) (aY (b7 (i:=7) nd rfl (by trivial) (uR aB)) (aY (ml YU rfl (qT (by rfl) B.range (b8 (fx (G6 rfl) (by rfl) B.min Hi (ah (dv 2) (b8 (fx iR (by rfl) B.len YE (ah (dv 6) aB)) aB))) aB)) (bT (i:=8) nd rfl (by trivial)) (aY (xk ((pf YO PySem.F.slot_list_pop PySem.F.type_list_pop Fl (dv 6) (b8 (aG iG hr (ah (dv 0) (b8 (fx iR (by rfl) B.len YE (ah (dv 6) aB)) aB))) aB)).weak G9) (nG rfl (gC (bT (i:=9) nd rfl (by trivial)) (gC (bT (i:=10) nd rfl (by trivial)) nE)))) (aY (b7 (i:=11) nd rfl (by trivial) (bf bg (mi (br az (b8 (aG iG hr (ah (dv 0) (br az aB))) (fH (bC lb (bC qX az az) (aG iG hr (ah (dv 0) (br az aB)))) (b8 (aG iG hr (ah (dv 0) (fH (bC eU (bC qX az az) az) aB))) aB))))) (dv 4) (fun _ _=>rfl))) (aZ (ph ((pf YO Zy Zz sx (dv 7) (qH (jd (ah (dv 9) (ah (dv 10) (ah (dv 11) aB)))) aB)).weak xN)))))) (aZ (bD (jd (ah (dv 5) (b8 (Gr Qd (by rfl) B.tuple sJ (ah (dv 7) aB)) aB))))))))))),Rk⟩
noncomputable abbrev KD:Stmt:=top 41
noncomputable abbrev yP (Z:Ev):Prop:=Fx Z 1 "_law_key" ["web", "number"] 2 v8
theorem VX (D:Dx Z "_law_key" KD) (B:BT Z.mg):yP Z:=cO (N:=["web", "number", "one", "other", "price"]) D kz fun hr nd hu=>⟨Cq,(aY (xk (bf bg (bf bg (dv 0) az (fun _ _=>rfl)) (dv 1) (fun _ _=>rfl)) (nG rfl (gC (bT (i:=2) nd rfl (by trivial)) (gC (bT (i:=3) nd rfl (by trivial)) (gC (bT (i:=4) nd rfl (by trivial)) nE))))) (aZ (bD (jd (ah (dv 4) (ah (dv 2) (ah (dv 3) aB))))))),SA⟩
noncomputable abbrev KG:Stmt:=top 42
noncomputable abbrev KH (Z:Ev):Prop:=Fx Z 2 "_law_order" ["web"] 1 Cr
theorem VY (D:Dx Z "_law_order" KG) (B:BT Z.mg) (wA:yP Z):KH Z:=cO (N:=["web"]) D ku fun hr nd hu=>⟨Cs,(aZ (bD (g_ [none] ["key"] rfl (fK (fx (ID hu) (by rfl) B.sorted vy (fH (g_ [none,some 0] ["number", "web"] rfl (qT (by rfl) B.range (b8 (fx iR (by rfl) B.len YE (bB (bf bg (dv 0) az (fun _ _=>rfl)) aB)) aB)) (fun d=>(bT (i:=0) (show (["number", "web"]:List Str).Nodup by decide +kernel) rfl (by trivial))) (fun d=>jH) (fun d=>(jd (b8 (aG wA hr (ah (dv 1) (ah (dv 0) aB))) (ah (dv 0) aB))))) aB))) (fun d=>(bT (i:=0) (show (["key"]:List Str).Nodup by decide +kernel) rfl (by trivial))) (fun d=>jH) (fun d=>(bf bg (dv 0) az (fun _ _=>rfl)))))),SD⟩
noncomputable abbrev KI:Stmt:=top 43
noncomputable abbrev KJ (Z:Ev):Prop:=Fx Z 1 "_law_leads_out" ["web", "houses", "number"] 3 De
theorem VZ (D:Dx Z "_law_leads_out" KI) (B:BT Z.mg):KJ Z:=cO (N:=["web", "houses", "number", "one", "other"]) D kA fun hr nd hu=>⟨Df,(aY (xk (vK (bf bg (bf bg (dv 0) az (fun _ _=>rfl)) (dv 2) (fun _ _=>rfl)) vd (vf az)) (nG rfl (gC (bT (i:=3) nd rfl (by trivial)) (gC (bT (i:=4) nd rfl (by trivial)) nE)))) (aZ (bD (g9 (lg hu) (g9 (vc hu) (dv 3) (dv 1) (by rfl)) (g9 (vc hu) (dv 4) (dv 1) (by rfl)) (by rfl))))),Ul⟩
noncomputable abbrev KN:Stmt:=top 44
noncomputable abbrev KO (Z:Ev):Prop:=Fx Z 2 "_law_outs" ["web", "houses", "ways"] 3 Dg
theorem V0 (D:Dx Z "_law_outs" KN) (B:BT Z.mg) (V6:KJ Z) (wA:yP Z):KO Z:=cO (N:=["web", "houses", "ways", "found"]) D kA fun hr nd hu=>⟨Dh,(aY (Gz [none,some 0,some 1] ["number", "web", "houses"] (i:=3) nd rfl (by trivial) rfl (fK (dv 2)) (fun d=>(bT (i:=0) (show (["number", "web", "houses"]:List Str).Nodup by decide +kernel) rfl (by trivial))) (fun d=>(mn (fV (aG V6 hr (ah (dv 1) (ah (dv 2) (ah (dv 0) aB))))))) (fun d=>(jd (b8 (aG wA hr (ah (dv 1) (ah (dv 0) aB))) (ah (dv 0) aB))))) (aZ (bD (g_ [none,none] ["key", "number"] rfl (fK (fx (ID hu) (by rfl) B.sorted vy (ah (dv 3) aB))) (fun d=>(nG rfl (gC (bT (i:=0) (show (["key", "number"]:List Str).Nodup by decide +kernel) rfl (by trivial)) (gC (bT (i:=1) (show (["key", "number"]:List Str).Nodup by decide +kernel) rfl (by trivial)) nE)))) (fun d=>jH) (fun d=>(dv 1)))))),Um⟩
noncomputable abbrev KP:Stmt:=top 45
noncomputable abbrev KQ (Z:Ev):Prop:=Fx Z 3 "_law_forest" ["web", "ways"] 2 CH
theorem V7 (D:Dx Z "_law_forest" KP) (B:BT Z.mg) (V8:KH Z):KQ Z:=cO (N:=["web", "ways", "marks", "found", "number", "one", "other"]) D kz fun hr nd hu=>⟨CI,(aY (b7 (i:=2) nd rfl (by trivial) (A2 rfl (by rfl) B.list qF (by rfl) B.range vx (bB (bf bg (dv 0) az (fun _ _=>rfl)) aB))) (aY (b7 (i:=3) nd rfl (by trivial) (uR aB)) (aY (ml YU rfl (fK (aG V8 hr (ah (dv 0) aB))) (bT (i:=4) nd rfl (by trivial)) (aY (xk (g_ [none,some 2] ["house", "marks"] rfl (fK (vK (bf bg (bf bg (dv 0) az (fun _ _=>rfl)) (dv 4) (fun _ _=>rfl)) vd (vf az))) (fun d=>(bT (i:=0) (show (["house", "marks"]:List Str).Nodup by decide +kernel) rfl (by trivial))) (fun d=>jH) (fun d=>(bf bg (dv 1) (dv 0) (fun _ _=>rfl)))) (nG rfl (gC (bT (i:=5) nd rfl (by trivial)) (gC (bT (i:=6) nd rfl (by trivial)) nE)))) (aZ (c7 (JW.jt (uU (cB (vc hu) (dv 4) (dv 1) (by rfl)) (uT (cB (lg hu) (dv 5) (dv 6) (by rfl))))) (aY (b7 (i:=2) nd rfl (by trivial) (g_ [none,some 5,some 6] ["mark", "one", "other"] rfl (fK (dv 2)) (fun d=>(bT (i:=0) (show (["mark", "one", "other"]:List Str).Nodup by decide +kernel) rfl (by trivial))) (fun d=>jH) (fun d=>(Gv (cB (gf hu) (dv 0) (dv 2) (by rfl)) (dv 1) (dv 0))))) (aZ (ph ((pf YO Zy Zz sx (dv 3) (ah (dv 4) aB)).weak xN)))) df)))) (aZ (bD (fx Qe (by rfl) B.sorted vy (ah (dv 3) aB))))))),SU⟩
noncomputable abbrev KR:Stmt:=top 46
noncomputable abbrev KU (Z:Ev):Prop:=Fx Z 2 "_law_is_in" ["thing", "low", "high"] 3 BM
theorem V9 (D:Dx Z "_law_is_in" KR) (B:BT Z.mg) (DW:DU Z):KU Z:=cO (N:=["thing", "low", "high"]) D kA fun hr nd hu=>⟨H_,(aZ (bD (jE (aG DW hr (ah (dv 0) aB)) (j7 (GZ xD xD (dv 1) (dv 0) (dv 2)))))),RC⟩
noncomputable abbrev KW:Stmt:=top 47
noncomputable abbrev KY (Z:Ev):Prop:=Fx Z 1 "_law_road" ["web", "ways", "one", "other"] 4 C_
theorem V_ (D:Dx Z "_law_road" KW) (B:BT Z.mg):KY Z:=cO (N:=["web", "ways", "one", "other", "roads", "due", "here", "number", "ends", "there"]) D yL fun hr nd hu=>⟨Dc,(aY (b7 (i:=4) nd rfl (by trivial) (SJ (dv 2) (mi aB))) (aY (b7 (i:=5) nd rfl (by trivial) (uR (ah (dv 2) aB))) (aY (SM YU (cB (lg hu) (dv 5) (mi aB) (by rfl)) (aY (b7 (i:=6) nd rfl (by trivial) ((pf YO PySem.F.slot_list_pop PySem.F.type_list_pop Fl (dv 5) (br az aB)).weak G9)) (aZ (ml YU rfl (fK (dv 1)) (bT (i:=7) nd rfl (by trivial)) (aY (b7 (i:=8) nd rfl (by trivial) (vK (bf bg (bf bg (dv 0) az (fun _ _=>rfl)) (dv 7) (fun _ _=>rfl)) vd (vf az))) (aZ (c7 (JW.jt (uU (cB (vc hu) (dv 6) (dv 8) (by rfl)) (uT (cB (xE hu) (dv 7) (IF hu (dv 4) (dv 6)) (by rfl))))) (aY (b7 (i:=9) nd rfl (by trivial) (bC lb (bC eU (bf bg (dv 8) az (fun _ _=>rfl)) (bf bg (dv 8) az (fun _ _=>rfl))) (dv 6))) (aZ (c7 (SG hu (dv 9) (dv 4)) (aY (SI hu (dv 4) (dv 9) (bC eU (IF hu (dv 4) (dv 6)) (mi (ah (dv 7) aB)))) (aZ (ph ((pf YO Zy Zz sx (dv 5) (ah (dv 9) aB)).weak xN)))) df))) df))))))) (aZ (bD (SH hu (dv 4) (dv 3) nA)))))),TU⟩
noncomputable abbrev KZ:Stmt:=top 48
noncomputable abbrev K1 (Z:Ev):Prop:=Fx Z 3 "_law_rises" ["numbers", "many"] 2 Dy
theorem Wa (D:Dx Z "_law_rises" KZ) (B:BT Z.mg) (Wb:KU Z):K1 Z:=cO (N:=["numbers", "many", "k", "number"]) D kz fun hr nd hu=>⟨Dz,(aY (ml YU rfl (GN (by rfl) B.enumerate (ah (dv 0) aB)) (nG rfl (gC (bT (i:=2) nd rfl (by trivial)) (gC (bT (i:=3) nd rfl (by trivial)) nE))) (aZ (c7 (JW.jt (nB (iQ (fV (aG Wb hr (ah (dv 3) (br az (fH (bC lb (dv 1) az) aB)))))) (qK (JW.jt (uU (cB sS (dv 2) az (by rfl)) (uT (cB GU (bf bg (dv 0) (bC lb (dv 2) az) (fun _ _=>rfl)) (dv 3) (by rfl)))))))) (aZ (bD iO)) df))) (aZ (bD iO))),UR⟩
noncomputable abbrev K4:Stmt:=top 49
noncomputable abbrev K5 (Z:Ev):Prop:=Fx Z 4 "_law_cut_right" ["web", "number", "houses"] 3 DA
theorem Wc (D:Dx Z "_law_cut_right" K4) (B:BT Z.mg) (Wd:K1 Z) (We:KO Z):K5 Z:=cO (N:=["web", "number", "houses"]) D kA fun hr nd hu=>⟨DB,(aY (c7 (iQ (fV (aG Wd hr (ah (dv 2) (bB (bf bg (dv 0) az (fun _ _=>rfl)) aB))))) (aZ (bD iO)) df) (aZ (bD (g9 (gf hu) (vK (aG We hr (ah (dv 0) (ah (dv 2) (b8 (A2 rfl (by rfl) B.list qF (by rfl) B.range vx (b8 (fx iR (by rfl) B.len YE (bB (bf bg (dv 0) az (fun _ _=>rfl)) aB)) aB)) aB)))) vd (vf az)) (mi (ah (dv 1) aB)) (by rfl))))),UT⟩
noncomputable abbrev K6:Stmt:=top 50
noncomputable abbrev K7 (Z:Ev):Prop:=Fx Z 1 "_law_all" ["web"] 1 BR
theorem Wf (D:Dx Z "_law_all" K6) (B:BT Z.mg):K7 Z:=cO (N:=["web"]) D ku fun hr nd hu=>⟨BS,(aZ (bD (Qs rfl (by rfl) B.list qF (by rfl) B.range vx (b8 (fx iR (by rfl) B.len YE (bB (bf bg (dv 0) az (fun _ _=>rfl)) aB)) aB)))),RF⟩
noncomputable abbrev K8:Stmt:=top 51
noncomputable abbrev K9 (Z:Ev):Prop:=Fx Z 2 "_law_numbers" ["thing"] 1 Dv
theorem Wg (D:Dx Z "_law_numbers" K8) (B:BT Z.mg) (DW:DU Z):K9 Z:=cO (N:=["thing"]) D ku fun hr nd hu=>⟨Dw,(aZ (bD (jE (gg A3 (by rfl) B.isinstance (by rfl) B.list qF (dv 0)) (j7 (g9 (gf hu) (g_ [none] ["number"] rfl (fK (dv 0)) (fun d=>(bT (i:=0) (show (["number"]:List Str).Nodup by decide +kernel) rfl (by trivial))) (fun d=>(mn (iQ (fV (aG DW hr (ah (dv 0) aB)))))) (fun d=>az)) (mi aB) (by rfl)))))),UQ⟩
noncomputable abbrev DX:Stmt:=top 38
theorem DY {x:Str} {st:Stmt} {ps:List Str} {n:Nat} (D:Dx Z x st) (bd:ib x st ps):Fx Z 0 x ps n (fun _ _ _=>False) :=
 let ⟨f,fd,a,F⟩:=D
 ⟨f,fd,⟨fun vs H Q E h=>by obtain⟨_,_,_,_,_,_,_,hF,_⟩:=h;exact hF.elim,fun A outer s H args us vs Q E _ _ _ _ h=>by obtain⟨_,_,_,_,_,_,_,hF,_⟩:=h;exact hF.elim⟩,a,F.kp,F.binds bd⟩
theorem K_ (D:Dx Z "_law_same" DX) (B:BT Z.mg) (n:Nat) (DZ:Fx Z n "_law_same" ["found", "due"] 2 (LJT.h9 LJT.aQ n)):Fx Z (n + 1) "_law_same" ["found", "due"] 2 (LJT.aQ n):=cO (N:=["found", "due"]) D kz fun hr nd hu=>⟨LJT.aH (LJT.h9 LJT.aQ n),(aY (c7 (cB vL (dv 1) nA (by rfl)) (aZ (bD (g9 vL (dv 0) nA (by rfl)))) df) (aY (c7 (JW.jt (nB (fV (gg sT (by rfl) B.isinstance (by rfl) B.bool sI (dv 1))) (qK (fV (gg sT (by rfl) B.isinstance (by rfl) B.bool sI (dv 0)))))) (aZ (bD (jE (gg sT (by rfl) B.isinstance (by rfl) B.bool sI (dv 1)) (jE (gg sT (by rfl) B.isinstance (by rfl) B.bool sI (dv 0)) (j7 (g9 (gf hu) (dv 0) (dv 1) (by rfl))))))) df) (aY (c7 (fV (gg xM (by rfl) B.isinstance (by rfl) B.int uN (dv 1))) (aZ (bD (jE (gg xM (by rfl) B.isinstance (by rfl) B.int uN (dv 0)) (j7 (g9 (gf hu) (dv 0) (dv 1) (by rfl)))))) df) (aY (c7 (fV (gg G7 (by rfl) B.isinstance (by rfl) B.str Ge (dv 1))) (aZ (bD (jE (gg G7 (by rfl) B.isinstance (by rfl) B.str Ge (dv 0)) (j7 (g9 (gf hu) (dv 0) (dv 1) (by rfl)))))) df) (aY (c7 (JW.jt (nB (cB (lg hu) (gg vo (by rfl) B.isinstance (by rfl) B.tuple sJ (dv 1)) (gg vo (by rfl) B.isinstance (by rfl) B.tuple sJ (dv 0)) (by rfl)) (qK (cB (lg hu) (gg A3 (by rfl) B.isinstance (by rfl) B.list qF (dv 1)) (gg A3 (by rfl) B.isinstance (by rfl) B.list qF (dv 0)) (by rfl))))) (aZ (bD iO)) df) (aY (c7 (cB (lg hu) (fx iR (by rfl) B.len YE (ah (dv 0) aB)) (fx iR (by rfl) B.len YE (ah (dv 1) aB)) (by rfl)) (aZ (bD iO)) df) (aZ (bD (g9 (xE hu) iO (g_ [none,none] ["one", "other"] rfl (Ud (by rfl) B.zip (ah (dv 0) (ah (dv 1) aB))) (fun d=>(nG rfl (gC (bT (i:=0) (show (["one", "other"]:List Str).Nodup by decide +kernel) rfl (by trivial)) (gC (bT (i:=1) (show (["one", "other"]:List Str).Nodup by decide +kernel) rfl (by trivial)) nE)))) (fun d=>jH) (fun d=>(aG (hj:=Nat.ble_eq_true_of_le (uu _)) DZ hr (ah (dv 0) (ah (dv 1) aB))))) (by rfl)))))))))),LJT.fF n⟩
noncomputable abbrev Wh (Z:Ev):Prop:=Fx Z 2 "_law_same" ["found", "due"] 2 (LJT.aQ 1)
theorem Wi (D:Dx Z "_law_same" DX) (B:BT Z.mg) (n:Nat):Fx Z (n + 1) "_law_same" ["found", "due"] 2 (LJT.aQ n):=by
 induction n with
 | zero=>exact K_ D B 0 (DY D kz)
 | succ m ih=>exact K_ D B (m + 1) ih
noncomputable abbrev La:Stmt:=top 52
noncomputable abbrev Lb (Z:Ev):Prop:=Fx Z 5 "_law_right" ["web", "one", "other", "found"] 4 yI
theorem Wj (D:Dx Z "_law_right" La) (B:BT Z.mg) (Wk:KY Z) (Wl:KQ Z) (Wm:K7 Z) (Wn:K9 Z) (wA:yP Z) (DZ:Wh Z) (Wo:K5 Z):Lb Z:=cO (N:=["web", "one", "other", "found", "road", "due"]) D yL fun hr nd hu=>⟨DC,(aY (b7 (i:=4) nd rfl (by trivial) (aG Wk hr (ah (dv 0) (b8 (aG Wl hr (ah (dv 0) (b8 (aG Wm hr (ah (dv 0) aB)) aB))) (ah (dv 1) (ah (dv 2) aB)))))) (aY (c7 (cB vL (dv 4) nA (by rfl)) (aZ (bD (g9 vL (dv 3) nA (by rfl)))) df) (aY (c7 (JW.jt (nB (iQ (fV (gg vo (by rfl) B.isinstance (by rfl) B.tuple sJ (dv 3)))) (nB (cB (lg hu) (fx iR (by rfl) B.len YE (ah (dv 3) aB)) az (by rfl)) (qK (iQ (fV (aG Wn hr (bB (bf bg (dv 3) az (fun _ _=>rfl)) aB)))))))) (aZ (bD iO)) df) (aY (b7 (i:=5) nd rfl (by trivial) (bf bg (fx (UC hu rfl) (by rfl) B.max A7 (fH (g_ [none,some 0] ["number", "web"] rfl (fK (dv 4)) (fun d=>(bT (i:=0) (show (["number", "web"]:List Str).Nodup by decide +kernel) rfl (by trivial))) (fun d=>jH) (fun d=>(jd (b8 (aG wA hr (ah (dv 1) (ah (dv 0) aB))) (ah (dv 0) aB))))) aB)) az (fun _ _=>rfl))) (aY (c7 (JW.jt (nB (iQ (fV (aG DZ hr (bB (bf bg (dv 3) az (fun _ _=>rfl)) (ah (dv 5) aB))))) (nB (cB (xE hu) (dv 1) (bf bg (dv 3) az (fun _ _=>rfl)) (by rfl)) (qK (cB (vc hu) (dv 2) (bf bg (dv 3) az (fun _ _=>rfl)) (by rfl)))))) (aZ (bD iO)) df) (aZ (bD (aG Wo hr (ah (dv 0) (ah (dv 5) (bB (bf bg (dv 3) az (fun _ _=>rfl)) aB))))))))))),UX⟩
noncomputable abbrev yQ:Stmt:=top 34
theorem l3:mV ["script", "cells", "k", "cell"] ["script"] (cV yQ):=jW (by decide +kernel)
theorem Wq {f:Addr} {fd:FuncData} (F:g5 Z.K "_law_open" "_law_open" yQ f fd) (h1:Z.mg "list" = none) (h2:Z.mg "enumerate" = none):cS Z.P Z.w Z.K Z.mg Z.base f9 1 f fd ["script"] (Ig Z.K):=by
 refine F.Ar l3 (fun vs H Q E h => ?_) (fun ba A outer s H vs Q E hr h => ?_)
 ·obtain⟨a,ns,rfl,_⟩:=h
  rfl
 ·obtain⟨a,ns,rfl,hS,hlen,fin⟩:=h
  have nd:=l3.nd
  refine⟨_,qC (wY (i:=1) nd rfl (Or.inl rfl) (pe NC (by rfl) h1 PyProof.Rows.boot_list (qD (Am gw (jv 0) E6 (wM cg.out)) bN)))
   (qC (F8 YU rfl (Pf (by rfl) h2 (qD (Am gw (jv 0) (wM cg.out) (wM cg.out)) bN)) (F7 rfl (Ak (Aj (i:=2) nd rfl (Or.inl rfl)) (Ak (Aj (i:=3) nd rfl (Or.inl rfl)) i_)))
    (wX (sH (uL EF (Ao E_ (jv 1) (uL zp (jv 2) cg) (fun _ _=>rfl)) (jv 3)) (uK (jv 1) (uL zp (jv 2) cg) set_list))))
   (wX (F0 (Al (qD (jv 1) (qD cg (qD cg bN))))))),?_⟩
  refine⟨_,rfl,_,rfl,a,_,rfl,hS,fun l1 n1=>⟨l1,_,rfl,.inl (bz.of bZ),fun c nc => ?_⟩⟩;have s1:aF H (upd (upd H l1 (.lst (cU (ns.map V.int) none (some 12)))) c (.lst (cU (ns.map V.int) none (some 12)))):=(tj n1).trans (tj nc);refine⟨_,rfl,_,rfl,_,rfl,a,_,rfl,s1.seq hS,fun l2 n2=>⟨l2,rfl,⟨_,bz.of bZ⟩,?_⟩⟩;have Wr:H c=none:=(tj n1).free nc;have Ws:=n2
  have hcc:∃ ms:List Int,ms.length=min 12 ns.length/\cU (ns.map V.int) none (some 12)=ms.map V.int:=by
   refine⟨_,?_,BU ns none (some 12)⟩;rw[Yr,Zt];have e1:HT.bj ns.length 0 none=0:=HT.EX _ _;have e2:HT.bj ns.length ns.length (some 12)=min 12 ns.length:=HT.wL ns.length ns.length 12;rw[e1,e2];omega
  have mC:(cU (ns.map V.int) (some 12) (some 63)).length=ns.length - 12:=by
   rw[BU,qx,Yr,Zt];have e1:HT.bj ns.length 0 (some 12)=min 12 ns.length:=HT.wL ns.length 0 12;have e2:HT.bj ns.length ns.length (some 63)=min 63 ns.length:=HT.wL ns.length ns.length 63;rw[e1,e2];omega
  have Lc:∀ i x,(cU (ns.map V.int) (some 12) (some 63))[i]? = some x->∃ n:Int,x=V.int n:=fun i x e=>by
   rw[BU,My] at e
   cases q:((ns.drop (HT.bj ns.length 0 (some 12))).take (HT.bj ns.length ns.length (some 63) - HT.bj ns.length 0 (some 12)))[i]? with
   | none=>rw[q] at e;cases e
   | some n=>rw[q] at e;exact⟨n,(Yh e).symm⟩
  generalize cU (ns.map V.int) (some 12) (some 63)=rest at mC Lc n2 ⊢;obtain⟨ms,Wt,Wu⟩:=hcc
  refine Og (K:=Z.K) (a:=l2) (xs:=rest) (fun i σ H2=>∃ (ks:List Int) (v1 v2:Option V),σ = [some (.ref a),some (.ref c),v1,v2]/\H2 c=some (.lst (ks.map V.int))/\ks.length=min 12 ns.length/\H2 l2=some (.lst rest)/\aF H H2)
   ⟨ms,none,none,rfl,?_,Wt,bZ,?_⟩ (fun i σ H2 _ ⟨_,_,_,_,_,_,q,_⟩=>bz.of q) ?_ ?_
  ·rw[aS (c6 bZ n2),bZ,Wu]
  ·exact s1.trans (tj n2)
  ·rintro i x T σ H2 hi ⟨ks,v1,v2,rfl,hc,hk,sy,sm⟩ hT
   obtain⟨n,rfl⟩:=Lc i x hi;have qQ:i < rest.length:=(sA.mp hi).1;have Wv:ks.length=12:=by omega
   have cT:c≠T:=c6 hc hT;have gX:upd H2 T (.tup [.int i,.int n]) c=some (.lst (ks.map V.int)):=by rw[aS cT];exact hc
   have j0:0 <= ((i:Int)) % 12:=Y6 _ (by decide);have j1:((i:Int)) % 12 < 12:=YJ _ (by decide);obtain⟨m,em⟩:=RG (ns:=ks) j0 (by omega)
   have ix:i9 (ks.map V.int).length ((i:Int) % 12)=some ((i:Int) % 12).toNat:=by
    unfold i9;rw[Xs j0,Xs (by rw[qx];omega)]
   refine⟨T,_,rfl,bF.of bZ,rfl,_,_,rfl,_,_,rfl,rfl,?_⟩;refine⟨_,rfl,_,rfl,_,_,rfl,rfl,(show (0:Int) < 12 by decide),_,_,_,_,rfl,rfl,bz.of gX,em,_,rfl,_,_,rfl,rfl,_,rfl,_,rfl,_,_,rfl,rfl,(show (0:Int) < 12 by decide),_,_,_,_,rfl,rfl,gX,ix,?_⟩;refine⟨ks.set ((i:Int) % 12).toNat (m + n),_,_,rfl,?_,by rw[Y9];exact hk,?_,?_⟩
   ·rw[bZ,List.map_set]
   ·have Ww:l2≠c:=by
     intro z;subst z;exact absurd Ws (by rw[bZ];intro y;cases y)
    rw[aS Ww,aS (c6 sy hT)];exact sy
   ·intro b o e
    rw[aS (c6 e Wr)];exact tj hT b o (sm b o e)
  ·rintro σ H2 ⟨ks,v1,v2,rfl,hc,hk,sy,sm⟩
   refine⟨_,rfl,(by show 3 <= sizeLine;decide),fun p np => ?_⟩;have Wx:H p=none:=sm.free np;exact fin p c _ (sm.trans (tj np)) Wx ⟨bZ,⟨ks,by rw[aS (c6 hc np)];exact hc,by omega⟩,Int.le_refl 0⟩
noncomputable abbrev tO:Stmt:=top 53
theorem Wz {f rY:Addr} {fd oX:FuncData} (F:g5 Z.K "law" "law" tO f fd) (B:BT Z.mg) (GO:Fn Z.P Z.w Z.K Z.mg Z.base 1 "_law_open" ["script"] (Ig Z.K) rY oX) (WB:KC Z) (WC:Ku Z) (iG:yO Z) (eI:Kq Z) (Ld:Lb Z):cS Z.P Z.w Z.K Z.mg Z.base f9 21 f fd ["script"] (yd Z.K):=by
 have sc:mV ["script", "pen", "turn", "web", "k", "one", "other", "first", "second", "found"] ["script"] (cV tO):=jW (by decide +kernel);refine F.Ar (k:=20) sc (fun vs H Q E h => ?_) (fun ba A outer s H vs Q E hr h => ?_)
 ·obtain⟨a,ns,rfl,_⟩:=h
  rfl
 obtain⟨a,ns,rfl,hS,hlen,hT,fin⟩:=h;have nd:=sc.nd;have hu:=hr.units;have rest:eF (eN f9 Z.P Z.w Z.K Z.mg Z.base ["script", "pen", "turn", "web", "k", "one", "other", "first", "second", "found"] "law" (cV tO) f ba A outer s H E).kE ((gx tO).drop 1) (dq DD):=(aY (ml YU rfl (qT (by rfl) B.range (br az aB)) (bT (i:=2) nd rfl (by trivial)) (aY (b7 (i:=3) nd rfl (by trivial) (aG WB hr (b8 (aG WC hr (ah (dv 1) aB)) (bB (bf bg (mi (br az (br az (br az aB)))) (dv 2) (fun _ _=>rfl)) (br az aB))))) (aZ (ml YU rfl (qT (by rfl) B.range (fH (bC pE az (Gr UP (by rfl) B.int uN (fH (g9 sS (bf bg (dv 3) az (fun _ _=>rfl)) az (by rfl)) aB))) aB)) (bT (i:=4) nd rfl (by trivial)) (aY (b7 (i:=5) nd rfl (by trivial) (aG iG hr (ah (dv 1) (bB (bf bg (dv 3) az (fun _ _=>rfl)) aB)))) (aY (b7 (i:=6) nd rfl (by trivial) (bC jI (bC eU (bC eU (dv 5) az) (aG iG hr (ah (dv 1) (fH (bC lb (bf bg (dv 3) az (fun _ _=>rfl)) az) aB)))) (bf bg (dv 3) az (fun _ _=>rfl)))) (aZ (ml YU rfl (fK (mi (qH (jd (ah (dv 5) (ah (dv 6) aB))) (qH (jd (ah (dv 6) (ah (dv 5) aB))) aB)))) (nG rfl (gC (bT (i:=7) nd rfl (by trivial)) (gC (bT (i:=8) nd rfl (by trivial)) nE))) (let ⟨_,_,Ft⟩:=eI.ex; UO (wY (i:=9) nd rfl (by trivial) (wZ Ft.ok (hr.mono (by decide)) (by rfl) Ft.w_ Ft.kp Ft.bd .nil wQ (jC (jv 3) (jC (jv 7) (jC (jv 8) bN))))) (Ai (iQ (fV (aG Ld hr (ah (dv 3) (ah (dv 7) (ah (dv 8) (ah (dv 9) aB))))))) (aZ (bD iO)) gA) (Ai (cB Ra (dv 9) nA (by rfl)) (qC (FZ (pf YO Zy Zz sx (Ao Fb (jv 9) cg (fun _ _=>rfl)) (uM cg bN))) (aZ (c7 (iQ (fV (aG Ld hr (ah (dv 3) (ah (dv 7) (ah (dv 8) (b8 (aG eI hr (ah (dv 3) (ah (dv 7) (ah (dv 8) aB)))) aB))))))) (aZ (bD iO)) df))) gA)))))))))) (aZ (bD iO)))
 refine⟨_,qC (wY (i:=1) nd rfl (by trivial) (wZ GO.ok (hr.mono (by decide)) (by rfl) GO.w_ GO.kp GO.bd .nil wQ (jC (jv 0) bN))) rest,?_⟩;refine⟨_,rfl,a,ns,rfl,hS,hlen,fun p c H1 sm hp N1 => ?_⟩;obtain⟨F',ms,hm,S⟩:=RH (a:=a) (n:=8) (aK.same hT sm) N1;exact RJ S (U1 ms hm) fin
end
noncomputable def dF:List lI:=[⟨140,⟨58,25,58,63⟩,(("greatest_of" : Str) ++ ".<locals>.") ++ "<lambda>"⟩,⟨121,⟨44,40,44,76⟩,(("order_of" : Str) ++ ".<locals>.") ++ "<lambda>"⟩]
noncomputable def D0:List (Str × Stmt × Addr):=[("greatest_of",Kb,140),("order_of",J8,121)]
noncomputable abbrev dp (x:Str) (s:Stmt):Str × Stmt:=(x,s)
noncomputable def Le:List (Str × Stmt):=[dp "is_whole" JM,dp "is_within" JO,dp "is_tuple_of" JP,dp "are_ends" JQ,dp "is_way" JU,dp "are_ways" JX,dp "is_web" JZ,dp "need_web" J6,dp "rank_of" J7,dp "joined" J_,dp "firsts_of" Ka,dp "lot_at" Kd,dp "parts" Ke,dp "road_of" Kh,dp "forest_of" Kj,dp "need_two" Kl,dp "greatest_between" Kn,dp "narrow_of" Kp,dp "_law_spread" Kr,dp "_law_open" yQ,dp "_law_anew" Kt,dp "_law_take" Kv,dp "_law_is_whole" Kw,dp "_law_same" DX,dp "_law_pairs_of" Kx,dp "_law_web" Kz,dp "_law_key" KD,dp "_law_order" KG,dp "_law_leads_out" KI,dp "_law_outs" KN,dp "_law_forest" KP,dp "_law_is_in" KR,dp "_law_road" KW,dp "_law_rises" KZ,dp "_law_cut_right" K4,dp "_law_all" K6,dp "_law_numbers" K8,dp "_law_right" La,dp "law" tO]
theorem WD {l:PySem.W.OpenLaw} {w:World} {K:PySem.W.Frag} {h:Heap} {mg:Str->Option Value} {fa:Addr} (X:K.In h) (G:h.Ns mainGlobals mg) (WH:mg "law" = some (.ref fa)) (DS:gN K Le) (LS:eD K D0) (N:∀ x∈DI,PySem.W.nsIn K mainGlobals x=some none) (gO:Ck K "MOST_HOUSES" 12) (iY:Ck K "MOST_WAYS" 30) (ic:Ck K "MOST_PRICE" 1000000000)
  : ∃ fd:FuncData,(∀ (s:Shared) (v:Value),BindsTo s fd ⟨[v],[]⟩ [("script",v)])/\∀ base:Heap,K.In base->base.Ns mainGlobals mg->(∀ t∈dF,base.BuiltinsAt mg t.T)->cS l.prog w K mg base f9 21 fa fd ["script"] (@yd (oM dF) K):=by
 obtain⟨f,fd,a,F⟩:=DS.at (x := "law") (st:=tO) 38 rfl;cases WH.symm.trans (q1m X G a)
 letI:aK:=oM dF;have B:=Vc X G N;refine⟨fd,fun s v=>by obtain⟨_,_,_,_,_,_,_,_,_,rfl,_⟩:=F.ex;exact .of_eq rfl,fun base KB _ hB => ?_⟩;have D:∀ (i:Nat) {x:Str} {st:Stmt},Le[i]? = some (x,st)->Dx ⟨l.prog,w,K,mg,base⟩ x st:=fun i _ _ e=>(DS.at i e).v X G;have M:∀ (i:Nat) {x:Str} {st:Stmt} {T:Addr} {lp:Pos} {q:Str},D0[i]? = some (x,st,T)->dF[i]? = some ⟨T,lp,q⟩->wu ⟨l.prog,w,K,mg,base⟩ x st T lp q:=fun i _ _ _ _ _ e e2=>(LS.at i e).v X G KB hB (by decide) (by decide) (Yf e2);have WJ:=Vd (D 0 rfl) B;have yR:=Ve (D 1 rfl) B WJ;have Lf:=Vg (D 2 rfl) B;have WK:=Vh (D 3 rfl) B yR;have WL:=Vi (D 4 rfl) B (ic.v X G) Lf WK yR
 have WM:=Vl (D 5 rfl) B (iY.v X G) WL;have WN:=Vo (D 6 rfl) B (gO.v X G) Lf yR WM;have Lg:=Vs (D 7 rfl) B WN;have Lh:=Vu (D 8 rfl) B;have WQ:=Vv (M 1 rfl rfl) B Lg Lh;have Li:=Vw (D 9 rfl) B;have D1:=Vx (D 10 rfl) B Li;have WR:=Vy (M 0 rfl rfl) B Lh;have Lj:=Vz (D 11 rfl) B D1;have WU:=VA (D 12 rfl) B D1;have WV:=VB (D 13 rfl) B WU;have WW:=VD (D 14 rfl) B WQ D1 Li;have WX:=VF (D 15 rfl) B Lg yR;have WY:=VG (D 16 rfl) B Lj WR WV;have WZ:=VJ (D 17 rfl) B WX WW WY Lj;have W0:=VO (D 18 rfl) B;have W5:=VP (D 20 rfl) B;have D2:=VQ (D 21 rfl) B W0;have Lk:=VS (D 22 rfl) B;have W6:=Wi (D 23 rfl) B 1
 have W7:=VT (D 24 rfl) B D2;have W8:=VU (D 25 rfl) B D2 W7;have D3:=VX (D 26 rfl) B;have W9:=VY (D 27 rfl) B D3;have W_:=VZ (D 28 rfl) B;have Xa:=V0 (D 29 rfl) B W_ D3;have Xb:=V7 (D 30 rfl) B W9;have Xc:=V9 (D 31 rfl) B Lk;have Xd:=V_ (D 32 rfl) B;have Xe:=Wa (D 33 rfl) B Xc;have Xf:=Wc (D 34 rfl) B Xe Xa;have Xg:=Wf (D 35 rfl) B;have Xh:=Wg (D 36 rfl) B Lk;have Xi:=Wj (D 37 rfl) B Xd Xb Xg Xh D3 W6 Xf;obtain⟨fo,XZ,ao,Fo⟩:=D 19 (x := "_law_open") (st:=yQ) rfl;exact Wz (Z:=⟨l.prog,w,K,mg,base⟩) F B ⟨Wq Fo B.list B.enumerate,ao,Fo.kp,Fo.binds ku⟩ W8 W5 D2 WZ Xi
theorem Xj {K:PySem.W.Frag} {h:Heap} (X:K.In h) (LS:eD K D0):∀ t∈dF,∃ cc,PySem.W.CodeHd h cc t.T:=fun t ht=>LS.code X t.T (show t.T∈dF.map (·.T) from Za ht)
end LJ
open PySem PySem.W PyProof.Rows
theorem PySem.W.Fast.tw10467970820657813563:True:=trivial
theorem PySem.W.Fast.tw16816473264286371873:True:=trivial
theorem PySem.W.Fast.tw1625091286883240156:True:=trivial
theorem PySem.W.Fast.tw16960567900784681449:True:=trivial
theorem PySem.W.Fast.tw3274251164805514014:True:=trivial
theorem PySem.W.Fast.tw11797169523593015833:True:=trivial
theorem PySem.W.Fast.tw11364280821524091855:True:=trivial
theorem PySem.W.Fast.tw8903853025447077870:True:=trivial
theorem PySem.W.Fast.tw588416439371998910:True:=trivial
theorem PySem.W.Fast.tw1638199225655358493:True:=trivial
theorem PySem.W.Fast.tw5331296011884455914:True:=trivial
set_option maxRecDepth 100000 in
set_option maxHeartbeats 0 in
theorem PySem.Challenge.cw_lotjoin_k70_narrow_ways_told_holds : PySem.Challenge.rw_lotjoin_k70_narrow_ways_told.Holds := by
 w_on;o_law;k_head; (case hw=>w_witness2)
 k_fill
 refine LJ.Sr (l:=PySem.Challenge.rw_lotjoin_k70_narrow_ways_told) (kk:=21) LJ.dF rfl rfl rfl ⟨rfl,by decide,by decide⟩ ?C (fun P=>by kernel_rfl) ?F
 case C =>
  intro w h KX;refine LJ.Xj KX ?_
  repeat' first | exact LJ.eD.nil | refine LJ.wx (by k_is) (by k_is) (by k_is) (by k_is) (by kernel_rfl) ?_
 case F =>
  intro w mg fa h KX G nh;refine LJ.WD KX G nh ?dD ?dL ?dN ⟨_,by k_is,_,rfl⟩ ⟨_,by k_is,_,rfl⟩ ⟨_,by k_is,_,rfl⟩
  (case dD=>repeat' first | exact LJ.gN.nil | refine LJ.DH (by k_is) (by k_is) (by k_is) (by k_is) ?_)
  (case dL=>repeat' first | exact LJ.eD.nil | refine LJ.wx (by k_is) (by k_is) (by k_is) (by k_is) (by kernel_rfl) ?_)
  (case dN=>repeat' first | exact List.forall_mem_nil _ | refine LJ.Va (by k_is) ?_)
