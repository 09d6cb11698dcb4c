import PyProof.Rows.All
import Wide.All
import OpenK.AllK
import Wide.FinOn
import Lean
import PyProof.Rows.SetFrom
import PyProof.TupleKey
import PyProof.SetRoads
import PySem.SetOps
import PyProof.EqAt
import PyProof.EqKinds
import PyProof.TupleCall
import KE.KDictList
import KE.KDictLaws
import PyProof.NeKinds
import PyProof.Draws
import KE.KSortTup
import KE.KLam
import PyProof.ListRange
import PyProof.TupleOfSeq
import KE.KNestM
import KE.KMinKey
import PyProof.MinMaxWalk
import PySem.Challenge.RW_lotjoin_k73_houses_refused
set_option Elab.async false
set_option linter.all false
set_option maxRecDepth 100000
local macro_rules | `(tactic| trivial) => `(tactic| first | exact Or.inl rfl | exact Or.inr rfl)
abbrev lJ:=@PySem.wpAny_bind
abbrev oO:=@List.getElem?_eq_getElem
abbrev oP:=@List.getElem?_eq_some_iff
abbrev oQ:=@PySem.Heap.get?_push_of_some
abbrev qy:=@List.length_map
abbrev sG:=@Nat.le_refl
abbrev vK:=@PySem.wpAny_pure
abbrev yG:=@List.size_toArray
abbrev Et:=@List.getD_eq_getElem?_getD
abbrev Eu:=@Bool.false_ne_true
abbrev Ew:=@List.length_append
abbrev Ex:=@List.length_cons
abbrev My:=@Array.length_toList
abbrev Ng:=@PySem.Heap.lt_size
abbrev Nh:=@List.mem_cons_self
abbrev Ni:=@List.getElem?_map
abbrev Nj:=@List.mem_append_right
abbrev Nk:=@List.mem_cons_of_mem
abbrev Xm:=@if_neg
abbrev Xn:=@List.getElem?_append_left
abbrev Xo:=@Option.map_eq_some_iff
abbrev Xp:=@if_pos
abbrev Xq:=@List.mem_iff_getElem?
abbrev Xr:=@List.getElem?_append_right
abbrev X1:=@PySem.Heap.get?_push_size
abbrev X7:=@List.mem_cons
abbrev X8:=@Array.getElem?_eq_getElem
abbrev X9:=@Nat.lt_of_lt_of_le
abbrev X_:=@Nat.ne_of_lt
abbrev Ya:=@decide_eq_true
abbrev Yb:=@LawfulBEq.eq_of_beq
abbrev Yc:=@decide_eq_false
abbrev Yd:=@List.mem_map
abbrev Ye:=@Bool.false_eq_true
abbrev Yf:=@List.lookup_cons
abbrev Yg:=@Bool.and_eq_true
abbrev Yh:=@Array.getElem?_toList
abbrev Yi:=@Option.some.inj
abbrev Yj:=@Int.toNat_natCast
abbrev Yk:=@List.length_singleton
abbrev Yl:=@PySem.wpAny_holding
abbrev Ym:=@List.mem_range
abbrev Yn:=@List.mem_of_getElem?
abbrev Yo:=@List.getElem?_set_self
abbrev Yp:=@List.length_take
abbrev Yq:=@PySem.W.mg_of
abbrev Yr:=@List.all_eq_true
abbrev Ys:=@Array.getElem?_eq_some_iff
abbrev Yt:=@List.getElem?_set_ne
abbrev Yu:=@List.not_mem_nil
abbrev Yv:=@List.mem_append_left
abbrev Yw:=@List.getElem?_take_of_lt
abbrev Yx:=@Nat.zero_add
abbrev Yy:=@PySem.Heap.SameBut.update
abbrev Yz:=@List.take_of_length_le
abbrev YA:=@List.set_cons_zero
abbrev YB:=@List.set_cons_succ
abbrev YC:=@List.map_cons
abbrev YD:=@Array.getD_eq_getD_getElem?
abbrev YE:=@PyProof.Rows.slot_tuple_getitem
abbrev YF:=@Nat.le_trans
abbrev YG:=@Nat.sub_self
abbrev YH:=@List.map_append
abbrev YI:=@List.drop_eq_getElem_cons
abbrev YJ:=@Int.emod_lt_of_pos
abbrev YK:=@PySem.wpAny_mono
abbrev YL:=@List.map_map
abbrev YM:=@List.mem_append
abbrev YN:=@PySem.W.kia_one
abbrev YO:=@PySem.wpAny_loadPart'
abbrev YQ:=@List.getElem?_range
abbrev YR:=@PySem.mem_of_lookup
abbrev YS:=@List.replicate_succ
abbrev YT:=@List.getElem?_eq_none
abbrev YU:=@PySem.Heap.get?_update_self
abbrev YV:=@List.length_range
abbrev YW:=@Nat.zero_le
abbrev YX:=@List.mem_iff_getElem
abbrev YY:=@if_false
abbrev YZ:=@List.mem_singleton
abbrev Y0:=@List.mem_filter
abbrev Y1:=@List.length_set
abbrev Y2:=@PySem.wpAny_newObj_type
abbrev Y3:=@List.length_replicate
abbrev Y4:=@Int.emod_nonneg
abbrev Y5:=@PySem.PassesOwn.never
abbrev Y6:=@List.getElem_mem
abbrev Y7:=@PySem.F.plainAttrs_list
abbrev Y8:=@PyProof.Rows.callWith_type1
abbrev Y9:=@Nat.lt_irrefl
abbrev Y_:=@Array.toList_setIfInBounds
abbrev Za:=@Nat.lt_succ_of_lt
abbrev Zb:=@Nat.le_of_lt
abbrev Zc:=@PySem.wpAny_truthy_bool
abbrev Zd:=@PySem.Heap.get?_update_other
abbrev Ze:=@decide_eq_true_eq
abbrev Zf:=@of_decide_eq_true
abbrev Zg:=@PySem.boot_len
abbrev Zh:=@PySem.sizeLine_eq
abbrev Zi:=@List.countP_cons
abbrev Zj:=@Nat.lt_succ_self
abbrev Zk:=@List.length_drop
abbrev Zl:=@List.pairwise_cons
abbrev Zm:=@PySem.wpAny_Call_Name_kw
abbrev Zn:=@Ne.symm
abbrev Zo:=@PySem.Around.under_plainId
abbrev Zp:=@PySem.wpAny_pyIter_enum
abbrev Zq:=@List.nodup_append
abbrev Zr:=@List.length_eq_zero_iff
abbrev Zs:=@List.length_nil
abbrev Zt:=@List.filterMap_cons
abbrev Zu:=@Bool.not_true
abbrev Zv:=@PySem.wpAny_standAt
abbrev Zw:=@List.mem_filterMap
abbrev Zx:=@PySem.F.slot_tuple_iterator_next
abbrev Zy:=@Classical.byContradiction
abbrev Zz:=@PySem.codeAny_builtin
abbrev ZA:=@List.append_assoc
abbrev ZC:=@List.flatten_cons
abbrev ZD:=@PySem.wpAny_setState_of
abbrev ZE:=@List.map_congr_left
abbrev ZF:=@List.mem_map_of_mem
abbrev ZG:=@List.getElem?_replicate
abbrev ZH:=@PySem.wpAny_callSpecial?_slot
abbrev ZI:=@Option.bind_some
abbrev ZJ:=@PySem.wpAny_field
abbrev ZK:=@Array.toList_filterMap
abbrev ZL:=@if_true
abbrev ZM:=@Nat.ne_of_gt
abbrev ZN:=@List.zip_cons_cons
abbrev ZO:=@PySem.Obj.data_mapFields
abbrev ZP:=@PySem.F.called_set
abbrev ZQ:=@List.nodup_cons
abbrev ZR:=@List.append_nil
abbrev ZS:=@Array.getElem?_setIfInBounds
abbrev ZT:=@List.filter_map
abbrev ZU:=@Nat.le_of_ble_eq_true
abbrev ZV:=@Nat.le_of_lt_succ
abbrev ZW:=@List.ext_getElem?
abbrev ZX:=@List.pairwise_map
abbrev ZY:=@PySem.wpAny_loadPart_at
abbrev ZZ:=@PySem.wpAny_pyIter_list
abbrev Z0:=@Bool.not_eq_true'
abbrev Z1:=@PySem.wpAny_seqItems
abbrev Z2:=@PySem.Heap.get?_none_of_le
abbrev Z3:=@PySem.Heap.size_push
abbrev Z4:=@List.take_succ
abbrev Z5:=@PySem.wpAny_forIn_list
abbrev Z6:=@List.map_nil
abbrev Z7:=@List.pairwise_iff_getElem
abbrev Z8:=@List.eq_of_mem_replicate
abbrev Z9:=@Option.isSome_iff_exists
abbrev Z_:=@PySem.F.args_tuple_add_2
abbrev q0a:=@PySem.plainId_quiet
abbrev q0b:=@PySem.wpAny_passesOwn
abbrev q0c:=@Bool.eq_iff_iff
abbrev q0d:=@Nat.lt_of_le_of_lt
abbrev q0e:=@Array.forIn_toList
abbrev q0f:=@List.contains_cons
abbrev q0g:=@PySem.Around.in1_handled
abbrev q0h:=@PySem.wpAny_pyIter_tuple
abbrev q0i:=@PySem.F.entry_tuple_add
abbrev q0j:=@List.getElem?_cons_succ
abbrev q0k:=@PyProof.Rows.F.plain_set_update_loop
abbrev q0l:=@Array.toList_replicate
abbrev q0m:=@Array.toList_push
abbrev q0n:=@List.any_eq_false
abbrev q0o:=@PySem.codeAny_mono
abbrev q0p:=@PySem.W.cellsFrom_some
abbrev q0q:=@List.zip_nil_left
abbrev q0r:=@PySem.F.slot_tuple_add
abbrev q0s:=@List.drop_of_length_le
abbrev q0t:=@List.length_filterMap_eq_countP
abbrev q0u:=@List.getElem?_toArray
abbrev q0v:=@PySem.Obj.isFreed_of_fields
abbrev q0w:=@List.nodup_range
abbrev q0x:=@List.getElem_inj
abbrev q0y:=@PySem.wpAny_call
abbrev q0z:=@PySem.wpAny_call_entry
abbrev q0A:=@Option.getD_none
abbrev q0B:=@PySem.call_meets
abbrev q0C:=@List.getElem_map
abbrev q0D:=@Bool.true_and
abbrev q0E:=@Array.mem_toList_iff
abbrev q0F:=@Nat.le_succ
abbrev q0G:=@PySem.codeAny_call_builtin
abbrev q0H:=@List.map_id
abbrev q0I:=@List.reverse_reverse
abbrev q0J:=@List.foldl_cons
abbrev q0K:=@PySem.wpAny_execs_nil
abbrev q0L:=@PySem.SeqAt.EqAt.same
abbrev q0M:=@List.nil_append
abbrev q0O:=@PyProof.Rows.boot_isinstance
abbrev q0P:=@PyProof.Rows.get?_update_seq
abbrev q0Q:=@Nat.succ_pos
abbrev q0R:=@PySem.wpAny_typeOf
abbrev q0T:=@List.drop_zero
abbrev q0U:=@PySem.SeqAt.EqAt.int_str
abbrev q0V:=@PySem.SeqAt.EqAt.str_int
abbrev q0X:=@PySem.W.callWith_K
abbrev q0Y:=@PySem.SeqAt.EqAt.int_int
abbrev q0Z:=@List.zip_nil_right
abbrev q01:=@PySem.Code.quiet_builtin
abbrev q02:=@PySem.F.excBase_ValueError
abbrev q03:=@or_false
abbrev q04:=@List.take_zero
abbrev q05:=@PySem.wpAny_setField
abbrev q06:=@Array.perm_iff_toList_perm
abbrev q07:=@PySem.wpAny_tryCatch
abbrev q08:=@List.mem_or_eq_of_mem_set
abbrev q09:=@List.extract_eq_take_drop
abbrev q0_:=@List.foldl_append
abbrev q1a:=@PySem.wpAny_letGo
abbrev q1b:=@Array.getElem_mem_toList
abbrev q1c:=@Array.size_setIfInBounds
abbrev q1e:=@List.all_cons
abbrev q1f:=@PySem.F.store_ValueError
abbrev q1g:=@Int.ofNat.inj
abbrev q1i:=@PySem.F.slot_list_append
abbrev q1j:=@PySem.F.type_list_append
abbrev q1k:=@Nat.le_of_not_lt
abbrev q1m:=@beq_self_eq_true
abbrev q1n:=@Nat.succ_ne_self
abbrev q1t:=@Bool.or_true
abbrev q1u:=@PySem.Walks.list
abbrev q1w:=@Nat.succ.inj
abbrev q1x:=@List.find?_some
abbrev q1y:=@Option.map_some
abbrev q1z:=@Array.size_push
abbrev q1A:=@List.of_mem_zip
abbrev q1G:=@List.Perm.refl
abbrev q1H:=@Bool.false_and
abbrev q1I:=@List.nodup_nil
abbrev q1J:=@Array.size_map
abbrev q1K:=@Bool.not_false
theorem el7 {α β γ ε : Type} {A B C : α → β → γ → ε → Prop} {R : Prop} (h : ∃ F ad δ K, A F ad δ K ∧ B F ad δ K ∧ C F ad δ K) (k : ∀ F ad δ K, A F ad δ K → B F ad δ K → C F ad δ K → R) : R := h.elim fun F h => h.elim fun a h => h.elim fun d h => h.elim fun K h => k F a d K h.1 h.2.1 h.2.2
theorem el5 {α β : Type} {A B C : α → β → Prop} {R : Prop} (h : ∃ F ad, A F ad ∧ B F ad ∧ C F ad) (k : ∀ F ad, A F ad → B F ad → C F ad → R) : R := h.elim fun F h => h.elim fun a h => k F a h.1 h.2.1 h.2.2
theorem el3 {α : Type} {A B : α → Prop} {R : Prop} (h : ∃ F, A F ∧ B F) (k : ∀ F, A F → B F → R) : R := h.elim fun F h => k F h.1 h.2
set_option compiler.extract_closed false
local macro_rules | `(tactic| omega) => `(tactic| first | lia | omega (config := {}))
namespace LJS
open PySem PySem.SetTable
noncomputable def nx (m i:Nat):Nat:=(i * 5 + 1) % (m + 1)
noncomputable def lg (m:Nat):Nat->Nat->Nat
 | 0,i=>i
 | n + 1,i=>lg m n (nx m i)
theorem vw (m:Nat):∀ a b i,lg m (a + b) i=lg m b (lg m a i)
 | 0,b,i=>by rw[Yx];rfl
 | a + 1,b,i=>by rw[Nat.succ_add];exact vw m a b (nx m i)
noncomputable def xD (m:Nat):Nat->Nat->List Nat
 | 0,_=>[]
 | n + 1,i=>i :: xD m n (nx m i)
theorem Dc (m:Nat):∀ {n i e:Nat},e∈xD m n i->∃ k,k < n/\lg m k i=e
 | 0,_,_,h=>nomatch h
 | n + 1,i,e,h=>by
  rcases X7.mp h with rfl | h
  ·exact⟨0,q0Q _,rfl⟩
  ·obtain⟨k,hk,e⟩:=Dc m h
   exact⟨k + 1,Nat.succ_lt_succ hk,e⟩
noncomputable def Mk (m:Nat):Prop:=m=7\/m=31\/m=127
noncomputable def rM (m:Nat):Bool:=(List.range (m + 1)).all fun e=>(xD m (m + 1) 0).contains e
theorem Dd {m:Nat} (h:Mk m):rM m=true/\lg m (m + 1) 0=0:=by
 rcases h with rfl | rfl | rfl<;>exact⟨by decide +kernel,by decide +kernel⟩
theorem mI {m:Nat} (h:Mk m) {e:Nat} (he:e <= m):∃ k,k <= m/\lg m k 0=e:=by
 have:=Yr.mp (Dd h).1 e (Ym.mpr (Nat.lt_succ_of_le he))
 obtain⟨k,hk,q⟩:=Dc m (List.contains_iff_mem.mp this)
 exact⟨k,ZV hk,q⟩
theorem KC {m:Nat} (h:Mk m) {i e:Nat} (hi:i <= m) (he:e <= m):∃ n,n <= m/\lg m n i=e:=by
 obtain⟨a,ha,rfl⟩:=mI h hi
 obtain⟨b,hb,rfl⟩:=mI h he
 by_cases Xh:a <= b
 ·refine⟨b - a,by omega,?_⟩
  rw[<-vw];congr 1;omega
 ·refine⟨m + 1 - a + b,by omega,?_⟩
  rw[<-vw,show a + (m + 1 - a + b)=(m + 1) + b by omega,vw,(Dd h).2]
noncomputable def lp (m:Nat):Nat->Nat->Nat->Nat × Nat
 | 0,i,p=>(i,p)
 | n + 1,i,p=>lp m n (leap m i p).1 (leap m i p).2
theorem xE (m:Nat):∀ a b i p,lp m (a + b) i p=lp m b (lp m a i p).1 (lp m a i p).2
 | 0,b,i,p=>by rw[Yx];rfl
 | a + 1,b,i,p=>by rw[Nat.succ_add];exact xE m a b _ _
theorem De (m:Nat):∀ n i,lp m n i 0=(lg m n i,0)
 | 0,i=>rfl
 | n + 1,i=>by
  show lp m n (leap m i 0).1 (leap m i 0).2=_
  have e:leap m i 0=(nx m i,0):=by unfold leap nx;simp
  rw[e];exact De m n _
theorem Df (m i p:Nat):(leap m i p).1 <= m:=ZV (Nat.mod_lt _ (q0Q _))
theorem Dg (m:Nat):∀ n i p,(lp m n i p).2=p / 32 ^ n
 | 0,i,p=>by simp[lp]
 | n + 1,i,p=>by
  show (lp m n (leap m i p).1 (leap m i p).2).2=_
  rw[Dg m n]
  show p / 32 / 32 ^ n=_
  rw[Nat.div_div_eq_div_mul,Nat.pow_succ,Nat.mul_comm]
theorem reach {m:Nat} (h:Mk m) {i p e:Nat} (hp:p < 2 ^ 64) (he:e <= m):∃ n,n <= 13 + m/\(lp m n i p).1=e:=by
 have z:(lp m 13 i p).2=0:=by
  rw[Dg]
  exact Nat.div_eq_of_lt (Nat.lt_trans hp (by decide))
 have q:(lp m 13 i p).1 <= m:=by
  rw[xE m 12 1];exact Df _ _ _
 obtain⟨n,hn,en⟩:=KC h q he
 refine⟨13 + n,by omega,?_⟩
 rw[xE,z,De];exact en
theorem Dh (j:Nat):has #[] j=false:=by unfold has;simp
theorem rN {t:SetTable} (hd:t.dummies = #[]) (j:Nat):t.slot j = .empty\/∃ i,t.slot j = .live i/\i < t.place.size/\j∈t.place.toList:=by
 unfold slot
 rw[hd,Dh]
 dsimp only
 by_cases c:(t.place[below t.place j]? == some j)=true
 ·right
  rw[Xp c]
  have e:=Yb c
  obtain⟨hl,ev⟩:=Ys.mp e
  exact⟨_,rfl,hl,by rw[<-ev];exact q1b hl⟩
 ·left
  rw[Xm c];rfl
theorem KD {t:SetTable} (hd:t.dummies = #[]) {j:Nat} (hj:j∉t.place.toList):t.slot j = .empty:=by
 rcases rN hd j with h | ⟨_,_,_,h⟩
 ·exact h
 ·exact absurd h hj
theorem Di:∀ {l l':List Nat},l.Nodup->(∀ x∈l,x∈l')->l.length <= l'.length
 | [],_,_,_=>YW _
 | a :: l,l',hn,hs=>by
  have ha:a∈l':=hs a (Nh ..)
  have hZ:=ZQ.mp hn
  have ih:=Di (l:=l) (l':=l'.erase a) hZ.2 fun x hx=>(List.mem_erase_of_ne (fun z=>hZ.1 (by rw[<-z];exact hx))).mpr (hs x (Nk _ hx))
  rw[List.length_erase_of_mem ha] at ih
  have:=List.length_pos_of_mem ha
  rw[Ex];omega
theorem KG {l:List Nat} {m:Nat} (h:l.length <= m):∃ e,e <= m/\e∉l:=by
 refine Zy fun no => ?_
 have all:∀ e,e∈List.range (m + 1)->e∈l:=fun e he=>Zy fun z=>no ⟨e,ZV (Ym.mp he),z⟩
 have:(List.range (m + 1)).length <= l.length:=Di q0w all
 rw[YV] at this
 omega
noncomputable def stateOf (t:SetTable) (i p:Nat):Probe:=⟨i,runEnd t.mask i - i,i,p,none⟩
theorem Dj (m i:Nat):runEnd m i - i <= 9:=by unfold runEnd;split<;>omega
section
variable {t:SetTable} {f:Nat->Int} {h:Int}
theorem nW (F:Nat) (p:Probe):probe.go t f h (F + 1) p=(match t.slot p.j with
  | .empty=>some (.empty p.j p.dummy)
  | .dummy=>probe.go t f h F (t.advance { p with dummy:=some p.j })
  | .live i=>if f i == h then some (.candidate p.j i (t.advance p)) else probe.go t f h F (t.advance p)):=rfl
theorem Dl (hd:t.dummies = #[]) (hf:∀ i,i < t.place.size->f i≠h):∀ (k F:Nat) (p:Probe),p.more=k->p.dummy=none →
  (∃ j,probe.go t f h (F + k + 1) p=some (.empty j none))\/probe.go t f h (F + k + 1) p=probe.go t f h F (stateOf t (leap t.mask p.i p.perturb).1 (leap t.mask p.i p.perturb).2)
 | 0,F,p,hm,rO=>by
  show (∃ j,probe.go t f h (F + 1) p=_)\/probe.go t f h (F + 1) p=_
  rw[nW]
  rcases rN hd p.j with e | ⟨i,e,hi,_⟩
  ·left;rw[e];exact⟨p.j,by rw[rO]⟩
  ·right
   rw[e]
   show (if (f i == h)=true then _ else _)=_
   rw[Xm (by intro z;exact hf i hi (Yb z))]
   unfold advance
   rw[hm,Xm (by omega),rO]
   rfl
 | k + 1,F,p,hm,rO=>by
  have ih:=Dl hd hf k F { p with j:=p.j + 1,more:=p.more - 1 } (by show p.more - 1=k;omega) rO
  rw[show F + (k + 1) + 1=(F + k + 1) + 1 by omega,nW]
  rcases rN hd p.j with e | ⟨i,e,hi,_⟩
  ·left;rw[e];exact⟨p.j,by rw[rO]⟩
  ·rw[e]
   show (∃ j,(if (f i == h)=true then _ else _)=_)\/(if (f i == h)=true then _ else _)=_
   rw[Xm (by intro z;exact hf i hi (Yb z))]
   have ea:t.advance p={ p with j:=p.j + 1,more:=p.more - 1 }:=by unfold advance;rw[Xp (by omega)]
   rw[ea]
   exact ih
theorem Dm (hd:t.dummies = #[]) (hf:∀ i,i < t.place.size->f i≠h):∀ (n F i p:Nat),10 * (n + 1) <= F->t.slot (lp t.mask n i p).1 = .empty->∃ j,probe.go t f h F (stateOf t i p)=some (.empty j none)
 | 0,F,i,p,hF,hs=>by
  obtain⟨G,rfl⟩:∃ G,F=G + 1:=⟨F - 1,by omega⟩
  rw[nW]
  have e:t.slot (stateOf t i p).j = .empty:=hs
  rw[e]
  exact⟨i,rfl⟩
 | n + 1,F,i,p,hF,hs=>by
  have hr:=Dj t.mask i
  obtain⟨G,hG⟩:∃ G,F=G + (runEnd t.mask i - i) + 1:=⟨F - (runEnd t.mask i - i) - 1,by omega⟩
  have:=Dl (f:=f) (h:=h) hd hf (runEnd t.mask i - i) G (stateOf t i p) rfl rfl
  rw[<-hG] at this
  rcases this with h1 | h1
  ·exact h1
  ·rw[h1]
   exact Dm hd hf n G _ _ (by omega) hs
theorem xF (h:Int):bits h < 2 ^ 64:=by
 unfold bits
 have:=YJ h (show (0:Int) < 2 ^ 64 by decide)
 have:=Y4 h (show (2 ^ 64:Int)≠0 by decide)
 omega
theorem KH (hd:t.dummies = #[]) (hm:Mk t.mask) (hz:t.place.size <= t.mask) (hf:∀ i,i < t.place.size->f i≠h):∃ j,t.probe f h (t.probeStart h)=some (.empty j none):=by
 obtain⟨e,he,ne⟩:=KG (l:=t.place.toList) (m:=t.mask) (by rw[My];exact hz)
 obtain⟨n,hn,en⟩:=reach hm (i:=bits h % (t.mask + 1)) (xF h) he
 exact Dm hd hf n _ _ _ (by unfold turns;omega) (by rw[en];exact KD hd ne)
end
section
variable {m:Nat} {owner:Array (Option Nat)}
theorem xG (F i p:Nat):layClean.free m owner (F + 1) i p=(match (List.range (runEnd m i + 1 - i)).find? fun k=>(owner.getD (i + k) (some 0)).isNone with
   | some k=>some (i + k)
   | none=>layClean.free m owner F (leap m i p).1 (leap m i p).2):=rfl
theorem xH:∀ (n F i p:Nat),n + 1 <= F->(owner.getD (lp m n i p).1 (some 0)).isNone=true->∃ j,layClean.free m owner F i p=some j/\(owner.getD j (some 0)).isNone=true
 | 0,F,i,p,hF,hs=>by
  obtain⟨G,rfl⟩:∃ G,F=G + 1:=⟨F - 1,by omega⟩
  rw[xG]
  cases hc:(List.range (runEnd m i + 1 - i)).find? fun k=>(owner.getD (i + k) (some 0)).isNone with
  | some k =>
   have:=q1x hc
   exact⟨i + k,rfl,this⟩
  | none =>
   have:=List.find?_eq_none.mp hc 0 (Ym.mpr (by unfold runEnd;split<;>omega))
   exact absurd hs this
 | n + 1,F,i,p,hF,hs=>by
  obtain⟨G,rfl⟩:∃ G,F=G + 1:=⟨F - 1,by omega⟩
  rw[xG]
  cases hc:(List.range (runEnd m i + 1 - i)).find? fun k=>(owner.getD (i + k) (some 0)).isNone with
  | some k =>
   have:=q1x hc
   exact⟨i + k,rfl,this⟩
  | none=>exact xH n G _ _ (by omega) hs
end
structure Ow (m:Nat) (owner:Array (Option Nat)) (k:Nat):Prop where
 size:owner.size=m + 1
 cnt:owner.toList.countP Option.isSome=k
 lt:∀ x,some x∈owner.toList->x < k
theorem xI:∀ {l:List (Option Nat)} {j k:Nat},l[j]? = some none->(l.set j (some k)).countP Option.isSome=l.countP Option.isSome + 1
 | [],j,k,h=>by simp at h
 | x :: l,0,k,h=>by
  simp at h;subst h
  rw[YA,Zi,Zi];rfl
 | x :: l,j + 1,k,h=>by
  simp at h
  rw[YB,Zi,Zi,xI h];omega
theorem getD_none {owner:Array (Option Nat)} {j:Nat} (h:(owner.getD j (some 0)).isNone=true):owner.toList[j]? = some none:=by
 rw[YD] at h
 rw[Yh]
 cases e:owner[j]? with
 | none=>rw[e] at h;cases h
 | some x =>
  rw[e] at h
  cases x with
  | none=>rfl
  | some y=>cases h
theorem Dp {m:Nat} {owner:Array (Option Nat)} {k:Nat} (O:Ow m owner k) (hk:k <= m):∃ e,e <= m/\(owner.getD e (some 0)).isNone=true:=by
 refine Zy fun no => ?_
 have all:∀ x∈owner.toList,x.isSome=true:=by
  intro x hx
  obtain⟨e,he⟩:=Xq.mp hx
  cases x with
  | some y=>rfl
  | none =>
   have hl:=(oP.mp he).1
   rw[My,O.size] at hl
   refine absurd ⟨e,ZV hl,?_⟩ no
   rw[YD,<-Yh,he];rfl
 have:=List.countP_eq_length.mpr all
 rw[O.cnt,My,O.size] at this
 omega
theorem KI {m:Nat} {owner:Array (Option Nat)} {k:Nat} (hm:Mk m) (O:Ow m owner k) (hk:k <= m) (h:Int):∃ j,layClean.free m owner (turns m) (bits h % (m + 1)) (bits h)=some j/\Ow m (owner.setIfInBounds j (some k)) (k + 1):=by
 obtain⟨e,he,hn⟩:=Dp O hk
 obtain⟨n,hZ,en⟩:=reach hm (i:=bits h % (m + 1)) (xF h) he
 obtain⟨j,ej,hj⟩:=xH (m:=m) (owner:=owner) n (turns m) (bits h % (m + 1)) (bits h) (by unfold turns;omega) (by rw[en];exact hn)
 refine⟨j,ej,by rw[q1c];exact O.size,?_,fun x hx => ?_⟩
 ·rw[Y_,xI (getD_none hj),O.cnt]
 ·rw[Y_] at hx
  rcases q08 hx with h | h
  ·exact Za (O.lt x h)
  ·cases h;exact Zj _
theorem Dq (m:Nat):Ow m (Array.replicate (m + 1) none) 0:=by
 refine⟨by simp,?_,fun x hx => ?_⟩
 ·rw[q0l]
  exact List.countP_eq_zero.mpr fun x hx=>by rw[Z8 hx];decide
 ·rw[q0l] at hx
  cases Z8 hx
noncomputable def iK (m:Nat) (owner:Array (Option Nat)):List (Nat × Nat):=(List.range (m + 1)).filterMap fun j=>(owner.getD j none).map (j,·)
theorem Dr {m:Nat} {owner:Array (Option Nat)} {k:Nat} (O:Ow m owner k):(iK m owner).length=k:=by
 unfold iK
 rw[q0t,<-O.cnt]
 have e:owner.toList=(List.range (m + 1)).map fun j=>owner.getD j none:=by
  refine ZW fun i => ?_
  rw[Yh,Ni]
  by_cases hi:i < m + 1
  ·rw[YQ hi,q1y,X8 (by rw[O.size];exact hi),YD,X8 (by rw[O.size];exact hi)];rfl
  ·rw[Array.getElem?_eq_none (by rw[O.size];omega),YT (by rw[YV];omega)];rfl
 rw[e,List.countP_map]
 refine List.countP_congr fun j _ => ?_
 simp
theorem KJ {α : Type} {es:Array α} {order:Array Nat} (h:∀ k∈order.toList,k < es.size):(order.filterMap (es[·]?)).size=order.size/\∀ e∈(order.filterMap (es[·]?)).toList,e∈es.toList:=by
 constructor
 ·rw[<-My,ZK,q0t,List.countP_eq_length.mpr fun k hk => ?_,My]
  rw[X8 (h k hk)];rfl
 ·intro e he
  rw[ZK] at he
  obtain⟨k,_,q⟩:=Zw.mp he
  exact Xq.mpr ⟨k,by rw[Yh];exact q⟩
theorem KN (t:SetTable) (hd:t.dummies = #[]) (j:Nat):(t.put j).1.dummies = #[]/\(t.put j).1.mask=t.mask/\(t.put j).1.place.size=t.place.size + 1/\(t.put j).1.led=t.led/\(t.put j).1.plain=t.plain/\(t.put j).1.moves=t.moves/\(t.put j).1.finger=t.finger:=by
 unfold put
 dsimp only
 rw[hd,Dh]
 refine⟨rfl,rfl,?_,rfl,rfl,rfl,rfl⟩
 unfold insertAt
 simp only[Array.size_append,q1z,Array.size_extract]
 omega
theorem KO {α : Type} (xs:Array α) (p:Nat) (x : α):(insertAt xs p x).size=xs.size + 1:=by
 unfold insertAt
 simp only[Array.size_append,q1z,Array.size_extract]
 omega
end LJS
namespace LJS
open PySem PySem.SetTable PyProof.Rows
structure eW (t:SetTable) (es:Array (Int × Value)) (hs:List Int):Prop where
 rP:t.dummies = #[]
 rQ:Mk t.mask
 mJ:t.place.size=es.size
 num:es.size=hs.length
 h9:t.tooFull=false
 ins:∀ e∈es.toList,e.1∈hs
noncomputable def jG (h:Heap) (S:Addr) (hs:List Int):Prop:=∃ o es ep t,h.get? S=some o/\o.ExactSet/\o.data = .set es ep t/\eW t es hs
section
variable {t:SetTable} {es:Array (Int × Value)} {hs:List Int}
theorem eW.fill (T:eW t es hs):t.fill=es.size:=by
 unfold SetTable.fill
 rw[T.mJ,T.rP];rfl
theorem eW.lt (T:eW t es hs):es.size * 5 < t.mask * 3:=by
 have:=T.h9
 unfold tooFull at this
 rw[T.fill] at this
 have:=of_decide_eq_false this
 omega
theorem eW.fits (T:eW t es hs):t.fits es.size=true:=by
 have:=T.lt
 unfold SetTable.fits
 rw[T.fill,T.mJ]
 simp
 omega
theorem eW.rR (T:eW t es hs):t.gaveWay=false:=by
 unfold SetTable.gaveWay
 rcases T.rQ with h | h | h<;>rw[h]<;>rfl
end
theorem KP:sizeAbove (grown 5) - 1=31:=by decide +kernel
theorem KQ:sizeAbove (grown 19) - 1=127:=by decide +kernel
section
variable {prog:Program} {w:World} {A:Around} {E:Value->Shared->Prop} {s:Shared}
end
end LJS
namespace LJS
open PySem PySem.SetTable
noncomputable def Up (xs:Array Nat):Prop:=xs.toList.Pairwise (· < ·)
theorem Up.lt {xs:Array Nat} (u:Up xs) {i k:Nat} (KR:i < k) (hk:k < xs.size):xs[i]'(by omega) < xs[k]:=by
 have:=Z7.mp u i k (by rw[My];omega) (by rw[My];exact hk) KR
 simpa using this
theorem xJ {xs:Array Nat} (u:Up xs) (j:Nat):∀ (fuel lo hi:Nat),hi <= xs.size->lo <= hi->hi - lo <= fuel->(∀ i,(h:i < xs.size)->i < lo->xs[i] < j)->(∀ i,(h:i < xs.size)->hi <= i->j <= xs[i]) →
  below.go xs j fuel lo hi <= xs.size/\(∀ i,(h:i < xs.size)->i < below.go xs j fuel lo hi->xs[i] < j)/\(∀ i,(h:i < xs.size)->below.go xs j fuel lo hi <= i->j <= xs[i])
 | 0,lo,hi,h1,h2,h3,a,b=>by
  have:lo=hi:=by omega
  subst this
  exact⟨h1,a,b⟩
 | fuel + 1,lo,hi,h1,h2,h3,a,b=>by
  unfold below.go
  by_cases c:lo < hi
  ·rw[Xp c]
   have hm:(lo + hi) / 2 < xs.size:=by omega
   have em:xs.getD ((lo + hi) / 2) j=xs[(lo + hi) / 2]:=by rw[YD,X8 hm];rfl
   simp only[em]
   by_cases d:xs[(lo + hi) / 2] < j
   ·rw[Xp d]
    refine xJ u j fuel _ hi h1 (by omega) (by omega) (fun i b8 hl => ?_) b
    by_cases e:i < (lo + hi) / 2
    ·exact Nat.lt_trans (u.lt e hm) d
    ·have:i=(lo + hi) / 2:=by omega
     subst this;exact d
   ·rw[Xm d]
    refine xJ u j fuel lo _ (by omega) (by omega) (by omega) a fun i b8 hl => ?_
    by_cases e:(lo + hi) / 2 < i
    ·exact Zb (q0d (q1k d) (u.lt e b8))
    ·have:i=(lo + hi) / 2:=by omega
     subst this;exact q1k d
  ·rw[Xm c]
   have:lo=hi:=by omega
   subst this
   exact⟨h1,a,b⟩
theorem vx {xs:Array Nat} (u:Up xs) (j:Nat):below xs j <= xs.size/\(∀ i,(h:i < xs.size)->i < below xs j->xs[i] < j)/\(∀ i,(h:i < xs.size)->below xs j <= i->j <= xs[i]) :=
 xJ u j xs.size 0 xs.size (sG _) (YW _) (by omega) (fun i _ h=>by omega) (fun i h h'=>by omega)
theorem KU {t:SetTable} (u:Up t.place) {j:Nat} (hj:j∉t.place.toList):Up (t.put j).1.place:=by
 obtain⟨h0,h1,h2⟩:=vx u j
 show Up (insertAt t.place (below t.place j) j)
 unfold Up insertAt
 generalize below t.place j=p at h0 h1 h2
 have eL:(((t.place.extract 0 p).push j) ++ t.place.extract p t.place.size).toList=t.place.toList.take p ++ ([j] ++ t.place.toList.drop p):=by
  simp only[Array.toList_append,q0m,Array.toList_extract,q09,q0T,Nat.sub_zero,ZA]
  have e2:List.take (t.place.size - p) (List.drop p t.place.toList)=List.drop p t.place.toList:=Yz (by rw[Zk,My];exact sG _)
  rw[e2]
 rw[eL]
 have lo:∀ x∈t.place.toList.take p,x < j:=by
  intro x hx
  obtain⟨i,hi,e⟩:=YX.mp hx
  rw[Yp,My] at hi
  rw[List.getElem_take] at e
  have:=h1 i (by omega) (by omega)
  rw[<-e];simpa using this
 have b8:∀ x∈t.place.toList.drop p,j < x:=by
  intro x hx
  obtain⟨i,hi,e⟩:=YX.mp hx
  rw[Zk,My] at hi
  rw[List.getElem_drop] at e
  have:=h2 (p + i) (by omega) (by omega)
  have vy:j <= x:=by rw[<-e];simpa using this
  refine Nat.lt_of_le_of_ne vy fun z=>hj ?_
  rw[z];exact List.mem_of_mem_drop hx
 refine List.pairwise_append.mpr ⟨u.sublist (List.take_sublist _ _),?_,fun a ha b hb => ?_⟩
 ·exact Zl.mpr ⟨b8,u.sublist (List.drop_sublist _ _)⟩
 ·rcases X7.mp hb with rfl | hb
  ·exact lo a ha
  ·exact Nat.lt_trans (lo a ha) (b8 b hb)
theorem KW (n:Nat) (f:Nat->Option Nat):(((List.range n).filterMap fun j=>(f j).map fun x=>(j,x)).map (·.1)).Pairwise (· < ·):=by
 rw[ZX]
 refine List.Pairwise.filterMap _ (fun a a' cA b hb b' hb' => ?_) (List.pairwise_lt_range (n:=n))
 obtain⟨x,_,rfl⟩:=Xo.mp hb
 obtain⟨y,_,rfl⟩:=Xo.mp hb'
 exact cA
theorem KY (m:Nat) (owner:Array (Option Nat)):((iK m owner).map (·.1)).Pairwise (· < ·):=KW (m + 1) fun j=>owner.getD j none
theorem xK {t:SetTable} {f:Nat->Int} {h:Int}:∀ {fuel:Nat} {p:Probe} {j:Nat} {d:Option Nat},probe.go t f h fuel p=some (.empty j d)->t.slot j = .empty
 | 0,_,_,_,e=>nomatch e
 | fuel + 1,p,j,d,e=>by
  rw[nW] at e
  cases q:t.slot p.j with
  | empty =>
   rw[q] at e
   cases e
   exact q
  | dummy =>
   rw[q] at e
   exact xK e
  | live i =>
   rw[q] at e
   by_cases c:(f i == h)=true
   ·simp only[c,ZL] at e;cases e
   ·simp only[c,YY] at e;exact xK e
theorem KZ {t:SetTable} (u:Up t.place) {j:Nat} (e:t.slot j = .empty):j∉t.place.toList:=by
 intro hm
 obtain⟨i,hi,ei⟩:=YX.mp hm
 have b8:i < t.place.size:=by rw[<-My];exact hi
 have xM:t.place[i]=j:=by simpa using ei
 obtain⟨h0,h1,h2⟩:=vx u j
 have a:¬ i < below t.place j:=fun z=>by have:=h1 i b8 z;omega
 have b:¬ below t.place j < i:=fun z=>by
  have:=h2 (below t.place j) (by omega) (sG _)
  have:=u.lt z b8
  omega
 have eb:below t.place j=i:=by omega
 unfold slot at e
 rw[eb] at e
 have:(t.place[i]? == some j)=true:=by rw[X8 b8,xM];simp
 simp only[this,ZL] at e
 cases e
noncomputable def kI (owner:Array (Option Nat)) (k:Nat):Prop:=(owner.toList.filterMap id).Perm (List.range k)
theorem xN:∀ {l:List (Option Nat)} {j k:Nat},l[j]? = some none->((l.set j (some k)).filterMap id).Perm (k :: l.filterMap id)
 | [],j,k,h=>by simp at h
 | x :: l,0,k,h=>by
  simp at h;subst h
  rw[YA]
  show (k :: l.filterMap id).Perm (k :: l.filterMap id)
  exact q1G _
 | x :: l,j + 1,k,h=>by
  simp at h
  rw[YB]
  cases x with
  | none =>
   show ((l.set j (some k)).filterMap id).Perm (k :: l.filterMap id)
   exact xN h
  | some y =>
   show (y :: (l.set j (some k)).filterMap id).Perm (k :: y :: l.filterMap id)
   exact (List.Perm.cons y (xN h)).trans (List.Perm.swap _ _ _)
theorem K4 {owner:Array (Option Nat)} {j k:Nat} (P:kI owner k) (h:owner.toList[j]? = some none):kI (owner.setIfInBounds j (some k)) (k + 1):=by
 unfold kI at P ⊢
 rw[Y_,List.range_succ]
 exact (xN h).trans ((List.Perm.cons k P).trans (List.perm_append_singleton k _).symm)
theorem K5 {m:Nat} {owner:Array (Option Nat)} {k:Nat} (hm:Mk m) (O:Ow m owner k) (Pm:kI owner k) (hk:k <= m) (h:Int):∃ j,layClean.free m owner (turns m) (bits h % (m + 1)) (bits h)=some j/\Ow m (owner.setIfInBounds j (some k)) (k + 1)/\kI (owner.setIfInBounds j (some k)) (k + 1):=by
 obtain⟨e,he,hn⟩:=Dp O hk
 obtain⟨n,hZ,en⟩:=reach hm (i:=bits h % (m + 1)) (xF h) he
 obtain⟨j,ej,hj⟩:=xH (m:=m) (owner:=owner) n (turns m) (bits h % (m + 1)) (bits h) (by unfold turns;omega) (by rw[en];exact hn)
 refine⟨j,ej,⟨by rw[q1c];exact O.size,?_,fun x hx => ?_⟩,K4 Pm (getD_none hj)⟩
 ·rw[Y_,xI (getD_none hj),O.cnt]
 ·rw[Y_] at hx
  rcases q08 hx with h | h
  ·exact Za (O.lt x h)
  ·cases h;exact Zj _
theorem Ds {m:Nat} (hm:Mk m):∀ (hs:List Int) (owner:Array (Option Nat)) (k:Nat),Ow m owner k->kI owner k->k + hs.length <= m + 1 →
  ∃ aU,(hs.foldl (init:=some (owner,k)) fun acc h=>do
   let (owner,k) <- acc
   let j <- layClean.free m owner (turns m) (bits h % (m + 1)) (bits h)
   pure (owner.setIfInBounds j (some k),k + 1))=some (aU,k + hs.length)/\Ow m aU (k + hs.length)/\kI aU (k + hs.length)
 | [],owner,k,O,Pm,_=>⟨owner,rfl,O,Pm⟩
 | h :: hs,owner,k,O,Pm,hl=>by
  rw[Ex] at hl ⊢
  obtain⟨j,ej,O',P'⟩:=K5 hm O Pm (by omega) h
  obtain⟨o2,e2,O2,P2⟩:=Ds hm hs _ (k + 1) O' P' (by omega)
  refine⟨o2,?_,by rw[show k + (hs.length + 1)=k + 1 + hs.length by omega];exact⟨O2,P2⟩⟩
  rw[q0J,show k + (hs.length + 1)=k + 1 + hs.length by omega,<-e2]
  congr 1
  show (do let j <- layClean.free m owner (turns m) (bits h % (m + 1)) (bits h);pure (owner.setIfInBounds j (some k),k + 1))=_
  rw[ej];rfl
theorem K6 (m:Nat):kI (Array.replicate (m + 1) none) 0:=by
 unfold kI
 rw[q0l,List.filterMap_eq_nil_iff.mpr fun x hx=>by rw[Z8 hx];rfl]
 exact q1G _
theorem K7 {m:Nat} (hm:Mk m) (hs:Array Int) (hz:hs.size <= m + 1):∃ owner,layClean m hs=some owner/\Ow m owner hs.size/\kI owner hs.size:=by
 obtain⟨o,e,O,Pm⟩:=Ds hm hs.toList _ 0 (Dq m) (K6 m) (by rw[My];omega)
 rw[Yx,My] at O Pm
 refine⟨o,?_,O,Pm⟩
 unfold layClean
 rw[<-Array.foldl_toList,e];rfl
theorem K8 {m:Nat} {owner:Array (Option Nat)} (hs:owner.size=m + 1):(iK m owner).map (·.2)=owner.toList.filterMap id:=by
 unfold iK
 rw[List.map_filterMap]
 have e:owner.toList=(List.range (m + 1)).map fun j=>owner.getD j none:=by
  refine ZW fun i => ?_
  rw[Yh,Ni]
  by_cases hi:i < m + 1
  ·rw[YQ hi,q1y,X8 (by rw[hs];exact hi),YD,X8 (by rw[hs];exact hi)];rfl
  ·rw[Array.getElem?_eq_none (by rw[hs];omega),YT (by rw[YV];omega)];rfl
 rw[e,List.filterMap_map]
 congr 1
 funext j
 show Option.map (fun x:Nat × Nat=>x.2) (Option.map (fun x=>(j,x)) (owner.getD j none))=owner.getD j none
 cases owner.getD j none<;>rfl
end LJS
namespace LJS
open PySem PySem.SetTable PyProof.Rows
section
variable {t:SetTable} {es:Array (Int × Value)} {led:Bool} {ks:List Int}
end
section
variable {prog:Program} {w:World} {A:Around} {E:Value->Shared->Prop} {s:Shared}
theorem Dt {ks:List Int}:∀ {vs:List Value},ItemsAre (intKind prog w) ks vs->∀ v∈vs,∃ i t,v = .int i t:=by
 induction ks with
 | nil=>intro vs h v hv;cases h;cases hv
 | cons k ks ih =>
  intro vs h v hv
  cases h with
  | cons h1 h2 =>
   rcases X7.mp hv with rfl | hv
   ·obtain⟨t,e⟩:=Value.isInt_shape (k:=k) (v:=v) (by first | exact h1 | simpa [intKind] using h1)
    exact⟨_,_,e⟩
   ·exact ih h2 v hv
theorem K9 {ks:List Int} {a:Addr} {Q:Bool->Shared->Prop} (hk:IsTupleKey (intKind prog w) s.heap ks a) (h:∀ b,Q b s):wpAny (model prog w) A (hashByValue 8 (.ref a)) Q E s:=by
 have hT:=hk.typeIs
 obtain⟨o,ai,n,ho,_,hd,hi⟩:=hk
 show wpAny _ _ (hashByValue (7 + 1) (.ref a)) _ _ _
 unfold hashByValue
 refine lJ (wpAny_specialOf hT F.slot_tuple_hash.lookup ?_)
 show wpAny _ _ (seqItems? (.ref a) >>= _) _ _ s
 refine lJ (Z1 ho hd ?_)
 refine lJ ?_
 show wpAny _ _ (forIn ai _ _) _ _ s
 rw[<-q0e]
 refine Z5 _ (fun rest _ s'=>s'=s/\∀ v∈rest,∃ i t,v=Value.int i t) _ ?_ ?_ _ _ ⟨rfl,Dt hi⟩
 ·rintro v rest r s' ⟨rfl,eY⟩
  obtain⟨i,t,rfl⟩:=eY v Nh
  have e:hashByValue 7 (.int i t)=pure true:=by unfold hashByValue;rfl
  rw[e]
  refine lJ (vK ?_)
  simp only[Zu,Ye,YY]
  exact vK ⟨rfl,fun u hu=>eY u (Nk _ hu)⟩
 ·rintro ⟨r1,r2⟩ s' ⟨rfl,_⟩
  cases r1 with
  | none=>exact vK (h _)
  | some b=>exact vK (h _)
theorem xO {h h':Heap} {ks:List Int} {a:Addr} (x:IsTupleKey (intKind prog w) h ks a) (k:∀ o,h.get? a=some o->h'.get? a=some o):IsTupleKey (intKind prog w) h' ks a:=by
 obtain⟨o,ai,n,ho,r⟩:=x
 exact⟨o,ai,n,k o ho,r⟩
noncomputable abbrev hT (prog:Program) (w:World) (ks:List Int):Int:=tupleKeyHash (intKind prog w) ks
theorem K_ {h h':Heap} {S:Addr} {hs:List Int} (x:jG h S hs) (k:∀ o,h.get? S=some o->h'.get? S=some o):jG h' S hs:=by
 obtain⟨o,es,ep,t,ho,r⟩:=x
 exact⟨o,es,ep,t,k o ho,r⟩
end
section
variable {prog:Program} {w:World} {A:Around} {R:Result->Shared->Prop} {I S:Addr} {fp wr:List Addr} {G:Array GenState->Array GenState->Prop} {n:Nat} {P:Nat->Value->Prop} {St:Nat->Shared->Prop}
end
noncomputable abbrev fZ (led:Bool):Obj:={ cls := .type "set",dict:=none,data := .set #[] 0 (.fresh 0 0 led) }
section
variable {prog:Program} {w:World} {A:Around} {E:Value->Shared->Prop} {s:Shared}
end
section
variable {prog:Program} {w:World} {A:Around} {I S:Addr} {o:Obj} {es:Array (Int × Value)} {ep:Nat} {t:SetTable} {ks:List Int}
end
section
variable {prog:Program} {w:World} {A:Around} {S:Addr} {o:Obj} {es:Array (Int × Value)} {ep:Nat} {t:SetTable} {ks:List Int}
end
end LJS
namespace L2
open PySem PySem.Spec PyProof.Rows
noncomputable abbrev Key:=Sum Int Str
noncomputable def Du:Key->Value->Bool
 | .inl k,v=>Value.isInt k v
 | .inr x,v=>Value.isStrOf x v
noncomputable def xP (w:World):Key->Int
 | .inl k=>hashInt k
 | .inr x=>hashStr w x
theorem lh:∀ {k:Key} {v:Value},Du k v=true->(∃ i t,k=Sum.inl i/\v=Value.int i t)\/(∃ x t,k=Sum.inr x/\v=Value.str x t)
 | .inl i,v,h=>by
  obtain⟨t,e⟩:=Value.isInt_shape (k:=i) (v:=v) h
  exact .inl ⟨i,t,rfl,e⟩
 | .inr x,v,h=>by
  obtain⟨t,e⟩:=Value.isStrOf_shape (x:=x) (v:=v) h
  exact .inr ⟨x,t,rfl,e⟩
theorem La (a b:Int):decide ((Sum.inl a:Key)=Sum.inl b)=(a == b):=by
 by_cases e:a=b
 ·subst e;simp
 ·have h:¬ (Sum.inl a:Key)=Sum.inl b:=fun q=>e (Sum.inl.inj q)
  rw[Yc h]
  exact (beq_eq_false_iff_ne.mpr e).symm
theorem Lb (a b:Str):decide ((Sum.inr a:Key)=Sum.inr b)=decide (a=b):=by
 by_cases e:a=b
 ·subst e;simp
 ·have h:¬ (Sum.inr a:Key)=Sum.inr b:=fun q=>e (Sum.inr.inj q)
  rw[Yc h,Yc e]
theorem Lc (a:Int) (b:Str):decide ((Sum.inl a:Key)=Sum.inr b)=false:=Yc (fun q=>nomatch q)
theorem Ld (a:Str) (b:Int):decide ((Sum.inr a:Key)=Sum.inl b)=false:=Yc (fun q=>nomatch q)
noncomputable def Dv (prog:Program) (w:World):PySem.KeyKind prog w Key where
 is:=Du
 hash:=xP w
 inj:=fun v a b ha hb=>by
  rcases lh ha with⟨i,t,rfl,rfl⟩ | ⟨x,t,rfl,rfl⟩
  ·rcases lh hb with⟨j,u,rfl,e⟩ | ⟨y,u,rfl,e⟩
   ·injection e with e1 _;rw[e1]
   ·exact nomatch e
  ·rcases lh hb with⟨j,u,rfl,e⟩ | ⟨y,u,rfl,e⟩
   ·exact nomatch e
   ·injection e with e1 _;rw[e1]
 byValue:=fun k v h=>by
  rcases lh h with⟨i,t,rfl,rfl⟩ | ⟨x,t,rfl,rfl⟩<;>rfl
 pyHash:=fun hv h=>by
  rcases lh hv with⟨i,t,rfl,rfl⟩ | ⟨x,t,rfl,rfl⟩
  ·exact wpAny_pyHash_int h
  ·exact wpAny_pyHash_str h
 eqBool:=fun hu hv h=>by
  rcases lh hu with⟨i,t,rfl,rfl⟩ | ⟨x,t,rfl,rfl⟩
  ·rcases lh hv with⟨j,u,rfl,rfl⟩ | ⟨y,u,rfl,rfl⟩
   ·rw[La] at h;exact wpAny_eqBool_int h
   ·rw[Lc] at h;exact q0U i t y u _ _ _ _ h
  ·rcases lh hv with⟨j,u,rfl,rfl⟩ | ⟨y,u,rfl,rfl⟩
   ·rw[Ld] at h;exact q0V x t j u _ _ _ _ h
   ·rw[Lb] at h;exact wpAny_eqBool_str h
 «strs» := fun k x t v h=>by
  rcases lh h with⟨i,u,rfl,e⟩ | ⟨y,u,rfl,e⟩
  ·exact nomatch e
  ·injection e with e1 _
   subst e1
   cases v<;>rfl
inductive V where
 | non | bl (b:Bool) | int (i:Int) | str (x:Str) | byt (b:Array UInt8) | flt (b:UInt64) | ref (a:Addr) | ty (n:String)
 deriving DecidableEq
noncomputable def RelV:V->Value->Prop
 | .non,u=>u=Value.none
 | .bl b,u=>u=Value.bool b
 | .int i,u=>∃ t,u=Value.int i t
 | .str x,u=>∃ t,u=Value.str x t
 | .byt b,u=>∃ t,u=Value.bytes b t
 | .flt b,u=>∃ t,u=Value.float b t
 | .ref a,u=>u=Value.ref a
 | .ty n,u=>u=Value.type n
noncomputable abbrev Vals:List V->List Value->Prop:=Paired RelV
theorem Vals.length {xs:List V} {us:List Value} (r:Vals xs us):xs.length=us.length:=Paired.length r
theorem Vals.get:∀ {xs:List V} {us:List Value} {i:Nat} {x:V},Vals xs us->xs[i]? = some x->∃ u,us[i]? = some u/\RelV x u
 | _,_,_,_,.nil,e=>by simp at e
 | _,_,0,_,.cons r _,e=>by simp at e;subst e;exact⟨_,rfl,r⟩
 | _,_,i + 1,x,.cons _ t,e=>by
  obtain⟨u,h1,h2⟩:=Vals.get (i:=i) (x:=x) t (by simpa using e)
  exact⟨u,by simpa using h1,h2⟩
theorem Vals.set {x:V} {u:Value} (r:RelV x u):∀ {xs:List V} {us:List Value} (i:Nat),Vals xs us->Vals (xs.set i x) (us.set i u)
 | _,_,_,.nil => .nil
 | _,_,0,.cons _ t => .cons r t
 | _,_,i + 1,.cons q t => .cons q (Vals.set r i t)
theorem Vals.append:∀ {xs ys:List V} {us ws:List Value},Vals xs us->Vals ys ws->Vals (xs ++ ys) (us ++ ws)
 | _,_,_,_,.nil,s=>s
 | _,_,_,_,.cons r t,s => .cons r (Vals.append t s)
theorem Vals.take:∀ {xs:List V} {us:List Value} (n:Nat),Vals xs us->Vals (xs.take n) (us.take n)
 | _,_,0,_ => .nil
 | _,_,_ + 1,.nil => .nil
 | _,_,n + 1,.cons r t => .cons r (Vals.take n t)
theorem Vals.drop:∀ {xs:List V} {us:List Value} (n:Nat),Vals xs us->Vals (xs.drop n) (us.drop n)
 | _,_,0,r=>r
 | _,_,_ + 1,.nil => .nil
 | _,_,n + 1,.cons _ t=>Vals.drop n t
noncomputable def h_:Option V->Option Value->Prop
 | some v,some u=>RelV v u
 | none,none=>True
 | _,_=>False
noncomputable def KV {κ : Type}:List (κ × V)->List (κ × Value)->Prop:=Paired fun (p : κ × V) (q : κ × Value)=>p.1=q.1/\RelV p.2 q.2
noncomputable def kV:Key->V
 | .inl i => .int i
 | .inr x => .str x
inductive HO where
 | lst (xs:List V)
 | tup (xs:List V)
 | dK (ax:List (Key × V)) | dT (ax:List (List Key × V))
 | set (S:Int->Bool) (n:Nat)
 | ins (C dx:Addr) (fs:List (Str × V))
 | own (x:Addr)
 | xd (fs:List (Str × V))
 | met (f x:Addr)
 | rng (lo hi:Int)
 | frz (o:Obj) (u:HO)
 | tbl (ps:Array Value)
 | ext (φ : Heap->Prop)
noncomputable abbrev Hp:=Addr->Option HO
noncomputable def upd (H:Hp) (a:Addr) (o:HO):Hp:=fun b=>if b=a then some o else H b
theorem a9 {H:Hp} {a:Addr} {o:HO}:upd H a o a=some o:=by unfold upd;rw[Xp rfl]
theorem aA {H:Hp} {a b:Addr} {o:HO} (h:b≠a):upd H a o b=H b:=by unfold upd;rw[Xm h]
theorem nX {H:Hp} {a b:Addr} {o u:HO} (h:H a=some o) (h':H b=some u) (d:o≠u):a≠b:=by
 intro e;subst e;rw[h] at h';exact d (Yi h')
theorem bK {H:Hp} {a b:Addr} {o:HO} (h:H a=some o) (h':H b=none):a≠b:=by
 intro e;subst e;rw[h] at h';cases h'
section
variable (P:Program) (w:World)
noncomputable def aK (H:Hp) (h:Heap) (a:Addr):HO->Prop
 | .lst xs=>xs.length <= sizeLine/\∃ (ai:List Value) (n:Nat),Vals xs ai/\h.get? a=some { cls := .type "list",data := .seq ai.toArray n }
 | .tup xs=>xs.length <= sizeLine/\∃ ai:List Value,Vals xs ai/\IsTup h a ai.toArray
 | .dK ax=>ax.length <= sizeLine/\(a == sysModules)=false/\∃ vs,KV ax vs/\h.DictOf (Dv P w) a vs
 | .dT ax=>ax.length <= sizeLine/\(a == sysModules)=false/\∃ xs:List (List Key × Addr × Value),
   Paired (fun (p:List Key × V) (q:List Key × Addr × Value)=>p.1=q.1/\H q.2.1=some (.tup (p.1.map kV))/\RelV p.2 q.2.2) ax xs ∧
   ∃ o es ep,h.get? a=some o/\o.ExactDict/\o.data = .dict es ep/\es.toList=xs.map (entryOfKey (tupleKind (Dv P w)))/\(xs.map (·.1)).Nodup
 | .set S n=>h.SetOf (intKind P w) a S n
 | .ins C dx fs=>H dx=some (.own a)/\fs.length <= 1000/\dx≠a/\h.get? a=some (PySem.W.instObj C dx) ∧
   ∃ mA,h.Ns1 dx mA/\(∀ f,h_ (fs.lookup f) (mA f))/\PySem.Within mA (fs.map (·.1))
 | .own _=>∃ o,h.get? a=some o
 | .xd fs=>∃ mA,h.Ns1 a mA/\∀ f,h_ (fs.lookup f) (mA f)
 | .rng lo hi=>∃ t u v,h.get? a=some { cls := .type "range",data := .fields #[.int lo t,.int hi u,.int 1 v] }
 | .frz o u=>h.get? a=some o/\aK H h a u
 | .tbl ps=>h.get? a=some { cls := .none,data := .fields ps }
 | .met f x=>h.get? a=some (PySem.W.methodObj (.ref f) (.ref x))
 | .ext φ => φ h/\(∃ o,h.get? a=some o)/\∀ h1 h2:Heap,φ h1->(∀ o,h1.get? a=some o->h2.get? a=some o) -> φ h2
noncomputable def cV (H:Hp) (h:Heap):Prop:=∀ a o,H a=some o->aK P w H h a o
end
section
variable {P:Program} {w:World} {H H':Hp} {h h':Heap} {a:Addr} {o:HO}
theorem aK.lt (x:aK P w H h a o):a < h.objs.size:=by
 cases o with
 | lst xs=>obtain⟨_,_,_,_,e⟩:=x;exact Ng e
 | tup xs=>obtain⟨_,_,_,p⟩:=x;exact p.lt
 | dK ax=>obtain⟨_,_,_,_,o,_,_,e,_⟩:=x;exact Ng e
 | dT ax=>obtain⟨_,_,_,_,o,_,_,e,_⟩:=x;exact Ng e
 | set S n=>obtain⟨o,_,_,_,e,_⟩:=x;exact Ng e
 | ins C dx fs=>obtain⟨_,_,_,e,_⟩:=x;exact Ng e
 | own y=>obtain⟨_,e⟩:=x;exact Ng e
 | xd fs=>obtain⟨_,⟨_,_,_,e,_⟩,_⟩:=x;exact Ng e
 | rng lo hi=>obtain⟨_,_,_,e⟩:=x;exact Ng e
 | frz ob u=>obtain⟨e,_⟩:=x;exact Ng e
 | tbl ps=>exact Ng (show h.get? a=some _ from x)
 | met f y=>exact Ng (show h.get? a=some _ from x)
 | ext φ => obtain⟨_,⟨_,e⟩,_⟩:=x;exact Ng e
theorem Paired.rS {α β : Type} {F G : α -> β -> Prop}:∀ {l₁ : List α} {l₂ : List β},Paired F l₁ l₂ -> (∀ a b,F a b->G a b)->Paired G l₁ l₂
 | _,_,.nil,_ => .nil
 | _,_,.cons r t,f => .cons (f _ _ r) (Paired.rS t f)
theorem aK.cN (x:aK P w H h a o) (k:∀ b u,(b=a\/H b=some (.own a))->h.get? b=some u->h'.get? b=some u)
  (ho:∀ b,H b=some (.own a)->H' b=some (.own a)) (ht:∀ b xs,H b=some (.tup xs)->H' b=some (.tup xs)):aK P w H' h' a o:=by
 induction o with
 | lst xs=>obtain⟨z,ai,n,r,e⟩:=x;exact⟨z,ai,n,r,k _ _ (.inl rfl) e⟩
 | tup xs=>obtain⟨z,ai,r,ob,e,c⟩:=x;exact⟨z,ai,r,ob,k _ _ (.inl rfl) e,c⟩
 | dK ax=>obtain⟨z,y,vs,r,ob,es,ep,e,c⟩:=x;exact⟨z,y,vs,r,ob,es,ep,k _ _ (.inl rfl) e,c⟩
 | dT ax =>
  obtain⟨z,y,xs,r,ob,es,ep,e,c⟩:=x
  exact⟨z,y,xs,Paired.rS r fun p q z=>⟨z.1,ht _ _ z.2.1,z.2.2⟩,ob,es,ep,k _ _ (.inl rfl) e,c⟩
 | set S n=>obtain⟨ob,es,ep,t,e,c⟩:=x;exact⟨ob,es,ep,t,k _ _ (.inl rfl) e,c⟩
 | ins C dx fs =>
  obtain⟨d,z,ne,e,mA,⟨od,es,ep,e2,c⟩,r⟩:=x
  exact⟨ho _ d,z,ne,k _ _ (.inl rfl) e,mA,⟨od,es,ep,k _ _ (.inr d) e2,c⟩,r⟩
 | own y=>obtain⟨ob,e⟩:=x;exact⟨ob,k _ _ (.inl rfl) e⟩
 | xd fs=>obtain⟨mA,⟨od,es,ep,e,c⟩,r⟩:=x;exact⟨mA,⟨od,es,ep,k _ _ (.inl rfl) e,c⟩,r⟩
 | rng lo hi=>obtain⟨t,u,v,e⟩:=x;exact⟨t,u,v,k _ _ (.inl rfl) e⟩
 | frz ob u ih=>obtain⟨e,q⟩:=x;exact⟨k _ _ (.inl rfl) e,ih q⟩
 | tbl ps =>
  have e:h.get? a=some { cls := .none,data := .fields ps }:=x
  show h'.get? a=some { cls := .none,data := .fields ps }
  exact k a _ (.inl rfl) e
 | met f y =>
  have e:h.get? a=some (PySem.W.methodObj (.ref f) (.ref y)):=x
  show h'.get? a=some (PySem.W.methodObj (.ref f) (.ref y))
  exact k a _ (.inl rfl) e
 | ext φ => obtain⟨p,⟨o,e⟩,st⟩:=x;exact⟨st _ _ p fun o q=>k _ _ (.inl rfl) q,⟨o,k _ _ (.inl rfl) e⟩,st⟩
theorem cV.lt (x:cV P w H h) (e:H a=some o):a < h.objs.size:=(x a o e).lt
theorem cV.fresh (x:cV P w H h) (e:h.objs.size <= a):H a=none:=by
 cases q:H a with
 | none=>rfl
 | some u=>exact absurd (X9 (x.lt q) e) (Y9 _)
theorem cV.kept (x:cV P w H h) (k:∀ b u,h.get? b=some u->h'.get? b=some u):cV P w H h':=fun a o e =>
 (x a o e).cN (fun b u _ q=>k b u q) (fun _ q=>q) fun _ _ q=>q
theorem cV.laid (x:cV P w H h) (k:∀ b u,h.get? b=some u->h'.get? b=some u) (hp:h.objs.size <= a) (new:aK P w (upd H a o) h' a o):cV P w (upd H a o) h':=fun b u e=>by
 have hn:=x.fresh hp
 by_cases hb:b=a
 ·subst hb;rw[a9] at e;cases e;exact new
 ·rw[aA hb] at e
  exact (x b u e).cN (fun c v _ q=>k c v q) (fun c q=>by rw[aA (bK q hn)];exact q) fun c xs q=>by rw[aA (bK q hn)];exact q
end
noncomputable def Rd (H:Hp) (a:Addr) (u:HO):Prop:=H a=some u\/∃ o,H a=some (.frz o u)
theorem Rd.ok {P:Program} {w:World} {H:Hp} {h:Heap} {a:Addr} {u:HO} (r:Rd H a u) (x:cV P w H h):aK P w H h a u:=by
 rcases r with r | ⟨o,r⟩
 ·exact x a u r
 ·obtain⟨_,q⟩:=x a _ r
  exact q
noncomputable def qr:Option HO->Prop
 | some (.lst _)=>True
 | some (.dK _)=>True
 | some (.dT _)=>True
 | some (.set _ _)=>True
 | some (.ins _ _ _)=>True
 | some (.ext _)=>True
 | _=>False
section
variable {P:Program} {w:World} {H:Hp} {h h':Heap} {x e:Addr} {o':HO}
theorem cV.write (ok:cV P w H h) (mu:qr (H x)) (he:e=x\/H e=some (.own x)) (k:∀ b u,b≠e->h.get? b=some u->h'.get? b=some u) (kJ:∃ u,h'.get? e=some u)
  (new:aK P w (upd H x o') h' x o'):cV P w (upd H x o') h':=fun b u q=>by
 have rT:∀ c y,H c=some (.own y)->c≠x:=fun c y r z=>by subst z;rw[r] at mu;exact mu
 have xQ:∀ c xs,H c=some (.tup xs)->c≠x:=fun c xs r z=>by subst z;rw[r] at mu;exact mu
 by_cases hb:b=x
 ·subst hb;rw[a9] at q;cases q;exact new
 ·rw[aA hb] at q
  by_cases nY:b=e
  ·have q':H b=some (.own x):=by
    rcases he with z | z
    ·exact absurd (nY.trans z) hb
    ·rw[nY];exact z
   rw[q] at q';cases q'
   obtain⟨v,hv⟩:=kJ
   exact⟨v,by rw[nY];exact hv⟩
  ·refine (ok b u q).cN (fun c v hc r=>k c v ?_ r) (fun c r=>by rw[aA (rT c b r)];exact r) fun c xs r=>by rw[aA (xQ c xs r)];exact r
   rcases hc with rfl | hc
   ·exact nY
   ·rintro rfl
    rcases he with z | z
    ·exact rT c b hc z
    ·rw[hc] at z;cases z;exact hb rfl
end
structure Un (fs ex:List Addr) (H H':Hp) (h h':Heap):Prop where
 keep:∀ b o,h.get? b=some o->H b=none->b∉fs->b∉ex->h'.get? b=some o
 slot:∀ b o,h.get? b=some o->H b=none->b∈fs->b∉ex->∃ sl,h'.get? b=some { o with slots:=sl }
 free:∀ b o,h.get? b=some o->H b=none->b∉ex->H' b=none
 there:∀ b o,h.get? b=some o->b∉ex->∃ o',h'.get? b=some o'
 cF:∀ b xs,H b=some (.tup xs)->H' b=some (.tup xs)
 cO:∀ b o u,H b=some (.frz o u)->H' b=some (.frz o u)
 cY:∀ b ps,H b=some (.tbl ps)->∃ more,H' b=some (.tbl (ps ++ more))
section
variable {fs Le ex Xi:List Addr} {H H1 H2:Hp} {h h1 h2 h':Heap} {a x e:Addr} {o:HO}
theorem Un.any (u:Un fs ex H H1 h h1) {b:Addr} {ob:Obj} (q:h.get? b=some ob) (n:H b=none) (hx:b∉ex):∃ sl,h1.get? b=some { ob with slots:=sl }:=by
 by_cases hb:b∈fs
 ·exact u.slot b ob q n hb hx
 ·exact⟨ob.slots,u.keep b ob q n hb hx⟩
theorem Un.kept (k:∀ b u,h.get? b=some u->h'.get? b=some u):Un fs ex H H h h' :=
 ⟨fun b ob q _ _ _=>k b ob q,fun b ob q _ _ _=>⟨ob.slots,k b ob q⟩,fun _ _ _ n _=>n,fun b ob q _=>⟨ob,k b ob q⟩,fun _ _ q=>q,fun _ _ _ q=>q,fun _ ps q=>⟨#[],by rw[q];simp⟩⟩
theorem Un.refl:Un fs ex H H h h:=Un.kept fun _ _ q=>q
theorem Un.laid (k:∀ b u,h.get? b=some u->h'.get? b=some u) (hp:h.objs.size <= a) (hn:H a=none):Un fs ex H (upd H a o) h h' where
 keep:=fun b u q _ _ _=>k b u q
 slot:=fun b u q _ _ _=>⟨u.slots,k b u q⟩
 free:=fun b u q n _=>by rw[aA (X_ (X9 (Ng q) hp))];exact n
 there:=fun b u q _=>⟨u,k b u q⟩
 cF:=fun b xs q=>by rw[aA (bK q hn)];exact q
 cO:=fun b u xs q=>by rw[aA (bK q hn)];exact q
 cY:=fun b ps q=>⟨#[],by rw[aA (bK q hn),q];simp⟩
theorem Un.write (mu:qr (H x)) (he:e=x\/H e=some (.own x)) (k:∀ b u,b≠e->h.get? b=some u->h'.get? b=some u) (kJ:∃ u,h'.get? e=some u):Un fs ex H (upd H x o) h h':=by
 have hx:∀ b,H b=none->b≠x:=fun b n z=>by subst z;rw[n] at mu;exact mu
 have hb:∀ b,H b=none->b≠e:=fun b n z=>by
  subst z
  rcases he with r | r
  ·exact hx b n r
  ·rw[n] at r;cases r
 have hm:∀ b u,H b=some u->¬ qr (some u)->b≠x:=fun b u q nm z=>by subst z;rw[q] at mu;exact nm mu
 refine⟨fun b u q n _ _=>k b u (hb b n) q,fun b u q n _ _=>⟨u.slots,k b u (hb b n) q⟩,fun b u q n _=>by rw[aA (hx b n)];exact n,fun b u q _ => ?_,
  fun b xs q=>by rw[aA (hm b _ q fun z=>z)];exact q,fun b u xs q=>by rw[aA (hm b _ q fun z=>z)];exact q,fun b ps q=>⟨#[],by rw[aA (hm b _ q fun z=>z),q];simp⟩⟩
 by_cases nY:b=e
 ·subst nY;exact kJ
 ·exact⟨u,k b u nY q⟩
end
noncomputable def vz (h:Heap) (H:Hp):List Addr:=(List.range h.objs.size).filter fun a=>(H a).isSome
noncomputable def eZ (h:Heap) (H:Hp):Heap:=PySem.W.hideAll h (vz h H)
theorem Lf (h:Heap) (H:Hp):(eZ h H).objs.size=h.objs.size:=PySem.W.hideAll_size _ _
theorem Lg {h:Heap} {H:Hp} {b:Addr} {o:Obj} (e:h.get? b=some o) (n:H b=none):(eZ h H).get? b=some o :=
 PySem.W.hideAll_get _ e fun hm=>by
  have q:(H b).isSome=true:=(Y0.mp hm).2
  rw[n] at q;simp at q
theorem Lh {h:Heap} {H:Hp} {b:Addr} {o:Obj} (e:(eZ h H).get? b=some o):h.get? b=some o/\H b=none:=by
 have e':h.get? b=some o:=PySem.W.of_hideAll (vz h H) e
 refine⟨e',?_⟩
 cases q:H b with
 | none=>rfl
 | some x =>
  have hm:b∈vz h H:=Y0.mpr ⟨Ym.mpr (Ng e'),by simp[q]⟩
  have z:(eZ h H).get? b=none:=PySem.W.hideAll_none (vz h H) hm
  rw[z] at e;cases e
structure Mod (K:PySem.W.Frag) (mg:Str->Option Value) (base:Heap):Prop where
 kK:K.In base
 glob:base.Ns mainGlobals mg
 blt:∃ mb,base.Ns builtinsNs mb/\∀ x:Str,x ≠ "__name__" -> mb x=bootBuiltins x
 nolimit:base.NoLimit
structure Cx where
 prog:Program
 w:World
 K:PySem.W.Frag
 mg:Str->Option Value
 base:Heap
 A:Around
 N:List Str
 s₀ : Shared
 H₀ : Hp
 env:Env
 outer:List Env
 stack:List Env
 ex:List Addr
 fn:Str->Bool
 calm:Bool
 pn:List (Addr × Obj)
 xe:Value->Shared->Prop
noncomputable def dP (l:List Env):List Addr:=l.filterMap (·.frame)
noncomputable abbrev Cx.fs (X:Cx):List Addr:=dP X.outer
noncomputable def mK (sc:Scope) (x:Str):Prop:=sc.names.lookup x=some .local\/sc.names.lookup x=some .cell\/sc.names.lookup x=some .free
noncomputable def Loc (sc:Scope) (x:Str):Prop:=sc.names.lookup x=some .local\/sc.names.lookup x=some .cell
noncomputable def Look (env:Env) (h:Heap) (m:Str->Option Value) (x:Str) (u:Value):Prop :=
 (env.kindOf x=some .local/\m x=some u)\/((env.kindOf x=some .cell\/env.kindOf x=some .free)/\∃ c,env.cells.lookup x=some c/\h.IsCell c (some u))
structure Cx.Ok (X:Cx):Prop where
 mod:Mod X.K X.mg X.base
 kind:X.env.scope.kind = .function
 glob:X.env.globals=mainGlobals
 blt:X.env.builtins=builtinsNs
 above:X.s₀.heap.objs.size <= X.env.locals
 inj:∀ x y c,X.env.cells.lookup x=some c->X.env.cells.lookup y=some c->x=y
 has:∀ x,(X.env.kindOf x=some .cell\/X.env.kindOf x=some .free)->∃ c,X.env.cells.lookup x=some c
 mL:∀ x c,X.fn x=true->X.env.cells.lookup x=some c->X.s₀.heap.objs.size <= c
 hd:X.calm=true->X.A.handled=none
 frames:X.A.frames=some X.stack
 nZ:X.stack=X.outer\/(X.stack=X.env :: X.outer/\X.env.frame=some X.env.locals)
 rV:∀ b∈X.ex,b≠X.env.locals/\∀ x c,X.env.cells.lookup x=some c->c≠b
 bs:∀ b o,X.base.get? b=some o->X.s₀.heap.get? b=some o/\X.H₀ b=none
 ju:X.base.objs.size <= X.s₀.heap.objs.size
 gy:∀ b o,X.base.get? b=some o->b∉X.ex
 ib:∀ b∈X.ex,b∉X.fs
 cP:X.s₀.heap.FunFrames X.base X.outer
 jH:∀ b∈X.fs,X.H₀ b=none
structure Inv (X:Cx) (pins:List (Addr × Obj)) (σ : List (Option V)) (H:Hp) (s:Shared):Prop where
 ok:X.Ok
 os:s.os=X.s₀.os
 bare:AllBare s.gens
 base:Un X.fs X.ex X.H₀ H X.s₀.heap s.heap
 loc:∃ m,s.heap.Ns X.env.locals m/\∀ (i:Nat) (x:Str) (v:V),X.N[i]? = some x -> σ[i]? = some (some v)->mK X.env.scope x->∃ u,RelV v u/\Look X.env s.heap m x u
 cell:∀ x c,X.env.cells.lookup x=some c->∃ v,s.heap.IsCell c v
 free:H X.env.locals=none
 bB:∀ x c,X.env.cells.lookup x=some c->H c=none
 pin:∀ p∈X.pn ++ pins,s.heap.get? p.1=some p.2/\H p.1=none/\p.1≠X.env.locals/\p.1∉X.fs/\∀ v,p.2.data ≠ .cell v
 aM:cV X.prog X.w H s.heap
 len : σ.length=X.N.length
section
variable {X:Cx} {pins:List (Addr × Obj)} {σ : List (Option V)} {H H':Hp} {s:Shared} {h':Heap}
theorem Cx.Ok.xR (ok:X.Ok) {b:Addr} {o:Obj} (e:X.base.get? b=some o):b∉X.fs:=fun hb=>by
 have:=(ok.cP.mem hb).1
 rw[e] at this;cases this
theorem Inv.bs (I:Inv X pins σ H s):∀ b o,X.base.get? b=some o->s.heap.get? b=some o/\H b=none:=fun b o e =>
 ⟨I.base.keep b o (I.ok.bs b o e).1 (I.ok.bs b o e).2 (I.ok.xR e) (I.ok.gy b o e),I.base.free b o (I.ok.bs b o e).1 (I.ok.bs b o e).2 (I.ok.gy b o e)⟩
theorem Inv.bk (I:Inv X pins σ H s):∀ b o,X.base.get? b=some o->s.heap.get? b=some o:=fun b o e=>(I.bs b o e).1
theorem Inv.mod (I:Inv X pins σ H s):Mod X.K X.mg X.base:=I.ok.mod
theorem Inv.cW (I:Inv X pins σ H s):X.K.In s.heap:=I.ok.mod.kK.keeps I.bk
theorem Inv.nolimit (I:Inv X pins σ H s):s.heap.NoLimit:=I.ok.mod.nolimit.keeps I.bk
theorem Inv.lt (I:Inv X pins σ H s):X.env.locals < s.heap.objs.size:=let ⟨_,hn,_⟩:=I.loc;hn.lt
theorem Inv.sz (I:Inv X pins σ H s):X.s₀.heap.objs.size <= s.heap.objs.size:=YF I.ok.above (Zb I.lt)
theorem Inv.xS (I:Inv X pins σ H s) {a:Addr} (h:s.heap.objs.size <= a):a∉X.fs:=fun hb=>by
 obtain⟨_,o,ho,_⟩:=I.ok.cP.mem hb
 exact absurd (X9 (Ng ho) (YF I.sz h)) (Y9 _)
theorem Inv.lj (I:Inv X pins σ H s):∀ x c,X.env.cells.lookup x=some c->c≠X.env.locals:=fun x c e z=>by
 obtain⟨v,o,ho,hd⟩:=I.cell x c e
 obtain⟨m,⟨o',es,ep,i5,Li,_⟩,_⟩:=I.loc
 rw[z,i5] at ho;cases ho;rw[Li] at hd;cases hd
theorem Inv.cP (I:Inv X pins σ H s):s.heap.FunFrames X.base X.outer:=by
 have all:∀ (l:List Env),(∀ b∈dP l,b∈X.fs)->X.s₀.heap.FunFrames X.base l->s.heap.FunFrames X.base l:=by
  intro l
  induction l with
  | nil=>intro _ _;trivial
  | cons env r ih =>
   intro hs hl
   obtain⟨hk,⟨L,o,hf,hn,ho,hd⟩,hr⟩:=hl
   have hL:L∈X.fs:=hs L (by unfold dP;rw[Zt,hf];exact Nh)
   obtain⟨sl,e⟩:=I.base.slot L o ho (I.ok.jH L hL) hL fun z=>I.ok.ib L z hL
   exact⟨hk,⟨L,_,hf,hn,e,hd⟩,ih (fun b hb=>hs b (by unfold dP;rw[Zt,hf];exact Nk _ hb)) hr⟩
 exact all X.outer (fun _ hb=>hb) I.ok.cP
theorem Inv.stack (I:Inv X pins σ H s):s.heap.FunFrames X.base X.stack:=by
 rcases I.ok.nZ with e | ⟨e,hf⟩
 ·rw[e];exact I.cP
 ·rw[e]
  obtain⟨m,hn,_⟩:=I.loc
  refine .cons (by rw[I.ok.kind];decide) hf hn ?_ I.cP
  exact Z2 (YF I.ok.ju I.ok.above)
theorem Inv.f6 (I:Inv X pins σ H s):∀ b∈dP X.stack,b∈X.env.locals :: X.fs:=fun b hb=>by
 rcases I.ok.nZ with e | ⟨e,hf⟩
 ·rw[e] at hb;exact Nk _ hb
 ·rw[e] at hb
  unfold dP at hb
  rw[Zt,hf] at hb
  exact hb
theorem Inv.dq (I:Inv X pins σ H s):∀ b∈dP X.stack,H b=none:=fun b hb=>by
 rcases X7.mp (I.f6 b hb) with e | hb
 ·rw[e];exact I.free
 ·obtain⟨_,o,ho,_⟩:=I.ok.cP.mem hb
  exact I.base.free b o ho (I.ok.jH b hb) fun z=>I.ok.ib b z hb
theorem Inv.step {g':Array GenState} {t':Nat} {d':Drawn} {ch:List Addr} (I:Inv X pins σ H s)
  (kM:∀ b∈ch,(b∈X.ex\/X.s₀.heap.objs.size <= b)/\b≠X.env.locals/\(∀ x c,X.env.cells.lookup x=some c->c≠b)/\∀ p∈X.pn ++ pins,p.1≠b)
  (keep:∀ b o,b≠X.env.locals->b∉X.fs->b∉ch->s.heap.get? b=some o->H b=none->h'.get? b=some o)
  (slot:∀ b o,b≠X.env.locals->b∈X.fs->b∉ch->s.heap.get? b=some o->H b=none->∃ sl,h'.get? b=some { o with slots:=sl }) (free:∀ b o,b∉ch->s.heap.get? b=some o->H b=none->H' b=none)
  (there:∀ b o,b∉ch->s.heap.get? b=some o->∃ o',h'.get? b=some o')
  (cF:∀ b xs,H b=some (.tup xs)->H' b=some (.tup xs)) (cO:∀ b o u,H b=some (.frz o u)->H' b=some (.frz o u)) (cY:∀ b ps,H b=some (.tbl ps)->∃ more,H' b=some (.tbl (ps ++ more)))
  (ns:∀ m,s.heap.Ns X.env.locals m->h'.Ns X.env.locals m) (aM:cV X.prog X.w H' h') (hg:AllBare g') :
  Inv X pins σ H' { s with heap:=h',gens:=g',drawn:=d',toks:=t' }:=by
 have Dw:∀ b o,X.s₀.heap.get? b=some o->b≠X.env.locals:=fun b o e=>X_ (X9 (Ng e) I.ok.above)
 have vA:∀ b o,X.s₀.heap.get? b=some o->b∉X.ex->b∉ch:=fun b o e hx hb=>by
  rcases (kM b hb).1 with z | z
  ·exact hx z
  ·exact absurd (X9 (Ng e) z) (Y9 _)
 have cellK:∀ x c,X.env.cells.lookup x=some c->∀ v,s.heap.IsCell c v->h'.IsCell c v:=fun x c e v ⟨o,ho,hd⟩=>by
  have mM:c∉ch:=fun z=>(kM c z).2.2.1 x c e rfl
  by_cases hc:c∈X.fs
  ·obtain⟨sl,q⟩:=slot c o (I.lj x c e) hc mM ho (I.bB x c e)
   exact⟨_,q,hd⟩
  ·exact⟨o,keep c o (I.lj x c e) hc mM ho (I.bB x c e),hd⟩
 refine⟨I.ok,I.os,hg,⟨fun b o e n hb hx => ?_,fun b o e n hb hx => ?_,fun b o e n hx => ?_,fun b o e hx => ?_,fun b xs e=>cF b xs (I.base.cF b xs e),fun b o xs e=>cO b o xs (I.base.cO b o xs e),fun b ps e => ?_⟩,?_,fun x c e => ?_,?_,fun x c e => ?_,fun p hp => ?_,aM,I.len⟩
 ·exact keep b o (Dw b o e) hb (vA b o e hx) (I.base.keep b o e n hb hx) (I.base.free b o e n hx)
 ·obtain⟨sl,e1⟩:=I.base.slot b o e n hb hx
  obtain⟨jI,e2⟩:=slot b _ (Dw b o e) hb (vA b o e hx) e1 (I.base.free b o e n hx)
  exact⟨jI,e2⟩
 ·obtain⟨o',e1⟩:=I.base.there b o e hx
  exact free b o' (vA b o e hx) e1 (I.base.free b o e n hx)
 ·obtain⟨o',e1⟩:=I.base.there b o e hx
  exact there b o' (vA b o e hx) e1
 ·obtain⟨m1,e1⟩:=I.base.cY b ps e
  obtain⟨m2,e2⟩:=cY b _ e1
  exact⟨m1 ++ m2,by rw[e2,Array.append_assoc]⟩
 ·obtain⟨m,hn,hl⟩:=I.loc
  refine⟨m,ns m hn,fun i x v e1 e2 e3 => ?_⟩
  obtain⟨u,r,l⟩:=hl i x v e1 e2 e3
  refine⟨u,r,?_⟩
  rcases l with l | ⟨k,c,e,z⟩
  ·exact .inl l
  ·exact .inr ⟨k,c,e,cellK x c e _ z⟩
 ·obtain⟨v,z⟩:=I.cell x c e
  exact⟨v,cellK x c e v z⟩
 ·obtain⟨m,⟨o,_,_,ho,_⟩,_⟩:=I.loc
  exact free _ o (fun z=>(kM _ z).2.1 rfl) ho I.free
 ·obtain⟨v,o,ho,hd⟩:=I.cell x c e
  exact free c o (fun z=>(kM c z).2.2.1 x c e rfl) ho (I.bB x c e)
 ·obtain⟨e,n,ne,nf,d⟩:=I.pin p hp
  have mM:p.1∉ch:=fun z=>(kM p.1 z).2.2.2 p hp rfl
  exact⟨keep p.1 p.2 ne nf mM e n,free p.1 p.2 mM e n,ne,nf,d⟩
theorem Inv.un {t':Nat} (I:Inv X pins σ H s) (u:Un X.fs [] H H' s.heap h') (aM:cV X.prog X.w H' h'):Inv X pins σ H' { s with heap:=h',toks:=t' }:=by
 obtain⟨m,⟨o,es,ep,ho,r⟩,_⟩:=id I.loc
 obtain⟨sl,hL⟩:=u.any ho I.free (by simp)
 exact I.step (g':=s.gens) (d':=s.drawn) (ch:=[]) (fun _ z=>nomatch z) (fun b o _ hb _ e n=>u.keep b o e n hb (by simp)) (fun b o _ hb _ e n=>u.slot b o e n hb (by simp)) (fun b o _ e n=>u.free b o e n (by simp)) (fun b o _ e=>u.there b o e (by simp)) u.cF u.cO u.cY (fun m' hm=>by
  obtain⟨o',rW,xT,i5,r'⟩:=hm
  rw[ho] at i5;cases i5
  exact⟨_,rW,xT,hL,r'⟩) aM I.bare
theorem Inv.call {g':Array GenState} {t':Nat} {d':Drawn} {ch:List Addr} (I:Inv X pins σ H s) (u:Un (dP X.stack) ch H H' s.heap h') (aM:cV X.prog X.w H' h') (hg:AllBare g')
  (kM:∀ b∈ch,(b∈X.ex\/X.s₀.heap.objs.size <= b)/\b≠X.env.locals/\(∀ x c,X.env.cells.lookup x=some c->c≠b)/\∀ p∈X.pn ++ pins,p.1≠b) :
  Inv X pins σ H' { s with heap:=h',gens:=g',drawn:=d',toks:=t' }:=by
 obtain⟨m,⟨o,es,ep,ho,r⟩,_⟩:=id I.loc
 obtain⟨sl,hL⟩:=u.any ho I.free fun z=>(kM _ z).2.1 rfl
 exact I.step (ch:=ch) kM (fun b o hL hb hc e n=>u.keep b o e n (fun z=>(X7.mp (I.f6 b z)).elim hL hb) hc) (fun b o _ _ hc e n=>u.any e n hc) (fun b o hc e n=>u.free b o e n hc) (fun b o hc e=>u.there b o e hc) u.cF u.cO u.cY (fun m' hm=>by
  obtain⟨o',rW,xT,i5,r'⟩:=hm
  rw[ho] at i5;cases i5
  exact⟨_,rW,xT,hL,r'⟩) aM hg
theorem Inv.turned {t':Nat} {it:Addr} (I:Inv X pins σ H s) (k:∀ b o,b≠it->s.heap.get? b=some o->h'.get? b=some o) (hn:H it=none) (hL:it≠X.env.locals)
  (h1:it∈X.ex\/X.s₀.heap.objs.size <= it) (h2:∀ x c,X.env.cells.lookup x=some c->c≠it) (h3:∀ p∈X.pn ++ pins,p.1≠it):Inv X pins σ H { s with heap:=h',toks:=t' }:=by
 have Dy:∀ b u,H b=some u->b≠it:=fun b u e z=>by rw[z,hn] at e;cases e
 refine I.step (g':=s.gens) (d':=s.drawn) (ch:=[it]) (fun b hb => ?_) (fun b o _ _ hc e _=>k b o (fun z=>hc (by simp[z])) e) (fun b o _ _ hc e _=>⟨o.slots,k b o (fun z=>hc (by simp[z])) e⟩) (fun _ _ _ _ n=>n)
  (fun b o hc e=>⟨o,k b o (fun z=>hc (by simp[z])) e⟩) (fun _ _ e=>e) (fun _ _ _ e=>e) (fun b ps e=>⟨#[],by rw[e];simp⟩) (fun m hm => ?_) (fun b u e => ?_) I.bare
 ·have e:b=it:=by simpa using hb
  subst e
  exact⟨h1,hL,h2,h3⟩
 ·obtain⟨o,es,ep,ho,r⟩:=hm
  exact⟨o,es,ep,k _ o (Zn hL) ho,r⟩
 ·refine (I.aM b u e).cN (fun c v hc q=>k c v ?_ q) (fun _ q=>q) fun _ _ q=>q
  rcases hc with z | z
  ·rw[z];exact Dy b u e
  ·exact Dy c _ z
theorem Inv.tok (I:Inv X pins σ H s) (t:Nat):Inv X pins σ H { s with toks:=t }:=I.un (h':=s.heap) (t':=t) Un.refl I.aM
theorem Inv.kept {t':Nat} (I:Inv X pins σ H s) (k:∀ b u,s.heap.get? b=some u->h'.get? b=some u):Inv X pins σ H { s with heap:=h',toks:=t' }:=I.un (Un.kept k) (I.aM.kept k)
theorem Inv.laid {a:Addr} {o:HO} {t':Nat} (I:Inv X pins σ H s) (k:∀ b u,s.heap.get? b=some u->h'.get? b=some u) (hp:s.heap.objs.size <= a) (new:aK X.prog X.w (upd H a o) h' a o) :
  Inv X pins σ (upd H a o) { s with heap:=h',toks:=t' }:=I.un (Un.laid k hp (I.aM.fresh hp)) (I.aM.laid k hp new)
theorem Inv.write {x e:Addr} {o:HO} {t':Nat} (I:Inv X pins σ H s) (mu:qr (H x)) (he:e=x\/H e=some (.own x)) (k:∀ b u,b≠e->s.heap.get? b=some u->h'.get? b=some u) (kJ:∃ u,h'.get? e=some u)
  (new:aK X.prog X.w (upd H x o) h' x o):Inv X pins σ (upd H x o) { s with heap:=h',toks:=t' }:=I.un (Un.write mu he k kJ) (I.aM.write mu he k kJ new)
theorem Inv.eE {br:List (Addr × Obj)} (I:Inv X pins σ H s) (h:∀ p∈br,s.heap.get? p.1=some p.2/\H p.1=none/\p.1≠X.env.locals/\p.1∉X.fs/\∀ v,p.2.data ≠ .cell v):Inv X br σ H s :=
 ⟨I.ok,I.os,I.bare,I.base,I.loc,I.cell,I.free,I.bB,fun p hp=>(YM.mp hp).elim (fun z=>I.pin p (Yv _ z)) (h p),I.aM,I.len⟩
theorem xU {N:List Str} (hN:N.Nodup) {i j:Nat} {x:Str} (a:N[i]? = some x) (b:N[j]? = some x):i=j:=by
 obtain⟨h1,e1⟩:=oP.mp a
 obtain⟨h2,e2⟩:=oP.mp b
 exact (q0x hN).mp (e1.trans e2.symm)
theorem Dz {M:Model} {A:Around} {E:Value->Shared->Prop} {i:Nat} {x:Str} {v:V} {u:Value} {Q:Unit->Shared->Prop} (I:Inv X pins σ H s) (hN:X.N.Nodup) (hi:X.N[i]? = some x) (hx:Loc X.env.scope x) (r:RelV v u)
  (h:∀ s',Inv X pins (σ.set i (some v)) H s'->(∃ a,Heap.SameBut a s.heap s'.heap/\(a=X.env.locals\/X.env.cells.lookup x=some a))->Q () s') (hf:X.fn x=true\/X.env.scope.names.lookup x=some .local:=by first | exact .inl rfl | exact .inr rfl | assumption):wpAny M A (storeName X.env x u) Q E s:=by
 obtain⟨m,hn,hl⟩:=id I.loc
 have xV:(X.env.scope.kind == .class || (X.env.scope.kind == .module && X.env.locals != X.env.globals))=false:=by rw[I.ok.kind];rfl
 have DA:i < σ.length:=by rw[I.len];exact (oP.mp hi).1
 have lj:=I.lj
 have tracked:∀ {a:Addr} {h':Heap},(∃ o,s.heap.get? a=some o/\H a=none)->Heap.SameBut a s.heap h'->cV X.prog X.w H h':=fun {a h'} ha hs b ob e=>by
  obtain⟨_,_,mO⟩:=ha
  refine (I.aM b ob e).cN (fun c w' hc q=>(hs.2 c ?_).trans q) (fun _ q=>q) fun _ _ q=>q
  rintro rfl
  rcases hc with rfl | hc
  ·rw[mO] at e;cases e
  ·rw[mO] at hc;cases hc
 rcases hx with hk | hk
 ·refine wpAny_storeName_local hk hn (fun h' hZ hs => ?_) xV
  obtain⟨oL,_,_,rX,_⟩:=id hn
  refine h _ ⟨I.ok,I.os,I.bare,⟨fun b o e n hb hx => ?_,fun b o e n hb hx => ?_,I.base.free,fun b o e hx => ?_,I.base.cF,I.base.cO,I.base.cY⟩,⟨_,hZ,fun j y v' e1 e2 e3 => ?_⟩,fun y c e => ?_,I.free,I.bB,fun p hp => ?_,tracked ⟨oL,rX,I.free⟩ hs,by simpa using I.len⟩ ⟨_,hs,.inl rfl⟩
  ·exact (hs.2 b (X_ (X9 (Ng e) I.ok.above))).trans (I.base.keep b o e n hb hx)
  ·obtain⟨sl,e1⟩:=I.base.slot b o e n hb hx
   exact⟨sl,(hs.2 b (X_ (X9 (Ng e) I.ok.above))).trans e1⟩
  ·obtain⟨o',e1⟩:=I.base.there b o e hx
   exact⟨o',(hs.2 b (X_ (X9 (Ng e) I.ok.above))).trans e1⟩
  ·by_cases hj:j=i
   ·subst hj
    rw[hi] at e1;cases e1
    rw[Yo DA] at e2
    cases e2
    exact⟨u,r,.inl ⟨hk,by simp⟩⟩
   ·rw[Yt (Zn hj)] at e2
    obtain⟨u',r',q⟩:=hl j y v' e1 e2 e3
    refine⟨u',r',?_⟩
    rcases q with⟨k,e⟩ | ⟨k,c,e,z⟩
    ·refine .inl ⟨k,?_⟩
     have:y≠x:=fun e=>hj (xU hN e1 (e ▸ hi))
     simp[this,e]
    ·exact .inr ⟨k,c,e,z.sameBut hs (lj y c e)⟩
  ·obtain⟨w',z⟩:=I.cell y c e
   exact⟨w',z.sameBut hs (lj y c e)⟩
  ·obtain⟨e,n,ne,nf,d⟩:=I.pin p hp
   exact⟨(hs.2 p.1 ne).trans e,n,ne,nf,d⟩
 ·have i7:X.fn x=true:=by
   rcases hf with z | z
   ·exact z
   ·rw[z] at hk;cases hk
  obtain⟨c,hc⟩:=I.ok.has x (.inl hk)
  obtain⟨w',z⟩:=I.cell x c hc
  refine wpAny_storeName_cell I.ok.kind hk hc z (fun h' gz hs => ?_)
  obtain⟨oc,qt,xW⟩:=id z
  refine h { s with heap:=h' } ⟨I.ok,I.os,I.bare,⟨fun b o e n hb hx => ?_,fun b o e n hb hx => ?_,I.base.free,fun b o e hx => ?_,I.base.cF,I.base.cO,I.base.cY⟩,⟨m,hn.sameBut hs (Zn (lj x c hc)),fun j y v' e1 e2 e3 => ?_⟩,fun y c' e => ?_,I.free,I.bB,fun p hp => ?_,tracked ⟨oc,qt,I.bB x c hc⟩ hs,by simpa using I.len⟩ ⟨c,hs,.inr hc⟩
  ·exact (hs.2 b (X_ (X9 (Ng e) (I.ok.mL x c i7 hc)))).trans (I.base.keep b o e n hb hx)
  ·obtain⟨sl,e1⟩:=I.base.slot b o e n hb hx
   exact⟨sl,(hs.2 b (X_ (X9 (Ng e) (I.ok.mL x c i7 hc)))).trans e1⟩
  ·obtain⟨o',e1⟩:=I.base.there b o e hx
   exact⟨o',(hs.2 b (X_ (X9 (Ng e) (I.ok.mL x c i7 hc)))).trans e1⟩
  ·by_cases hj:j=i
   ·subst hj
    rw[hi] at e1;cases e1
    rw[Yo DA] at e2
    cases e2
    exact⟨u,r,.inr ⟨.inl hk,c,hc,gz⟩⟩
   ·rw[Yt (Zn hj)] at e2
    obtain⟨u',r',q⟩:=hl j y v' e1 e2 e3
    refine⟨u',r',?_⟩
    rcases q with q | ⟨k,c',e,z'⟩
    ·exact .inl q
    ·refine .inr ⟨k,c',e,z'.sameBut hs ?_⟩
     rintro rfl
     exact hj (xU hN e1 (I.ok.inj _ _ _ e hc ▸ hi))
  ·by_cases hcc:c'=c
   ·subst hcc;exact⟨_,gz⟩
   ·obtain⟨w2,z2⟩:=I.cell y c' e
    exact⟨w2,z2.sameBut hs hcc⟩
  ·obtain⟨e,n,ne,nf,d⟩:=I.pin p hp
   refine⟨(hs.2 p.1 ?_).trans e,n,ne,nf,d⟩
   intro q
   rw[q,qt] at e
   have q':oc=p.2:=Yi e
   exact d w' (by rw[<-q'];exact xW)
theorem vB {M:Model} {A:Around} {E:Value->Shared->Prop} {i:Nat} {x:Str} {v:V} {u:Value} {Q:Unit->Shared->Prop} (I:Inv X pins σ H s) (hN:X.N.Nodup) (hi:X.N[i]? = some x) (hx:Loc X.env.scope x) (r:RelV v u)
  (h:∀ s',Inv X pins (σ.set i (some v)) H s'->Q () s') (hf:X.fn x=true\/X.env.scope.names.lookup x=some .local:=by first | exact .inl rfl | exact .inr rfl | assumption):wpAny M A (storeName X.env x u) Q E s :=
 Dz I hN hi hx r (fun s' I' _=>h s' I') hf
theorem Inv.iL {s':Shared} {ch:List Addr} (I:Inv X pins σ H s) (ho:s'.os=s.os) (u:Un (dP X.stack) ch H H' s.heap s'.heap) (aM:cV X.prog X.w H' s'.heap) (hg:AllBare s'.gens)
  (kM:∀ b∈ch,(b∈X.ex\/X.s₀.heap.objs.size <= b)/\b≠X.env.locals/\(∀ x c,X.env.cells.lookup x=some c->c≠b)/\∀ p∈X.pn ++ pins,p.1≠b):Inv X pins σ H' s':=by
 obtain⟨h',g',d',t',o'⟩:=s'
 have e:o'=s.os:=ho
 subst e
 exact I.call (g':=g') (t':=t') (d':=d') u aM hg kM
end
noncomputable abbrev XK:=Value->Option Addr->Hp->Prop
noncomputable abbrev St:=List (Option V)
noncomputable abbrev VK:=V->Hp->Prop
noncomputable abbrev TE:=St->Hp->VK->Prop
noncomputable abbrev TT:=St->Hp->(Bool->Hp->Prop)->Prop
noncomputable abbrev TA:=St->Hp->(List V->Hp->Prop)->Prop
structure Ends where
 nx:St->Hp->Prop
 rt:VK
 bk:St->Hp->Prop:=fun _ _=>False
 ct:St->Hp->Prop:=fun _ _=>False
noncomputable abbrev TS:=Ends->St->Hp->Prop
noncomputable def EP (X:Cx) (pins:List (Addr × Obj)) (σ : St) (Q:VK) (u:Value) (s':Shared):Prop:=∃ v H',Inv X pins σ H' s'/\RelV v u/\Q v H'
noncomputable def TP (X:Cx) (pins:List (Addr × Obj)) (σ : St) (Q:Bool->Hp->Prop) (b:Bool) (s':Shared):Prop:=∃ H',Inv X pins σ H' s'/\Q b H'
noncomputable def AP (X:Cx) (pins:List (Addr × Obj)) (σ : St) (Q:List V->Hp->Prop) (us:List Value) (s':Shared):Prop:=∃ vs H',Inv X pins σ H' s'/\Vals vs us/\Q vs H'
noncomputable def SP (X:Cx) (pins:List (Addr × Obj)) (D:Ends) (f:Flow) (s':Shared):Prop :=
 match f with
 | .next=>∃ σ' H',Inv X pins σ' H' s'/\D.nx σ' H'
 | .brk=>∃ σ' H',Inv X pins σ' H' s'/\D.bk σ' H'
 | .cont=>∃ σ' H',Inv X pins σ' H' s'/\D.ct σ' H'
 | .ret u=>∃ v σ' H',Inv X pins σ' H' s'/\RelV v u/\D.rt v H'
noncomputable def PE (X:Cx) (e:Expr) (t:TE):Prop :=
 ∀ (pins:List (Addr × Obj)) (s:Shared) (σ : St) (H:Hp) (Q:VK),Inv X pins σ H s->t σ H Q->wpAny (model X.prog X.w) X.A (eval e X.env) (EP X pins σ Q) X.xe s
noncomputable def PT (X:Cx) (e:Expr) (t:TT):Prop :=
 ∀ (pins:List (Addr × Obj)) (s:Shared) (σ : St) (H:Hp) (Q:Bool->Hp->Prop),Inv X pins σ H s->t σ H Q->wpAny (model X.prog X.w) X.A (isTrue e X.env (eval e X.env)) (TP X pins σ Q) X.xe s
noncomputable def PW (X:Cx) (e:Expr) (t:TT):Prop :=
 ∀ (whole:Sem Value) (pins:List (Addr × Obj)) (s:Shared) (σ : St) (H:Hp) (Q:Bool->Hp->Prop),Inv X pins σ H s->t σ H Q->wpAny (model X.prog X.w) X.A (isTrue e X.env whole) (TP X pins σ Q) X.xe s
theorem PW.pt {X:Cx} {e:Expr} {t:TT} (h:PW X e t):PT X e t:=h _
noncomputable def PA (X:Cx) (es:List Expr) (t:TA):Prop :=
 ∀ (pos:Pos) (pins:List (Addr × Obj)) (s:Shared) (σ : St) (H:Hp) (Q:List V->Hp->Prop),Inv X pins σ H s->t σ H Q->wpAny (model X.prog X.w) X.A (spliced (backTo pos (starEach es X.env))) (AP X pins σ Q) X.xe s
noncomputable def PS (X:Cx) (st:Stmt) (t:TS):Prop :=
 ∀ (pins:List (Addr × Obj)) (s:Shared) (σ : St) (H:Hp) (D:Ends),Inv X pins σ H s->t D σ H->wpAny (model X.prog X.w) X.A (exec st X.env) (SP X pins D) X.xe s
noncomputable def eF (X:Cx) (st:List Stmt) (t:TS):Prop :=
 ∀ (pins:List (Addr × Obj)) (s:Shared) (σ : St) (H:Hp) (D:Ends),Inv X pins σ H s->t D σ H->wpAny (model X.prog X.w) X.A (execs st X.env) (SP X pins D) X.xe s
theorem a5 {α : Type} {t:Sem α} {Q Q' : α -> Shared->Prop} {M:Model} {A:Around} {E:Value->Shared->Prop} {s:Shared} (h:wpAny M A t Q E s) (hQ:∀ a s,Q a s->Q' a s):wpAny M A t Q' E s:=YK h hQ fun _ _ x=>x
section
variable {X:Cx}
noncomputable def d9 (i:Nat):TE:=fun σ H Q=>∃ v,σ[i]? = some (some v)/\Q v H
noncomputable def tC (v:V):TE:=fun _ H Q=>Q v H
theorem DB {i:Nat} {x:Str} {pos:Pos} (hN:X.N[i]? = some x) (hv:mK X.env.scope x) (hd:(x == ("__debug__" : Str))=false:=by decide) (di:(x == ("__classdict__" : Str))=false:=by decide):PE X (.Name x pos) (d9 i):=by
 intro pins s σ H Q I h
 obtain⟨v,e,h⟩:=h
 obtain⟨m,hn,hl⟩:=I.loc
 obtain⟨u,r,l⟩:=hl i x v hN e hv
 have fin:EP X pins σ Q u s:=⟨v,H,I,r,h⟩
 rcases l with⟨hk,hm⟩ | ⟨hk,c,hc,mP⟩
 ·exact wpAny_Name (wpAny_loadName_local I.ok.kind hk hn hm fin) hd
 ·rcases hk with hk | hk
  ·exact wpAny_Name (wpAny_loadName_cell I.ok.kind hk hc mP fin) hd
  ·exact wpAny_Name (wpAny_loadName_free I.ok.kind hk hc mP fin di) hd
theorem Lj {i j pos}:PE X (.Constant (.int i) j pos) (tC (.int i)):=fun _ _ _ H _ I h=>wpAny_Constant_int ⟨.int i,H,I.tok _,⟨_,rfl⟩,h⟩
theorem Lk {b j pos}:PE X (.Constant (.bool b) j pos) (tC (.bl b)):=fun _ _ _ H _ I h=>Constant_bool ⟨.bl b,H,I,rfl,h⟩
theorem Ll {j pos}:PE X (.Constant .none j pos) (tC .non):=fun _ _ _ H _ I h=>Constant_none ⟨.non,H,I,rfl,h⟩
theorem DC {x j pos}:PE X (.Constant (.str x) j pos) (tC (.str x)):=fun _ _ _ H _ I h=>Calls.Constant_str ⟨.str x,H,I.tok _,⟨_,rfl⟩,h⟩
noncomputable def Gl (X:Cx) (x:Str):Prop:=X.env.kindOf x=some .globalImplicit
theorem rY {E:Value->Shared->Prop} {pins:List (Addr × Obj)} {s:Shared} {σ : St} {H:Hp} {x:Str} {u:Value} {pos:Pos} {Q:Value->Shared->Prop} (I:Inv X pins σ H s) (hg:Gl X x) (hm:X.mg x=some u) (h:Q u s)
  (hd:(x == ("__debug__" : Str))=false:=by decide):wpAny (model X.prog X.w) X.A (eval (.Name x pos) X.env) Q E s :=
 Calls.Name_function_global I.ok.kind hg (Calls.loadGlobal_global (by rw[I.ok.glob];exact I.mod.glob.keeps I.bk) hm h) hd
theorem lq {E:Value->Shared->Prop} {pins:List (Addr × Obj)} {s:Shared} {σ : St} {H:Hp} {x:Str} {u:Value} {pos:Pos} {Q:Value->Shared->Prop} (I:Inv X pins σ H s) (hg:Gl X x) (hm:X.mg x=none) (hv:bootBuiltins x=some u) (h:Q u s)
  (hn:x ≠ "__name__" := by decide) (hd:(x == ("__debug__" : Str))=false:=by decide):wpAny (model X.prog X.w) X.A (eval (.Name x pos) X.env) Q E s:=by
 obtain⟨mb,h1,h2⟩:=I.mod.blt
 exact Calls.Name_function_global I.ok.kind hg (Calls.loadGlobal_builtin (by rw[I.ok.glob];exact I.mod.glob.keeps I.bk) hm (by rw[I.ok.blt];exact h1.keeps I.bk) ((h2 x hn).trans hv) h) hd
theorem Lm {x:Str} {v:V} {u:Value} {pos:Pos} (hg:Gl X x) (hm:X.mg x=some u) (r:RelV v u) (hd:(x == ("__debug__" : Str))=false:=by decide):PE X (.Name x pos) (tC v) :=
 fun _ _ _ H _ I h=>rY I hg hm ⟨v,H,I,r,h⟩ hd
theorem Ln {x:Str} {v:V} {u:Value} {pos:Pos} (hg:Gl X x) (hm:X.mg x=none) (hv:bootBuiltins x=some u) (r:RelV v u) (hn:x ≠ "__name__" := by decide) (hd:(x == ("__debug__" : Str))=false:=by decide):PE X (.Name x pos) (tC v) :=
 fun _ _ _ H _ I h=>lq I hg hm hv ⟨v,H,I,r,h⟩ hn hd
variable {a b:Expr} {ta tb:TE} {pos:Pos}
noncomputable def PC (X:Cx) (op:CmpOp) (a b:Expr) (t:TE):Prop :=
 ∀ (pins:List (Addr × Obj)) (s:Shared) (σ : St) (H:Hp) (Q:VK),Inv X pins σ H s->t σ H Q →
  wpAny (model X.prog X.w) X.A (eval a X.env) (fun v s₁ => wpAny (model X.prog X.w) X.A (eval b X.env) (fun u s₂ => wpAny (model X.prog X.w) X.A (compareOp op v u) (EP X pins σ Q) X.xe s₂) X.xe s₁) X.xe s
theorem DD (b:Expr) {op:CmpOp} (h:op ≠ .In) (h2:op ≠ .NotIn):behindInMarks op b=false:=by
 have e1:(op == CmpOp.In)=false:=by cases op<;>first | rfl | exact absurd rfl h
 have e2:(op == CmpOp.NotIn)=false:=by cases op<;>first | rfl | exact absurd rfl h2
 cases b<;>simp[behindInMarks,e1,e2]
noncomputable def n_ (ta:TE):TE:=fun σ H Q=>ta σ H fun x H1=>Q (.bl (decide (x = .non))) H1
theorem RelV.jJ {x:V} {v:Value} (r:RelV x v):(v == Value.none)=decide (x = .non):=by
 cases x with
 | non=>cases r;rfl
 | bl _=>cases r;rfl
 | int _=>obtain⟨t,rfl⟩:=r;rfl
 | str _=>obtain⟨t,rfl⟩:=r;rfl
 | byt _=>obtain⟨t,rfl⟩:=r;rfl
 | flt _=>obtain⟨t,rfl⟩:=r;rfl
 | ref _=>cases r;rfl
 | ty _=>cases r;rfl
theorem Lo {j pos'} (ha:PE X a ta):PC X .Is a (.Constant .none j pos') (n_ ta):=by
 intro pins s σ H Q I h
 refine a5 (ha pins s σ H _ I h) fun v s1 h0_ => el5 h0_ fun x H1 I1 r1 q1 => ?_
 exact Constant_none (is_none_gen ⟨.bl _,H1,I1,by rw[r1.jJ];rfl,q1⟩)
noncomputable def tB (t:TE):TT:=fun σ H Q=>t σ H fun x H1=>∃ c,x = .bl c/\Q c H1
theorem Lp {op:CmpOp} {t:TE} (h:PC X op a b t) (h1:behindInMarks op b=false:=by first | exact DD _ (by decide) (by decide) | rfl):PT X (.Compare a [op] [b] pos) (tB t):=by
 intro pins s σ H Q I hw
 refine wpAny_isTrue_Compare1 (a5 (h pins s σ H _ I hw) fun v s1 h1=>a5 h1 fun u s2 h2=>a5 h2 fun c s3 h0_ => el5 h0_ fun x H1 I1 r1 q1 => ?_) h1
 obtain⟨d,rfl,q⟩:=q1
 cases r1
 exact Zc ⟨H1,I1,q⟩
theorem Lq {e:Expr} {t:TE} (h:PE X e t) (he:∀ whole,isTrue e X.env whole=(do let v <- whole;standAt e.pos;holding [v] (truthy v)):=by intro _;rfl):PT X e (tB t):=by
 intro pins s σ H Q I hw
 refine isTrue_plain (a5 (h pins s σ H _ I hw) fun v s1 h0_ => el5 h0_ fun x H1 I1 r1 q1 => ?_) (he _)
 obtain⟨d,rfl,q⟩:=q1
 cases r1
 exact Zc ⟨H1,I1,q⟩
variable {tA kN:TT} {rest:List Expr}
noncomputable def oa (t u:TT):TT:=fun σ H Q=>t σ H fun c H1=>if c=true then u σ H1 Q else Q false H1
noncomputable def xX (t u:TT):TT:=fun σ H Q=>t σ H fun c H1=>if c=true then Q true H1 else u σ H1 Q
noncomputable def rZ (t:TT):TT:=fun σ H Q=>t σ H fun c H1=>Q (!c) H1
theorem Lr (ha:PT X a tA):PW X (.BoolOp .And [a] pos) tA:=by
 intro wh pins s σ H Q I h
 refine isTrue_and (a5 (ha pins s σ H Q I h) fun c s1 e => ?_)
 cases c with
 | true=>exact isTrue_and_nil e
 | false=>exact e
theorem Ls (ha:PT X a tA):PW X (.BoolOp .Or [a] pos) tA:=by
 intro wh pins s σ H Q I h
 refine isTrue_or (a5 (ha pins s σ H Q I h) fun c s1 e => ?_)
 cases c with
 | false=>exact isTrue_or_nil e
 | true=>exact e
theorem Lu (ha:PT X a tA) (hb:PW X (.BoolOp .And (b :: rest) pos) kN):PW X (.BoolOp .And (a :: b :: rest) pos) (oa tA kN):=by
 intro wh pins s σ H Q I h
 refine isTrue_and (a5 (ha pins s σ H _ I h) fun c s1 h0_ => el3 h0_ fun H1 I1 q1 => ?_)
 cases c with
 | true=>exact hb wh pins s1 σ H1 Q I1 q1
 | false=>exact⟨H1,I1,q1⟩
theorem Lw (ha:PT X a tA) (hb:PW X (.BoolOp .Or (b :: rest) pos) kN):PW X (.BoolOp .Or (a :: b :: rest) pos) (xX tA kN):=by
 intro wh pins s σ H Q I h
 refine isTrue_or (a5 (ha pins s σ H _ I h) fun c s1 h0_ => el3 h0_ fun H1 I1 q1 => ?_)
 cases c with
 | true=>exact⟨H1,I1,q1⟩
 | false=>exact hb wh pins s1 σ H1 Q I1 q1
theorem Lx (ha:PT X a tA):PT X (.UnaryOp .Not a pos) (rZ tA):=by
 intro pins s σ H Q I h
 exact isTrue_not (ha pins s σ H (fun c H1=>Q (!c) H1) I h)
noncomputable def DE (ta tb:TE):TE:=fun σ H Q=>ta σ H fun x H1=>∃ c,x = .bl c/\if c=true then tb σ H1 Q else Q (.bl false) H1
noncomputable def DF (ta:TE):TE:=fun σ H Q=>ta σ H fun x H1=>∃ c,x = .bl c/\Q (.bl (!c)) H1
theorem Ly {op} {t:TE} (h:PE X a t):PE X (.BoolOp op [a] pos) t:=fun pins s σ H Q I hw=>BoolOp_one (h pins s σ H Q I hw)
theorem Lz (ha:PE X a ta) (hb:PE X (.BoolOp .And (b :: rest) pos) tb):PE X (.BoolOp .And (a :: b :: rest) pos) (DE ta tb):=by
 intro pins s σ H Q I h
 refine BoolOp_and (a5 (ha pins s σ H _ I h) fun v s1 h0_ => el5 h0_ fun x H1 I1 r1 q1 => ?_)
 obtain⟨c,rfl,q1⟩:=q1
 cases r1
 refine Zc ?_
 cases c with
 | true=>exact hb pins s1 σ H1 Q I1 q1
 | false=>exact⟨.bl false,H1,I1,rfl,q1⟩
theorem LA (ha:PE X a ta):PE X (.UnaryOp .Not a pos) (DF ta):=by
 intro pins s σ H Q I h
 refine UnaryOp_ (a5 (ha pins s σ H _ I h) fun v s1 h0_ => el5 h0_ fun x H1 I1 r1 q1 => ?_)
 obtain⟨c,rfl,q1⟩:=q1
 cases r1
 exact not_of (Zc ⟨.bl (!c),H1,I1,rfl,q1⟩)
noncomputable def xY (t:TT) (ta tb:TE):TE:=fun σ H Q=>t σ H fun c H1=>if c=true then ta σ H1 Q else tb σ H1 Q
theorem LB {c:Expr} (hc:PT X c tA) (ha:PE X a ta) (hb:PE X b tb):PE X (.IfExp c a b pos) (xY tA ta tb):=by
 intro pins s σ H Q I h
 refine wpAny_IfExp (a5 (hc pins s σ H _ I h) fun d s1 h0_ => el3 h0_ fun H1 I1 q1 => ?_)
 cases d with
 | true=>exact ha pins s1 σ H1 Q I1 q1
 | false=>exact hb pins s1 σ H1 Q I1 q1
end
noncomputable def bc (K:PySem.W.Frag) (H:Hp) (a:Addr) (xs:List V):Prop :=
 Rd H a (.lst xs) ∨
  ∃ (o:Obj) (ai:Array Value) (n:Nat),K.lookup a=some o/\o.cls = .type "list" /\ o.dict=none/\o.data = .seq ai n/\ai.size <= sizeLine/\Vals xs ai.toList
noncomputable def bC (K:PySem.W.Frag) (H:Hp) (a:Addr) (xs:List V):Prop :=
 Rd H a (.tup xs) ∨
  ∃ (o:Obj) (ai:Array Value) (n:Nat),K.lookup a=some o/\o.cls = .type "tuple" /\ o.data = .seq ai n/\ai.size <= sizeLine/\Vals xs ai.toList
noncomputable def xZ:Value->Option V
 | .none=>some .non
 | .bool b=>some (.bl b)
 | .int i _=>some (.int i)
 | .str x _=>some (.str x)
 | .bytes b _=>some (.byt b)
 | .float b _=>some (.flt b)
 | .ref a=>some (.ref a)
 | .type n=>some (.ty n)
 | _=>none
theorem RelV.abs {x:V} {u:Value} (r:RelV x u):xZ u=some x:=by
 cases x with
 | non=>cases r;rfl
 | bl _=>cases r;rfl
 | int _=>obtain⟨t,rfl⟩:=r;rfl
 | str _=>obtain⟨t,rfl⟩:=r;rfl
 | byt _=>obtain⟨t,rfl⟩:=r;rfl
 | flt _=>obtain⟨t,rfl⟩:=r;rfl
 | ref _=>cases r;rfl
 | ty _=>cases r;rfl
theorem RelV.inj {x y:V} {u:Value} (r:RelV x u) (q:RelV y u):x=y:=Yi (r.abs.symm.trans q.abs)
theorem Vals.inj:∀ {xs ys:List V} {us:List Value},Vals xs us->Vals ys us->xs=ys
 | _,_,_,.nil,.nil=>rfl
 | _,_,_,.cons r t,.cons r' t'=>by rw[r.inj r',Vals.inj t t']
section
variable {X:Cx} {pins:List (Addr × Obj)} {σ : St} {H:Hp} {s:Shared} {a:Addr} {xs ys:List V}
theorem bc.of {K:PySem.W.Frag} (h:H a=some (.lst xs)):bc K H a xs := .inl (.inl h)
theorem bC.of {K:PySem.W.Frag} (h:H a=some (.tup xs)):bC K H a xs := .inl (.inl h)
theorem Inv.list (I:Inv X pins σ H s) (h:bc X.K H a xs):∃ ai:List Value,Vals xs ai/\PlainL s.heap a ai.toArray/\xs.length <= sizeLine:=by
 rcases h with h | ⟨o,ai,n,hk,hc,hd,hs,hz,r⟩
 ·obtain⟨z,ai,n,r,e⟩:=h.ok I.aM
  exact⟨ai,r,⟨_,n,e,rfl,rfl,rfl⟩,z⟩
 ·refine⟨ai.toList,r,⟨o,n,I.cW a o hk,hc,hd,by simpa using hs⟩,?_⟩
  have e:=r.length
  simp only[My] at e
  omega
theorem Inv.tuple (I:Inv X pins σ H s) (h:bC X.K H a xs):∃ ai:List Value,Vals xs ai/\IsTup s.heap a ai.toArray/\xs.length <= sizeLine:=by
 rcases h with h | ⟨o,ai,n,hk,hc,hs,hz,r⟩
 ·obtain⟨z,ai,r,p⟩:=h.ok I.aM
  exact⟨ai,r,p,z⟩
 ·refine⟨ai.toList,r,⟨o,I.cW a o hk,hc,n,by simpa using hs⟩,?_⟩
  have e:=r.length
  simp only[My] at e
  omega
theorem Inv.gA (I:Inv X pins σ H s) (h:bc X.K H a xs) (h':bc X.K H a ys):xs=ys:=by
 obtain⟨ai,r,⟨o,n,e,_,_,d⟩,_⟩:=I.list h
 obtain⟨its',r',⟨o',n',e',_,_,d'⟩,_⟩:=I.list h'
 rw[e] at e';cases e'
 rw[d] at d'
 injection d' with d1 _
 have:ai=its':=by simpa using congrArg Array.toList d1
 subst this
 exact r.inj r'
theorem Inv.fF (I:Inv X pins σ H s) (h:bC X.K H a xs) (h':bC X.K H a ys):xs=ys:=by
 obtain⟨ai,r,⟨o,e,_,n,d⟩,_⟩:=I.tuple h
 obtain⟨its',r',⟨o',e',_,n',d'⟩,_⟩:=I.tuple h'
 rw[e] at e';cases e'
 rw[d] at d'
 injection d' with d1 _
 have:ai=its':=by simpa using congrArg Array.toList d1
 subst this
 exact r.inj r'
end
noncomputable abbrev Cx.e_ (X:Cx) (E:Value->Shared->Prop):Cx:={ X with xe:=E }
noncomputable abbrev Cx.bG (X:Cx):Cx:=X.e_ fun _ _=>False
theorem Cx.Ok.e_ {X:Cx} (ok:X.Ok) (E:Value->Shared->Prop):(X.e_ E).Ok :=
 ⟨ok.mod,ok.kind,ok.glob,ok.blt,ok.above,ok.inj,ok.has,ok.mL,ok.hd,ok.frames,ok.nZ,ok.rV,ok.bs,ok.ju,ok.gy,ok.ib,ok.cP,ok.jH⟩
theorem Cx.Ok.cG {X:Cx} {E:Value->Shared->Prop} (ok:(X.e_ E).Ok):X.Ok :=
 ⟨ok.mod,ok.kind,ok.glob,ok.blt,ok.above,ok.inj,ok.has,ok.mL,ok.hd,ok.frames,ok.nZ,ok.rV,ok.bs,ok.ju,ok.gy,ok.ib,ok.cP,ok.jH⟩
section
variable {X:Cx} {pins:List (Addr × Obj)} {σ : St} {H:Hp} {s:Shared} {E:Value->Shared->Prop}
theorem Inv.e_ (I:Inv X pins σ H s) (E:Value->Shared->Prop):Inv (X.e_ E) pins σ H s:=⟨I.ok.e_ E,I.os,I.bare,I.base,I.loc,I.cell,I.free,I.bB,I.pin,I.aM,I.len⟩
theorem Inv.cG (I:Inv (X.e_ E) pins σ H s):Inv X pins σ H s:=⟨I.ok.cG,I.os,I.bare,I.base,I.loc,I.cell,I.free,I.bB,I.pin,I.aM,I.len⟩
theorem SP.cG {D:Ends} {f:Flow} {s':Shared} (h:SP (X.e_ E) pins D f s'):SP X pins D f s':=by
 cases f with
 | next=>obtain⟨σ',H',I,q⟩:=h;exact⟨σ',H',I.cG,q⟩
 | brk=>obtain⟨σ',H',I,q⟩:=h;exact⟨σ',H',I.cG,q⟩
 | cont=>obtain⟨σ',H',I,q⟩:=h;exact⟨σ',H',I.cG,q⟩
 | ret u=>obtain⟨v,σ',H',I,r,q⟩:=h;exact⟨v,σ',H',I.cG,r,q⟩
theorem eF.bG {st:List Stmt} {t:TS} (h:eF X.bG st t):eF X st t:=fun pins s σ H D I hw =>
 YK (h pins s σ H D (I.e_ _) hw) (fun _ _ q=>q.cG) fun _ _ z=>False.elim z
end
section
variable {X:Cx} {st:Stmt} {rest:List Stmt} {t u:TS} {e:Expr} {te:TE} {pos:Pos}
noncomputable def DG:TS:=fun D σ H=>D.nx σ H
noncomputable def lr (t u:TS):TS:=fun D σ H=>t { D with nx:=u D } σ H
theorem LC:eF X [] DG:=fun _ _ σ H _ I h=>q0K ⟨σ,H,I,h⟩
theorem DH (h1:PS X st t) (h2:eF X rest u):eF X (st :: rest) (lr t u):=by
 intro pins s σ H D I h
 refine wpAny_execs_cons (a5 (h1 pins s σ H { D with nx:=u D } I h) fun f s1 q => ?_)
 cases f with
 | next =>
  obtain⟨σ',H',I',q⟩:=q
  exact h2 pins s1 σ' H' D I' q
 | ret v=>exact q
 | brk=>exact q
 | cont=>exact q
theorem DI (h1:PS X st t):eF X [st] t:=by
 intro pins s σ H D I h
 refine wpAny_execs_cons (a5 (h1 pins s σ H D I h) fun f s1 q => ?_)
 cases f with
 | next=>exact q0K q
 | ret v=>exact q
 | brk=>exact q
 | cont=>exact q
theorem Inv.quiet {pins:List (Addr × Obj)} {σ : St} {H:Hp} {s:Shared} (I:Inv X pins σ H s):interactive X.env=false:=by simp[interactive,I.ok.kind]
noncomputable def DJ (te:TE):TS:=fun D σ H=>te σ H fun _ H1=>D.nx σ H1
theorem LF (he:PE X e te) (hs:swapsWith e none pos.line X.env=pure false:=by rfl):PS X (.Expr e pos) (DJ te):=by
 intro pins s σ H D I h
 exact wpAny_Expr_any (a5 (he pins s σ H _ I h) fun v s1 h0_ => el5 h0_ fun x H1 I1 r1 q1 =>⟨σ,H1,I1,q1⟩) I.quiet hs
noncomputable def oe (te:TE):TS:=fun D σ H=>te σ H D.rt
theorem LG (he:PE X e te):PS X (.Return (some e) pos) (oe te):=by
 intro pins s σ H D I h
 exact wpAny_Return_some (a5 (he pins s σ H _ I h) fun v s1 h0_ => el5 h0_ fun x H1 I1 r1 q1 =>⟨x,σ,H1,I1,r1,q1⟩)
noncomputable def r_ (c:TT) (t u:TS):TS:=fun D σ H=>c σ H fun b H1=>if b=true then t D σ H1 else u D σ H1
theorem LH {c:Expr} {a b:List Stmt} {tc:TT} (hc:PT X c tc) (ha:eF X a t) (hb:eF X b u):PS X (.If c a b pos) (r_ tc t u):=by
 intro pins s σ H D I h
 refine wpAny_If (a5 (hc pins s σ H _ I h) fun d s1 h0_ => el3 h0_ fun H1 I1 q1 => ?_)
 cases d with
 | true=>exact ha pins s1 σ H1 D I1 q1
 | false=>exact hb pins s1 σ H1 D I1 q1
end
noncomputable abbrev TG:=V->St->Hp->(St->Hp->Prop)->Prop
noncomputable abbrev iM:=List V->St->Hp->(St->Hp->Prop)->Prop
noncomputable def PG (X:Cx) (target:Expr) (t:TG):Prop :=
 ∀ (pins:List (Addr × Obj)) (s:Shared) (σ : St) (H:Hp) (v:V) (u:Value) (Q:St->Hp->Prop),Inv X pins σ H s->RelV v u->t v σ H Q →
  wpAny (model X.prog X.w) X.A (assign target X.env u) (fun _ s'=>∃ σ' H',Inv X pins σ' H' s'/\Q σ' H') X.xe s
noncomputable def sd (X:Cx) (ts:List Expr) (t:iM):Prop :=
 ∀ (pins:List (Addr × Obj)) (s:Shared) (σ : St) (H:Hp) (vs:List V) (us:List Value) (Q:St->Hp->Prop),Inv X pins σ H s->Vals vs us->t vs σ H Q →
  wpAny (model X.prog X.w) X.A (assignInOrder ((assignEach ts X.env).map (·.2)) us) (fun _ s'=>∃ σ' H',Inv X pins σ' H' s'/\Q σ' H') X.xe s
noncomputable abbrev lu:=V->V->V->Hp->(Hp->Prop)->Prop
noncomputable def oh (X:Cx) (t:lu):Prop :=
 ∀ (pins:List (Addr × Obj)) (s:Shared) (σ : St) (H:Hp) (o i v:V) (ov iv u:Value) (Q:Hp->Prop),Inv X pins σ H s->RelV o ov->RelV i iv->RelV v u->t o i v H Q →
  wpAny (model X.prog X.w) X.A (setItem ov iv u) (fun _ s'=>∃ H',Inv X pins σ H' s'/\Q H') X.xe s
section
variable {X:Cx} {pos:Pos}
noncomputable def fG (i:Nat):TG:=fun v σ H Q=>Q (σ.set i (some v)) H
theorem LI {i:Nat} {x:Str} (hN:X.N.Nodup) (hi:X.N[i]? = some x) (hx:Loc X.env.scope x) (hf:X.fn x=true\/X.env.scope.names.lookup x=some .local:=by first | exact .inl rfl | exact .inr rfl | assumption):PG X (.Name x pos) (fG i):=by
 intro pins s σ H v u Q I r h
 exact wpAny_assign_Name (vB I hN hi hx r (fun s' I'=>⟨_,H,I',h⟩) hf)
noncomputable def sg:iM:=fun vs σ H Q=>vs=[]/\Q σ H
noncomputable def DK (t:TG) (u:iM):iM:=fun vs σ H Q=>∃ v r,vs=v :: r/\t v σ H fun σ' H'=>u r σ' H' Q
theorem LL:sd X [] sg:=by
 intro pins s σ H vs us Q I r h
 obtain⟨e,h⟩:=h
 subst e
 cases r
 exact assignInOrder_nil ⟨σ,H,I,h⟩
theorem LM {e:Expr} {es:List Expr} {t:TG} {u:iM} (h1:PG X e t) (h2:sd X es u)
  (hs:(assignEach (e :: es) X.env).map (·.2)=assign e X.env :: (assignEach es X.env).map (·.2):=by rfl):sd X (e :: es) (DK t u):=by
 intro pins s σ H vs us Q I r h
 obtain⟨v,vr,e1,h⟩:=h
 subst e1
 cases r with
 | cons r rr =>
  rw[hs]
  refine assignInOrder_cons (a5 (h1 pins s σ H _ _ _ I r h) fun _ s1 ⟨σ1,H1,I1,q1⟩ => ?_)
  exact h2 pins s1 σ1 H1 _ _ Q I1 rr q1
noncomputable def sh (K:PySem.W.Frag) (n:Nat) (t:iM):TG:=fun v σ H Q=>∃ a xs,v = .ref a/\bC K H a xs/\xs.length=n/\t xs σ H Q
theorem LN {es:List Expr} {k:Nat} {t:iM} {n:Nat} (hc:X.calm=true) (h:sd X es t)
  (hn:(assignEach es X.env).length=n:=by rfl) (fH:(assignEach es X.env).findIdx? (·.1)=none:=by rfl):PG X (.Tuple es k pos) (sh X.K n t):=by
 intro pins s σ H v u Q I r hw
 obtain⟨a,xs,e1,hq,hl,hw⟩:=hw
 subst e1
 cases r
 obtain⟨ai,rv,ht,hz⟩:=I.tuple hq
 refine assign_Tuple_tuple (I.ok.hd hc) ht (by simp[hn,<-hl,rv.length]) fH fun h' hx => ?_
 have I1:Inv X pins σ H { s with heap:=h' }:=I.kept (t':=s.toks) fun b o e=>hx b o (X_ (Ng e)) e
 exact h pins _ σ H xs _ Q I1 (by simpa using rv) hw
noncomputable def oj (to ti:TE) (t:lu):TG:=fun v σ H Q=>to σ H fun o H1=>ti σ H1 fun i H2=>t o i v H2 fun H3=>Q σ H3
theorem LO {o i:Expr} {to ti:TE} {t:lu} (ho:PE X o to) (hi:PE X i ti) (hs:oh X t)
  (ha:∀ v,assign (.Subscript o i pos) X.env v=(do
   let ov <- holding [v] (eval o X.env)
   let iv <- holding [v,ov] (eval i X.env)
   standAt pos
   holding [v,ov,iv] (setItem ov iv v)
   release [v,ov,iv] []):=by intro _;rfl):PG X (.Subscript o i pos) (oj to ti t):=by
 intro pins s σ H v u Q I r h
 rw[ha]
 refine lJ (Yl (a5 (ho pins s σ H _ I h) fun ov s1 h0_ => el5 h0_ fun x H1 I1 r1 q1 => ?_))
 refine lJ (Yl (a5 (hi pins s1 σ H1 _ I1 q1) fun iv s2 h0_ => el5 h0_ fun y H2 I2 r2 q2 => ?_))
 refine lJ (Zv (lJ (Yl (a5 (hs pins s2 σ H2 x y v ov iv u _ I2 r1 r2 r q2) fun _ s3 h0_ => el3 h0_ fun H3 I3 q3 => ?_))))
 exact wpAny_release ⟨σ,H3,I3,q3⟩
noncomputable def bS (te:TE) (g:TG):TS:=fun D σ H=>te σ H fun x H1=>g x σ H1 D.nx
theorem LP {tg e:Expr} {te:TE} {g:TG} (he:PE X e te) (hg:PG X tg g) (hs:swapsWithSole [tg] e pos.line X.env=pure false:=by rfl) (hw:swappedStores [tg] e X.env=pure none:=by rfl)
  (h1:(assignEach [tg] X.env).map (·.2)=[assign tg X.env]:=by rfl):PS X (.Assign [tg] e pos) (bS te g):=by
 intro pins s σ H D I h
 refine wpAny_Assign_stores (a5 (he pins s σ H _ I h) fun v s1 h0_ => el5 h0_ fun x H1 I1 r1 q1 => ?_) hs hw
 rw[h1]
 exact a5 (hg pins s1 σ H1 x v _ I1 r1 q1) fun _ s2 q=>q
theorem vC {i:Nat} {x:Str} {e:Expr} {te:TE} {pos':Pos} (hN:X.N.Nodup) (hi:X.N[i]? = some x) (hx:Loc X.env.scope x) (he:PE X e te) (hs:swapsWith e (some (.Name x pos')) pos.line X.env=pure false:=by rfl) (hf:X.fn x=true\/X.env.scope.names.lookup x=some .local:=by first | exact .inl rfl | exact .inr rfl | assumption) :
  PS X (.Assign [.Name x pos'] e pos) (bS te (fG i)):=by
 intro pins s σ H D I h
 refine wpAny_Assign_Name (a5 (he pins s σ H _ I h) fun v s1 h0_ => el5 h0_ fun y H1 I1 r1 q1 => ?_) hs
 exact vB I1 hN hi hx r1 (fun s2 I2=>⟨_,H1,I2,q1⟩) hf
end
structure It where
 go:Nat->Hp->Prop
 qu:Nat->Hp->V->Hp->Prop
 stop:Nat->Hp->Prop
noncomputable def bf (X:Cx) (pins:List (Addr × Obj)) (H:Hp) (b:Addr):Prop :=
 H b=none/\b≠X.env.locals/\b∉X.fs/\(b∈X.ex\/X.s₀.heap.objs.size <= b)/\(∀ x c,X.env.cells.lookup x=some c->c≠b)/\∀ p∈X.pn ++ pins,p.1≠b
theorem Inv.f7 {X:Cx} {pins:List (Addr × Obj)} {σ : St} {H H':Hp} {s:Shared} {b:Addr} (I:Inv X pins σ H s) (hb:s.heap.objs.size <= b) (hn:H' b=none):bf X pins H' b:=by
 refine⟨hn,ZM (X9 I.lt hb),I.xS hb,.inr (YF I.sz hb),fun x c e z => ?_,fun p hp z => ?_⟩
 ·obtain⟨v,q⟩:=I.cell x c e
  exact absurd (X9 q.lt (by rw[z];exact hb)) (Y9 _)
 ·exact absurd (X9 (Ng (I.pin p hp).1) (by rw[z];exact hb)) (Y9 _)
structure Turn (P:Program) (w:World) (K:PySem.W.Frag) (tg:Expr) (J:It) (fp:List Addr) (it:Addr) (tn:Nat->Heap->Prop):Prop where
 mem:it∈fp
 obj:∀ i h,tn i h->∀ b∈fp,∃ o,h.get? b=some o/\∀ v,o.data ≠ .cell v
 keep:∀ i h h',tn i h->(∀ b∈fp,∀ o,h.get? b=some o->h'.get? b=some o)->tn i h'
 item:∀ (X:Cx),X.prog=P->X.w=w->X.K=K->X.calm=true->∀ (i:Nat) (pins:List (Addr × Obj)) (s:Shared) (σ : St) (H:Hp) (E:Value->Shared->Prop),Inv X pins σ H s->(∀ b∈fp,bf X pins H b)->tn i s.heap->J.go i H →
  wpAny (model P w) X.A (pyNext (.ref it)) (fun r s1=>∃ u,r=some u ∧
   wpAny (model P w) X.A (letOwnedTupleGo tg (.ref it) u) (fun _ s2=>∃ x H',Inv X pins σ H' s2/\RelV x u/\J.qu i H x H'/\tn (i + 1) s2.heap/\∀ b∈fp,H' b=none) E s1) E s
 done:∀ (X:Cx),X.prog=P->X.w=w->X.K=K->X.calm=true->∀ (i:Nat) (pins:List (Addr × Obj)) (s:Shared) (σ : St) (H:Hp) (E:Value->Shared->Prop),Inv X pins σ H s->(∀ b∈fp,bf X pins H b)->tn i s.heap->J.stop i H →
  wpAny (model P w) X.A (pyNext (.ref it)) (fun r s1=>r=none/\Inv X pins σ H s1) E s
 self:∀ (A:Around) (i:Nat) (s:Shared) (Q:Value->Shared->Prop) (E:Value->Shared->Prop),tn i s.heap->Q (.ref it) s->wpAny (model P w) A (pyIter (.ref it)) Q E s
noncomputable abbrev TI:=St->Hp->(It->Hp->Prop)->Prop
noncomputable def DL (X:Cx) (pins:List (Addr × Obj)) (σ : St) (tg:Expr) (R:It->Hp->Prop) (x4:Value) (s2:Shared):Prop :=
 ∃ (it:Addr) (fp:List Addr) (tn:Nat->Heap->Prop) (J:It) (H':Hp),x4 = .ref it/\Inv X pins σ H' s2/\Turn X.prog X.w X.K tg J fp it tn/\tn 0 s2.heap/\(∀ b∈fp,bf X pins H' b)/\R J H'
noncomputable def PI (X:Cx) (tg iter:Expr) (wi:TI):Prop :=
 ∀ (pins:List (Addr × Obj)) (s:Shared) (σ : St) (H:Hp) (R:It->Hp->Prop),Inv X pins σ H s->wi σ H R →
  wpAny (model X.prog X.w) X.A (eval iter X.env) (fun v s1=>wpAny (model X.prog X.w) X.A (pyIter v) (DL X pins σ tg R) X.xe s1) X.xe s
theorem x5 {M:Model} {A:Around} {E:Value->Shared->Prop} {s:Shared} {tg:Expr} {it:Addr} {u:Value} {o:Obj} {n:String} {vs:Array Value} {Q:Unit->Shared->Prop} (ho:s.heap.get? it=some o) (hc:o.cls = .type n) (hd:o.data = .fields vs)
  (hn:["enumerate", "zip", "dict_itemiterator", "dict_reverseitemiterator", "odict_iterator", "itertools.zip_longest", "itertools.pairwise"].contains n=false) (hQ:Q () s):wpAny M A (letOwnedTupleGo tg (.ref it) u) Q E s:=by
 unfold letOwnedTupleGo
 cases tg<;>first
  | exact vK hQ
  | (cases u<;>first
    | exact vK hQ
    | (refine lJ (wpAny_load ho ?_)
       rw[hc,hd]
       show wpAny M A (if (["enumerate", "zip", "dict_itemiterator", "dict_reverseitemiterator", "odict_iterator", "itertools.zip_longest", "itertools.pairwise"].contains n && vs[0]? == some (rawInt _))=true then _ else _) Q E s
       rw[Xm (by intro h;rw[hn,q1H] at h;cases h)]
       exact vK hQ))
noncomputable def DM (K:PySem.W.Frag) (a:Addr):It :=
 ⟨fun i H=>∃ xs x,bc K H a xs/\xs[i]? = some x,fun i H x H'=>H'=H/\∀ xs,bc K H a xs->xs[i]? = some x,fun i H=>∃ xs,bc K H a xs/\xs.length <= i⟩
noncomputable def DN (K:PySem.W.Frag) (a:Addr):It :=
 ⟨fun i H=>∃ xs x,bC K H a xs/\xs[i]? = some x,fun i H x H'=>H'=H/\∀ xs,bC K H a xs->xs[i]? = some x,fun i H=>∃ xs,bC K H a xs/\xs.length <= i⟩
noncomputable def si (lo:Int) (n:Nat):It:=⟨fun i _=>i < n,fun i H x H'=>H'=H/\x = .int (lo + i),fun i _=>n <= i⟩
theorem LQ {P:Program} {w:World} {K:PySem.W.Frag} {tg:Expr} (a it:Addr):Turn P w K tg (DM K a) [it] it (fun i h=>h.IsListIter it a i) where
 mem:=by simp
 obj:=fun i h st b hb=>by
  have e:b=it:=by simpa using hb
  subst e
  obtain⟨o,e,c,d⟩:=st
  exact⟨o,e,fun v z=>by rw[d] at z;cases z⟩
 keep:=fun i h h' st k=>st.at fun o e=>k it (by simp) o e
 item:=by
  intro X hP hw hK hc i pins s σ H E I hf st hg
  subst hP hw hK
  obtain⟨xs,x,hq,hx⟩:=hg
  obtain⟨ai,rv,p,hz⟩:=I.list hq
  obtain⟨u,hu,ru⟩:=rv.get hx
  obtain⟨f0,f1,f2,f3,f4,f5⟩:=hf it (by simp)
  refine wpAny_pyNext_list_item st p.isList (x:=u) (by simpa using hu) fun h' iN sb => ?_
  have I1:Inv X pins σ H { s with heap:=h' }:=I.turned (t':=s.toks) (fun b o hb e=>(sb.2 b hb).trans e) f0 f1 f3 f4 f5
  obtain⟨o,e,c,d⟩:=id iN
  exact⟨u,rfl,x5 (s:={ s with heap:=h' }) e c d (by decide) ⟨x,H,I1,ru,⟨rfl,fun ys hy=>by rw[I.gA hy hq];exact hx⟩,iN,fun b hb=>(hf b hb).1⟩⟩
 done:=by
  intro X hP hw hK hc i pins s σ H E I hf st hg
  subst hP hw hK
  obtain⟨xs,hq,hx⟩:=hg
  obtain⟨ai,rv,p,hz⟩:=I.list hq
  obtain⟨f0,f1,f2,f3,f4,f5⟩:=hf it (by simp)
  have hl:=rv.length
  exact wpAny_pyNext_list_end (I.ok.hd hc) st p.isList (by simp;omega) fun h' eb=>⟨rfl,I.turned (t':=s.toks) (fun b o hb e=>eb b o hb e) f0 f1 f3 f4 f5⟩
 self:=fun _ _ _ _ _ st h=>wpAny_pyIter_listiter st h
theorem LR {P:Program} {w:World} {K:PySem.W.Frag} {tg:Expr} (a it:Addr):Turn P w K tg (DN K a) [it] it (fun i h=>h.IsTupleIter it a i) where
 mem:=by simp
 obj:=fun i h st b hb=>by
  have e:b=it:=by simpa using hb
  subst e
  obtain⟨o,e,c,d⟩:=st
  exact⟨o,e,fun v z=>by rw[d] at z;cases z⟩
 keep:=fun i h h' st k=>st.at fun o e=>k it (by simp) o e
 item:=by
  intro X hP hw hK hc i pins s σ H E I hf st hg
  subst hP hw hK
  obtain⟨xs,x,hq,hx⟩:=hg
  obtain⟨ai,rv,p,hz⟩:=I.tuple hq
  obtain⟨u,hu,ru⟩:=rv.get hx
  obtain⟨f0,f1,f2,f3,f4,f5⟩:=hf it (by simp)
  refine wpAny_pyNext_tuple_item st (show s.heap.IsTuple a ai.toArray from p) (x:=u) (by simpa using hu) fun h' iN sb => ?_
  have I1:Inv X pins σ H { s with heap:=h' }:=I.turned (t':=s.toks) (fun b o hb e=>(sb.2 b hb).trans e) f0 f1 f3 f4 f5
  obtain⟨o,e,c,d⟩:=id iN
  exact⟨u,rfl,x5 (s:={ s with heap:=h' }) e c d (by decide) ⟨x,H,I1,ru,⟨rfl,fun ys hy=>by rw[I.fF hy hq];exact hx⟩,iN,fun b hb=>(hf b hb).1⟩⟩
 done:=by
  intro X hP hw hK hc i pins s σ H E I hf st hg
  subst hP hw hK
  obtain⟨xs,hq,hx⟩:=hg
  obtain⟨ai,rv,p,hz⟩:=I.tuple hq
  obtain⟨f0,f1,f2,f3,f4,f5⟩:=hf it (by simp)
  have hl:=rv.length
  exact wpAny_pyNext_tuple_end (I.ok.hd hc) st (show s.heap.IsTuple a ai.toArray from p) (by simp;omega) fun h' eb=>⟨rfl,I.turned (t':=s.toks) (fun b o hb e=>eb b o hb e) f0 f1 f3 f4 f5⟩
 self:=fun _ _ _ _ _ st h=>wpAny_pyIter_tupleiter st h
theorem LU {P:Program} {w:World} {K:PySem.W.Frag} {tg:Expr} (it:Addr) (lo:Int) (n:Nat):Turn P w K tg (si lo n) [it] it (fun i h=>IsRangeIter h it (lo + (i:Nat) * 1) ((n:Int) - (i:Nat)) 1) where
 mem:=by simp
 obj:=fun i h st b hb=>by
  have e:b=it:=by simpa using hb
  subst e
  exact⟨_,st,fun v z=>by
   have z':Data.fields _=Data.cell v:=z
   cases z'⟩
 keep:=fun i h h' st k=>k it (by simp) _ st
 item:=by
  intro X hP hw hK hc i pins s σ H E I hf st hg
  subst hP hw hK
  obtain⟨f0,f1,f2,f3,f4,f5⟩:=hf it (by simp)
  have W:=Walks.range (prog:=X.prog) (w:=X.w) (I.ok.hd hc) it lo 1 n
  refine W.item i s _ _ hg st fun v h' tk hv iN kk => ?_
  obtain⟨t,rfl⟩:=hv
  have I1:Inv X pins σ H { s with heap:=h',toks:=tk }:=I.turned (fun b o hb e=>kk b o (by simpa using hb) e) f0 f1 f3 f4 f5
  refine⟨_,rfl,x5 (s:={ s with heap:=h',toks:=tk }) (n := "range_iterator") iN rfl rfl (by decide) ⟨.int (lo + i),H,I1,⟨t,?_⟩,⟨rfl,rfl⟩,iN,fun b hb=>(hf b hb).1⟩⟩
  rw[Int.mul_one]
 done:=by
  intro X hP hw hK hc i pins s σ H E I hf st hg
  subst hP hw hK
  obtain⟨f0,f1,f2,f3,f4,f5⟩:=hf it (by simp)
  exact wpAny_pyNext_range_end (I.ok.hd hc) st (by have:n <= i:=hg;omega) fun h' eb=>⟨rfl,I.turned (t':=s.toks) (fun b o hb e=>eb b o hb e) f0 f1 f3 f4 f5⟩
 self:=fun _ _ _ _ _ st h=>wpAny_pyIter_rangeiter st h
section
variable {X:Cx} {tg:Expr}
theorem DO {pins:List (Addr × Obj)} {σ : St} {H:Hp} {s:Shared} {R:It->Hp->Prop} {E:Value->Shared->Prop} {lo hi:Int} {t u v:Tok} {tk:Nat} (I:Inv X pins σ H s) (h1 : -(2 ^ 62) <= lo) (h2:lo < 2 ^ 62) (h3 : -(2 ^ 62) <= hi) (h4:hi < 2 ^ 62)
  (q:R (si lo (hi - lo).toNat) H):wpAny (model X.prog X.w) X.A (pyIter (.ref s.heap.objs.size)) (DL X pins σ tg R) E { s with heap:=s.heap.push { cls := .type "range",data := .fields #[.int lo t,.int hi u,.int 1 v] },toks:=tk }:=by
 refine wpAny_pyIter_range (IsRange.new ..) (small_one h1 h2 h3 h4) ?_
 have I1:Inv X pins σ H { s with heap:=s.heap.push { cls := .type "range",data := .fields #[.int lo t,.int hi u,.int 1 v] },toks:=tk }:=I.kept fun b o e=>oQ _ e
 refine⟨(s.heap.push { cls := .type "range",data := .fields #[.int lo t,.int hi u,.int 1 v] }).objs.size,[(s.heap.push { cls := .type "range",data := .fields #[.int lo t,.int hi u,.int 1 v] }).objs.size],_,_,H,rfl,
  I1.kept (t':=tk) fun b o e=>oQ _ e,LU _ lo (hi - lo).toNat,?_,fun b hb => ?_,q⟩
 ·have e1:lo + ((0:Nat):Int) * 1=lo:=by simp
  have e2:(((hi - lo).toNat:Nat):Int) - ((0:Nat):Int)=Builtin.Range.rangeSize lo hi 1:=by rw[rangeSize_one];split<;>omega
  show IsRangeIter _ _ (lo + ((0:Nat):Int) * 1) ((((hi - lo).toNat:Nat):Int) - ((0:Nat):Int)) 1
  rw[e1,e2]
  exact X1 _ rfl
 ·have e:b=(s.heap.push { cls := .type "range",data := .fields #[.int lo t,.int hi u,.int 1 v] }).objs.size:=by simpa using hb
  subst e
  exact I1.f7 (sG _) (I1.aM.fresh (sG _))
noncomputable def DP (ta:TA):TI:=fun σ H R=>ta σ H fun vs H1=>∃ j:Int,vs=[.int j] /\ -(2 ^ 62) <= j/\j < 2 ^ 62/\R (si 0 j.toNat) H1
noncomputable def DQ (ta:TA):TI:=fun σ H R=>ta σ H fun vs H1=>∃ i j:Int,vs=[.int i,.int j]/\(-(2 ^ 62) <= i/\i < 2 ^ 62 /\ -(2 ^ 62) <= j/\j < 2 ^ 62)/\R (si i (j - i).toNat) H1
theorem LV {a:Expr} {ta:TA} {p pos:Pos} (hg:Gl X "range") (hm:X.mg "range" = none) (ha:PA X [a] ta) (hs:starEach [a] X.env=[(false,eval a X.env)]:=by rfl):PI X tg (.Call (.Name "range" p) [a] [] pos) (DP ta):=by
 intro pins s σ H R I h
 refine Call_ (lq I hg hm boot_range (Y8 (a5 (ha pos pins s σ H _ I h) fun us s1 h0_ => el5 h0_ fun vs H1 I1 r1 q1 => ?_) hs rfl))
 obtain⟨j,e,q1,q2,q⟩:=q1
 subst e
 cases r1 with
 | cons r rr =>
  cases rr
  obtain⟨t,rfl⟩:=r
  exact call_range_1 (DO I1 (by omega) (by omega) q1 q2 (by simpa using q))
theorem LW {a b:Expr} {ta:TA} {p pos:Pos} (hg:Gl X "range") (hm:X.mg "range" = none) (ha:PA X [a,b] ta) (hs:starEach [a,b] X.env=[(false,eval a X.env),(false,eval b X.env)]:=by rfl) (gB:starEach [b] X.env=[(false,eval b X.env)]:=by rfl) :
  PI X tg (.Call (.Name "range" p) [a,b] [] pos) (DQ ta):=by
 intro pins s σ H R I h
 refine Call_ (lq I hg hm boot_range (Y8 (a5 (ha pos pins s σ H _ I h) fun us s1 h0_ => el5 h0_ fun vs H1 I1 r1 q1 => ?_) (by rw[hs,gB]) (by rw[gB];rfl)))
 obtain⟨i,j,e,⟨q1,q2,q3,q4⟩,q⟩:=q1
 subst e
 cases r1 with
 | cons r rr =>
  cases rr with
  | cons r' rr =>
   cases rr
   obtain⟨t,rfl⟩:=r
   obtain⟨t',rfl⟩:=r'
   exact call_range_2 (DO I1 q1 q2 q3 q4 q)
noncomputable def sj (wi:TI) (g:TG) (tb:TS):TS:=fun D σ H=>wi σ H fun J H1=>∃ W:Nat->Nat->St->Hp->Prop,(∃ m,W 0 m σ H1)/\∀ i m σ H,W i m σ H →
 (J.stop i H/\D.nx σ H)\/(J.go i H/\∃ N:St->Hp->Prop,(∀ σ' H',N σ' H'->∃ m',m' < m/\W (i + 1) m' σ' H')/\∀ x H',J.qu i H x H'->g x σ H' fun σ2 H2=>tb { D with nx:=N,ct:=N,bk:=D.nx } σ2 H2)
noncomputable def sk (fp:List Addr) (h:Heap):List (Addr × Obj):=fp.filterMap fun b=>(h.get? b).map fun o=>(b,o)
theorem vD {fp:List Addr} {h:Heap} {b:Addr} {o:Obj} (hb:b∈fp) (e:h.get? b=some o):(b,o)∈sk fp h:=Zw.mpr ⟨b,hb,by rw[e];rfl⟩
theorem LX {fp:List Addr} {h:Heap} {p:Addr × Obj} (hp:p∈sk fp h):p.1∈fp/\h.get? p.1=some p.2:=by
 obtain⟨b,hb,e⟩:=Zw.mp hp
 cases q:h.get? b with
 | none=>rw[q] at e;cases e
 | some o =>
  rw[q] at e
  have e':(b,o)=p:=Yi e
  subst e'
  exact⟨hb,q⟩
theorem Inv.pinned {pins:List (Addr × Obj)} {σ : St} {H:Hp} {s:Shared} {fp:List Addr} (I:Inv X pins σ H s) (hf:∀ b∈fp,bf X pins H b) (ho:∀ b∈fp,∃ o,s.heap.get? b=some o/\∀ v,o.data ≠ .cell v):Inv X (pins ++ sk fp s.heap) σ H s :=
 I.eE fun p hp=>(YM.mp hp).elim (fun z=>I.pin p (Nj _ z)) fun z=>by
  obtain⟨hb,e⟩:=LX z
  obtain⟨f0,f1,f2,_⟩:=hf p.1 hb
  obtain⟨o,e',d⟩:=ho p.1 hb
  rw[e] at e';cases e'
  exact⟨e,f0,f1,f2,d⟩
theorem Inv.dr {pins pl:List (Addr × Obj)} {σ : St} {H:Hp} {s:Shared} (I:Inv X (pins ++ pl) σ H s):Inv X pins σ H s:=I.eE fun p hp=>I.pin p (Nj _ (Yv _ hp))
theorem LY {iter:Expr} {body:List Stmt} {wi:TI} {g:TG} {tb:TS} {pos:Pos} (hp:PassesOwn (model X.prog X.w) X.A X.env X.xe) (hc:X.calm=true) (hi:PI X tg iter wi) (hg:PG X tg g) (hb:eF X body tb)
  (hs:∀ x,foldedSetIterable iter X.env x=pure x:=by intro _;rfl):PS X (.For tg iter body [] pos) (sj wi g tb):=by
 intro pins s σ H D I h
 refine wpAny_For (a5 (hi pins s σ H _ I h) fun v s1 h1=>a5 h1 fun x4 s2 h2 => ?_) hs
 obtain⟨it,fp,tn,J,H2,e,I2,T,mQ,f2,W,⟨m0,w0⟩,turn⟩:=h2
 subst e
 have ig:∀ {H':Hp},(∀ b∈fp,H' b=none)->∀ b∈fp,bf X pins H' b:=fun hn b hb=>⟨hn b hb,(f2 b hb).2⟩
 refine codeAny_forLoop_any (fun n s'=>∃ i σ' H',Inv X pins σ' H' s'/\tn i s'.heap/\(∀ b∈fp,H' b=none)/\W i n σ' H') ?_ m0 ⟨0,σ,H2,I2,mQ,fun b hb=>(f2 b hb).1,w0⟩
 rintro n s3 ⟨i,σ3,H3,I3,qv,so,w3⟩
 rcases turn i n σ3 H3 w3 with⟨stop,qn⟩ | ⟨go,N,hN,step⟩
 ·refine q0b hp (a5 (T.done X rfl rfl rfl hc i pins s3 σ3 H3 X.xe I3 (ig so) qv stop) fun r s4 ⟨hr,I4⟩ => ?_)
  subst hr
  exact q0K ⟨σ3,H3,I4,qn⟩
 ·refine q0b hp (a5 (T.item X rfl rfl rfl hc i pins s3 σ3 H3 X.xe I3 (ig so) qv go) fun r s4 ⟨u,hr,h4⟩ => ?_)
  subst hr
  refine q0b hp (a5 h4 fun _ s5 ⟨x,H5,I5,r5,y5,om,x6⟩ => ?_)
  have x8:=I5.pinned (ig x6) (T.obj _ _ om)
  refine q0b hp (a5 (hg _ s5 σ3 H5 x u _ x8 r5 (step x H5 y5)) fun _ s6 ⟨σ6,H6,I6,q6⟩ => ?_)
  refine q0b hp (a5 (hb _ s6 σ6 H6 _ I6 q6) fun f s7 q7 => ?_)
  have again:∀ {σ7:St} {H7:Hp},Inv X (pins ++ sk fp s5.heap) σ7 H7 s7->N σ7 H7->∃ m,m < n/\∃ i σ' H',Inv X pins σ' H' s7/\tn i s7.heap/\(∀ b∈fp,H' b=none)/\W i m σ' H':=fun {σ7 H7} I7 n7=>by
   obtain⟨m',hm,w7⟩:=hN σ7 H7 n7
   refine⟨m',hm,i + 1,σ7,H7,I7.dr,T.keep _ _ _ om fun b hb o e=>(I7.pin (b,o) (Nj _ (Nj _ (vD hb e)))).1,fun b hb => ?_,w7⟩
   obtain⟨o,e,d⟩:=T.obj _ _ om b hb
   exact (I7.pin (b,o) (Nj _ (Nj _ (vD hb e)))).2.1
  cases f with
  | next=>obtain⟨σ7,H7,I7,n7⟩:=q7;exact again I7 n7
  | cont=>obtain⟨σ7,H7,I7,n7⟩:=q7;exact again I7 n7
  | brk=>obtain⟨σ7,H7,I7,q7⟩:=q7;exact⟨σ7,H7,I7.dr,q7⟩
  | ret v=>obtain⟨x7,σ7,H7,I7,r7,q7⟩:=q7;exact⟨x7,σ7,H7,I7.dr,r7,q7⟩
end
noncomputable abbrev R2:=V->V->Hp->VK->Prop
noncomputable def cB (X:Cx) (f:Value->Value->Sem Value) (r:R2):Prop :=
 ∀ (pins:List (Addr × Obj)) (s:Shared) (σ : St) (H:Hp) (x y:V) (v u:Value) (Q:VK),Inv X pins σ H s->RelV x v->RelV y u->r x y H Q →
  wpAny (model X.prog X.w) X.A (f v u) (EP X pins σ Q) X.xe s
noncomputable def vE (X:Cx) (f:Value->Sem Value) (r:V->Hp->VK->Prop):Prop :=
 ∀ (pins:List (Addr × Obj)) (s:Shared) (σ : St) (H:Hp) (x:V) (v:Value) (Q:VK),Inv X pins σ H s->RelV x v->r x H Q →
  wpAny (model X.prog X.w) X.A (f v) (EP X pins σ Q) X.xe s
noncomputable def fJ (X:Cx) (f:Value) (r:List V->Hp->VK->Prop):Prop :=
 ∀ (pins:List (Addr × Obj)) (s:Shared) (σ : St) (H:Hp) (xs:List V) (us:List Value) (Q:VK),Inv X pins σ H s->Vals xs us->r xs H Q →
  wpAny (model X.prog X.w) X.A (call f us) (EP X pins σ Q) X.xe s
noncomputable def ly (r:R2) (ta tb:TE):TE:=fun σ H Q=>ta σ H fun x H1=>tb σ H1 fun y H2=>r x y H2 Q
noncomputable def DR (r:V->Hp->VK->Prop) (ta:TE):TE:=fun σ H Q=>ta σ H fun x H1=>r x H1 Q
noncomputable def rI (C:Int->Int->Prop) (g:Int->Int->V):R2:=fun x y H Q=>∃ i j,x = .int i/\y = .int j/\C i j/\Q (g i j) H
noncomputable def lz (g:Int->Int->V):R2:=fun x y H Q=>∃ i j,x = .int i/\y = .int j/\Q (g i j) H
noncomputable def rU (g:Int->V):V->Hp->VK->Prop:=fun x H Q=>∃ i,x = .int i/\Q (g i) H
section
variable {X:Cx} {a b c:Expr} {ta tb tc:TE} {pos:Pos}
theorem oo (ha:PE X a ta) (hb:PE X b tb) {pins:List (Addr × Obj)} {s:Shared} {σ : St} {H:Hp} {R:V->V->Hp->Prop} (I:Inv X pins σ H s)
  (h:ta σ H fun x H1=>tb σ H1 fun y H2=>R x y H2) {Q:Value->Shared->Prop} {f:Value->Value->Sem Value}
  (hf:∀ v u s2 x y H2,Inv X pins σ H2 s2->RelV x v->RelV y u->R x y H2->wpAny (model X.prog X.w) X.A (f v u) Q X.xe s2) :
  wpAny (model X.prog X.w) X.A (eval a X.env) (fun v s₁ => wpAny (model X.prog X.w) X.A (eval b X.env) (fun u s₂ => wpAny (model X.prog X.w) X.A (f v u) Q X.xe s₂) X.xe s₁) X.xe s:=by
 refine a5 (ha pins s σ H _ I h) fun v s1 h0_ => el5 h0_ fun x H1 I1 r1 q1 => ?_
 refine a5 (hb pins s1 σ H1 _ I1 q1) fun u s2 h0_ => el5 h0_ fun y H2 I2 r2 q2 => ?_
 exact hf v u s2 x y H2 I2 r1 r2 q2
theorem LZ {op:Operator} {r:R2} (ho:cB X (binaryOp op) r) (ha:PE X a ta) (hb:PE X b tb):PE X (.BinOp a op b pos) (ly r ta tb):=by
 intro pins s σ H Q I h
 exact wpAny_BinOp (oo ha hb I h fun v u s2 x y H2 I2 rx ry q=>ho pins s2 σ H2 x y v u Q I2 rx ry q)
theorem L4 {op:UnaryOp} {r:V->Hp->VK->Prop} (ho:vE X (unaryOp op) r) (ha:PE X a ta):PE X (.UnaryOp op a pos) (DR r ta):=by
 intro pins s σ H Q I h
 exact UnaryOp_ (a5 (ha pins s σ H _ I h) fun v s1 h0_ => el5 h0_ fun x H1 I1 r1 q1 =>ho pins s1 σ H1 x v Q I1 r1 q1)
theorem vF {f:Value->Value->Sem Value} {C:Int->Int->Prop} {g:Int->Int->Int}
  (rule:∀ (i j:Int) (t u:Tok) (s:Shared) (Q:Value->Shared->Prop) (E:Value->Shared->Prop),C i j->Q (.int (g i j) s.toks) { s with toks:=s.toks + 1 }->wpAny (model X.prog X.w) X.A (f (.int i t) (.int j u)) Q E s) :
  cB X f (rI C fun i j => .int (g i j)):=by
 intro pins s σ H x y v u Q I rx ry h
 obtain⟨i,j,rfl,rfl,hc,q⟩:=h
 obtain⟨t,rfl⟩:=rx
 obtain⟨t',rfl⟩:=ry
 exact rule i j t t' s _ _ hc ⟨.int (g i j),H,I.tok _,⟨_,rfl⟩,q⟩
theorem sq {f:Value->Value->Sem Value} {g:Int->Int->Int}
  (rule:∀ (i j:Int) (t u:Tok) (s:Shared) (Q:Value->Shared->Prop) (E:Value->Shared->Prop),Q (.int (g i j) s.toks) { s with toks:=s.toks + 1 }->wpAny (model X.prog X.w) X.A (f (.int i t) (.int j u)) Q E s) :
  cB X f (lz fun i j => .int (g i j)):=by
 intro pins s σ H x y v u Q I rx ry h
 obtain⟨i,j,rfl,rfl,q⟩:=h
 obtain⟨t,rfl⟩:=rx
 obtain⟨t',rfl⟩:=ry
 exact rule i j t t' s _ _ ⟨.int (g i j),H,I.tok _,⟨_,rfl⟩,q⟩
theorem lA {f:Value->Value->Sem Value} {g:Int->Int->Bool}
  (rule:∀ (i j:Int) (t u:Tok) (s:Shared) (Q:Value->Shared->Prop) (E:Value->Shared->Prop),Q (.bool (g i j)) s->wpAny (model X.prog X.w) X.A (f (.int i t) (.int j u)) Q E s) :
  cB X f (lz fun i j => .bl (g i j)):=by
 intro pins s σ H x y v u Q I rx ry h
 obtain⟨i,j,rfl,rfl,q⟩:=h
 obtain⟨t,rfl⟩:=rx
 obtain⟨t',rfl⟩:=ry
 exact rule i j t t' s _ _ ⟨.bl (g i j),H,I,rfl,q⟩
noncomputable def sv (i j:Int):Prop:=j≠0/\j.natAbs < 1073741824
noncomputable def dS (i j:Int):Prop:=0 <= j/\j <= 1000000/\i.natAbs < 2 ^ 64
noncomputable def lB (i j:Int):Prop:=(-(2 ^ 64) < i/\i < 2 ^ 64)\/(-(2 ^ 64) < j/\j < 2 ^ 64)
theorem lB.ok {i j:Int} (h:lB i j):IntMulOk i j:=by
 rcases h with⟨h1,h2⟩ | ⟨h1,h2⟩
 ·exact .of_left (intBits_le_64 h1 h2)
 ·exact .of_right (intBits_le_64 h1 h2)
theorem DT:cB X (binaryOp .Add) (lz fun i j => .int (i + j)):=sq fun _ _ _ _ _ _ _ q=>add_int q
theorem L5:cB X (binaryOp .Sub) (lz fun i j => .int (i - j)):=sq fun _ _ _ _ _ _ _ q=>sub_int q
theorem L6:cB X (binaryOp .Mult) (rI lB fun i j => .int (i * j)):=vF fun _ _ _ _ _ _ _ hc q=>mul_int q hc.ok
theorem L7:cB X (binaryOp .FloorDiv) (rI sv fun i j => .int (i.fdiv j)):=vF fun _ _ _ _ _ _ _ hc q=>floordiv_int hc.1 q (.inl (PyProof.noPylong_small hc.2))
theorem x9:cB X (binaryOp .Mod) (rI (fun _ j=>0 < j) fun i j => .int (i % j)):=vF fun i j _ _ _ _ _ hc q=>by
 have h1:(0:Int) < j:=hc
 exact mod_int' (by omega) (by rw[Int.fmod_eq_emod_of_nonneg i (by omega)];exact q)
theorem L8:cB X (binaryOp .Pow) (rI dS fun i j => .int (i ^ j.toNat)):=vF fun _ _ _ _ _ _ _ hc q=>pow_int_small hc.1 hc.2.1 hc.2.2 q
theorem L9 {f:Value->Sem Value} {g:Int->Int}
  (rule:∀ (i:Int) (t:Tok) (s:Shared) (Q:Value->Shared->Prop) (E:Value->Shared->Prop),Q (.int (g i) s.toks) { s with toks:=s.toks + 1 }->wpAny (model X.prog X.w) X.A (f (.int i t)) Q E s) :
  vE X f (rU fun i => .int (g i)):=by
 intro pins s σ H x v Q I rx h
 obtain⟨i,rfl,q⟩:=h
 obtain⟨t,rfl⟩:=rx
 exact rule i t s _ _ ⟨.int (g i),H,I.tok _,⟨_,rfl⟩,q⟩
theorem L_:vE X (unaryOp .USub) (rU fun i => .int (-i)):=L9 fun _ _ _ _ _ q=>neg_int q
end
noncomputable def x_:V->V->Bool
 | .non,.non=>true | .non,.int _=>true | .int _,.non=>true | .non,.bl _=>true | .bl _,.non=>true | .non,.str _=>true | .str _,.non=>true
 | .int _,.int _=>true | .bl _,.bl _=>true | .str _,.str _=>true | .byt _,.byt _=>true
 | .int _,.str _=>true | .str _,.int _=>true | .bl _,.str _=>true | .str _,.bl _=>true
 | _,_=>false
noncomputable def Ma:R2:=fun x y H Q=>x_ x y=true/\Q (.bl (!decide (x=y))) H
theorem Mb {i j:Int}:decide (V.int i=V.int j)=(i == j):=by
 rw[q0c]
 simp
theorem Mc {i j:Bool}:decide (V.bl i=V.bl j)=(i == j):=by
 rw[q0c]
 simp
theorem Md {i j:Str}:decide (V.str i=V.str j)=(i == j):=by
 rw[q0c]
 simp
theorem Me {i j:Array UInt8}:decide (V.byt i=V.byt j)=(i.toList == j.toList):=by
 rw[q0c]
 cases i
 cases j
 simp
section
variable {X:Cx} {a b c:Expr} {ta tb tc:TE} {pos:Pos}
theorem gC {pins:List (Addr × Obj)} {σ : St} {H:Hp} {s:Shared} {Q:VK} {k k':Bool} (I:Inv X pins σ H s) (q:Q (.bl k) H) (e:k=k'):EP X pins σ Q (.bool k') s:=by
 subst e
 exact⟨.bl k,H,I,rfl,q⟩
theorem Mf:cB X (compareOp .NotEq) Ma:=by
 intro pins s σ H x y v u Q I rx ry h
 obtain⟨hs,q⟩:=h
 cases x with
 | non =>
  cases rx
  cases y with
  | non=>cases ry;exact PySem.EqNone.ne_none_none (gC I q (by simp))
  | bl j=>cases ry;exact PySem.EqNone.ne_none_bool (gC I q (by simp))
  | int j=>obtain⟨t',rfl⟩:=ry;exact PySem.EqNone.ne_none_int (gC I q (by simp))
  | str j=>obtain⟨t',rfl⟩:=ry;exact PySem.EqNone.ne_none_str (gC I q (by simp))
  | _=>exact absurd (show false=true from hs) Eu
 | bl i =>
  cases rx
  cases y with
  | non=>cases ry;exact PySem.EqNone.ne_bool_none (gC I q (by simp))
  | bl j=>cases ry;exact ne_bool (gC I q (congrArg not Mc))
  | str j=>obtain⟨t',rfl⟩:=ry;exact PySem.EqMixed.ne_bool_str (gC I q (by simp))
  | _=>exact absurd (show false=true from hs) Eu
 | int i =>
  obtain⟨t,rfl⟩:=rx
  cases y with
  | non=>cases ry;exact PySem.EqNone.ne_int_none (gC I q (by simp))
  | int j=>obtain⟨t',rfl⟩:=ry;exact ne_int (gC I q (congrArg not Mb))
  | str j=>obtain⟨t',rfl⟩:=ry;exact PySem.EqMixed.ne_int_str (gC I q (by simp))
  | _=>exact absurd (show false=true from hs) Eu
 | str i =>
  obtain⟨t,rfl⟩:=rx
  cases y with
  | non=>cases ry;exact PySem.EqNone.ne_str_none (gC I q (by simp))
  | bl j=>cases ry;exact PySem.EqMixed.ne_str_bool (gC I q (by simp))
  | int j=>obtain⟨t',rfl⟩:=ry;exact PySem.EqMixed.ne_str_int (gC I q (by simp))
  | str j=>obtain⟨t',rfl⟩:=ry;exact ne_str (gC I q (congrArg not Md))
  | _=>exact absurd (show false=true from hs) Eu
 | byt i =>
  obtain⟨t,rfl⟩:=rx
  cases y with
  | byt j=>obtain⟨t',rfl⟩:=ry;exact PySem.W.ne_bytes (gC I q (congrArg not Me))
  | _=>exact absurd (show false=true from hs) Eu
 | _=>cases y<;>exact absurd (show false=true from hs) Eu
theorem DU:cB X (compareOp .Lt) (lz fun i j => .bl (decide (i < j))):=lA fun _ _ _ _ _ _ _ q=>lt_int q
theorem Mg:cB X (compareOp .LtE) (lz fun i j => .bl (decide (i <= j))):=lA fun _ _ _ _ _ _ _ q=>le_int q
theorem Mh:cB X (compareOp .Gt) (lz fun i j => .bl (decide (j < i))):=lA fun _ _ _ _ _ _ _ q=>gt_int q
theorem Mi:cB X (compareOp .GtE) (lz fun i j => .bl (decide (j <= i))):=lA fun _ _ _ _ _ _ _ q=>ge_int q
theorem Mj:cB X (compareOp .Is) (fun x y H Q=>y = .non/\Q (.bl (decide (x = .non))) H):=by
 intro pins s σ H x y v u Q I rx ry h
 obtain⟨rfl,q⟩:=h
 cases ry
 refine is_none_gen (gC I q ?_)
 cases x<;>first
  | (cases rx;rfl)
  | (obtain⟨t,rfl⟩:=rx;rfl)
theorem Ml:cB X (compareOp .IsNot) (fun x y H Q=>y = .non/\Q (.bl (!decide (x = .non))) H):=by
 intro pins s σ H x y v u Q I rx ry h
 obtain⟨rfl,q⟩:=h
 cases ry
 refine isnot_none_gen (gC I q ?_)
 cases x<;>first
  | (cases rx;rfl)
  | (obtain⟨t,rfl⟩:=rx;rfl)
theorem DW (b:Expr) {op:CmpOp} (h:op ≠ .In:=by decide) (h2:op ≠ .NotIn:=by decide):behindInMarks op b=false:=by
 have e1:(op == CmpOp.In)=false:=by cases op<;>first | rfl | exact absurd rfl h
 have e2:(op == CmpOp.NotIn)=false:=by cases op<;>first | rfl | exact absurd rfl h2
 cases b<;>simp[behindInMarks,e1,e2]
theorem Mm {op:CmpOp} {r:R2} (ho:cB X (compareOp op) r) (ha:PE X a ta) (hb:PE X b tb) (hm:behindInMarks op b=false):PE X (.Compare a [op] [b] pos) (ly r ta tb):=by
 intro pins s σ H Q I h
 exact wpAny_Compare1 (oo ha hb I h fun v u s2 x y H2 I2 rx ry q=>ho pins s2 σ H2 x y v u Q I2 rx ry q) hm
noncomputable def DX (t:TE):TT:=fun σ H Q=>t σ H fun x H'=>∃ k,x = .bl k/\Q k H'
theorem Mn {op:CmpOp} {r:R2} (ho:cB X (compareOp op) r) (ha:PE X a ta) (hb:PE X b tb) (hm:behindInMarks op b=false):PT X (.Compare a [op] [b] pos) (DX (ly r ta tb)):=by
 intro pins s σ H Q I h
 refine wpAny_isTrue_Compare1 (a5 (ha pins s σ H _ I h) fun v s1 h0_ => el5 h0_ fun x H1 I1 r1 q1 =>a5 (hb pins s1 σ H1 _ I1 q1) fun u s2 h0_ => el5 h0_ fun y H2 I2 r2 q2 =>
  a5 (ho pins s2 σ H2 x y v u _ I2 r1 r2 q2) fun c s3 ⟨z,H3,I3,r3,k,e,q3⟩ => ?_) hm
 subst e
 cases r3
 exact Zc ⟨H3,I3,q3⟩
noncomputable def DY (r r':R2) (ta tb tc:TE):TE:=fun σ H Q=>ta σ H fun x H1=>tb σ H1 fun y H2=>r x y H2 fun z H3=>∃ k,z = .bl k ∧
 (if k=true then tc σ H3 fun w' H4=>r' y w' H4 Q else Q (.bl false) H3)
theorem Mo {op jK:CmpOp} {r r':R2} (ho:cB X (compareOp op) r) (i5:cB X (compareOp jK) r') (ha:PE X a ta) (hb:PE X b tb) (hc:PE X c tc)
  (hm:lastMarks [op,jK] [b,c]=false:=by with_unfolding_all rfl):PE X (.Compare a [op,jK] [b,c] pos) (DY r r' ta tb tc):=by
 intro pins s σ H Q I h
 refine Compare_chain (a5 (ha pins s σ H _ I h) fun v s1 h0_ => el5 h0_ fun x H1 I1 r1 q1 =>chain_link (a5 (hb pins s1 σ H1 _ I1 q1) fun u s2 h0_ => el5 h0_ fun y H2 I2 r2 q2 =>
  a5 (ho pins s2 σ H2 x y v u _ I2 r1 r2 q2) fun d s3 ⟨z,H3,I3,r3,k,e,q3⟩ => ?_)) hm
 subst e
 cases r3
 refine Zc ?_
 cases k with
 | false=>exact ite_ff ⟨.bl false,H3,I3,rfl,q3⟩
 | true=>exact ite_tt (chain_last (a5 (hc pins s3 σ H3 _ I3 q3) fun w' s4 ⟨z',H4,I4,r4,q4⟩=>i5 pins s4 σ H4 y z' u w' Q I4 r2 r4 q4))
theorem oq:(sizeLine:Nat) < 2 ^ 63:=by rw[Zh];decide
theorem Mp:cB X (binaryOp .Add) (fun x y H Q=>∃ i j,x = .str i/\y = .str j/\i.length + j.length <= sizeLine/\Q (.str (i ++ j)) H):=by
 intro pins s σ H x y v u Q I rx ry h
 obtain⟨i,j,rfl,rfl,hz,q⟩:=h
 obtain⟨t,rfl⟩:=rx
 obtain⟨t',rfl⟩:=ry
 exact add_str (fun t' tk=>⟨.str (i ++ j),H,I.tok _,⟨_,rfl⟩,q⟩) hz
theorem vals1 {x:V} {us:List Value} (r:Vals [x] us):∃ u,us=[u]/\RelV x u:=by
 cases r with
 | cons r1 r2=>cases r2;exact⟨_,rfl,r1⟩
theorem vals2 {x y:V} {us:List Value} (r:Vals [x,y] us):∃ u w',us=[u,w']/\RelV x u/\RelV y w':=by
 cases r with
 | cons r1 r2 =>
  cases r2 with
  | cons r3 r4=>cases r4;exact⟨_,_,rfl,r1,r3⟩
theorem Mq (hc:X.calm=true):fJ X (.builtin "max") (fun xs H Q=>∃ i j,xs=[.int i,.int j]/\Q (.int (if j > i then j else i)) H):=by
 intro pins s σ H xs us Q I r h
 obtain⟨i,j,rfl,q⟩:=h
 obtain⟨u,w',rfl,⟨t,rfl⟩,⟨t',rfl⟩⟩:=vals2 r
 refine max_two_ints (I.ok.hd hc) fun h' tk k=>⟨_,H,I.kept k,?_,q⟩
 by_cases hj:j > i
 ·rw[Xp hj,Xp hj];exact⟨_,rfl⟩
 ·rw[Xm hj,Xm hj];exact⟨_,rfl⟩
theorem Mr (hc:X.calm=true):fJ X (.builtin "min") (fun xs H Q=>∃ i j,xs=[.int i,.int j]/\Q (.int (if j < i then j else i)) H):=by
 intro pins s σ H xs us Q I r h
 obtain⟨i,j,rfl,q⟩:=h
 obtain⟨u,w',rfl,⟨t,rfl⟩,⟨t',rfl⟩⟩:=vals2 r
 refine min_two_ints (I.ok.hd hc) fun h' tk k=>⟨_,H,I.kept k,?_,q⟩
 by_cases hj:j < i
 ·rw[Xp hj,Xp hj];exact⟨_,rfl⟩
 ·rw[Xm hj,Xm hj];exact⟨_,rfl⟩
end
structure ot (h:Heap) (x dx C:Addr) (mA:Str->Option Value):Prop where
 obj:h.get? x=some (PySem.W.instObj C dx)
 ns:h.Ns1 dx mA
 ne:dx≠x
theorem ya {h:Heap} {dx:Addr} {mA:Str->Option Value} (n:h.Ns1 dx mA):∃ od,h.get? dx=some od/\∀ name,PySem.W.lookIn name od=some (mA name):=by
 obtain⟨o,es,ep,ho,hd,hk,_,hm⟩:=n
 refine⟨o,ho,fun name => ?_⟩
 have e:=hm name
 unfold nsFind findBy at e
 rw[<-Array.find?_toList] at e
 unfold PySem.W.lookIn
 rw[hd]
 dsimp only
 split
 ·rename_i y q
  rw[q] at e
  exact congrArg some e
 ·rename_i q
  rw[q] at e
  have a:es.toList.any (·.refKey)=false:=by
   rw[q0n]
   intro y hy
   obtain⟨z,t,yb⟩:=hk y (q0E.mp hy)
   simp[DictEntry.refKey,yb]
  have a':¬ es.toList.any (·.refKey)=true:=by rw[a];exact Eu
  rw[Xm a']
  exact congrArg some e
theorem ot.look {h:Heap} {x dx C:Addr} {mA:Str->Option Value} (I:ot h x dx C mA):∃ od,PySem.W.InstAt h x (PySem.W.instObj C dx) C (some od)/\∀ name,PySem.W.lookIn name od=some (mA name) :=
 let ⟨od,ho,hl⟩:=ya I.ns
 ⟨od,⟨I.obj,rfl,rfl,ho⟩,hl⟩
section
variable {prog:Program} {w:World} {A:Around} {E:Value->Shared->Prop} {s:Shared} {K:PySem.W.Frag} {x dx C f:Addr} {mA:Str->Option Value} {name:Str} {v:Value}
end
theorem h_.some_of {v:V} {o:Option Value} (r:h_ (some v) o):∃ u,o=some u/\RelV v u:=by
 cases o with
 | none=>exact (show False from r).elim
 | some u=>exact⟨u,rfl,r⟩
theorem Ms {v:V} {u:Value} (r:RelV v u):PySem.W.handedIn u=true:=by
 cases v with
 | non=>cases (show u=Value.none from r);rfl
 | bl b=>cases (show u=Value.bool b from r);rfl
 | int i=>obtain⟨t,e⟩:=(show ∃ t,u=Value.int i t from r);cases e;rfl
 | str x=>obtain⟨t,e⟩:=(show ∃ t,u=Value.str x t from r);cases e;rfl
 | byt b=>obtain⟨t,e⟩:=(show ∃ t,u=Value.bytes b t from r);cases e;rfl
 | flt b=>obtain⟨t,e⟩:=(show ∃ t,u=Value.float b t from r);cases e;rfl
 | ref a=>cases (show u=Value.ref a from r);rfl
 | ty n=>cases (show u=Value.type n from r);rfl
section
variable {P:Program} {w:World} {H H':Hp} {h h':Heap} {a C dx:Addr} {fs Le:List (Str × V)}
theorem Mt (aM:cV P w H h) (e:H a=some (.ins C dx fs)):∃ mA,ot h a dx C mA/\(∀ f,h_ (fs.lookup f) (mA f))/\PySem.Within mA (fs.map (·.1))/\fs.length <= 1000/\H dx=some (.own a):=by
 obtain⟨d,z,ne,ob,mA,n,r,q⟩:=(show aK P w H h a (.ins C dx fs) from aM a _ e)
 exact⟨mA,⟨ob,n,ne⟩,r,q,z,d⟩
end
structure yc (K:PySem.W.Frag) (C:Addr):Prop where
 pg:PySem.W.plainGet K C Str.empty=true
 hd:PySem.W.hasDictIn K C=true
 po:PySem.W.plainOver K C=true
 sa:PySem.W.findIn K (.ref C) "__setattr__" = some (some (.builtin "object.__setattr__"))
theorem yc.get {K:PySem.W.Frag} {C:Addr} (c:yc K C) (f:Str):PySem.W.plainGet K C f=true:=c.pg
noncomputable def sx (K:PySem.W.Frag) (C:Addr) (f:Str):Prop:=PySem.W.findIn K (.ref C) f=some none
section
variable {X:Cx} {pins:List (Addr × Obj)} {σ : St} {H:Hp} {s:Shared} {a C dx:Addr} {fs:List (Str × V)} {f:Str} {v:V} {A:Around} {E:Value->Shared->Prop}
theorem Mu {prog:Program} {w:World} {env:Env} {e:Expr} {f:Str} {pos:Pos} {s:Shared} {Q:Value->Shared->Prop} (hb:attributeBase e f env (eval e env)=eval e env)
  (h:wpAny (model prog w) A (eval e env) (fun o s₁ => wpAny (model prog w) A (getAttr o f true) Q E s₁) E s):wpAny (model prog w) A (eval (.Attribute e f pos) env) Q E s :=
 Attribute_any_ h (by rw[arm_eval_Attribute,hb])
end
section
variable {X:Cx} {o e value:Expr} {f:Str} {pos pos' yd:Pos} {ta tv:TE}
end
section
variable {X:Cx} {pins:List (Addr × Obj)} {σ : St} {H:Hp} {s:Shared} {A:Around} {E:Value->Shared->Prop} {Q:Value->Shared->Prop} {c:Value} {b:Bool}
inductive du (K:PySem.W.Frag) (H:Hp):V->Value->Prop where
 | non:du K H .non (.type "NoneType")
 | bl (x:Bool):du K H (.bl x) (.type "bool")
 | int (i:Int):du K H (.int i) (.type "int")
 | str (x:Str):du K H (.str x) (.type "str")
 | flt (x:UInt64):du K H (.flt x) (.type "float")
 | lst {a:Addr} {xs:List V} (e:H a=some (.lst xs)):du K H (.ref a) (.type "list")
 | frz {a:Addr} {o:Obj} {xs:List V} (e:H a=some (.frz o (.lst xs))):du K H (.ref a) (.type "list")
 | tup {a:Addr} {xs:List V} (e:H a=some (.tup xs)):du K H (.ref a) (.type "tuple")
 | dK {a:Addr} {ax:List (Key × V)} (e:H a=some (.dK ax)):du K H (.ref a) (.type "dict")
 | dT {a:Addr} {ax:List (List Key × V)} (e:H a=some (.dT ax)):du K H (.ref a) (.type "dict")
 | ins {a C dx:Addr} {fs:List (Str × V)} (e:H a=some (.ins C dx fs)) (cl:yc K C) (ha:PySem.W.findIn K (.ref C) "__class__" = some (some (.builtin "object.__class__")))
   (hn:PySem.W.specialIn K (.builtin "object.__class__") "__get__" = some (some (.builtin "getset_descriptor.__get__"))) (vG:PySem.W.takesIn K (.builtin "object.__class__")=some true)
   (hm:PySem.W.mroIn K C (.type "object")=some true):du K H (.ref a) (.ref C)
theorem Mv {x:V} {u t:Value} (I:Inv X pins σ H s) (rx:RelV x u) (ty:du X.K H x t) (e:PySem.W.kitOne X.K t c=some b) (h:∀ tk,Q (.bool b) { s with toks:=tk }) :
  wpAny (model X.prog X.w) A (call (.builtin "isinstance") [u,c]) Q E s:=by
 cases ty with
 | non=>cases (show u=Value.none from rx);exact YN PySem.W.kitx_none I.cW True.intro e (fun z=>nomatch z) h
 | bl y=>cases (show u=Value.bool y from rx);exact YN PySem.W.kitx_bool I.cW True.intro e (fun z=>nomatch z) h
 | int i=>obtain⟨t,q⟩:=(show ∃ t,u=Value.int i t from rx);cases q;exact YN PySem.W.kitx_int I.cW True.intro e (fun z=>nomatch z) h
 | str y=>obtain⟨t,q⟩:=(show ∃ t,u=Value.str y t from rx);cases q;exact YN PySem.W.kitx_str I.cW True.intro e (fun z=>nomatch z) h
 | flt y=>obtain⟨t,q⟩:=(show ∃ t,u=Value.float y t from rx);cases q;exact YN PySem.W.kitx_float I.cW True.intro e (fun z=>nomatch z) h
 | @lst a xs ea =>
  cases (show u=Value.ref a from rx)
  obtain⟨_,_,n,_,h1⟩:=(show aK X.prog X.w H s.heap a (.lst xs) from I.aM a _ ea)
  exact YN PySem.W.kitx_list I.cW ⟨_,h1,rfl⟩ e (fun z=>nomatch z) h
 | @frz a ob xs ea =>
  cases (show u=Value.ref a from rx)
  obtain⟨_,_,_,n,_,h1⟩:=(show aK X.prog X.w H s.heap a (.frz ob (.lst xs)) from I.aM a _ ea)
  exact YN PySem.W.kitx_list I.cW ⟨_,h1,rfl⟩ e (fun z=>nomatch z) h
 | @tup a xs ea =>
  cases (show u=Value.ref a from rx)
  obtain⟨_,_,_,p⟩:=(show aK X.prog X.w H s.heap a (.tup xs) from I.aM a _ ea)
  obtain⟨o,h1,h2,_⟩:=p
  exact YN PySem.W.kitx_tuple I.cW ⟨o,h1,h2⟩ e (fun z=>nomatch z) h
 | @dK a ax ea =>
  cases (show u=Value.ref a from rx)
  obtain⟨_,_,vs,_,p⟩:=(show aK X.prog X.w H s.heap a (.dK ax) from I.aM a _ ea)
  obtain⟨o,es,ep,h1,h2,_⟩:=p
  exact YN PySem.W.kitx_dict I.cW ⟨o,h1,h2.1⟩ e (fun z=>nomatch z) h
 | @dT a ax ea =>
  cases (show u=Value.ref a from rx)
  obtain⟨_,_,xs,_,o,es,ep,h1,h2,_⟩:=(show aK X.prog X.w H s.heap a (.dT ax) from I.aM a _ ea)
  exact YN PySem.W.kitx_dict I.cW ⟨o,h1,h2.1⟩ e (fun z=>nomatch z) h
 | @ins a C dx fs ea cl ha hn vG hm =>
  cases (show u=Value.ref a from rx)
  obtain⟨mA,O,_⟩:=Mt I.aM ea
  obtain⟨od,J,_⟩:=O.look
  exact YN (PySem.W.kitx_own (cl.get _) cl.hd ha hn vG hm) I.cW J e (fun z=>nomatch z) h
end
structure aS (k:Nat) (A:Around):Prop where
 hd:A.handled=none
 dp:A.depth + 3 * k + 5 < recursionLimit
 un:A.units + 16 * k + 200 < cLine
theorem aS.mono {j k:Nat} {A:Around} (r:aS k A) (h:j <= k):aS j A:=⟨r.hd,by have:=r.dp;omega,by have:=r.un;omega⟩
theorem aS.deeper {k:Nat} {A:Around} (r:aS (k + 1) A) (env:Env):aS k (A.deeper env) :=
 ⟨r.hd,by have:=r.dp;show A.depth + 1 + 3 * k + 5 < _;omega,by have:=r.un;show A.units + 3 + 16 * k + 200 < _;omega⟩
theorem aS.in1 {k:Nat} {A:Around} (r:aS (k + 1) A):aS k A.in1 :=
 ⟨r.hd,by have:=r.dp;show A.depth + 3 * k + 5 < _;omega,by have:=r.un;show A.units + 1 + 16 * k + 200 < _;omega⟩
theorem Mw {A:Around} {C:Addr} {us:List Value} {kw:List (Str × Value)}:(A.under (.builtin "type.__call__" ⟨.ref C :: us,kw⟩)).depth=A.depth + 1:=by
 first | rfl | simp[Around.under,Code.weight,Code.isCreation,Code.isGuard,Code.isCaller,Code.frames,Code.isFrame,guardIds]
theorem Mx {A:Around} {C:Addr} {us:List Value} {kw:List (Str × Value)}:(A.under (.builtin "type.__call__" ⟨.ref C :: us,kw⟩)).units=A.units + 1:=by
 first | rfl | simp[Around.under,Code.cUnits,Code.frames,Code.isFrame]
theorem aS.make {k:Nat} {A:Around} (r:aS (k + 1) A) (C:Addr) (us:List Value) (kw:List (Str × Value)):aS k (A.under (.builtin "type.__call__" ⟨.ref C :: us,kw⟩)) :=
 ⟨r.hd,by have:=r.dp;rw[Mw];omega,by have:=r.un;rw[Mx];omega⟩
theorem aS.depth {k:Nat} {A:Around} (r:aS k A):A.depth < recursionLimit:=by have:=r.dp;omega
theorem aS.units {k:Nat} {A:Around} (r:aS k A):A.units + 64 < cLine:=by have:=r.un;omega
noncomputable def ik:TA:=fun _ H Q=>Q [] H
noncomputable def eR (ta:TE) (tr:TA):TA:=fun σ H Q=>ta σ H fun x H1=>tr σ H1 fun xs H2=>Q (x :: xs) H2
section
variable {X:Cx} {e:Expr} {es:List Expr} {te:TE} {t:TA} {pos:Pos}
theorem DZ:PA X [] ik:=fun _ _ _ _ H Q I h=>Calls.spliced_nil ⟨[],H,I,.nil,h⟩
theorem mR (ha:PE X e te) (hr:PA X es t) (hs:starEach (e :: es) X.env=(false,eval e X.env) :: starEach es X.env:=by rfl):PA X (e :: es) (eR te t):=by
 intro pos pins s σ H Q I h
 rw[hs]
 show wpAny _ _ (spliced ((false,eval e X.env) :: backTo pos (starEach es X.env))) _ _ s
 refine Calls.spliced_cons (a5 (ha pins s σ H _ I h) fun u s1 h0_ => el5 h0_ fun x H1 I1 r1 q1 => ?_)
 exact a5 (hr pos pins s1 σ H1 _ I1 q1) fun us s2 h0_ => el5 h0_ fun xs H2 I2 r2 q2 =>⟨x :: xs,H2,I2,.cons r1 r2,q2⟩
noncomputable def sy (t:TA):TE:=fun σ H Q=>t σ H fun xs H1=>xs.length <= sizeLine/\∀ p,H1 p=none->Q (.ref p) (upd H1 p (.tup xs))
noncomputable def sA (t:TA):TE:=fun σ H Q=>t σ H fun xs H1=>xs.length <= sizeLine/\∀ p,H1 p=none->Q (.ref p) (upd H1 p (.lst xs))
theorem Mz {x1} (h:PA X es t):PE X (.Tuple es x1 pos) (sy t):=by
 intro pins s σ H Q I hq
 refine wpAny_Tuple_spliced (a5 (h pos pins s σ H _ I hq) fun us s1 ⟨xs,H1,I1,r,z,q⟩=>⟨by rw[<-r.length];exact z,?_⟩)
 have hf:H1 s1.heap.objs.size=none:=I1.aM.fresh (sG _)
 refine⟨.ref s1.heap.objs.size,upd H1 s1.heap.objs.size (.tup xs),I1.laid (t':=s1.toks) (fun b u e=>oQ _ e) (sG _) ?_,rfl,q _ hf⟩
 exact⟨z,us,r,⟨_,X1 _ rfl,rfl,_,rfl⟩⟩
theorem D0 (h:PA X es t):PE X (.List es pos) (sA t):=by
 intro pins s σ H Q I hq
 refine wpAny_List_spliced (a5 (h pos pins s σ H _ I hq) fun us s1 ⟨xs,H1,I1,r,z,q⟩=>⟨by rw[<-r.length];exact z,?_⟩)
 have hf:H1 s1.heap.objs.size=none:=I1.aM.fresh (sG _)
 refine⟨.ref s1.heap.objs.size,upd H1 s1.heap.objs.size (.lst xs),I1.laid (t':=s1.toks) (fun b u e=>oQ _ e) (sG _) ?_,rfl,q _ hf⟩
 exact⟨z,us,0,r,X1 _ rfl⟩
end
noncomputable abbrev Sp:=List V->Hp->VK->XK->Prop
noncomputable abbrev iO:=List Env->Hp->Shared->XK->Value->Shared->Prop
structure ip (P:Program) (w:World) (K:PySem.W.Frag) (mg:Str->Option Value) (base:Heap) (A:Around) (outer:List Env) (s:Shared) (H:Hp):Prop where
 frames:A.frames=some outer
 mod:Mod K mg base
 bs:∀ b o,base.get? b=some o->s.heap.get? b=some o/\H b=none
 ju:base.objs.size <= s.heap.objs.size
 cP:s.heap.FunFrames base outer
 jH:∀ b∈dP outer,H b=none
 aM:cV P w H s.heap
 bare:AllBare s.gens
noncomputable def CE (outer:List Env) (P:Program) (w:World) (H:Hp) (s:Shared) (Q:VK) (u:Value) (s':Shared):Prop :=
 ∃ v H',s'.os=s.os/\AllBare s'.gens/\Un (dP outer) [] H H' s.heap s'.heap/\cV P w H' s'.heap/\RelV v u/\Q v H'
noncomputable def CR (CX:iO) (outer:List Env) (P:Program) (w:World) (H:Hp) (s:Shared) (Q:VK) (E:XK) (r:Result) (s':Shared):Prop :=
 match r with
 | .ok (.ret u)=>CE outer P w H s Q u s'
 | .ok _=>False
 | .error e=>CX outer H s E e s'
structure bE (P:Program) (w:World) (K:PySem.W.Frag) (mg:Str->Option Value) (base:Heap) (CX:iO) (k:Nat) (f:Addr) (fd:FuncData) (ps:List Str) (sp:Sp):Prop where
 len:∀ vs H Q E,sp vs H Q E->vs.length=ps.length
 run:∀ (A:Around) (outer:List Env) (s:Shared) (H:Hp) (args:Args) (us:List Value) (vs:List V) (Q:VK) (E:XK),aS k A->ip P w K mg base A outer s H->BindsTo s fd args (ps.zip us)->Vals vs us->sp vs H Q E →
  codeAny (model P w) A (.call (.ref f) args) (CR CX outer P w H s Q E) s
theorem ip.make {P:Program} {w:World} {K:PySem.W.Frag} {mg:Str->Option Value} {base:Heap} {A:Around} {outer:List Env} {s:Shared} {H:Hp} (e:ip P w K mg base A outer s H) (C:Addr) (us:List Value) (kw:List (Str × Value)) :
  ip P w K mg base (A.under (.builtin "type.__call__" ⟨.ref C :: us,kw⟩)) outer s H:=⟨by first | exact e.frames | (simpa [Around.under,Code.envs,Code.isFrame,pushEnvs] using e.frames),e.mod,e.bs,e.ju,e.cP,e.jH,e.aM,e.bare⟩
section
variable {X:Cx} {pins:List (Addr × Obj)} {σ : St} {H:Hp} {s s':Shared}
theorem Inv.ou (I:Inv X pins σ H s):ip X.prog X.w X.K X.mg X.base X.A X.stack s H :=
 ⟨I.ok.frames,I.ok.mod,I.bs,YF I.ok.ju I.sz,I.stack,I.dq,I.aM,I.bare⟩
theorem Inv.after {Q:VK} {u:Value} (I:Inv X pins σ H s) (h:CE X.stack X.prog X.w H s Q u s'):EP X pins σ Q u s':=by
 obtain⟨v,H',os,bare,un,aM,r,q⟩:=h
 obtain⟨hh,g,d,t,ye⟩:=s'
 obtain rfl:ye=s.os:=os
 exact⟨v,H',I.call (h':=hh) (g':=g) (d':=d) (t':=t) (ch:=[]) un aM bare (fun b z=>absurd z (by simp)),r,q⟩
end
noncomputable def oy (sp:Sp) (jL:List V) (E:XK) (t:TA):TE:=fun σ H Q=>t σ H fun vs H1=>sp (vs ++ jL) H1 Q E
noncomputable def Binds (K:PySem.W.Frag) (fd:FuncData) (ps:List Str) (ds:List Value):Prop :=
 ∀ (s:Shared) (us:List Value),K.In s.heap->(us ++ ds).length=ps.length->BindsTo s fd ⟨us,[]⟩ (ps.zip (us ++ ds))
theorem Binds.all {K:PySem.W.Frag} {fd:FuncData} {ps:List Str} (h:∀ us:List Value,us.length=ps.length->bindArgs fd ⟨us,[]⟩=pure (ps.zip us)):Binds K fd ps []:=fun s us _ hl=>by
 rw[ZR] at hl ⊢
 exact .of_eq (h us hl)
noncomputable def lC (CX:iO) (X:Cx) (E:XK):Prop:=∀ (pins:List (Addr × Obj)) (σ : St) (H:Hp) (s:Shared) (e:Value) (s':Shared),Inv X pins σ H s->CX X.stack H s E e s'->X.xe e s'
section
variable {X:Cx} {CX:iO} {k:Nat} {f C:Addr} {fd:FuncData} {ps:List Str} {sp:Sp} {jL:List V} {ds:List Value} {E:XK} {x m:Str} {p pos apos:Pos} {e o:Expr} {es:List Expr} {ta:TE} {t:TA}
theorem MA {pins:List (Addr × Obj)} {σ : St} {H:Hp} {s:Shared} {Q:VK} {us:List Value} {vs:List V} (F:bE X.prog X.w X.K X.mg X.base CX k f fd ps sp) (hr:aS k X.A) (hb:Binds X.K fd ps ds) (hd:Vals jL ds) (hx:lC CX X E)
  (I:Inv X pins σ H s) (r:Vals vs us) (h:sp (vs ++ jL) H Q E):wpAny (model X.prog X.w) X.A (call (.ref f) us) (EP X pins σ Q) X.xe s:=by
 have r2:Vals (vs ++ jL) (us ++ ds):=r.append hd
 have hl:(us ++ ds).length=ps.length:=by rw[<-r2.length];exact F.len _ _ _ _ h
 refine q0y (q0o (F.run X.A X.stack s H ⟨us,[]⟩ (us ++ ds) (vs ++ jL) Q E hr I.ou (hb s us I.cW hl) r2 h) fun r s' hq => ?_)
 cases r with
 | error e=>exact hx pins σ H s e s' I hq
 | ok fl =>
  cases fl with
  | ret u=>exact I.after hq
  | next=>exact False.elim hq
  | brk=>exact False.elim hq
  | cont=>exact False.elim hq
theorem MB (F:bE X.prog X.w X.K X.mg X.base CX k f fd ps sp) (hr:aS k X.A) (hg:Gl X x) (hm:X.mg x=some (.ref f)) (hk:PySem.W.keepIn X.K (.ref f)=true) (hb:Binds X.K fd ps ds) (hd:Vals jL ds) (hx:lC CX X E)
  (ha:PA X (e :: es) t) (bT:(x == ("__debug__" : Str))=false:=by decide) (he:starEach (e :: es) X.env=(false,eval e X.env) :: starEach es X.env:=by rfl) (bU:(backTo pos (starEach es X.env)).any (·.1)=false:=by rfl) :
  PE X (.Call (.Name x p) (e :: es) [] pos) (oy sp jL E t):=by
 intro pins s σ H Q I h
 refine Zm (rY I hg hm ?_ bT)
 refine q0X (h₀ := X.base) I.ok.mod.kK hk (a5 (ha pos pins s σ H _ I h) fun us s1 h0_ => el5 h0_ fun vs H1 I1 r q =>⟨I1.cW,?_⟩) he bU
 exact MA F hr hb hd hx I1 r q
end
section
variable {X:Cx} {CX:iO} {k:Nat} {f C:Addr} {fd:FuncData} {ps ks:List Str} {sp:Sp} {E:XK} {x m:Str} {p pos apos eI:Pos} {e o:Expr} {es:List Expr} {Xj:List Keyword} {te ta:TE} {t tk:TA} {nm:Option Str}
variable {g:List Value->List Value->List Value} {gV:List V->List V->List V}
end
structure jM (N P:List Str) (sc:Scope):Prop where
 kind:sc.kind = .function
 co:sc.isCoroutine=false
 gen:sc.isGenerator=false
 nd:N.Nodup
 pre:N.take P.length=P
 par:∀ x∈P,sc.names.lookup x=some .local\/sc.names.lookup x=some .cell
 oz:∀ y∈sc.names,y.2 ≠ .free
theorem D1 {kindOf:Str->Option NameKind} {x:Str}:∀ {binds:List (Str × Value)} {m:Str->Option Value},(∀ v,(x,v)∉binds)->bindL kindOf binds m x=m x
 | [],_,_=>rfl
 | (n,v) :: r,m,h=>by
  unfold bindL
  rw[D1 fun w hw=>h w (Nk _ hw)]
  split
  ·have:x≠n:=by rintro rfl;exact h v Nh
   simp[this]
  ·rfl
theorem D2 {kindOf:Str->Option NameKind} {x:Str}:∀ {binds:List (Str × Value)} {m:Str->Option Value},(∀ v,(x,v)∉binds)->bindC kindOf binds m x=m x
 | [],_,_=>rfl
 | (n,v) :: r,m,h=>by
  unfold bindC
  rw[D2 fun w hw=>h w (Nk _ hw)]
  split
  ·rfl
  ·have:x≠n:=by rintro rfl;exact h v Nh
   simp[this]
theorem D3 {kindOf:Str->Option NameKind} {x:Str} {v:Value}:∀ {P:List Str} {vs:List Value} {i:Nat} {m:Str->Option Value},P.Nodup->P[i]? = some x->vs[i]? = some v->kindOf x=some .local →
  bindL kindOf (P.zip vs) m x=some v
 | [],_,_,_,_,h,_,_=>by simp at h
 | _ :: _,[],_,_,_,_,h,_=>by simp at h
 | p :: P,w :: vs,0,m,nd,h1,h2,hk=>by
  simp at h1 h2;subst h1;subst h2
  show bindL kindOf ((p,w) :: P.zip vs) m p=_
  unfold bindL
  rw[D1 fun v hv=>(ZQ.mp nd).1 (q1A hv).1,Xp hk]
  simp
 | p :: P,w :: vs,i + 1,m,nd,h1,h2,hk=>by
  show bindL kindOf ((p,w) :: P.zip vs) m x=_
  unfold bindL
  exact D3 (i:=i) (ZQ.mp nd).2 (by simpa using h1) (by simpa using h2) hk
theorem D4 {kindOf:Str->Option NameKind} {x:Str} {v:Value}:∀ {P:List Str} {vs:List Value} {i:Nat} {m:Str->Option Value},P.Nodup->P[i]? = some x->vs[i]? = some v->kindOf x≠some .local →
  bindC kindOf (P.zip vs) m x=some v
 | [],_,_,_,_,h,_,_=>by simp at h
 | _ :: _,[],_,_,_,_,h,_=>by simp at h
 | p :: P,w :: vs,0,m,nd,h1,h2,hk=>by
  simp at h1 h2;subst h1;subst h2
  show bindC kindOf ((p,w) :: P.zip vs) m p=_
  unfold bindC
  rw[D2 fun v hv=>(ZQ.mp nd).1 (q1A hv).1,Xm hk]
  simp
 | p :: P,w :: vs,i + 1,m,nd,h1,h2,hk=>by
  show bindC kindOf ((p,w) :: P.zip vs) m x=_
  unfold bindC
  exact D4 (i:=i) (ZQ.mp nd).2 (by simpa using h1) (by simpa using h2) hk
noncomputable def start (N:List Str) (vs:List V):St:=vs.map some ++ List.replicate (N.length - vs.length) none
noncomputable def ar (CX:iO) (P:Program) (w:World) (K:PySem.W.Frag) (mg:Str->Option Value) (base:Heap) (N:List Str) (qual:Str) (scope:Scope) (f:Addr) (cd:Value) (A:Around) (outer:List Env) (s:Shared) (H:Hp) (E:XK):Cx where
 prog:=P
 w:=w
 K:=K
 mg:=mg
 base:=base
 A:=A.deeper (envOfC qual scope s.heap.objs.size f cd)
 N:=N
 s₀ := s
 H₀ := H
 env:=envOfC qual scope s.heap.objs.size f cd
 outer:=outer
 stack:=envOfC qual scope s.heap.objs.size f cd :: outer
 ex:=[]
 calm:=true
 fn:=fun _=>true
 pn:=[]
 xe:=fun e s'=>wpAny (model P w) (A.deeper (envOfC qual scope s.heap.objs.size f cd)) (leaving (envOfC qual scope s.heap.objs.size f cd) e) (fun _ iq=>CX outer H s E e iq) (fun e' iq=>CX outer H s E e' iq) s'
theorem D5 {sc:Scope} {n:Nat} {x:Str} (h:sc.names.lookup x=some .cell):∃ c,(cellsFrom n sc.names []).lookup x=some c:=by
 have q:=q0p sc.names n [] (.inl h)
 exact Z9.mp q
theorem MC {CX:iO} {P:Program} {w:World} {K:PySem.W.Frag} {mg:Str->Option Value} {base:Heap} {N ps:List Str} {qual:Str} {scope:Scope} {f:Addr} {cd:Value} {A:Around} {outer:List Env} {s s1:Shared} {H:Hp} {E:XK} {us:List Value} {vs:List V}
  (S:jM N ps scope) (hd:A.handled=none) (e0:ip P w K mg base A outer s H) (hl:vs.length=ps.length) (r:Vals vs us)
  (x:InCallC s s.heap.objs.size (bindL (envOfC qual scope s.heap.objs.size f cd).kindOf (ps.zip us) fun _=>none) (cellsFrom (s.heap.objs.size + 1) scope.names []) (bindC (envOfC qual scope s.heap.objs.size f cd).kindOf (ps.zip us) fun _=>none) s1) :
  Inv (ar CX P w K mg base N qual scope f cd A outer s H E) [] (start N vs) H s1:=by
 have bU:ps.length <= N.length:=by have:=congrArg List.length S.pre;rw[Yp] at this;omega
 obtain⟨h1,tk,rfl,hk⟩:=x.done
 have lD:∀ b:Addr,b∉(ar CX P w K mg base N qual scope f cd A outer s H E).ex:=fun b z=>absurd (show b∈([]:List Addr) from z) (by simp)
 refine⟨⟨e0.mod,S.kind,rfl,rfl,sG _,fun y z c h1 h2 => ?_,fun y hy => ?_,fun y c _ h => ?_,fun _=>hd,Around.frames_deeper e0.frames,.inr ⟨rfl,rfl⟩,fun b z=>absurd z (lD b),e0.bs,e0.ju,fun b _ _=>lD b,fun b z=>absurd z (lD b),e0.cP,e0.jH⟩,
  rfl,e0.bare,Un.kept hk,⟨_,x.toInCall.ns,fun i y v h1 h2 h3 => ?_⟩,fun y c h=>⟨_,x.cell y c h⟩,e0.aM.fresh (sG _),fun y c h => ?_,fun p hp=>absurd (show p∈([]:List (Addr × Obj)) from hp) (by simp),e0.aM.kept hk,?_⟩
 ·exact name_of_addr x.apart (YR h1) (YR h2)
 ·have hy:scope.names.lookup y=some .cell\/scope.names.lookup y=some .free:=hy
  rcases hy with hy | hy
  ·exact D5 hy
  ·exact absurd rfl (S.oz _ (YR hy))
 ·exact Zb (x.above y c (YR h))
 ·have hi:i < vs.length:=by
   unfold start at h2
   by_cases hi:i < vs.length
   ·exact hi
   ·rw[Xr (by simpa using hi)] at h2
    rw[ZG] at h2
    split at h2<;>cases h2
  have ha:vs[i]? = some v:=by
   unfold start at h2
   rw[Xn (by simpa using hi),Ni] at h2
   cases e:vs[i]? with
   | none=>rw[e] at h2;cases h2
   | some a=>rw[e] at h2;cases h2;rfl
  obtain⟨u,hu,rv⟩:=r.get ha
  have hp:ps[i]? = some y:=by
   rw[<-S.pre,Yw (by omega)];exact h1
  have D6:ps.Nodup:=by rw[<-S.pre];exact S.nd.sublist (List.take_sublist _ _)
  refine⟨u,rv,?_⟩
  rcases S.par y (Yn hp) with k | k
  ·exact .inl ⟨k,D3 D6 hp hu k⟩
  ·obtain⟨c,e⟩:=D5 (n:=s.heap.objs.size + 1) k
   refine .inr ⟨.inl k,c,e,?_⟩
   have q:=x.cell y c e
   rw[D4 D6 hp hu (by show scope.names.lookup y≠_;rw[k];decide)] at q
   exact q
 ·exact e0.aM.fresh (Zb (x.above y c (YR h)))
 ·unfold start
  show _=N.length
  rw[Ew,qy,Y3]
  omega
theorem yf {CX:iO} {P:Program} {w:World} {K:PySem.W.Frag} {mg:Str->Option Value} {base:Heap} {k:Nat} {f:Addr} {name qual:Str} {params:Arguments} {body:List Stmt} {scope:Scope} {dV kV doc pm aD ct oc:Value} {an od:Option Addr}
  {kO:Array (Option Value)} {N ps:List Str} {sp:Sp} (lk:K.lookup f=some ⟨oc,od,.func (PySem.W.fnOf name qual params body scope dV kV doc pm an aD ct),kO⟩) (di:PySem.W.codeIn K aD qual=true) (S:jM N ps scope)
  (len:∀ vs H Q E,sp vs H Q E->vs.length=ps.length)
  (cH:∀ (A:Around) (outer:List Env) (s:Shared) (H:Hp) (vs:List V) (Q:VK) (E:XK),aS k (A.deeper (envOfC qual scope s.heap.objs.size f aD))->sp vs H Q E →
   ∃ t,eF (ar CX P w K mg base N qual scope f aD A outer s H E) body t/\t { nx:=fun _ H'=>Q .non H',rt:=Q } (start N vs) H) :
  bE P w K mg base CX (k + 1) f (PySem.W.fnOf name qual params body scope dV kV doc pm an aD ct) ps sp:=by
 refine⟨len,fun A outer s H args us vs Q E hr e0 hb r kP => ?_⟩
 have hl:=len _ _ _ _ kP
 have KX:K.In s.heap:=e0.mod.kK.keeps fun b o e=>(e0.bs b o e).1
 have lim:s.heap.NoLimit:=e0.mod.nolimit.keeps fun b o e=>(e0.bs b o e).1
 have sC:∀ y∈ps.zip us,scope.names.lookup y.1=some .local\/(scope.names.lookup y.1=some .cell/\((cellsFrom (s.heap.objs.size + 1) scope.names []).lookup y.1).isSome=true):=fun ⟨n,v⟩ hy=>by
  rcases S.par n (q1A hy).1 with q | q
  ·exact .inl q
  ·exact .inr ⟨q,q0p _ _ _ (.inl q)⟩
 refine codeAny_call_function hr.depth (KX _ _ lk) rfl S.co S.gen rfl (PySem.W.codeRec_of KX di) (hb _ _ _ _ ?_)
 refine wpAny_newFunctionEnv_cells S.kind sC fun env he s1 x => ?_
 subst he
 refine⟨lim.keeps x.toInCall.keep,codeAny_func ?_⟩
 obtain⟨t,ht,hq⟩:=cH A outer s H vs Q E (hr.deeper _) kP
 have I:Inv (ar CX P w K mg base N qual scope f aD A outer s H E) [] (start N vs) H s1:=MC S hr.hd e0 hl r x
 refine YK (ht [] s1 (start N vs) H _ I hq) (fun fl s' hs => ?_) fun e s' hs=>hs
 have fin:∀ {σ':St} {H':Hp} {v:V} {u:Value},Inv (ar CX P w K mg base N qual scope f aD A outer s H E) [] σ' H' s'->RelV v u->Q v H'->CE outer P w H s Q u s' :=
  fun {σ' H' v u} J rv q=>⟨v,H',J.os,J.bare,J.base,J.aM,rv,q⟩
 cases fl with
 | ret u =>
  obtain⟨v,σ',H',J,rv,q⟩:=hs
  exact fin J rv q
 | next =>
  obtain⟨σ',H',J,q⟩:=hs
  exact fin (v:=V.non) (u:=Value.none) J rfl q
 | brk =>
  obtain⟨_,_,_,q⟩:=hs
  exact False.elim q
 | cont =>
  obtain⟨_,_,_,q⟩:=hs
  exact False.elim q
section
variable {X:Cx} {x:Str} {p pos:Pos} {e:Expr} {es:List Expr} {t:TA} {id T:String} {r:List V->Hp->VK->Prop}
noncomputable def oA (r:List V->Hp->VK->Prop) (t:TA):TE:=fun σ H Q=>t σ H fun vs H1=>r vs H1 Q
theorem MD (hc:fJ X (.builtin id) r) (hg:Gl X x) (hm:X.mg x=none) (hv:bootBuiltins x=some (.builtin id)) (ha:PA X (e :: es) t) (hn:x ≠ "__name__" := by decide) (bT:(x == ("__debug__" : Str))=false:=by decide)
  (he:starEach (e :: es) X.env=(false,eval e X.env) :: starEach es X.env:=by rfl) (bU:(backTo pos (starEach es X.env)).any (·.1)=false:=by rfl):PE X (.Call (.Name x p) (e :: es) [] pos) (oA r t):=by
 intro pins s σ H Q I h
 refine Zm (lq I hg hm hv ?_ hn bT)
 exact PyProof.Rows.callWith_builtin1 (a5 (ha pos pins s σ H _ I h) fun us s1 h0_ => el5 h0_ fun vs H1 I1 r1 q1 =>hc pins s1 σ H1 vs us Q I1 r1 q1) he bU
theorem ME (hc:fJ X (.type T) r) (hg:Gl X x) (hm:X.mg x=none) (hv:bootBuiltins x=some (.type T)) (ha:PA X (e :: es) t) (hn:x ≠ "__name__" := by decide) (bT:(x == ("__debug__" : Str))=false:=by decide)
  (he:starEach (e :: es) X.env=(false,eval e X.env) :: starEach es X.env:=by rfl) (bU:(backTo pos (starEach es X.env)).any (·.1)=false:=by rfl):PE X (.Call (.Name x p) (e :: es) [] pos) (oA r t):=by
 intro pins s σ H Q I h
 refine Zm (lq I hg hm hv ?_ hn bT)
 exact Y8 (a5 (ha pos pins s σ H _ I h) fun us s1 h0_ => el5 h0_ fun vs H1 I1 r1 q1 =>hc pins s1 σ H1 vs us Q I1 r1 q1) he bU
end
end L2
namespace HT
open PySem PyProof.Rows
noncomputable def lexLt:List Int->List Int->Bool
 | [],[]=>false
 | [],_ :: _=>true
 | _ :: _,[]=>false
 | x :: xs,y :: ys=>if x=y then lexLt xs ys else decide (x < y)
theorem oB (x y:Int) (xs ys:List Int):lexLt (x :: xs) (y :: ys)=if x=y then lexLt xs ys else decide (x < y):=rfl
theorem D7:lexLt [] []=false:=rfl
theorem D8 (y:Int) (ys:List Int):lexLt [] (y :: ys)=true:=rfl
theorem D9 (x:Int) (xs:List Int):lexLt (x :: xs) []=false:=rfl
theorem D_ (A:Around) (s:Shared) (a:Int) (t:Tok) (c:Int) (u:Tok):∃ e,SeqAt.EqAt A s (.int a t) (.int c u) e/\(e=true↔a=c) :=
 ⟨(a == c),q0Y a t c u,by simp⟩
theorem MF (A:Around) (s:Shared) (a:Int) (t:Tok) (c:Int) (u:Tok) (prog:Program) (w:World) (E:Value->Shared->Prop) (Q:Value->Shared->Prop) (h:Q (.bool (decide (a < c))) s) :
  wpAny (model prog w) A (richCompare .Lt (.int a t) (.int c u)) Q E s :=
 (PyProof.Rows.lt_int h:wpAny (model prog w) A (compareOp .Lt (.int a t) (.int c u)) Q E s)
section
open PySem.SeqAt
open PySem.AutoSeq1 (wpAny_loadPart')
open PySem.MeetsSeq PySem.MeetsSeq2 PySem.MeetsSeq3
theorem MG (l b:Addr) (items aP:Array Value) (n n2:Nat) (dd jw:Option Addr) (sl jx:Array (Option Value)) (ns ms:List Int) (hi:IntsAre items.toList ns) (hj:IntsAre aP.toList ms) :
  Meets (Builtin.«tuple.__lt__» ⟨[.ref l,.ref b],[]⟩)
   (fun _ R s=>s.heap.get? l=some { cls := .type "tuple",dict:=dd,data := .seq items n,slots:=sl }/\s.heap.get? b=some { cls := .type "tuple",dict:=jw,data := .seq aP n2,slots:=jx } ∧
    R (.ok (.ret (.bool (lexLt ns ms)))) s) :=
 .of_wp fun prog w A R s h=>by
  obtain⟨hp,g,d,tk,os⟩:=s;obtain⟨hl,hb,h⟩:=h
  have f2:=AutoSeq1.sub_tuple_tuple
  have z1:items.size=ns.length:=by rw[<-hi.length];simp
  have z2:aP.size=ms.length:=by rw[<-hj.length];simp
  wp_walk using YO hl,YO hb,Z5 _ (fun rest b s'=>b.1=none/\s'=⟨hp,g,d,tk,os⟩/\∃ (vs ws:List Value) (fc i8:List Int),rest=vs.zip ws ∧
   IntsAre vs fc/\IntsAre ws i8/\fc.length + aP.size=i8.length + items.size/\R (.ok (.ret (.bool (lexLt fc i8)))) ⟨hp,g,d,tk,os⟩) _
  case turn =>
   rintro ⟨y,x⟩ rest b s' ⟨hb',rfl,vs,ws,fc,i8,hz,oC,lE,hlen,hR⟩
   cases oC with
   | nil=>rw[q0q] at hz;cases hz
   | cons a t oE =>
    cases lE with
    | nil=>rw[q0Z] at hz;cases hz
    | cons c u oF =>
     rw[ZN] at hz
     injection hz with yg hrest
     injection yg with hy hx
     subst hy hx
     rw[oB] at hR
     simp only[Ex] at hlen
     obtain⟨e,he,jN⟩:=D_ A.in1 ⟨hp,g,d,tk,os⟩ a t c u
     refine lJ (he prog w _ _ ?_)
     cases e with
     | true =>
      rw[Xp (jN.mp rfl)] at hR
      wp_walk
      exact⟨rfl,rfl,_,_,_,_,hrest,oE,oF,by omega,hR⟩
     | false =>
      rw[Xm (fun q=>absurd (jN.mpr q) Eu)] at hR
      have yh:=MF A.in1 ⟨hp,g,d,tk,os⟩ a t c u prog w
      wp_walk using yh
      exact⟨_,rfl,by simpa using hR⟩
  case fin =>
   rintro ⟨b1,b2⟩ s' ⟨hb',rfl,vs,ws,fc,i8,hz,oC,lE,hlen,hR⟩
   simp only at hb'
   subst hb'
   have hv:lexLt fc i8=decide (items.size < aP.size):=by
    cases oC with
    | nil =>
     cases lE with
     | nil =>
      simp only[Zs] at hlen
      rw[D7]
      exact (Yc (by omega)).symm
     | cons c u hw =>
      simp only[Zs,Ex] at hlen
      rw[D8]
      exact (Ya (by omega)).symm
    | cons a t hv =>
     cases lE with
     | nil =>
      simp only[Zs,Ex] at hlen
      rw[D9]
      exact (Yc (by omega)).symm
     | cons c u hw =>
      rw[ZN] at hz
      cases hz
   rw[hv] at hR
   wp_walk
   exact⟨_,rfl,by simpa [Builtin.Tuple.tupleCompareSizes] using hR⟩
  case h =>
   exact⟨rfl,rfl,items.toList,aP.toList,ns,ms,rfl,hi,hj,by omega,h⟩
end
section
variable {prog:Program} {w:World} {A:Around} {E:Value->Shared->Prop} {s:Shared}
theorem Ea {l b:Addr} {items aP:Array Value} {ns ms:List Int} {Q:Value->Shared->Prop} (hl:IsTup s.heap l items) (hb:IsTup s.heap b aP) (hi:IntsAre items.toList ns) (hj:IntsAre aP.toList ms)
  (hu:A.units < cLine) (h:Q (.bool (lexLt ns ms)) s):wpAny (model prog w) A (compareOp .Lt (.ref l) (.ref b)) Q E s:=by
 obtain⟨⟨cls,dd,data,sl⟩,ho,hc,n,hd⟩:=id hl
 obtain⟨⟨oG,jw,data2,jx⟩,f9,gD,n2,hd2⟩:=id hb
 simp only at hc hd gD hd2
 subst hc hd gD hd2
 exact richCompare_meets_room (op := .Lt) ⟨_,ho,rfl⟩ ⟨_,f9,rfl⟩ PySem.F.slot_tuple_lt PySem.F.entry_tuple_lt (PySem.F.args_tuple_lt_2 _ _) (MG l b items aP n n2 dd jw sl jx ns ms hi hj)
  ⟨ho,f9,show Value.bool (lexLt ns ms)≠Value.notImplemented/\Q (.bool (lexLt ns ms)) s from ⟨(fun x=>nomatch x),h⟩⟩ hu
theorem MH {t b:Addr} {vs ws:List Value} {Q:Value->Shared->Prop} (ht:IsTup s.heap t vs.toArray) (hb:IsTup s.heap b ws.toArray) (hv:vs≠[])
  (h1:ws=[]->Q (.ref t) s) (h2:ws≠[]->Q (.ref s.heap.objs.size) { s with heap:=s.heap.push { cls := .type "tuple",data := .seq (vs ++ ws).toArray } })
  (eJ:vs.length + ws.length <= sizeLine):wpAny (model prog w) A (binaryOp .Add (.ref t) (.ref b)) Q E s:=by
 obtain⟨⟨cls,dd,data,sl⟩,ho,hc,n,hd⟩:=id ht
 obtain⟨⟨oG,jw,data2,jx⟩,f9,gD,n2,hd2⟩:=id hb
 simp only at hc hd gD hd2
 subst hc hd gD hd2
 have e:vs.toArray ++ ws.toArray=(vs ++ ws).toArray:=by simp
 by_cases hw:ws=[]
 ·exact concat_meets ⟨_,ho,rfl⟩ ⟨_,f9,rfl⟩ noFill_tuple_add seq_tuple_add q0r q0i (Z_ _ _)
   (tuple_addW1 t b vs.toArray ws.toArray n n2 dd jw sl jx (by simpa using hv) (by simp[hw])) ⟨ho,f9,h1 hw⟩
 ·refine concat_meets ⟨_,ho,rfl⟩ ⟨_,f9,rfl⟩ noFill_tuple_add seq_tuple_add q0r q0i (Z_ _ _)
   (tuple_addW2 t b vs.toArray ws.toArray n n2 dd jw sl jx (by simpa using hv) (by simpa using hw) (by rw[yG,yG];exact eJ)) ⟨ho,f9,?_⟩
  rw[e]
  exact h2 hw
noncomputable def aX (n d:Nat):Option Int->Nat
 | none=>d
 | some v=>if v < 0 then (v + (n:Int)).toNat else min v.toNat n
theorem MI (n d:Nat):aX n d none=d:=rfl
theorem yi (n d k:Nat):aX n d (some (k:Int))=min k n:=by
 show (if (k:Int) < 0 then ((k:Int) + (n:Int)).toNat else min (k:Int).toNat n)=min k n
 rw[Xm (by omega),Yj]
theorem MJ (n d:Nat) (hd:d <= n) (o:Option Int):aX n d o <= n:=by
 cases o with
 | none=>exact hd
 | some v =>
  show (if v < 0 then (v + (n:Int)).toNat else min v.toNat n) <= n
  by_cases hv:v < 0
  ·rw[Xp hv];omega
  ·rw[Xm hv];exact Nat.min_le_right _ _
theorem Eb (v:Int) (n d:Nat):(if v < 0 then max (v + (n:Int)) 0 else min v (n:Int))=((aX n d (some v):Nat):Int):=by
 show (if v < 0 then max (v + (n:Int)) 0 else min v (n:Int))=(((if v < 0 then (v + (n:Int)).toNat else min v.toNat n):Nat):Int)
 by_cases hv:v < 0
 ·simp only[Xp hv];omega
 ·simp only[Xm hv];omega
theorem MK (lo hi:Option Int) (n:Nat):Builtin.Slice.sliceAdjust lo hi 1 (n:Int)=(((aX n 0 lo:Nat):Int),((aX n n hi:Nat):Int)):=by
 have h1:¬ ((1:Int) < 0):=by omega
 unfold Builtin.Slice.sliceAdjust
 simp only[h1,YY]
 refine Prod.ext ?_ ?_
 ·cases lo with
  | none=>rfl
  | some v=>exact Eb v n 0
 ·cases hi with
  | none=>rfl
  | some v=>exact Eb v n n
theorem ML (i j:Nat):Builtin.Slice.slicePlaces (i:Int) (j:Int) 1=j - i:=by
 unfold Builtin.Slice.slicePlaces
 have h1:(1:Int) > 0:=by omega
 simp only[h1,ZL,Int.ediv_one]
 split<;>omega
theorem Ec {v:Value} {o:Option Int} {Q:Option Int->Shared->Prop} (p:IsPart v o) (h:Q o s):wpAny (model prog w) A (Builtin.Slice.slicePartIndex v) Q E s:=by
 cases p with
 | none=>exact slicePart_none h
 | int i t=>exact slicePart_int h
theorem Ed {sl:Addr} {vl vu:Value} {lo hi:Option Int} {n:Nat} {Q:Int × Int × Nat->Shared->Prop} (hs:s.heap.IsSliceOf sl vl vu .none) (pl:IsPart vl lo) (pu:IsPart vu hi)
  (h:Q (((aX n 0 lo:Nat):Int),1,aX n n hi - aX n 0 lo) s):wpAny (model prog w) A (Builtin.Slice.sliceApplied (.ref sl) (pure (n:Int))) Q E s:=by
 obtain⟨os,oH,qw,sD⟩:=id hs
 unfold Builtin.Slice.sliceApplied Builtin.Slice.sliceFields
 refine lJ (lJ (ZJ oH sD (x:=vl) rfl (lJ (ZJ oH sD (x:=vu) rfl (lJ (ZJ oH sD (x := .none) rfl (vK ?_)))))))
 refine lJ (slicePart_none ?_)
 show wpAny _ _ (if ((1:Int) == 0)=true then _ else _) _ _ s
 rw[Xm (by decide)]
 refine lJ (Ec pl (lJ (Ec pu (lJ (vK ?_)))))
 show wpAny _ _ (match Builtin.Slice.sliceAdjust lo hi 1 (n:Int) with | (lo,hi)=>pure (lo,(1:Int),Builtin.Slice.slicePlaces lo hi 1)) _ _ s
 rw[MK lo hi n]
 show wpAny _ _ (pure (((aX n 0 lo:Nat):Int),(1:Int),Builtin.Slice.slicePlaces ((aX n 0 lo:Nat):Int) ((aX n n hi:Nat):Int) 1)) _ _ s
 rw[ML]
 exact vK h
theorem MM (xs:Array Value) (i k:Nat):((List.range k).filterMap fun (m:Nat)=>xs[((i:Int) + (m:Int) * 1).toNat]?).toArray=((xs.toList.drop i).take k).toArray:=by
 have e:(fun (m:Nat)=>xs[((i:Int) + (m:Int) * 1).toNat]?)=fun m=>xs[i + m]? := by
  funext m
  have:((i:Int) + (m:Int) * 1).toNat=i + m:=by omega
  rw[this]
 rw[e]
 have:=pick_run xs i k
 rw[List.filterMap_map] at this
 have e2:((fun x=>xs[x]?) ∘ fun x=>i + x)=fun m=>xs[i + m]? := rfl
 rw[e2] at this
 rw[this]
theorem MN {t sl:Addr} {items:Array Value} {vl vu:Value} {lo hi:Option Int} {Q:Value->Shared->Prop} (ht:IsTup s.heap t items) (hs:s.heap.IsSliceOf sl vl vu .none) (pl:IsPart vl lo) (pu:IsPart vu hi)
  (hw:¬ (aX items.size 0 lo=0/\aX items.size items.size hi=items.size))
  (h:Q (.ref s.heap.objs.size) { s with heap:=s.heap.push { cls := .type "tuple",data := .seq ((items.toList.drop (aX items.size 0 lo)).take (aX items.size items.size hi - aX items.size 0 lo)).toArray } })
  (eJ:items.size <= sizeLine):wpAny (model prog w) A (getItem (.ref t) (.ref sl)) Q E s:=by
 have iP:sizeOk (.seq ((items.toList.drop (aX items.size 0 lo)).take (aX items.size items.size hi - aX items.size 0 lo)).toArray):=by
  show ((items.toList.drop (aX items.size 0 lo)).take (aX items.size items.size hi - aX items.size 0 lo)).toArray.size <= sizeLine
  rw[yG,Yp,Zk,My]
  omega
 have hj:aX items.size items.size hi <= items.size:=MJ _ _ (sG _) hi
 obtain⟨os,oH,qw,sD⟩:=id hs
 have yj:s.TypeIs (.ref sl) "slice" := ⟨os,oH,qw⟩
 unfold getItem
 try with_reducible refine Yl ?_
 first | refine lJ (vK ?_) | skip
 refine lJ (wpAny_sequenceKey ht.typeIs (by decide) ?_)
 refine lJ (ZH (name:=Str.ofString "__getitem__") ht.typeIs YE
  (q0z YE ht.typeIs entry_tuple_getitem ?_ (args_tuple_getitem _ _)))
 show wpAny _ _ (Builtin.Tuple.tupleItemsOf (.ref t) >>= _) _ _ s
 refine lJ (tupleItemsOf_ ht ?_)
 refine lJ (q0R yj ?_)
 rw[Xp (by decide)]
 refine lJ (Ed hs pl pu ?_)
 have MO:¬ ((((aX items.size 0 lo:Nat):Int) == 0 && (1:Int) == 1 && (aX items.size items.size hi - aX items.size 0 lo) == items.size)=true):=by
  intro q
  rw[Yg,Yg] at q
  have q1:((aX items.size 0 lo:Nat):Int)=0:=Yb q.1.1
  have q2:aX items.size items.size hi - aX items.size 0 lo=items.size:=Yb q.2
  exact hw ⟨by omega,by omega⟩
 show wpAny _ _ (if (((aX items.size 0 lo:Nat):Int) == 0 && (1:Int) == 1 && (aX items.size items.size hi - aX items.size 0 lo) == items.size)=true then _ else _) _ _ s
 rw[Xm MO,MM]
 first
  | exact lJ (m:=Builtin.Tuple.tupleExact _) (Y2 (vK ⟨_,rfl,vK h⟩) iP)
  | exact lJ (m:=Builtin.Tuple.tupleExact _) (Y2 (lJ (vK (vK ⟨_,rfl,vK h⟩))) iP)
  | exact lJ (lJ (m:=Builtin.Tuple.tupleExact _) (Y2 (vK (vK ⟨_,rfl,vK h⟩)) iP))
  | exact lJ (lJ (m:=Builtin.Tuple.tupleExact _) (Y2 (vK ⟨_,rfl,vK h⟩) iP))
end
end HT
namespace L2
open PySem PySem.Spec PyProof.Rows
noncomputable abbrev TO:=St->Hp->(Option Int->Hp->Prop)->Prop
noncomputable def PO (X:Cx) (e:Option Expr) (t:TO):Prop :=
 ∀ (pins:List (Addr × Obj)) (s:Shared) (σ : St) (H:Hp) (Q:Option Int->Hp->Prop),Inv X pins σ H s->t σ H Q →
  wpAny (model X.prog X.w) X.A (evalPart e X.env) (fun u s'=>∃ o H',Inv X pins σ H' s'/\IsPart u o/\Q o H') X.xe s
noncomputable def MP:TO:=fun _ H Q=>Q none H
noncomputable def MQ (t:TE):TO:=fun σ H Q=>t σ H fun x H1=>∃ i,x = .int i/\Q (some i) H1
theorem intsAre_of {ns:List Int}:∀ {us:List Value},Vals (ns.map V.int) us->IntsAre us ns:=by
 induction ns with
 | nil=>intro us r;rw[Z6] at r;cases r;exact .nil
 | cons n ns ih =>
  intro us r
  rw[YC] at r
  cases r with
  | cons r1 r2 =>
   obtain⟨t,e⟩:=r1
   subst e
   exact .cons n t (ih r2)
section
variable {X:Cx} {e:Expr} {te:TE} {lo hi:Option Expr} {tl th:TO} {pos p2:Pos}
theorem Ee:PO X none MP:=by
 intro pins s σ H Q I h
 rw[evalPart_none]
 exact vK ⟨none,H,I,.none,h⟩
theorem vH (h:PE X e te):PO X (some e) (MQ te):=by
 intro pins s σ H Q I hw
 rw[evalPart_some]
 refine a5 (h pins s σ H _ I hw) fun u s1 h0_ => el5 h0_ fun x H1 I1 r1 q1 => ?_
 obtain⟨i,rfl,q⟩:=q1
 obtain⟨t,rfl⟩:=r1
 exact⟨some i,H1,I1,.int i t,q⟩
noncomputable def lF (X:Cx) (r:V->Option Int->Option Int->Hp->VK->Prop):Prop :=
 ∀ (pins:List (Addr × Obj)) (s:Shared) (σ : St) (H:Hp) (x:V) (v vl vu:Value) (lo hi:Option Int) (sl:Addr) (Q:VK),Inv X pins σ H s->RelV x v->s.heap.IsSliceOf sl vl vu .none->IsPart vl lo->IsPart vu hi->r x lo hi H Q →
  ∃ T id,typeLookup (.type T) "__getitem__" = pure (some (.builtin id))/\s.TypeIs v T/\wpAny (model X.prog X.w) X.A (getItem v (.ref sl)) (EP X pins σ Q) X.xe s
theorem lF.or {r r':V->Option Int->Option Int->Hp->VK->Prop} (h:lF X r) (h':lF X r'):lF X (fun x lo hi H Q=>r x lo hi H Q\/r' x lo hi H Q):=by
 intro pins s σ H x v vl vu lo hi sl Q I rx hs pl pu q
 rcases q with q | q
 ·exact h pins s σ H x v vl vu lo hi sl Q I rx hs pl pu q
 ·exact h' pins s σ H x v vl vu lo hi sl Q I rx hs pl pu q
noncomputable def Ef (r:V->Option Int->Option Int->Hp->VK->Prop) (te:TE) (tl th:TO):TE:=fun σ H Q=>te σ H fun x H1=>tl σ H1 fun l H2=>th σ H2 fun u H3=>r x l u H3 Q
theorem MR {r:V->Option Int->Option Int->Hp->VK->Prop} (hr:lF X r) (he:PE X e te) (hl:PO X lo tl) (hu:PO X hi th):PE X (.Subscript e (.Slice lo hi none p2) pos) (Ef r te tl th):=by
 intro pins s σ H Q I h
 refine Subscript_ (a5 (he pins s σ H _ I h) fun v s1 h0_ => el5 h0_ fun x H1 I1 r1 q1 => ?_)
 refine wpAny_Slice (a5 (hl pins s1 σ H1 _ I1 q1) fun vl s2 h0_ => el5 h0_ fun l H2 I2 pl q2 =>a5 (hu pins s2 σ H2 _ I2 q2) fun vu s3 h0_ => el5 h0_ fun u H3 I3 pu q3 => ?_)
 rw[evalPart_none]
 refine vK ?_
 have I4:Inv X pins σ H3 { s3 with heap:=s3.heap.push { cls := .type "slice",data := .fields #[vl,vu,.none] } }:=I3.kept (t':=s3.toks) fun b ob q=>oQ _ q
 obtain⟨T,id,hT,ht,hg⟩:=hr pins { s3 with heap:=s3.heap.push { cls := .type "slice",data := .fields #[vl,vu,.none] } } σ H3 x v vl vu l u s3.heap.objs.size Q I4 r1 (Heap.IsSliceOf.new ..) pl pu q3
 show wpAny (model X.prog X.w) X.A (subscriptTail e (.Slice lo hi none p2) v (.ref s3.heap.objs.size)) (EP X pins σ Q) X.xe { s3 with heap:=s3.heap.push { cls := .type "slice",data := .fields #[vl,vu,.none] } }
 exact tail_any (ops:=[.ref s3.heap.objs.size,v]) ht hT hg (by with_unfolding_all rfl)
noncomputable def cI (xs:List V) (lo hi:Option Int):List V:=(xs.drop (HT.aX xs.length 0 lo)).take (HT.aX xs.length xs.length hi - HT.aX xs.length 0 lo)
theorem Eg (xs:List V) (lo hi:Option Int):(cI xs lo hi).length <= xs.length:=by
 unfold cI
 rw[Yp,Zk]
 omega
noncomputable def yk (K:PySem.W.Frag):V->Option Int->Option Int->Hp->VK->Prop:=fun x lo hi H Q=>∃ a xs,x = .ref a/\bC K H a xs ∧
 ¬ (HT.aX xs.length 0 lo=0/\HT.aX xs.length xs.length hi=xs.length)/\∀ p,H p=none->Q (.ref p) (upd H p (.tup (cI xs lo hi)))
theorem MS:lF X (yk X.K):=by
 intro pins s σ H x v vl vu lo hi sl Q I rx hs pl pu h
 obtain⟨a,xs,rfl,hx,hw,q⟩:=h
 cases rx
 obtain⟨ai,r,ht,hz⟩:=I.tuple hx
 have hlen:ai.toArray.size=xs.length:=by rw[yG];exact r.length.symm
 refine⟨"tuple",_,YE.lookup,ht.typeIs,?_⟩
 refine HT.MN ht hs pl pu (by rw[hlen];exact hw) ?_ (by rw[hlen];exact hz)
 rw[hlen]
 refine⟨.ref s.heap.objs.size,_,I.laid (t':=s.toks) (o := .tup (cI xs lo hi)) (fun b ob q=>oQ _ q) (sG _) ?_,rfl,q _ (I.aM.fresh (sG _))⟩
 exact⟨YF (Eg xs lo hi) hz,_,(r.drop (HT.aX xs.length 0 lo)).take (HT.aX xs.length xs.length hi - HT.aX xs.length 0 lo),IsTup.new _ _⟩
noncomputable def ym (K:PySem.W.Frag):R2:=fun x y H Q=>∃ a b ns ms,x = .ref a/\y = .ref b/\bC K H a (ns.map V.int)/\bC K H b (ms.map V.int)/\Q (.bl (HT.lexLt ns ms)) H
theorem MT (hu:X.A.units < cLine):cB X (compareOp .Lt) (ym X.K):=by
 intro pins s σ H x y v u Q I rx ry h
 obtain⟨a,b,ns,ms,rfl,rfl,ha,hb,q⟩:=h
 cases rx
 cases ry
 obtain⟨ai,r1,p1,_⟩:=I.tuple ha
 obtain⟨bg,r2,p2,_⟩:=I.tuple hb
 have i1:IntsAre ai.toArray.toList ns:=intsAre_of r1
 have i2:IntsAre bg.toArray.toList ms:=intsAre_of r2
 exact HT.Ea p1 p2 i1 i2 hu ⟨.bl (HT.lexLt ns ms),H,I,rfl,q⟩
noncomputable def MU (K:PySem.W.Frag):R2:=fun x y H Q=>∃ a b xs ys,x = .ref a/\y = .ref b/\bC K H a xs/\bC K H b ys/\xs≠[]/\xs.length + ys.length <= sizeLine ∧
 (ys=[]->Q (.ref a) H)/\(ys≠[]->∀ p,H p=none->Q (.ref p) (upd H p (.tup (xs ++ ys))))
theorem Vals.eG {xs:List V} {us:List Value} (r:Vals xs us):us=[]↔xs=[]:=by
 cases r with
 | nil=>simp
 | cons _ _=>simp
theorem MV:cB X (binaryOp .Add) (MU X.K):=by
 intro pins s σ H x y v u Q I rx ry h
 obtain⟨a,b,xs,ys,rfl,rfl,ha,hb,hx,hz,q1,q2⟩:=h
 cases rx
 cases ry
 obtain⟨ai,r1,p1,_⟩:=I.tuple ha
 obtain⟨bg,r2,p2,_⟩:=I.tuple hb
 refine HT.MH p1 p2 (fun z=>hx (r1.eG.mp z)) (fun z=>⟨.ref a,H,I,rfl,q1 (r2.eG.mp z)⟩) (fun z => ?_) (by rw[<-r1.length,<-r2.length];exact hz)
 refine⟨.ref s.heap.objs.size,_,I.laid (t':=s.toks) (o := .tup (xs ++ ys)) (fun b ob q=>oQ _ q) (sG _) ?_,rfl,q2 (fun w=>z (r2.eG.mpr w)) _ (I.aM.fresh (sG _))⟩
 exact⟨by rw[Ew];exact hz,_,r1.append r2,IsTup.new _ _⟩
end
noncomputable def i9 (n:Nat) (i:Int):Option Nat:=if 0 <= i then (if i < n then some i.toNat else none) else if -(n:Int) <= i then some (i + n).toNat else none
noncomputable def d_ {α : Type} (xs:List α) (i:Int):Option α := (i9 xs.length i).bind fun j=>xs[j]?
theorem Eh {n:Nat} {i:Int} {j:Nat} (h:i9 n i=some j):seqIndex? i n=some j/\j < n /\ -(n:Int) <= i/\i < n:=by
 unfold i9 at h
 by_cases h0:0 <= i
 ·rw[Xp h0] at h
  by_cases h1:i < n
  ·rw[Xp h1] at h
   have e:i.toNat=j:=Yi h
   exact⟨by rw[seqIndex_of h0 h1,e],by omega,by omega,h1⟩
  ·rw[Xm h1] at h;cases h
 ·rw[Xm h0] at h
  by_cases h1 : -(n:Int) <= i
  ·rw[Xp h1] at h
   have e:(i + n).toNat=j:=Yi h
   exact⟨by rw[seqIndex_neg (by omega) h1,e],by omega,h1,by omega⟩
  ·rw[Xm h1] at h;cases h
theorem yn {α : Type} {xs:List α} {i:Int} {v : α} (h:d_ xs i=some v):∃ j,seqIndex? i xs.length=some j/\xs[j]? = some v/\j < xs.length /\ -(xs.length:Int) <= i/\i < xs.length:=by
 unfold d_ at h
 cases e:i9 xs.length i with
 | none=>rw[e] at h;cases h
 | some j =>
  rw[e] at h
  obtain⟨h1,h2,h3,h4⟩:=Eh e
  exact⟨j,h1,h,h2,h3,h4⟩
theorem jO {α : Type} {xs:List α} {j:Nat} {v : α} (h:xs[j]? = some v):d_ xs (j:Int)=some v:=by
 have hj:j < xs.length:=(oP.mp h).1
 have e:i9 xs.length (j:Int)=some j:=by
  unfold i9
  rw[Xp (by omega),Xp (by omega)];simp
 unfold d_;rw[e];exact h
noncomputable def yo (b:Expr):Prop:=∀ o i,subscripted b false o i=operate [o,i] (getItem o i)
noncomputable def qx (X:Cx) (r:R2):Prop :=
 ∀ (value slice:Expr) (pins:List (Addr × Obj)) (s:Shared) (σ : St) (H:Hp) (x y:V) (v u:Value) (Q:VK),Inv X pins σ H s->RelV x v->RelV y u->r x y H Q →
  subscripted slice false v u=operate [v,u] (getItem v u)->wpAny (model X.prog X.w) X.A (subscriptTail value slice v u) (EP X pins σ Q) X.xe s
noncomputable def yp (X:Cx) (id:String) (r:V->List V->Hp->VK->Prop):Prop :=
 ∀ (pins:List (Addr × Obj)) (s:Shared) (σ : St) (H:Hp) (x:V) (xs:List V) (v:Value) (us:List Value) (Q:VK),Inv X pins σ H s->RelV x v->Vals xs us->r x xs H Q →
  wpAny (model X.prog X.w) X.A (call (.builtin id) (v :: us)) (EP X pins σ Q) X.xe s
section
variable {X:Cx} {a b:Expr} {ta tb:TE} {pos:Pos}
theorem MW {r:R2} (hr:qx X r) (ha:PE X a ta) (hb:PE X b tb) (hs:yo b):PE X (.Subscript a b pos) (ly r ta tb):=by
 intro pins s σ H Q I h
 exact Subscript_ (oo ha hb I h fun v u s2 x y H2 I2 rx ry q=>hr a b pins s2 σ H2 x y v u Q I2 rx ry q (hs _ _))
noncomputable def yq (K:PySem.W.Frag):R2:=fun x y H Q=>∃ p xs i v,x = .ref p/\y = .int i/\bc K H p xs/\d_ xs i=some v/\Q v H
noncomputable def yr (K:PySem.W.Frag):R2:=fun x y H Q=>∃ p xs i v,x = .ref p/\y = .int i/\bC K H p xs/\d_ xs i=some v/\Q v H
noncomputable def yt:R2:=fun x y H Q=>∃ z i c,x = .str z/\y = .int i/\z.length <= sizeLine/\d_ z.cps.toList i=some c/\Q (.str ⟨#[c]⟩) H
theorem vI:qx X (yq X.K):=by
 intro value slice pins s σ H x y v u Q I rx ry h hs
 obtain⟨p,xs,i,z,rfl,rfl,hq,he,q⟩:=h
 cases rx
 obtain⟨t,rfl⟩:=ry
 obtain⟨ai,r,pl,hz⟩:=I.list hq
 obtain⟨j,h1,h2,h3,h4,h5⟩:=yn he
 obtain⟨w,ew,sE⟩:=r.get h2
 have hl:=r.length
 have hn:=oq
 have fin:EP X pins σ Q w s:=⟨z,H,I,sE,q⟩
 by_cases h0:0 <= i
 ·have hj:i.toNat=j:=by
   rw[seqIndex_of h0 h5] at h1
   exact Yi h1
  exact item_listR pl.isList h0 (by omega) (by rw[hj];simpa using ew) fin hs
 ·have hj:(i + (ai.toArray.size:Int)).toNat=j:=by
   rw[seqIndex_neg (by omega) h4] at h1
   rw[yG,<-hl]
   exact Yi h1
  exact subscriptTail_builtinR (x:=w) pl.isList.typeIs slot_list_getitem.lookup
   (wpAny_getItem_list_neg (Q:=fun r s'=>r=w/\EP X pins σ Q r s') pl.isList (by omega) (by rw[yG]<;>omega) (by omega) (by rw[hj];simpa using ew) ⟨rfl,fin⟩) hs
theorem MX:qx X (yr X.K):=by
 intro value slice pins s σ H x y v u Q I rx ry h hs
 obtain⟨p,xs,i,z,rfl,rfl,hq,he,q⟩:=h
 cases rx
 obtain⟨t,rfl⟩:=ry
 obtain⟨ai,r,pl,hz⟩:=I.tuple hq
 obtain⟨j,h1,h2,h3,h4,h5⟩:=yn he
 obtain⟨w,ew,sE⟩:=r.get h2
 have hl:=r.length
 have hn:=oq
 have fin:EP X pins σ Q w s:=⟨z,H,I,sE,q⟩
 exact subscriptTail_builtinR (x:=w) pl.typeIs slot_tuple_getitem.lookup
  (getItem_tuple (j:=j) (Q:=fun r s'=>r=w/\EP X pins σ Q r s') pl (by omega) (by omega) (by rw[yG,<-hl];exact h1) (by simpa using ew) ⟨rfl,fin⟩) hs
theorem MY:qx X yt:=by
 intro value slice pins s σ H x y v u Q I rx ry h hs
 obtain⟨z,i,c,rfl,rfl,hz,he,q⟩:=h
 obtain⟨t,rfl⟩:=rx
 obtain⟨t',rfl⟩:=ry
 obtain⟨j,h1,h2,h3,h4,h5⟩:=yn he
 have hl:z.cps.toList.length=z.length:=by simp[Str.length]
 rw[hl] at h1 h4 h5
 have hn:=oq
 exact tail_any (typeIs_str s z t) slot_str_getitem.lookup (getItem_str (c:=c) (by
  have e1:decide (i < -(2 ^ 63:Int))=false:=Yc (by omega)
  have e2:decide (i ≥ 2 ^ 63)=false:=Yc (by omega)
  rw[e1,e2,Bool.or_false]) (by rw[h1];simpa using h2) ⟨.str ⟨#[c]⟩,H,I.tok _,⟨_,rfl⟩,q⟩) hs
theorem MZ (ai:List Value) (n j:Nat) (u:Value):Obj.mapSeq (·.setIfInBounds j u) { cls := .type "list",data := .seq ai.toArray n }={ cls := .type "list",data := .seq (ai.set j u).toArray n }:=by
 simp[Obj.mapSeq]
theorem Inv.lst {pins:List (Addr × Obj)} {σ : St} {H:Hp} {s:Shared} {p:Addr} {xs:List V} (I:Inv X pins σ H s) (h:H p=some (.lst xs)) :
  ∃ (ai:List Value) (n:Nat),Vals xs ai/\s.heap.get? p=some { cls := .type "list",data := .seq ai.toArray n }/\xs.length <= sizeLine:=by
 obtain⟨z,ai,n,r,e⟩:=I.aM p _ h
 exact⟨ai,n,r,e,z⟩
theorem Inv.oJ {pins:List (Addr × Obj)} {σ : St} {H:Hp} {s:Shared} {p:Addr} {xs ys:List V} {ai its':List Value} {n n':Nat} {f:Obj->Obj} (I:Inv X pins σ H s) (h:H p=some (.lst xs))
  (ho:s.heap.get? p=some { cls := .type "list",data := .seq ai.toArray n }) (hf:f { cls := .type "list",data := .seq ai.toArray n }={ cls := .type "list",data := .seq its'.toArray n' }) (r:Vals ys its') (hz:ys.length <= sizeLine) (t:Nat) :
  Inv X pins σ (upd H p (.lst ys)) { s with heap:=s.heap.update p f,toks:=t }:=by
 have e:(s.heap.update p f).get? p=some { cls := .type "list",data := .seq its'.toArray n' }:=by
  rw[YU f ho (by rw[hf]<;>rfl),hf]
 refine I.write (x:=p) (e:=p) (by rw[h];trivial) (.inl rfl) (fun b u hb q=>(Zd _ _ (Zn hb)).trans q) ⟨_,e⟩ ?_
 exact⟨hz,its',n',r,e⟩
noncomputable def Ei:V->V->V->Hp->(Hp->Prop)->Prop:=fun o i v H Q=>∃ p xs k j,o = .ref p/\i = .int k/\H p=some (.lst xs)/\i9 xs.length k=some j/\Q (upd H p (.lst (xs.set j v)))
theorem set_list:oh X Ei:=by
 intro pins s σ H o i v ov iv u Q I ro ri rv h
 obtain⟨p,xs,k,j,rfl,rfl,hp,hj,q⟩:=h
 cases ro
 obtain⟨t,rfl⟩:=ri
 obtain⟨ai,n,r,ho,hz⟩:=I.lst hp
 obtain⟨h1,h2,h3,h4⟩:=Eh hj
 have hl:=r.length
 have hn:=oq
 have I':Inv X pins σ (upd H p (.lst (xs.set j v))) { s with heap:=s.heap.update p (Obj.mapSeq (·.setIfInBounds j u)) } :=
  I.oJ hp ho (MZ ai n j u) (r.set rv j) (by rw[Y1];exact hz) s.toks
 by_cases h0:0 <= k
 ·have hk:k.toNat=j:=by
   rw[seqIndex_of h0 h4] at h1
   exact Yi h1
  exact PySem.W.ki_setAt ho h0 (by omega) (by rw[yG,<-hl];exact h4) (by rw[hk];exact⟨_,I',q⟩)
 ·have hk:(k + (ai.toArray.size:Int)).toNat=j:=by
   rw[seqIndex_neg (by omega) h3] at h1
   rw[yG,<-hl]
   exact Yi h1
  exact PySem.W.ki_setBack ho (by omega) (by rw[yG,<-hl];exact h3) (by omega) (by rw[hk];exact⟨_,I',q⟩)
theorem M0 (lo hi:Option Int) (n:Nat):(sliceBounds lo hi none n).1=((HT.aX n 0 lo:Nat):Int)/\(sliceBounds lo hi none n).2.1=((HT.aX n n hi:Nat):Int)/\(sliceBounds lo hi none n).2.2=1:=by
 refine⟨?_,?_,rfl⟩
 ·cases lo with
  | none=>simp[sliceBounds,HT.aX]
  | some i =>
   simp only[sliceBounds,HT.aX,q0A,show (1:Int) > 0 by decide,ZL]
   by_cases h:i < 0
   ·simp only[h,ZL]<;>omega
   ·simp only[h,YY]<;>omega
 ·cases hi with
  | none=>simp[sliceBounds,HT.aX]
  | some i =>
   simp only[sliceBounds,HT.aX,q0A,show (1:Int) > 0 by decide,ZL]
   by_cases h:i < 0
   ·simp only[h,ZL]<;>omega
   ·simp only[h,YY]<;>omega
theorem M1 (ai:List Value) (lo hi:Option Int):slicePick ai.toArray lo hi none=((ai.drop (HT.aX ai.length 0 lo)).take (HT.aX ai.length ai.length hi - HT.aX ai.length 0 lo)).toArray:=by
 obtain⟨h1,h2,h3⟩:=M0 lo hi ai.toArray.size
 unfold slicePick
 rw[h1,h2,h3]
 simp only[sliceRange_one,pick_run,yG]<;>rfl
noncomputable def yu (K:PySem.W.Frag):V->Option Int->Option Int->Hp->VK->Prop:=fun x lo hi H Q=>∃ a xs,x = .ref a/\bc K H a xs/\∀ p,H p=none->Q (.ref p) (upd H p (.lst (cI xs lo hi)))
theorem f_:lF X (yu X.K):=by
 intro pins s σ H x v vl vu lo hi sl Q I rx hs pl pu h
 obtain⟨a,xs,rfl,hx,q⟩:=h
 cases rx
 obtain⟨ai,r,ht,hz⟩:=I.list hx
 have hlen:=r.length
 refine⟨"list",_,slot_list_getitem.lookup,ht.isList.typeIs,?_⟩
 refine wpAny_getItem_list_slice ht.isList hs pl pu .none (by simp) ?_ (by rw[yG]<;>omega)
 rw[M1,<-hlen]
 refine⟨.ref s.heap.objs.size,_,I.laid (t':=s.toks) (o := .lst (cI xs lo hi)) (fun b ob q=>oQ _ q) (sG _) ?_,rfl,q _ (I.aM.fresh (sG _))⟩
 exact⟨YF (Eg xs lo hi) hz,_,0,(r.drop (HT.aX xs.length 0 lo)).take (HT.aX xs.length xs.length hi - HT.aX xs.length 0 lo),X1 _ rfl⟩
noncomputable def jy:V->Bool
 | .non=>true
 | .bl _=>true
 | .int _=>true
 | .str _=>true
 | _=>false
noncomputable def fK:V->V->Bool
 | .non,.non=>true
 | .bl a,.bl b=>a == b
 | .bl a,.int b=>(if a then 1 else 0) == b
 | .int a,.bl b=>a == (if b then 1 else 0)
 | .int a,.int b=>a == b
 | .str a,.str b=>a == b
 | _,_=>false
theorem M5 {A:Around} {s:Shared} {y x:V} {u v:Value} (ry:RelV y u) (rx:RelV x v) (fy:jy y=true) (fx:jy x=true):SeqAt.EqAt A s u v (fK y x):=by
 cases y with
 | non =>
  cases ry
  cases x with
  | non=>cases rx;exact q0L _
  | bl b=>cases rx;exact SeqAt.EqAt.none_bool b
  | int b=>obtain⟨t,rfl⟩:=rx;exact SeqAt.EqAt.none_int b t
  | str b=>obtain⟨t,rfl⟩:=rx;exact SeqAt.EqAt.none_str b t
  | _=>exact absurd (show false=true from fx) Eu
 | bl a =>
  cases ry
  cases x with
  | non=>cases rx;exact SeqAt.EqAt.bool_none a
  | bl b=>cases rx;exact SeqAt.EqAt.bool_bool a b
  | int b=>obtain⟨t,rfl⟩:=rx;exact SeqAt.EqAt.bool_int a b t
  | str b=>obtain⟨t,rfl⟩:=rx;exact SeqAt.EqAt.bool_str a b t
  | _=>exact absurd (show false=true from fx) Eu
 | int a =>
  obtain⟨t',rfl⟩:=ry
  cases x with
  | non=>cases rx;exact SeqAt.EqAt.int_none a t'
  | bl b=>cases rx;exact SeqAt.EqAt.int_bool a t' b
  | int b=>obtain⟨t,rfl⟩:=rx;exact q0Y a t' b t
  | str b=>obtain⟨t,rfl⟩:=rx;exact q0U a t' b t
  | _=>exact absurd (show false=true from fx) Eu
 | str a =>
  obtain⟨t',rfl⟩:=ry
  cases x with
  | non=>cases rx;exact SeqAt.EqAt.str_none a t'
  | bl b=>cases rx;exact SeqAt.EqAt.str_bool a t' b
  | int b=>obtain⟨t,rfl⟩:=rx;exact q0V a t' b t
  | str b=>obtain⟨t,rfl⟩:=rx;exact SeqAt.EqAt.str_str a t' b t
  | _=>exact absurd (show false=true from fx) Eu
 | _=>exact absurd (show false=true from fy) Eu
noncomputable def mS (x:V) (u:Value):Bool:=match u with
 | .none=>fK .non x
 | .bool b=>fK (.bl b) x
 | .int i _=>fK (.int i) x
 | .str z _=>fK (.str z) x
 | _=>false
theorem yw {x y:V} {u:Value} (r:RelV y u) (f:jy y=true):mS x u=fK y x:=by
 cases y with
 | non=>cases r;rfl
 | bl b=>cases r;rfl
 | int i=>obtain⟨t,rfl⟩:=r;rfl
 | str z=>obtain⟨t,rfl⟩:=r;rfl
 | _=>exact absurd (show false=true from f) Eu
theorem yx {A:Around} {s:Shared} {x:V} {v:Value} (rx:RelV x v) (fx:jy x=true):∀ {xs:List V} {us:List Value},Vals xs us->xs.all jy=true->∀ u∈us,SeqAt.EqAt A s u v (mS x u)
 | _,_,.nil,_=>fun u hu=>by cases hu
 | y :: xs,u :: us,.cons r t,f=>fun u' hu=>by
  rw[q1e,Yg] at f
  rcases X7.mp hu with rfl | hu
  ·rw[yw r f.1];exact M5 r rx f.1 fx
  ·exact yx rx fx t f.2 u' hu
theorem Ej:fJ X (.builtin "len") (fun xs H Q=>∃ p ys,xs=[.ref p]/\(bc X.K H p ys\/bC X.K H p ys)/\Q (.int ys.length) H):=by
 intro pins s σ H xs us Q I r h
 obtain⟨p,ys,rfl,hq,q⟩:=h
 obtain⟨u,rfl,rx⟩:=vals1 r
 cases rx
 have hn:=oq
 rcases hq with hq | hq
 ·obtain⟨ai,r',pl,hz⟩:=I.list hq
  have hlen:=r'.length
  exact Calls.call_len_list pl.isList (by simp only[yG]<;>omega) ⟨.int ys.length,H,I.tok _,⟨s.toks + 1,by rw[yG,hlen]⟩,q⟩
 ·obtain⟨ai,r',pl,hz⟩:=I.tuple hq
  have hlen:=r'.length
  exact len_tuple pl (by simp only[yG]<;>omega) ⟨.int ys.length,H,I.tok _,⟨s.toks + 1,by rw[yG,hlen]⟩,q⟩
theorem M6:fJ X (.builtin "len") (fun xs H Q=>∃ z,xs=[.str z]/\z.length <= sizeLine/\Q (.int z.length) H):=by
 intro pins s σ H xs us Q I r h
 obtain⟨z,rfl,hz,q⟩:=h
 obtain⟨u,rfl,t,rfl⟩:=vals1 r
 have hn:=oq
 exact len_str (by omega) ⟨.int z.length,H,I.tok _,⟨_,rfl⟩,q⟩
theorem M7:fJ X (.type "list") (fun xs H Q=>∃ p ys,xs=[.ref p]/\(bc X.K H p ys\/bC X.K H p ys)/\∀ l,H l=none->Q (.ref l) (upd H l (.lst ys))):=by
 intro pins s σ H xs us Q I r h
 obtain⟨p,ys,rfl,hq,q⟩:=h
 obtain⟨u,rfl,rx⟩:=vals1 r
 cases rx
 have fin:∀ (ai:List Value),Vals ys ai->ys.length <= sizeLine->∀ (h':Heap) (c':Nat),(∀ b o',s.heap.get? b=some o'->h'.get? b=some o') →
   h'.get? s.heap.objs.size=some { cls := .type "list",dict:=none,data := .seq ai.toArray c',slots := #[] }->EP X pins σ Q (.ref s.heap.objs.size) { s with heap:=h' }:=fun ai r' hz h' c' kp e =>
  ⟨.ref s.heap.objs.size,_,I.laid (t':=s.toks) kp (sG _) (show aK X.prog X.w _ h' _ (.lst ys) from ⟨hz,ai,c',r',e⟩),rfl,q _ (I.aM.fresh (sG _))⟩
 rcases hq with hq | hq
 ·obtain⟨ai,r',pl,hz⟩:=I.list hq
  have hlen:=r'.length
  obtain⟨o,ho,hc,n,hd⟩:=pl.isList
  exact call_list_seq p (.inl rfl) ho hc hd (fun h' c' kp e=>fin ai r' hz h' c' kp e) (by simp only[yG]<;>omega)
 ·obtain⟨ai,r',pl,hz⟩:=I.tuple hq
  have hlen:=r'.length
  obtain⟨o,ho,hc,n,hd⟩:=pl
  exact call_list_seq p (.inr rfl) ho hc hd (fun h' c' kp e=>fin ai r' hz h' c' kp e) (by simp only[yG]<;>omega)
theorem Ek:fJ X (.type "tuple") (fun xs H Q=>∃ p ys,xs=[.ref p]/\((bc X.K H p ys/\∀ l,H l=none->Q (.ref l) (upd H l (.tup ys)))\/(bC X.K H p ys/\Q (.ref p) H))):=by
 intro pins s σ H xs us Q I r h
 obtain⟨p,ys,rfl,h⟩:=h
 obtain⟨u,rfl,rx⟩:=vals1 r
 cases rx
 rcases h with⟨hq,q⟩ | ⟨hq,q⟩
 ·obtain⟨ai,r',pl,hz⟩:=I.list hq
  have hlen:=r'.length
  refine call_tuple_list pl.isList (fun h' kp => ?_) (by simp only[yG]<;>omega)
  have I1:Inv X pins σ H { s with heap:=h' }:=I.kept (t':=s.toks) kp
  have I2:Inv X pins σ (upd H h'.objs.size (.tup ys)) { s with heap:=h'.push { cls := .type "tuple",data := .seq ai.toArray } } :=
   I1.laid (t':=s.toks) (fun b o e=>oQ _ e) (sG _) (show aK X.prog X.w _ _ _ (.tup ys) from ⟨hz,ai,r',IsTup.new _ _⟩)
  exact⟨.ref h'.objs.size,_,I2,rfl,q _ (I1.aM.fresh (sG _))⟩
 ·obtain⟨ai,r',pl,hz⟩:=I.tuple hq
  exact call_tuple_same pl ⟨.ref p,H,I,rfl,q⟩
noncomputable def El (K:PySem.W.Frag) (T:String) (x:V) (H:Hp):Prop:=match x with
 | .str _=>T = "str"
 | .int _=>T = "int"
 | .ref p=>(T = "list" /\ ∃ xs,bc K H p xs)\/(T = "tuple" /\ ∃ o,K.lookup p=some o/\o.cls = .type "tuple" /\ o.dict=none) ∨
   (T = "dict" /\ ((∃ ax,H p=some (.dK ax))\/∃ ax,H p=some (.dT ax)))\/(T = "set" /\ ∃ S n,H p=some (.set S n))
 | _=>False
theorem M8 {pins:List (Addr × Obj)} {σ : St} {H:Hp} {s:Shared} {T:String} {x:V} {v:Value} (I:Inv X pins σ H s) (r:RelV x v) (ty:El X.K T x H) :
  s.TypeIs v T/\∀ a,v = .ref a->∃ ob,s.heap.get? a=some ob/\ob.dict=none:=by
 cases x with
 | str z =>
  obtain⟨t,rfl⟩:=r
  cases (show T = "str" from ty)
  exact⟨typeIs_str s z t,fun _ e=>nomatch e⟩
 | int i =>
  obtain⟨t,rfl⟩:=r
  cases (show T = "int" from ty)
  exact⟨typeIs_int s i t,fun _ e=>nomatch e⟩
 | ref p =>
  cases r
  rcases ty with⟨rfl,xs,hq⟩ | ⟨rfl,o,hk,hc,hd⟩ | ⟨rfl,hk⟩ | ⟨rfl,S,n,hk⟩
  ·obtain⟨ai,_,pl,_⟩:=I.list hq
   refine⟨pl.isList.typeIs,fun a e => ?_⟩
   cases e
   obtain⟨o,n,e,c,hd,_⟩:=pl
   exact⟨o,e,hd⟩
  ·refine⟨⟨o,I.cW p o hk,hc⟩,fun a e => ?_⟩
   cases e
   exact⟨o,I.cW _ o hk,hd⟩
  ·have z:∃ o,s.heap.get? p=some o/\o.ExactDict:=by
    rcases hk with⟨ax,hk⟩ | ⟨ax,hk⟩
    ·obtain⟨_,_,_,_,o,_,_,e,ex,_⟩:=I.aM p _ hk
     exact⟨o,e,ex⟩
    ·obtain⟨_,_,_,_,o,_,_,e,ex,_⟩:=I.aM p _ hk
     exact⟨o,e,ex⟩
   obtain⟨o,e,ex⟩:=z
   refine⟨⟨o,e,ex.1⟩,fun a e2 => ?_⟩
   cases e2
   exact⟨o,e,ex.2.1⟩
  ·obtain⟨o,_,_,_,e,ex,_⟩:=I.aM p _ hk
   refine⟨⟨o,e,ex.1⟩,fun a e2 => ?_⟩
   cases e2
   exact⟨o,e,ex.2.1⟩
 | _=>exact False.elim ty
noncomputable def sF (K:PySem.W.Frag) (T:String) (r:V->List V->Hp->VK->Prop) (to:TE) (t:TA):TE:=fun σ H Q=>to σ H fun x H1=>El K T x H1/\t σ H1 fun xs H2=>r x xs H2 Q
variable {o e:Expr} {es:List Expr} {to:TE} {t:TA} {name:Str} {apos dw:Pos} {T id:String} {r:V->List V->Hp->VK->Prop}
theorem M9 (pa:PlainAttrs T) (slot:Slot T name id) (yy:typeOf (.builtin id)=pure (.type "method_descriptor")) (hm:yp X id r) (ho:PE X o to) (ha:PA X (e :: es) t)
  (jP:attributeBase o name X.env (eval o X.env)=eval o X.env:=by rfl)
  (oK:((backTo dw (starEach (e :: es) X.env)).all (fun x => !x.1) && (backToKw dw (keywordEach [] X.env)).all (fun x=>x.1.isSome)
   && decide ((e :: es).length + ([]:List Keyword).length + (if ([]:List Keyword).isEmpty then 0 else 1) < 30))=true:=by rfl)
  (jQ:(apos.endLine == dw.line)=true:=by rfl) (hs:starEach (e :: es) X.env=(false,eval e X.env) :: starEach es X.env:=by rfl) (hplain:(backTo dw (starEach es X.env)).any (·.1)=false:=by rfl) :
  PE X (.Call (.Attribute o name apos) (e :: es) [] dw) (sF X.K T r to t):=by
 intro pins s σ H Q I h
 refine wpAny_Call_method_late jP oK jQ rfl (a5 (ho pins s σ H _ I h) fun v s1 ⟨x,H1,I1,r1,ty,q1⟩ => ?_)
 obtain⟨h1,h2⟩:=M8 I1 r1 ty
 refine⟨T,id,pa,slot,yy,h1,h2,?_⟩
 have hA:=ha dw pins s1 σ H1 _ I1 q1
 rw[hs] at hA ⊢
 refine Calls.callWith_builtin (by show (false || (backTo dw (starEach es X.env)).any (·.1))=false;rw[hplain]<;>rfl) (Calls.evalArgs_plain ?_)
 exact a5 hA fun us s2 h0_ => el5 h0_ fun vs H2 I2 r2 q2 =>hm pins s2 σ H2 x vs v us Q I2 r1 r2 q2
end
noncomputable def sI (X:Cx) (id:String) (r:V->List V->Hp->VK->Prop):Prop :=
 ∀ (pins:List (Addr × Obj)) (s:Shared) (σ : St) (H:Hp) (x:V) (xs:List V) (v:Value) (us:List Value) (Q:VK),Inv X pins σ H s->RelV x v->Vals xs us->r x xs H Q →
  wpAny (model X.prog X.w) X.A (call (.builtin id) (v :: us)) (EP X pins σ Q) X.xe s
theorem Vals.one:∀ {x:V} {us:List Value},Vals [x] us->∃ u,us=[u]/\RelV x u:=by
 intro x us h
 cases h with
 | cons r h=>cases h;exact⟨_,rfl,r⟩
theorem Vals.two:∀ {x y:V} {us:List Value},Vals [x,y] us->∃ u v,us=[u,v]/\RelV x u/\RelV y v:=by
 intro x y us h
 cases h with
 | cons r h =>
  obtain⟨v,rfl,q⟩:=Vals.one h
  exact⟨_,_,rfl,r,q⟩
theorem Vals.eraseIdx:∀ {xs:List V} {us:List Value} (i:Nat),Vals xs us->Vals (xs.eraseIdx i) (us.eraseIdx i)
 | _,_,_,.nil => .nil
 | _,_,0,.cons _ t=>t
 | _,_,i + 1,.cons r t => .cons r (Vals.eraseIdx i t)
theorem Vals.rep {xs:List V} {us:List Value} (h:Vals xs us):∀ k:Nat,Vals (List.replicate k xs).flatten (List.replicate k us).flatten
 | 0 => .nil
 | k + 1=>by
  rw[YS,YS,ZC,ZC]
  exact Vals.append h (Vals.rep h k)
theorem Em {α : Type}:∀ (l:List α) (i:Nat),(l.eraseIdx i).length <= l.length
 | [],_=>sG _
 | _ :: _,0=>q0F _
 | _ :: r,i + 1=>Nat.succ_le_succ (Em r i)
theorem foldl_rep (ai:List Value):∀ (k:Nat) (acc:List Value),
  List.foldl (fun x1 x2=>x1 ++ x2) acc.toArray (List.replicate k ai.toArray)=(acc ++ (List.replicate k ai).flatten).toArray
 | 0,acc=>by simp
 | k + 1,acc=>by
  have e:acc.toArray ++ ai.toArray=(acc ++ ai).toArray:=by simp
  have e2:(acc ++ ai) ++ (List.replicate k ai).flatten=acc ++ (List.replicate (k + 1) ai).flatten:=by
   rw[YS,ZC,ZA]
  rw[<-e2,<-foldl_rep ai k (acc ++ ai),<-e,YS,q0J]
section
variable {X:Cx} {pins:List (Addr × Obj)} {σ : St} {H:Hp} {s:Shared} {l b:Addr} {xs ys zs:List V}
theorem Inv.oM {ai its':List Value} {n:Nat} {f:Array Value->Array Value} {t':Nat} (I:Inv X pins σ H s) (hH:H l=some (.lst xs))
  (e:s.heap.get? l=some { cls := .type "list",data := .seq ai.toArray n }) (hf:f ai.toArray=its'.toArray) (hv:Vals ys its') (hz:ys.length <= sizeLine) :
  Inv X pins σ (upd H l (.lst ys)) { s with heap:=s.heap.update l (Obj.mapSeq f),toks:=t' }:=by
 have q:=PySem.IsL.update e f
 rw[hf] at q
 refine I.write (x:=l) (e:=l) (by rw[hH];exact trivial) (.inl rfl) (fun b' u hb hu=>(Zd s.heap (Obj.mapSeq f) (Zn hb)).trans hu) ⟨_,q⟩ ?_
 exact⟨hz,its',_,hv,q⟩
theorem Inv.bV {ai:List Value} {t':Nat} (I:Inv X pins σ H s) (hv:Vals ys ai) (hz:ys.length <= sizeLine) :
  Inv X pins σ (upd H s.heap.objs.size (.lst ys)) { s with heap:=s.heap.push { cls := .type "list",data := .seq ai.toArray },toks:=t' } :=
 I.laid (fun _ _ q=>oQ _ q) (sG _) ⟨hz,ai,0,hv,X1 _ rfl⟩
theorem Inv.fresh (I:Inv X pins σ H s):H s.heap.objs.size=none:=I.aM.fresh (sG _)
theorem Inv.ir (I:Inv X pins σ H s) (hH:H l=some (.lst xs)):xs.length <= sizeLine/\∃ (ai:List Value) (n:Nat),Vals xs ai/\xs.length=ai.length/\s.heap.get? l=some { cls := .type "list",data := .seq ai.toArray n }:=by
 obtain⟨z,ai,n,r,e⟩:=I.aM l _ hH
 exact⟨z,ai,n,r,r.length,e⟩
theorem En {n:Nat} (h:n <= sizeLine):Builtin.List.listTooLong n=false:=by
 unfold Builtin.List.listTooLong
 exact Yc (by omega)
end
section
variable {X:Cx}
noncomputable def Eo:V->List V->Hp->VK->Prop:=fun x vs H Q=>∃ l xs y,x = .ref l/\vs=[y]/\H l=some (.lst xs)/\xs.length < sizeLine/\Q .non (upd H l (.lst (xs ++ [y])))
theorem yz:sI X "list.append" Eo:=by
 intro pins s σ H x vs v us Q I rx rv h
 obtain⟨l,xs,y,rfl,rfl,hH,hz,q⟩:=h
 cases rx
 obtain⟨u,rfl,ru⟩:=rv.one
 obtain⟨z,ai,n,r,hl,e⟩:=I.ir hH
 refine q0B F.slot_list_append ⟨_,e,rfl⟩ F.entry_list_append (F.args_list_append_2 _ _) (PySem.list_append l ai.toArray n u (by rw[yG];omega)) ⟨e,?_⟩
 refine⟨.non,_,I.oM (its':=ai ++ [u]) hH e (by simp) (r.append (.cons ru .nil)) ?_,rfl,q⟩
 rw[Ew,Yk]
 omega
noncomputable def Ep:V->List V->Hp->VK->Prop:=fun x vs H Q=>∃ l b xs zs,x = .ref l/\vs=[.ref b]/\H l=some (.lst xs)/\H b=some (.lst zs)/\xs.length + zs.length <= sizeLine/\Q .non (upd H l (.lst (xs ++ zs)))
theorem M_:sI X "list.extend" Ep:=by
 intro pins s σ H x vs v us Q I rx rv h
 obtain⟨l,b,xs,zs,rfl,rfl,hH,hB,hz,q⟩:=h
 cases rx
 obtain⟨u,rfl,ru⟩:=rv.one
 cases ru
 obtain⟨z,ai,n,r,hl,e⟩:=I.ir hH
 obtain⟨z2,bg,n2,r2,sJ,e2⟩:=I.ir hB
 have eJ:ai.toArray.size + bg.toArray.size <= sizeLine:=by rw[yG,yG];omega
 have jR:¬ (!ai.toArray.isEmpty && Builtin.List.listTooLong (ai.toArray.size + bg.toArray.size))=true:=by
  rw[En eJ,Bool.and_false]
  exact Eu
 refine q0B F.slot_list_extend ⟨_,e,rfl⟩ F.entry_list_extend (F.args_list_extend_2 _ _)
  (AutoSeq1.list_extend_list_list_0 l ai.toArray n b bg.toArray n2 jR (by rw[yG];omega) (by omega)) ⟨e,e2,?_⟩
 refine⟨.non,_,I.oM (its':=ai ++ bg) hH e (by simp) (r.append r2) ?_,rfl,q⟩
 rw[Ew]
 omega
noncomputable def Er:V->List V->Hp->VK->Prop:=fun x vs H Q=>∃ l xs i k y,x = .ref l/\vs=[.int i]/\H l=some (.lst xs) /\ -(2 ^ 63) <= i/\i < 2 ^ 63/\seqIndex? i xs.length=some k/\xs[k]? = some y/\Q y (upd H l (.lst (xs.eraseIdx k)))
theorem Na:sI X "list.pop" Er:=by
 intro pins s σ H x vs v us Q I rx rv h
 obtain⟨l,xs,i,k,y,rfl,rfl,hH,h1,h2,hk,hy,q⟩:=h
 cases rx
 obtain⟨u,rfl,ru⟩:=rv.one
 obtain⟨t,rfl⟩:=ru
 obtain⟨z,ai,n,r,hl,e⟩:=I.ir hH
 obtain⟨w,hw,sE⟩:=r.get hy
 refine q0B F.slot_list_pop ⟨_,e,rfl⟩ F.entry_list_pop (F.args_list_pop_2 _ _)
  (MeetsSeq.list_pop_at l ai.toArray n i t k w (fitsIndex_both h1 h2) (by rw[yG,<-hl];exact hk) (by rw[<-Yh];exact hw) (by rw[yG];omega)) ⟨e,?_⟩
 refine⟨y,_,I.oM (its':=ai.eraseIdx k) hH e ?_ (r.eraseIdx k) ?_,sE,q⟩
 ·show ai.toArray.eraseIdxIfInBounds k=(ai.eraseIdx k).toArray
  rw[List.eraseIdxIfInBounds_toArray]
 ·have:=Em xs k
  omega
noncomputable def yA:R2:=fun x y H Q=>∃ l b xs zs,x = .ref l/\y = .ref b/\H l=some (.lst xs)/\H b=some (.lst zs)/\xs.length + zs.length <= sizeLine/\∀ p,H p=none->Q (.ref p) (upd H p (.lst (xs ++ zs)))
theorem vJ:cB X (binaryOp .Add) yA:=by
 intro pins s σ H x y v u Q I rx ry h
 obtain⟨l,b,xs,zs,rfl,rfl,hH,hB,hz,q⟩:=h
 cases rx
 cases ry
 obtain⟨z,ai,n,r,hl,e⟩:=I.ir hH
 obtain⟨z2,bg,n2,r2,sJ,e2⟩:=I.ir hB
 refine PySem.P.add_list e e2 ?_ (by rw[yG,yG];omega)
 have ea:ai.toArray ++ bg.toArray=(ai ++ bg).toArray:=by simp
 rw[ea]
 exact⟨.ref _,_,I.bV (t':=s.toks) (r.append r2) (by rw[Ew];omega),rfl,q _ I.fresh⟩
noncomputable def yB:R2:=fun x y H Q=>∃ l k xs,x = .ref l/\y = .int k/\H l=some (.lst xs) /\ -(2 ^ 63) <= k/\k < 2 ^ 63/\xs.length * k.toNat <= sizeLine ∧
 ∀ p,H p=none->Q (.ref p) (upd H p (.lst (List.replicate k.toNat xs).flatten))
theorem len_rep {α : Type} (xs:List α) (k:Nat):(List.replicate k xs).flatten.length=k * xs.length:=by
 induction k with
 | zero=>simp
 | succ k ih=>rw[YS,ZC,Ew,ih,Nat.succ_mul,Nat.add_comm]
theorem Nc:cB X (binaryOp .Mult) yB:=by
 intro pins s σ H x y v u Q I rx ry h
 obtain⟨l,k,xs,rfl,rfl,hH,h1,h2,hz,q⟩:=h
 cases rx
 obtain⟨t,rfl⟩:=ry
 obtain⟨z,ai,n,r,hl,e⟩:=I.ir hH
 have hlen:ai.toArray.size * k.toNat <= sizeLine:=by rw[yG,<-hl];exact hz
 have yC:¬ ai.toArray.size * k.toNat > (2 ^ 63 - 1) / 8:=by
  have:(sizeLine:Nat) <= (2 ^ 63 - 1) / 8:=by decide
  omega
 have yD:¬ (!Builtin.List.listFitsIndex k)=true:=by
  rw[fitsIndex_both h1 h2]
  exact Eu
 have jR:¬ Builtin.List.listTooLong (ai.toArray.size * k.toNat)=true:=by
  rw[En hlen]
  exact Eu
 have yE:List.foldl (fun x1 x2=>x1 ++ x2) #[] (List.replicate (if ai.toArray.isEmpty=true then 0 else k.toNat) ai.toArray)=(List.replicate k.toNat ai).flatten.toArray:=by
  have f0:∀ m:Nat,List.foldl (fun x1 x2=>x1 ++ x2) #[] (List.replicate m ai.toArray)=(List.replicate m ai).flatten.toArray:=fun m=>by
   have:=foldl_rep ai m []
   rw[q0M] at this
   exact this
  rw[f0]
  cases ai with
  | nil=>simp
  | cons a r'=>rw[Xm (by simp)]
 refine wpAny_binaryOp_repeat_ref (T := "list") (U := "int") (by decide) ⟨_,e,rfl⟩ (fun s'=>typeIs_int s' k t) noFill_list_mul F.fills_int_mul F.slot_int_rmul repeat_list F.slot_int_index.lookup
  (q0B F.slot_int_rmul (typeIs_int s k t) F.entry_int_rmul (F.args_int_rmul_2 _ _) (int___rmul___int_list k t l ai.toArray n)
   ⟨e,rfl,⟨_,e,rfl⟩,q0B F.slot_list_mul ⟨_,e,rfl⟩ F.entry_list_mul (F.args_list_mul_2 _ _) (AutoListH.list___mul___list_int_3 l ai.toArray n k t yD yC jR) ⟨e,?_⟩⟩)
 rw[yE]
 exact⟨.ref _,_,I.bV (t':=s.toks) (r.rep k.toNat) (by rw[len_rep,Nat.mul_comm];exact hz),rfl,q _ I.fresh⟩
end
section
variable {prog:Program} {w:World} {A:Around} {E:Value->Shared->Prop} {s:Shared}
end
section
variable {X:Cx}
end
end L2
namespace Att
open PySem PySem.W PySem.Calls PyProof.Rows
theorem eg {P:Params} {h:Heap}:∀ (ns:List Int) (vs:List Value),WellAll P h vs (ns.map WData.int)->IntsAre vs ns:=by
 intro ns
 induction ns with
 | nil =>
  intro vs w
  rw[Z6] at w
  cases w
  exact .nil
 | cons n ns ih =>
  intro vs w
  rw[YC] at w
  cases w with
  | cons a b =>
   cases a
   exact .cons _ _ (ih _ b)
theorem i_ {l:OpenLaw} {n:Nat} (hn:l.most=some n) {P:Params} {h:Heap} {args:List WData} {vals:List Value}
  (lG:l.row.toRowW.claim.pre args=true) (yF:WellAll P h vals args) :
  ∃ a vs ns,vals=[Value.ref a]/\args=[WData.list (ns.map WData.int)]/\h.get? a=some { cls := .type "list",data := .seq vs.toArray }/\IntsAre vs ns/\ns.length <= n:=by
 have Nd:WShape.hasAll [] args [.list .int]=true:=(pre_splitW lG).1
 have hc:l.pre.holds [] { args:=args }=true:=(pre_splitW lG).2
 obtain⟨d,r,rfl,h1,h2⟩:=hasAllW_cons Nd
 obtain rfl:=hasAllW_nil h2
 obtain⟨xs,rfl,h3⟩:=hasW_list h1
 obtain⟨ns,rfl⟩:=items_int h3
 have hlen:ns.length <= n:=by
  unfold OpenLaw.pre at hc
  have h4:(WTm.not (.lt (.lit (.int (n:Int))) (.len (.arg 0)))).holds [] { args:=[.list (ns.map .int)] }=true:=by
   have h4:=(holds_andW hc).1
   rw[hn] at h4
   exact h4
  have h5:=condW_of h4 (w_not (w_lt w_lit (w_len_list (w_arg rfl))))
  rw[qy] at h5
  refine q1k fun q => ?_
  have q':(n:Int) < ((ns.length:Nat):Int):=by omega
  first
   | (rw[Ya q'] at h5;exact absurd h5 (by decide))
   | (simp at h5;omega)
 cases yF with
 | cons w1 w2 =>
  cases w2
  cases w1 with
  | list ho eY=>exact⟨_,_,ns,rfl,rfl,ho,eg ns _ eY,hlen⟩
theorem ja (l:OpenLaw) (args:List WData):l.row.toRowW.claim.post args (.bool true) args=true :=
 postW_of (r:=l.row.toRowW) (X:=(true == true))
  (show WShape.has [] (.bool true) .bool=true by first | rfl | decide | simp[WShape.has,WShape.arms,WShape.armsAll])
  (show (WTm.eq .res (.lit (.bool true))).value [] { args:=args,res:=some (.bool true),after:=args }=some (.bool (true == true)) from w_eq_bool (w_res rfl) w_lit) rfl
theorem gE {l:OpenLaw} {n:Nat} {q:Program} {loose:List Str} {XP:(Str->Option Value)->Heap->Prop} {YP:World->Heap->Prop} {d:DefRec}
  (hn:l.most=some n) (sL:d.params.defaults=[])
  (call:∀ (w:World) (s₀ s₁ : Shared) (mg mb:Str->Option Value) (fa:Addr) (o:Obj) (pm cd doc:Value) (a:Addr) (vs:List Value) (ns:List Int),
   Ground q loose [] XP w s₀ mg mb s₁.heap->YP w s₁.heap →
   s₁.heap.get? fa=some o->o.data = .func (docDef d.name d.params d.body d.scope pm cd doc)->s₁.heap.CodeRec cd d.name->mg d.name=some (.ref fa) →
   s₁.heap.get? a=some { cls := .type "list",data := .seq vs.toArray }->IntsAre vs ns->ns.length <= n->s₁.gens = #[] →
   codeAny (model l.prog w) callerA (.call (.ref fa) ⟨[.ref a],[]⟩) (fun r s'=>r = .ok (.ret (.bool true))/\OldK s₁.heap s'.heap/\s'.os=s₁.os/\AllBare s'.gens) s₁) :
  WalkO q loose XP YP l.row.toRowW d [] (fun f vs=>PySem.call f vs):=by
 intro w s₀ s₁ mg mb G Y fa o pm cd doc dV kV ho hd di hD lH hg args vals as lG Nf Xk yF Xl
 obtain rfl:dV = .none:=Dflts.none hD sL
 obtain rfl:kV = .none:=Dflts.noKw hD
 obtain⟨a,vs,ns,rfl,rfl,oN,hints,hlen⟩:=i_ hn lG yF
 refine enter_call (q0o (call w s₀ s₁ mg mb fa o pm cd doc a vs ns G Y ho (fd_plain hd) di lH oN hints hlen hg) fun r s' hq => ?_)
 obtain⟨rfl,h2,h3,h4⟩:=hq
 exact⟨.inl ⟨.bool true,.bool true,[],rfl,fun _=>rfl,.bool true,ja l _,fun _=>⟨List.Pairwise.nil,fun _ hm=>(nomatch hm)⟩⟩,h2,h3,h4⟩
section
variable {prog:Program} {w:World} {A:Around} {E:Value->Shared->Prop} {s:Shared} {K:Frag}
end
end Att
namespace L2
open PySem PySem.Spec PyProof.Rows
theorem Es:∀ {vs:List Value} {ns:List Int},IntsAre vs ns->Vals (ns.map V.int) vs
 | _,_,.nil => .nil
 | _,_,.cons n t h => .cons ⟨t,rfl⟩ (Es h)
noncomputable def inClass (s:Stmt) (j:Nat):Stmt:=match s with
 | .ClassDef _ _ _ body _ _ _ _ _ _ _=>body.getD j (.Pass ⟨0,0,0,0⟩)
 | _ => .Pass ⟨0,0,0,0⟩
noncomputable def jc (s:Stmt):Arguments:=match s with
 | .FunctionDef _ a _ _ _ _ _ _ _ _=>a
 | _=>{ posonlyargs:=[],args:=[],vararg:=none,kwonlyargs:=[],kw_defaults:=[],kwarg:=none,defaults:=[] }
noncomputable def b_ (s:Stmt):List Stmt:=match s with
 | .FunctionDef _ _ b _ _ _ _ _ _ _=>b
 | _=>[]
noncomputable def aW (s:Stmt):Scope:=match s with
 | .FunctionDef _ _ _ _ _ _ sc _ _ _=>sc
 | _=>{ kind := .function,names:=[],isGenerator:=false,isCoroutine:=false }
noncomputable abbrev bz:iO:=fun _ _ _ _ _ _=>False
noncomputable abbrev E0:XK:=fun _ _ _=>False
theorem sM {X:Cx}:lC bz X E0:=fun _ _ _ _ _ _ _ h=>h.elim
structure eS (K:PySem.W.Frag) (x qual:Str) (st:Stmt) (f:Addr) (fd:FuncData):Prop where
 ex:∃ (oc:Value) (od:Option Addr) (kV doc pm:Value) (an:Option Addr) (aD ct:Value) (kO:Array (Option Value)),
  fd=PySem.W.fnOf x qual (jc st) (b_ st) (aW st) .none kV doc pm an aD ct/\K.lookup f=some ⟨oc,od,.func fd,kO⟩/\PySem.W.codeIn K aD qual=true
 kp:PySem.W.keepIn K (.ref f)=true
section
variable {P:Program} {w:World} {K:PySem.W.Frag} {mg:Str->Option Value} {base:Heap}
theorem eS.ok {x qual:Str} {st:Stmt} {f:Addr} {fd:FuncData} {N ps:List Str} {k:Nat} {sp:Sp} (F:eS K x qual st f fd) (S:jM N ps (aW st)) (len:∀ vs H Q E,sp vs H Q E->vs.length=ps.length)
  (cH:∀ (aD:Value) (A:Around) (outer:List Env) (s:Shared) (H:Hp) (vs:List V) (Q:VK) (E:XK),aS k (A.deeper (envOfC qual (aW st) s.heap.objs.size f aD))->sp vs H Q E →
   ∃ t,eF (ar bz P w K mg base N qual (aW st) f aD A outer s H E).bG (b_ st) t/\t { nx:=fun _ H'=>Q .non H',rt:=Q } (start N vs) H):bE P w K mg base bz (k + 1) f fd ps sp:=by
 obtain⟨oc,od,kV,doc,pm,an,aD,ct,kO,rfl,lk,di⟩:=F.ex
 refine yf lk di S len fun A outer s H vs Q E hr kP => ?_
 obtain⟨t,h,q⟩:=cH aD A outer s H vs Q E hr kP
 exact⟨t,h.bG,q⟩
theorem eS.binds {x qual:Str} {st:Stmt} {f:Addr} {fd:FuncData} {ps:List Str} (F:eS K x qual st f fd)
  (h:∀ (kV doc pm:Value) (an:Option Addr) (aD ct:Value) (us:List Value),us.length=ps.length->bindArgs (PySem.W.fnOf x qual (jc st) (b_ st) (aW st) .none kV doc pm an aD ct) ⟨us,[]⟩=pure (ps.zip us)):Binds K fd ps []:=by
 obtain⟨oc,od,kV,doc,pm,an,aD,ct,kO,rfl,lk,di⟩:=F.ex
 exact .all (h kV doc pm an aD ct)
theorem yH {x qual:Str} {st:Stmt} {f:Addr} {oc:Value} {od an:Option Addr} {kO:Array (Option Value)} {kV doc pm aD ct:Value} (l:K.lookup f=some ⟨oc,od,.func (PySem.W.fnOf x qual (jc st) (b_ st) (aW st) .none kV doc pm an aD ct),kO⟩)
  (c:PySem.W.codeIn K aD qual=true) (k:PySem.W.keepIn K (.ref f)=true):eS K x qual st f (PySem.W.fnOf x qual (jc st) (b_ st) (aW st) .none kV doc pm an aD ct):=⟨⟨oc,od,kV,doc,pm,an,aD,ct,kO,rfl,l,c⟩,k⟩
end
theorem qz {n:Nat} (h:n <= 1000):n < sizeLine:=q0d h (by decide)
section
variable {X:Cx}
theorem pv (i:Nat) {x:Str} {pos:Pos} (hN:X.N[i]? = some x:=by rfl) (hv:mK X.env.scope x:=by first | exact Or.inl rfl | exact Or.inr (Or.inl rfl) | exact Or.inr (Or.inr rfl)) (hd:(x == ("__debug__" : Str))=false:=by decide)
  (di:(x == ("__classdict__" : Str))=false:=by decide):PE X (.Name x pos) (d9 i):=DB hN hv hd di
end
theorem oR {A B:Prop} (h:B):if false=true then A else B:=by
 rw[Xm Eu]
 exact h
theorem yI {A B:Prop} (h:A):if true=true then A else B:=by
 rw[Xp rfl]
 exact h
theorem yJ {c A B:Prop} [Decidable c] (h1:c->A) (h2:¬ c->B):if c then A else B:=by
 by_cases h:c
 ·rw[Xp h]
  exact h1 h
 ·rw[Xm h]
  exact h2 h
theorem Nl {c A B:Prop} [Decidable c] (hc:c) (h:B):if (!decide c)=true then A else B:=by
 rw[Ya hc]
 exact oR h
noncomputable def av (H H':Hp):Prop:=∀ b o,H b=some o->H' b=some o
theorem av.trans {H H1 H2:Hp} (a:av H H1) (b:av H1 H2):av H H2:=fun c o h=>b c o (a c o h)
theorem av.free {H H':Hp} (e:av H H') {l:Addr} (h:H' l=Option.none):H l=Option.none:=by
 cases q:H l with
 | none=>rfl
 | some o =>
  rw[e l o q] at h
  cases h
theorem av.seq {K:PySem.W.Frag} {H H':Hp} {a:Addr} {xs:List V} (e:av H H') (h:bc K H a xs):bc K H' a xs:=by
 rcases h with (h | ⟨o,h⟩) | h
 ·exact .inl (.inl (e _ _ h))
 ·exact .inl (.inr ⟨o,e _ _ h⟩)
 ·exact .inr h
theorem Nm {prog:Program} {w:World} {A:Around} {R:Result->Shared->Prop} {s:Shared} {elt target iter:Expr} {ifs:List Expr} {scope:Scope} {pos:Pos} {it acc:Value} {env:Env} (I:Nat->Shared->Prop)
  (turn:∀ n s,I n s->wpAny (model prog w) A (pyNext it) (fun r s₁ => match r with
   | none=>R (.ok .next) s₁
   | some v=>wpAny (model prog w) A (letOwnedTupleGo target it v) (fun _ s₂ => wpAny (model prog w) A (assign target env v) (fun _ s₃ =>
     wpAny (model prog w) A (forIn ifs true fun c r=>if r=true then do let ok <- isTrue c env (eval c env);pure (ForInStep.yield ok) else pure (ForInStep.yield r)) (fun ok s₄ =>
      if ok=true then wpAny (model prog w) A (eval elt env) (fun x s₅ =>
       wpAny (model prog w) A (call (.builtin "list.append") [acc,x]) (fun _ s₆ => ∃ m,m < n/\I m s₆) (fun _ _=>False) s₅) (fun _ _=>False) s₄
      else ∃ m,m < n/\I m s₄) (fun _ _=>False) s₃) (fun _ _=>False) s₂) (fun _ _=>False) s₁) (fun _ _=>False) s)
  (n:Nat) (h:I n s) :
  codeAny (model prog w) A (.compLoop (.ListComp elt [⟨target,iter,ifs,0⟩] scope pos) 0 it acc env) R s:=by
 refine codeAny_loop rfl I (fun n s hI => ?_) n h
 show wpAny _ A ((compTurn (.ListComp elt [⟨target,iter,ifs,0⟩] scope pos) 0 it acc env).onRaise (fun x=>do noteFrame x env;theTreesLotGoes x)) _ _ s
 refine wpAny_noted ?_
 rw[compTurn_list]
 refine lJ (Zv (lJ (YK (turn n s hI) (fun r s₁ h₁ => ?_) fun _ _ h'=>False.elim h')))
 cases r with
 | none=>exact vK h₁
 | some v =>
  refine lJ (YK h₁ (fun _ s₂ h₂ => ?_) fun _ _ h'=>False.elim h')
  refine lJ (YK h₂ (fun _ s₃ h₃ => lJ (YK h₃ (fun ok s₄ h₄ => ?_) fun _ _ h'=>False.elim h')) fun _ _ h'=>False.elim h')
  cases ok with
  | false=>exact vK ⟨rfl,h₄⟩
  | true =>
   exact lJ (lJ (YK h₄ (fun x s₄ h₄ => lJ (YK h₄ (fun _ s₅ h₅ => vK (vK ⟨rfl,h₅⟩)) fun _ _ h'=>False.elim h')) fun _ _ h'=>False.elim h'))
theorem yK {env:Env}:∀ (names:List (Str × NameKind)) (acc:List (Str × Addr)),(∀ y∈names,y.2 = .free->∃ c,env.cells.lookup y.1=some c)->(∀ x c,acc.lookup x=some c->env.cells.lookup x=some c) →
  ∃ cl,(forIn names acc (fun (x:Str × NameKind) (cs:List (Str × Addr))=>if x.2 == NameKind.free then cellOf env x.1 >>= fun a=>pure (ForInStep.yield ((x.1,a) :: cs)) else pure (ForInStep.yield cs)):Sem (List (Str × Addr)))=pure cl ∧
   (∀ x c,cl.lookup x=some c->env.cells.lookup x=some c)/\(∀ y∈names,y.2 = .free->∃ c,cl.lookup y.1=some c)/\(∀ x c,acc.lookup x=some c->∃ c,cl.lookup x=some c)
 | [],acc,_,h2=>⟨acc,rfl,h2,fun _ hy=>absurd hy (by simp),fun x c e=>⟨c,e⟩⟩
 | (n,k) :: r,acc,h1,h2=>by
  rw[List.forIn_cons]
  by_cases hk:k = .free
  ·subst hk
   obtain⟨c,hc⟩:=h1 (n,.free) Nh rfl
   have gz:env.cells.lookup n=some c:=hc
   have ec:cellOf env n=pure c:=by unfold cellOf;rw[gz]
   have gF:∀ x d,((n,c) :: acc).lookup x=some d->env.cells.lookup x=some d:=fun x d e=>by
    rw[Yf] at e
    cases q:x == n with
    | true =>
     rw[q] at e
     cases e
     rw[Yb q];exact gz
    | false =>
     rw[q] at e
     exact h2 x d e
   obtain⟨cl,e,p1,p2,p3⟩:=yK r ((n,c) :: acc) (fun y hy=>h1 y (Nk _ hy)) gF
   refine⟨cl,?_,p1,fun y hy hf => ?_,fun x d e => ?_⟩
   ·dsimp only
    rw[Xp (by decide),ec]
    exact e
   ·rcases X7.mp hy with rfl | hy
    ·exact p3 n c (by simp)
    ·exact p2 y hy hf
   ·cases q:x == n with
    | true=>exact p3 x c (by rw[Yf,q])
    | false=>exact p3 x d (by rw[Yf,q];exact e)
  ·obtain⟨cl,e,p1,p2,p3⟩:=yK r acc (fun y hy=>h1 y (Nk _ hy)) h2
   refine⟨cl,?_,p1,fun y hy hf => ?_,p3⟩
   ·dsimp only
    rw[Xm (by simpa using hk)]
    exact e
   ·rcases X7.mp hy with rfl | hy
    ·exact absurd hf hk
    ·exact p2 y hy hf
theorem yL {scope:Scope} {env:Env} (h:∀ y∈scope.names,y.2 = .free->∃ c,env.cells.lookup y.1=some c) :
  ∃ cl,closureFor scope env=pure cl/\(∀ x c,cl.lookup x=some c->env.cells.lookup x=some c)/\∀ y∈scope.names,y.2 = .free->∃ c,cl.lookup y.1=some c:=by
 obtain⟨cl,e,p1,p2,_⟩:=yK scope.names [] h (fun x c e=>by simp at e)
 refine⟨cl,?_,p1,p2⟩
 have e':closureFor scope env=(forIn scope.names ([]:List (Str × Addr)) (fun (x:Str × NameKind) (cs:List (Str × Addr))=>if x.2 == NameKind.free then cellOf env x.1 >>= fun a=>pure (ForInStep.yield ((x.1,a) :: cs)) else pure (ForInStep.yield cs)):Sem (List (Str × Addr))) >>= pure:=rfl
 rw[e',e]
 rfl
structure BD where
 cl:List (Str × Addr)
 C:Addr
 s:Shared
 H:Hp
 fp:List Addr
@[reducible] noncomputable def cg (X:Cx) (scope:Scope) (Nb:List Str) (d:BD):Cx where
 prog:=X.prog
 w:=X.w
 K:=X.K
 mg:=X.mg
 base:=X.base
 A:=X.A
 N:=Nb
 s₀ := d.s
 H₀ := d.H
 env:=compEnvC scope d.cl d.C X.env
 outer:=X.stack
 stack:=X.stack
 ex:=d.fp
 fn:=fun x=>decide (scope.names.lookup x=some .cell)
 calm:=X.calm
 pn:=[]
 xe:=fun _ _=>False
noncomputable def gY (cp:List (Option Nat)) (σ : St):St:=cp.map fun o=>match o with
 | some i=>(σ[i]?).join
 | none=>none
noncomputable def kQ (N:List Str) (vL scope:Scope) (Nb:List Str) (cp:List (Option Nat)):Bool :=
 (scope.names.all fun y=>(decide (y.2 ≠ .cell) || decide (scope.names.lookup y.1=some .cell)) && (decide (y.2 ≠ .local) || decide (scope.names.lookup y.1=some .local)) && (decide (y.2 ≠ .free) || decide (vL.names.lookup y.1=some .cell) || decide (vL.names.lookup y.1=some .free))) &&
 decide (cp.length=Nb.length) && (cp.zip Nb).all fun z=>match z.1 with
  | none=>true
  | some i=>decide (N[i]? = some z.2) && decide (scope.names.lookup z.2=some .free)
structure vM (X:Cx) (scope:Scope) (Nb:List Str) (cp:List (Option Nat)):Prop where
 kind:scope.kind = .function
 cell:∀ y∈scope.names,y.2 = .cell->scope.names.lookup y.1=some .cell
 names:∀ y∈scope.names,y.2 = .local->scope.names.lookup y.1=some .local
 free:∀ y∈scope.names,y.2 = .free->(X.env.kindOf y.1=some .cell\/X.env.kindOf y.1=some .free)
 len:cp.length=Nb.length
 sN:∀ (j i:Nat) (x:Str),cp[j]? = some (some i)->Nb[j]? = some x->X.N[i]? = some x/\scope.names.lookup x=some .free
theorem q8P {X:Cx} {scope:Scope} {Nb:List Str} {cp:List (Option Nat)} (hk:scope.kind = .function) (h:kQ X.N X.env.scope scope Nb cp=true):vM X scope Nb cp:=by
 unfold kQ at h
 simp only[Yg,Yr,Bool.or_eq_true,Ze] at h
 obtain⟨⟨h1,h2⟩,h3⟩:=h
 refine⟨hk,fun y hy e=>(h1 y hy).1.1.resolve_left (fun z=>z e),fun y hy e => ?_,fun y hy e => ?_,h2,fun j i x e1 e2 => ?_⟩
 ·rcases (h1 y hy).1.2 with z | z
  ·exact absurd e z
  ·exact z
 ·rcases (h1 y hy).2 with (z | z) | z
  ·exact absurd e z
  ·exact .inl z
  ·exact .inr z
 ·have hm:(some i,x)∈cp.zip Nb:=by
   have:(cp.zip Nb)[j]? = some (some i,x):=by
    rw[List.getElem?_zip_eq_some];exact⟨e1,e2⟩
   exact Yn this
  have:=h3 _ hm
  simpa using this
theorem yM {env:Env} {x:Str}:∀ {names:List (Str × NameKind)} {k:NameKind},names.lookup x=some k →
  (names.map fun (n,k)=>if (k == NameKind.free && env.scope.kind == .function && env.kindOf n == some .cell) then (n,NameKind.cell) else (n,k)).lookup x =
   some (if (k == NameKind.free && env.scope.kind == .function && env.kindOf x == some .cell) then NameKind.cell else k)
 | [],k,h=>by simp at h
 | (n,k') :: r,k,h=>by
  have ih:=@yM env x r k
  show List.lookup x ((if (k' == NameKind.free && env.scope.kind == .function && env.kindOf n == some .cell)=true then (n,NameKind.cell) else (n,k')) :: _)=_
  cases hx:x == n with
  | true =>
   simp only[Yf,hx] at h
   cases h
   have e:x=n:=Yb hx
   subst e
   by_cases hc:(k' == NameKind.free && env.scope.kind == .function && env.kindOf x == some .cell)=true
   ·rw[Xp hc,Xp hc];simp[Yf]
   ·rw[Xm hc,Xm hc];simp[Yf]
  | false =>
   simp only[Yf,hx] at h
   by_cases hc:(k' == NameKind.free && env.scope.kind == .function && env.kindOf n == some .cell)=true
   ·rw[Xp hc];simp only[Yf,hx];exact ih h
   ·rw[Xm hc];simp only[Yf,hx];exact ih h
theorem Ey {env:Env} {x:Str}:∀ {names:List (Str × NameKind)},names.lookup x=none →
  (names.map fun (n,k)=>if (k == NameKind.free && env.scope.kind == .function && env.kindOf n == some .cell) then (n,NameKind.cell) else (n,k)).lookup x=none
 | [],h=>by simp
 | (n,k') :: r,h=>by
  have ih:=@Ey env x r
  show List.lookup x ((if (k' == NameKind.free && env.scope.kind == .function && env.kindOf n == some .cell)=true then (n,NameKind.cell) else (n,k')) :: _)=_
  cases hx:x == n with
  | true=>simp only[Yf,hx] at h;cases h
  | false =>
   simp only[Yf,hx] at h
   by_cases hc:(k' == NameKind.free && env.scope.kind == .function && env.kindOf n == some .cell)=true
   ·rw[Xp hc];simp only[Yf,hx];exact ih h
   ·rw[Xm hc];simp only[Yf,hx];exact ih h
noncomputable def PF (X:Cx) (ifs:List Expr) (t:TT):Prop :=
 ∀ (pins:List (Addr × Obj)) (s:Shared) (σ : St) (H:Hp) (Q:Bool->Hp->Prop),Inv X pins σ H s->t σ H Q →
  wpAny (model X.prog X.w) X.A (forIn ifs true fun c r=>if r=true then do let ok <- isTrue c X.env (eval c X.env);pure (ForInStep.yield ok) else pure (ForInStep.yield r)) (TP X pins σ Q) X.xe s
noncomputable def sO:TT:=fun _ H Q=>Q true H
theorem Nn {X:Cx}:PF X [] sO:=fun _ _ _ H _ I h=>wpAny_tests_nil ⟨H,I,h⟩
theorem Np {X:Cx} {c:Expr} {t:TT} (h:PT X c t):PF X [c] t:=fun pins s σ H Q I hw=>wpAny_tests_one (h pins s σ H Q I hw)
noncomputable def Nq (g:TG) (tf:TT) (te:TE) (l:Addr) (x:V) (τ : St) (H:Hp) (N:St->Hp->Prop):Prop :=
 g x τ H fun τ2 H2=>tf τ2 H2 fun b H3=>if b=true then te τ2 H3 fun y H4=>∃ ys,H4 l=some (.lst ys)/\ys.length < sizeLine/\N τ2 (upd H4 l (.lst (ys ++ [y]))) else N τ2 H3
noncomputable def Ez (J:It) (g:TG) (tf:TT) (te:TE) (l:Addr) (τ0:St) (H0:Hp) (Q:VK):Prop :=
 ∃ W:Nat->Nat->St->Hp->Prop,(∃ m,W 0 m τ0 H0)/\∀ i m τ H,W i m τ H →
  (J.stop i H/\Q (.ref l) H)\/(J.go i H/\∃ N:St->Hp->Prop,(∀ τ' H',N τ' H'->∃ m',m' < m/\W (i + 1) m' τ' H')/\∀ x H',J.qu i H x H'->Nq g tf te l x τ H' N)
noncomputable def oS (wi:TI) (cp:List (Option Nat)) (g:BD->TG) (tf:BD->TT) (te:BD->TE):TE:=fun σ H Q=>wi σ H fun J H1=>∀ (d:BD) (l:Addr),H1 l=none->Ez J (g d) (tf d) (te d) l (gY cp σ) (upd H1 l (.lst [])) Q
theorem qA:∀ {names:List (Str × NameKind)} {n:Nat} {acc:List (Str × Addr)} {x:Str} {c:Addr},(cellsFrom n names acc).lookup x=some c->acc.lookup x=some c\/(n <= c/\(x,NameKind.cell)∈names)
 | [],n,acc,x,c,h => .inl h
 | (y,k) :: r,n,acc,x,c,h=>by
  unfold cellsFrom at h
  split at h
  ·rename_i hk
   have ek:k = .cell:=Yb hk
   subst ek
   rcases qA h with h | ⟨h,m⟩
   ·rw[Yf] at h
    cases q:x == y with
    | true=>rw[q] at h;cases h;rw[Yb q];exact .inr ⟨sG _,Nh ..⟩
    | false=>rw[q] at h;exact .inl h
   ·exact .inr ⟨by omega,Nk _ m⟩
  ·rcases qA h with h | ⟨h,m⟩
   ·exact .inl h
   ·exact .inr ⟨h,Nk _ m⟩
theorem yN:∀ {names:List (Str × NameKind)} {n:Nat} {acc:List (Str × Addr)} {x:Str} {c:Addr},(x,NameKind.cell)∈names->(cellsFrom n names acc).lookup x=some c->n <= c
 | [],n,acc,x,c,m,h=>by cases m
 | (y,k) :: r,n,acc,x,c,m,h=>by
  unfold cellsFrom at h
  by_cases mr:(x,NameKind.cell)∈r
  ·split at h
   ·have:=yN mr h;omega
   ·exact yN mr h
  ·have e:(x,NameKind.cell)=(y,k):=by
    rcases X7.mp m with e | e
    ·exact e
    ·exact absurd e mr
   cases e
   rw[Xp (by decide)] at h
   rcases qA h with h | ⟨h,_⟩
   ·rw[Yf,q1m] at h
    cases h;exact sG _
   ·omega
theorem yO:∀ {names:List (Str × NameKind)} {n:Nat} {acc:List (Str × Addr)} {x y:Str} {c:Addr},(∀ u v c,acc.lookup u=some c->acc.lookup v=some c->u=v)->(∀ u c,acc.lookup u=some c->c < n)->(cellsFrom n names acc).lookup x=some c->(cellsFrom n names acc).lookup y=some c->x=y
 | [],n,acc,x,y,c,hi,_,h1,h2=>hi x y c h1 h2
 | (z,k) :: r,n,acc,x,y,c,hi,hb,h1,h2=>by
  unfold cellsFrom at h1 h2
  split at h1
  ·rename_i hk
   rw[Xp hk] at h2
   refine yO (fun u v c q1 q2 => ?_) (fun u c q => ?_) h1 h2
   ·rw[Yf] at q1 q2
    cases e1:u == z with
    | true =>
     rw[e1] at q1;cases q1
     cases e2:v == z with
     | true=>rw[Yb e1,Yb e2]
     | false=>rw[e2] at q2;exact absurd (hb v _ q2) (Y9 _)
    | false =>
     rw[e1] at q1
     cases e2:v == z with
     | true=>rw[e2] at q2;cases q2;exact absurd (hb u _ q1) (Y9 _)
     | false=>rw[e2] at q2;exact hi u v c q1 q2
   ·rw[Yf] at q
    cases e1:u == z with
    | true=>rw[e1] at q;cases q;exact Zj _
    | false=>rw[e1] at q;exact Za (hb u c q)
  ·rename_i hk
   rw[Xm hk] at h2
   exact yO hi hb h1 h2
theorem yP:∀ {names:List (Str × NameKind)} {n:Nat} {acc:List (Str × Addr)} {x:Str},(x,NameKind.cell)∉names->(cellsFrom n names acc).lookup x=acc.lookup x
 | [],n,acc,x,_=>rfl
 | (y,k) :: r,n,acc,x,m=>by
  unfold cellsFrom
  split
  ·rename_i hk
   have ek:k = .cell:=Yb hk
   subst ek
   rw[yP fun z=>m (Nk _ z),Yf]
   cases q:x == y with
   | true=>exact absurd (by rw[Yb q];exact Nh ..) m
   | false=>rfl
  ·exact yP fun z=>m (Nk _ z)
theorem yQ:∀ {names:List (Str × NameKind)} {h:Heap} {acc:List (Str × Addr)} {x:Str} {c:Addr},(∀ u c,acc.lookup u=some c->∃ v,h.IsCell c v)->(cellsFrom h.objs.size names acc).lookup x=some c->∃ v,(pushCells h names).IsCell c v
 | [],h,acc,x,c,hc,e=>hc x c e
 | (y,k) :: r,h,acc,x,c,hc,e=>by
  unfold cellsFrom at e
  unfold pushCells
  split at e
  ·rename_i hk
   rw[Xp hk]
   have hz:(h.push { cls := .type "cell",data := .cell none }).objs.size=h.objs.size + 1:=Z3 ..
   rw[<-hz] at e
   refine yQ (fun u c q => ?_) e
   rw[Yf] at q
   cases e1:u == y with
   | true=>rw[e1] at q;cases q;exact⟨none,_,X1 _ rfl,rfl⟩
   | false =>
    rw[e1] at q
    obtain⟨v,o,g1,g2⟩:=hc u c q
    exact⟨v,o,oQ _ g1,g2⟩
  ·rename_i hk
   rw[Xm hk]
   exact yQ hc e
theorem Nr {M:Model} {A:Around} {E:Value->Shared->Prop} {s:Shared} {scope:Scope} {g:Addr} {cl:List (Str × Addr)} {qual:Str} {env:Env} {Q:Env->Shared->Prop}
  (h:Q (newEnv scope s.heap.objs.size g (cellsFrom (s.heap.objs.size + 1) scope.names cl) qual none .none (some env) builtinsNs) { s with heap:=pushCells (s.heap.push { cls := .type "dict",data := .dict #[] }) scope.names }) :
  wpAny M A (newFunctionEnv scope g cl [] qual none .none (some env)) Q E s:=by
 simp only[newFunctionEnv,Option.isSome_some,ZL]
 refine lJ (wpAny_alloc ?_)
 refine lJ (wpAny_layCells _ (fun name kind cells=>by cases Nt:kind == NameKind.cell<;>simp[Nt]) _ _ _ _ ?_)
 rw[show ({ s with heap:=s.heap.push { cls := .type "dict",data := .dict #[] } }:Shared).heap.objs.size=s.heap.objs.size + 1 from Z3 ..]
 refine lJ ?_
 rw[List.forIn_nil]
 exact vK (vK h)
section
variable {X:Cx} {elt tg iter:Expr} {ifs:List Expr} {scope:Scope} {pos:Pos} {Nb:List Str} {cp:List (Option Nat)} {wi:TI} {g:BD->TG} {tf:BD->TT} {te:BD->TE}
variable {pins:List (Addr × Obj)} {σ : St} {H:Hp} {s:Shared}
noncomputable abbrev sP (scope:Scope) (s:Shared) (cl:List (Str × Addr)):List (Str × Addr):=cellsFrom (s.heap.objs.size + 1) scope.names cl
theorem Nu {fp:List Addr} {cl:List (Str × Addr)} (S:vM X scope Nb cp) (I:Inv X pins σ H s) (hf:∀ b∈fp,bf X pins H b) (ho:∀ b∈fp,∃ o,s.heap.get? b=some o)
  (c1:∀ x c,cl.lookup x=some c->X.env.cells.lookup x=some c) (c2:∀ y∈scope.names,y.2 = .free->∃ c,cl.lookup y.1=some c):(cg X scope Nb ⟨sP scope s cl,s.heap.objs.size,s,H,fp⟩).Ok:=by
 have Nv:∀ b∈fp,b∉dP X.stack:=fun b hb z=>by
  obtain⟨_,f1,f2,_⟩:=hf b hb
  rcases X7.mp (I.f6 b z) with e | e
  ·exact f1 e
  ·exact f2 e
 have lt:∀ u c,cl.lookup u=some c->c < s.heap.objs.size:=fun u c e=>by
  obtain⟨v,q⟩:=I.cell u c (c1 _ _ e)
  exact q.lt
 refine⟨I.ok.mod,?_,I.ok.glob,I.ok.blt,sG _,fun x y c h1 h2 => ?_,fun x hx => ?_,fun x c h hc => ?_,I.ok.hd,I.ok.frames,.inl rfl,fun b hb=>⟨?_,fun x c e => ?_⟩,I.bs,YF I.ok.ju I.sz,fun b o e hb => ?_,Nv,I.stack,I.dq⟩
 ·exact S.kind
 ·exact yO (fun u v c q1 q2=>I.ok.inj u v c (c1 _ _ q1) (c1 _ _ q2)) (fun u c e=>Za (lt u c e)) h1 h2
 ·cases q:scope.names.lookup x with
  | none =>
   have z:(relabel scope X.env).names.lookup x=none:=Ey q
   have iQ:(relabel scope X.env).names.lookup x=some .cell\/(relabel scope X.env).names.lookup x=some .free:=hx
   rw[z] at iQ
   rcases iQ with h | h<;>cases h
  | some k =>
   have hm:=YR q
   have z:(relabel scope X.env).names.lookup x=_:=yM (env:=X.env) q
   have iQ:(relabel scope X.env).names.lookup x=some .cell\/(relabel scope X.env).names.lookup x=some .free:=hx
   rw[z] at iQ
   have kf:k = .free\/k = .cell:=by
    by_cases hk:k = .free
    ·exact .inl hk
    ·have:(k == NameKind.free)=false:=by simpa using hk
     simp only[this,q1H,Ye,YY] at iQ
     rcases iQ with h | h
     ·exact .inr (Yi h)
     ·exact absurd (Yi h) hk
   refine Z9.mp (q0p scope.names _ cl ?_)
   rcases kf with rfl | rfl
   ·obtain⟨c,e⟩:=c2 (x,.free) hm rfl
    exact .inr (by rw[show cl.lookup x=some c from e];rfl)
   ·exact .inl q
 ·have hl:scope.names.lookup x=some .cell:=Zf h
  have:=yN (YR hl) hc
  exact Nat.le_of_succ_le this
 ·obtain⟨o,e⟩:=ho b hb
  exact X_ (Ng e)
 ·rcases qA e with e | ⟨e,_⟩
  ·exact (hf b hb).2.2.2.2.1 x c (c1 _ _ e)
  ·obtain⟨o,eo⟩:=ho b hb
   have yR:=Ng eo
   intro z
   subst z
   exact absurd (Nat.lt_of_succ_le e) (Nat.not_lt.mpr (Zb yR))
 ·rcases (hf b hb).2.2.2.1 with z | z
  ·exact I.ok.gy b o e z
  ·exact absurd (X9 (Ng (I.ok.bs b o e).1) z) (Y9 _)
theorem Nx {cp:List (Option Nat)} {σ : St} {j:Nat} {v:V} (h:(gY cp σ)[j]? = some (some v)):∃ i,cp[j]? = some (some i) /\ σ[i]? = some (some v):=by
 unfold gY at h
 rw[Ni] at h
 cases e:cp[j]? with
 | none=>rw[e] at h;cases h
 | some o =>
  rw[e] at h
  cases o with
  | none=>cases h
  | some i =>
   refine⟨i,rfl,?_⟩
   have h':(σ[i]?).join=some v:=Yi h
   cases q : σ[i]? with
   | none=>rw[q] at h';cases h'
   | some z =>
    rw[q] at h'
    have:z=some v:=h'
    rw[this]
theorem Ny {fp:List Addr} {cl:List (Str × Addr)} {h1:Heap} {tk:Nat} (S:vM X scope Nb cp) (I:Inv X pins σ H s) (hf:∀ b∈fp,bf X pins H b) (ho:∀ b∈fp,∃ o,s.heap.get? b=some o)
  (c1:∀ x c,cl.lookup x=some c->X.env.cells.lookup x=some c) (c2:∀ y∈scope.names,y.2 = .free->∃ c,cl.lookup y.1=some c)
  (hn:h1.Ns s.heap.objs.size (fun x=>([]:List (Str × Value)).reverse.lookup x)) (hk:∀ b o,s.heap.get? b=some o->h1.get? b=some o) (qw:∀ x c,(sP scope s cl).lookup x=some c->∃ v,h1.IsCell c v) :
  Inv (cg X scope Nb ⟨sP scope s cl,s.heap.objs.size,s,H,fp⟩) [] (gY cp σ) H { s with heap:=h1,toks:=tk }:=by
 refine⟨Nu S I hf ho c1 c2,rfl,I.bare,Un.kept hk,⟨_,hn,fun j x v e1 e2 e3 => ?_⟩,qw,I.aM.fresh (sG _),fun x c e => ?_,fun p hp=>absurd (show p∈([]:List (Addr × Obj)) from hp) (by simp),I.aM.kept hk,?_⟩
 ·obtain⟨i,q1,q2⟩:=Nx e2
  obtain⟨q3,q4⟩:=S.sN j i x q1 e1
  have hm:=YR q4
  have mT:=S.free _ hm rfl
  obtain⟨m,_,hl⟩:=I.loc
  have Nz:mK X.env.scope x:=by
   rcases mT with h | h
   ·exact .inr (.inl h)
   ·exact .inr (.inr h)
  obtain⟨u,ru,lk⟩:=hl i x v q3 q2 Nz
  refine⟨u,ru,?_⟩
  have nl:X.env.kindOf x≠some .local:=by
   rcases mT with h | h
   ·intro z;rw[h] at z;cases z
   ·intro z;rw[h] at z;cases z
  rcases lk with⟨k,_⟩ | ⟨_,c,ec,hc⟩
  ·exact absurd k nl
  ·obtain⟨c',EA⟩:=c2 (x,.free) hm rfl
   have EB:=c1 _ _ EA
   rw[ec] at EB;cases EB
   have nc:(x,NameKind.cell)∉scope.names:=fun z=>by have:=S.cell _ z rfl;rw[show scope.names.lookup x=some .free from q4] at this;cases this
   refine .inr ⟨?_,c,(yP nc).trans EA,?_⟩
   ·have z:(relabel scope X.env).names.lookup x=_:=yM (env:=X.env) q4
    show (relabel scope X.env).names.lookup x=some .cell\/(relabel scope X.env).names.lookup x=some .free
    rw[z]
    split
    ·exact .inl rfl
    ·exact .inr rfl
   ·obtain⟨o,e,d⟩:=hc
    exact⟨o,hk _ _ e,d⟩
 ·rcases qA e with e | ⟨e,_⟩
  ·exact I.bB x c (c1 _ _ e)
  ·exact I.aM.fresh (Nat.le_of_succ_le e)
 ·unfold gY
  rw[qy]
  exact S.len
theorem NA {fp:List Addr} {d:BD} {it l:Addr} {tn:Nat->Heap->Prop} {J:It} {R:Result->Shared->Prop} {Q:VK} {H1:Hp} {s1:Shared} {τ : St} (hc:X.calm=true)
  (hg:PG (cg X scope Nb d) tg (g d)) (hf:PF (cg X scope Nb d) ifs (tf d)) (he:PE (cg X scope Nb d) elt (te d)) (T:Turn X.prog X.w X.K tg J fp it tn)
  (Xs:d.fp=fp) (I1:Inv (cg X scope Nb d) [] τ H1 s1) (fH:tn 0 s1.heap) (EC:∀ b∈fp,bf (cg X scope Nb d) [] H1 b)
  (W:Nat->Nat->St->Hp->Prop) (w0:∃ m,W 0 m τ H1)
  (turn:∀ i m τ H,W i m τ H->(J.stop i H/\Q (.ref l) H)\/(J.go i H/\∃ N:St->Hp->Prop,(∀ τ' H',N τ' H'->∃ m',m' < m/\W (i + 1) m' τ' H')/\∀ x H',J.qu i H x H'->g d x τ H' fun τ2 H2=>tf d τ2 H2 fun b H3 =>
   if b=true then te d τ2 H3 fun y H4=>∃ ys,H4 l=some (.lst ys)/\ys.length < sizeLine/\N τ2 (upd H4 l (.lst (ys ++ [y]))) else N τ2 H3))
  (fin:∀ τ' H' s',Inv (cg X scope Nb d) [] τ' H' s'->Q (.ref l) H'->R (.ok .next) s') :
  codeAny (model X.prog X.w) X.A (.compStart (.ListComp elt [⟨tg,iter,ifs,0⟩] scope pos) 0 (.ref it) (.ref l) (compEnvC scope d.cl d.C X.env)) R s1:=by
 have ig:∀ {H':Hp},(∀ b∈fp,H' b=none)->∀ b∈fp,bf (cg X scope Nb d) [] H' b:=fun hn b hb=>⟨hn b hb,(EC b hb).2⟩
 have loop:codeAny (model X.prog X.w) X.A (.compLoop (.ListComp elt [⟨tg,iter,ifs,0⟩] scope pos) 0 (.ref it) (.ref l) (compEnvC scope d.cl d.C X.env)) R s1:=by
  obtain⟨m0,w0⟩:=w0
  refine Nm (fun n s'=>∃ i τ' H',Inv (cg X scope Nb d) [] τ' H' s'/\tn i s'.heap/\(∀ b∈fp,H' b=none)/\W i n τ' H') ?_ m0 ⟨0,τ,H1,I1,fH,fun b hb=>(EC b hb).1,w0⟩
  rintro n s3 ⟨i,σ3,H3,I3,qv,so,w3⟩
  rcases turn i n σ3 H3 w3 with⟨stop,qn⟩ | ⟨go,N,hN,step⟩
  ·refine a5 (T.done (cg X scope Nb d) rfl rfl rfl hc i [] s3 σ3 H3 (fun _ _=>False) I3 (ig so) qv stop) fun r s4 ⟨hr,I4⟩ => ?_
   subst hr
   exact fin σ3 H3 s4 I4 qn
  ·refine a5 (T.item (cg X scope Nb d) rfl rfl rfl hc i [] s3 σ3 H3 (fun _ _=>False) I3 (ig so) qv go) fun r s4 ⟨u,hr,h4⟩ => ?_
   subst hr
   refine a5 h4 fun _ s5 ⟨x,H5,I5,r5,y5,om,x6⟩ => ?_
   have x8:=I5.pinned (ig x6) (T.obj _ _ om)
   refine a5 (hg _ s5 σ3 H5 x u _ x8 r5 (step x H5 y5)) fun _ s6 ⟨σ6,H6,I6,q6⟩ => ?_
   have again:∀ {σ7:St} {H7:Hp} {s7:Shared} {m':Nat},Inv (cg X scope Nb d) ([] ++ sk fp s5.heap) σ7 H7 s7->m' < n->W (i + 1) m' σ7 H7->∃ m,m < n/\∃ i σ' H',Inv (cg X scope Nb d) [] σ' H' s7/\tn i s7.heap/\(∀ b∈fp,H' b=none)/\W i m σ' H':=fun {σ7 H7 s7 m'} I7 hm w7=>by
    refine⟨m',hm,i + 1,σ7,H7,I7.dr,T.keep _ _ _ om fun b hb o e=>(I7.pin (b,o) (Nj _ (Nj _ (vD hb e)))).1,fun b hb => ?_,w7⟩
    obtain⟨o,e,d⟩:=T.obj _ _ om b hb
    exact (I7.pin (b,o) (Nj _ (Nj _ (vD hb e)))).2.1
   refine a5 (hf _ s6 σ6 H6 _ I6 q6) fun ok s7 h0_ => el3 h0_ fun H7 I7 q7 => ?_
   cases ok with
   | false =>
    rw[Xm Eu] at q7 ⊢
    obtain⟨m',hm,w7⟩:=hN _ _ q7
    exact again I7 hm w7
   | true =>
    rw[Xp rfl] at q7 ⊢
    refine a5 (he _ s7 σ6 H7 _ I7 q7) fun y s8 ⟨yv,H8,I8,r8,ys,hy,hz,q8⟩ => ?_
    obtain⟨m',hm,w8⟩:=hN _ _ q8
    refine a5 (yz _ s8 σ6 H8 (.ref l) [yv] (.ref l) [y] (fun _ H9=>H9=upd H8 l (.lst (ys ++ [yv]))) I8 rfl (.cons r8 .nil) ⟨l,ys,yv,rfl,rfl,hy,hz,rfl⟩) fun _ s9 h0_ => el5 h0_ fun _ H9 I9 _ e9 => ?_
    subst e9
    exact again I9 hm w8
 exact codeAny_compStart_list loop (T.self _ 0 s1 _ _ fH loop)
theorem NB {fp:List Addr} {d:BD} {τ : St} {H1 H':Hp} {s1 s':Shared} (I1:Inv X pins σ H1 s1) (hs:d.s=s1) (hH:d.H=H1) (hd:d.fp=fp) (hf:∀ b∈fp,bf X pins H1 b) (J:Inv (cg X scope Nb d) [] τ H' s'):Inv X pins σ H' s':=by
 subst hs hH hd
 exact I1.iL (ch:=d.fp) J.os J.base J.aM J.bare fun b hb=>⟨(hf b hb).2.2.2.1,(hf b hb).2.1,(hf b hb).2.2.2.2.1,(hf b hb).2.2.2.2.2⟩
theorem ED {use:Option (Value->Sem Unit)} {P:Value->Shared->Prop} {Q:VK} (hc:X.calm=true) (S:vM X scope Nb cp) (hi:PI X tg iter wi) (hg:∀ d,PG (cg X scope Nb d) tg (g d)) (hf:∀ d,PF (cg X scope Nb d) ifs (tf d)) (he:∀ d,PE (cg X scope Nb d) elt (te d))
  (hs:∀ x,foldedSetIterable iter X.env x=pure x) (I:Inv X pins σ H s) (h:oS wi cp g tf te σ H Q)
  (fin:∀ (l C:Addr) (H':Hp) (s':Shared) (m:Str->Option Value),Inv X pins σ H' s'->bf X pins H' C->(∀ p c,X.env.cells.lookup p=some c->c≠C)->s'.heap.Ns C m->Q (.ref l) H'->compPost (model X.prog X.w) X.A X.xe use P (.ref l) C (.ok .next) s') :
  wpAny (model X.prog X.w) X.A (comprehension (.ListComp elt [⟨tg,iter,ifs,0⟩] scope pos) scope X.env (firstIterPos [⟨tg,iter,ifs,0⟩] pos) (newList []) false (eval iter X.env) use) P X.xe s:=by
 obtain⟨cl,NC,c1,c2⟩:=yL (scope:=scope) (env:=X.env) fun y hy jz=>by
  rcases S.free y hy jz with z | z
  ·exact I.ok.has _ (.inl z)
  ·exact I.ok.has _ (.inr z)
 refine wpAny_comprehension_free (cl:=cl) rfl hs NC S.kind S.names (a5 (hi pins s σ H _ I h) fun v s1 h1=>a5 h1 fun x4 s2 h2 => ?_)
 obtain⟨it,fp,tn,J,H2,e,I2,T,mQ,f2,q2⟩:=h2
 subst e
 refine Y2 ?_
 have hl:H2 s2.heap.objs.size=none:=I2.fresh
 have I3:Inv X pins σ (upd H2 s2.heap.objs.size (.lst [])) { s2 with heap:=s2.heap.push { cls := .type "list",data := .seq ([]:List Value).toArray } }:=I2.bV (t':=s2.toks) (ys:=[]) .nil (YW _)
 have k3:∀ b o,s2.heap.get? b=some o->(s2.heap.push { cls := .type "list",data := .seq ([]:List Value).toArray }).get? b=some o:=fun b o e=>oQ _ e
 have f3:∀ b∈fp,bf X pins (upd H2 s2.heap.objs.size (.lst [])) b:=fun b hb=>by
  obtain⟨o,e,_⟩:=T.obj _ _ mQ b hb
  refine⟨?_,(f2 b hb).2⟩
  rw[aA (X_ (Ng e))]
  exact (f2 b hb).1
 generalize ND:upd H2 s2.heap.objs.size (.lst [])=H3 at I3 f3
 generalize NF:({ s2 with heap:=s2.heap.push { cls := .type "list",data := .seq ([]:List Value).toArray } }:Shared)=s3 at I3
 have EE:∀ b o,s2.heap.get? b=some o->s3.heap.get? b=some o:=by rw[<-NF];exact k3
 have o3:∀ b∈fp,∃ o,s3.heap.get? b=some o:=fun b hb=>let ⟨o,e,_⟩:=T.obj _ _ mQ b hb; ⟨o,EE b o e⟩
 refine Nr ?_
 have k4:∀ b o,s3.heap.get? b=some o->(pushCells (s3.heap.push { cls := .type "dict",data := .dict #[] }) scope.names).get? b=some o:=fun b o e=>pushCells_keeps _ _ _ _ (oQ _ e)
 have sQ:(pushCells (s3.heap.push { cls := .type "dict",data := .dict #[] }) scope.names).Ns s3.heap.objs.size (fun x=>([]:List (Str × Value)).reverse.lookup x):=(Heap.Ns.new s3.heap (.type "dict")).keeps (pushCells_keeps _ _)
 have I4:=Ny (Nb:=Nb) (tk:=s3.toks) S I3 f3 o3 c1 c2 sQ k4 fun x c e=>by
  have hz:(s3.heap.push { cls := .type "dict",data := .dict #[] }).objs.size=s3.heap.objs.size + 1:=Z3 ..
  have e':(cellsFrom (s3.heap.push { cls := .type "dict",data := .dict #[] }).objs.size scope.names cl).lookup x=some c:=by rw[hz];exact e
  refine yQ (fun u c q => ?_) e'
  obtain⟨v,o,g1,g2⟩:=I3.cell u c (c1 _ _ q)
  exact⟨v,o,oQ _ g1,g2⟩
 generalize Xt:pushCells (s3.heap.push { cls := .type "dict",data := .dict #[] }) scope.names=h₁ at k4 sQ I4 ⊢
 obtain⟨W,w0,turn⟩:=q2 ⟨sP scope s3 cl,s3.heap.objs.size,s3,H3,fp⟩ s2.heap.objs.size hl
 rw[ND] at w0
 refine NA (d:=⟨sP scope s3 cl,s3.heap.objs.size,s3,H3,fp⟩) (fp:=fp) (tn:=tn) (J:=J) (Q:=Q) hc (hg _) (hf _) (he _) T rfl I4 (T.keep _ _ _ mQ fun b hb o e=>k4 b o (EE b o e)) (fun b hb => ?_) W w0 turn fun τ' H' s' I5 q5 => ?_
 ·obtain⟨o,e⟩:=o3 b hb
  refine⟨(f3 b hb).1,X_ (Ng e),fun z => ?_,.inl hb,fun x c ec => ?_,fun p hp=>absurd (show p∈([]:List (Addr × Obj)) from hp) (by simp)⟩
  ·rcases X7.mp (I3.f6 b z) with r | r
   ·exact (f3 b hb).2.1 r
   ·exact (f3 b hb).2.2.1 r
  ·rcases qA ec with q | ⟨q,_⟩
   ·exact (f3 b hb).2.2.2.2.1 x c (c1 _ _ q)
   ·have yR:=Ng e
    intro z
    subst z
    exact absurd (Nat.lt_of_succ_le q) (Nat.not_lt.mpr (Zb yR))
 ·have I6:Inv X pins σ H' s':=NB I3 rfl rfl rfl f3 I5
  obtain⟨m,hn,_⟩:=I5.loc
  have fC:bf X pins H' s3.heap.objs.size:=I3.f7 (sG _) I5.free
  exact fin _ _ _ _ m I6 fC (fun p c e=>fC.2.2.2.2.1 p c e) hn q5
theorem NG (cp:List (Option Nat)) (Nb:List Str) (hc:X.calm=true) (hi:PI X tg iter wi) (hg:∀ d,PG (cg X scope Nb d) tg (g d)) (hf:∀ d,PF (cg X scope Nb d) ifs (tf d)) (he:∀ d,PE (cg X scope Nb d) elt (te d))
  (hk:scope.kind = .function:=by rfl) (ho:kQ X.N X.env.scope scope Nb cp=true:=by first | rfl | kernel_rfl) (hs:∀ x,foldedSetIterable iter X.env x=pure x:=by intro _;rfl) :
  PE X (.ListComp elt [⟨tg,iter,ifs,0⟩] scope pos) (oS wi cp g tf te):=by
 intro pins s σ H Q I h
 rw[eval_ListComp]
 refine ED (use:=none) hc (q8P hk ho) hi hg hf he hs I h fun l C H' s' m I' fC hcc hn q=>⟨m,hn,fun h' sR=>⟨.ref l,H',?_,rfl,q⟩⟩
 exact I'.turned (t':=s'.toks) (fun b o hb e=>(sR.2 b hb).trans e) fC.1 fC.2.1 fC.2.2.2.1 fC.2.2.2.2.1 fC.2.2.2.2.2
theorem NH (cp:List (Option Nat)) (Nb:List Str) {i:Nat} {x:Str} {pos' gG:Pos} (hN:X.N.Nodup) (hi:X.N[i]? = some x) (hx:Loc X.env.scope x) (hc:X.calm=true) (hit:PI X tg iter wi) (hg:∀ d,PG (cg X scope Nb d) tg (g d)) (hf:∀ d,PF (cg X scope Nb d) ifs (tf d)) (he:∀ d,PE (cg X scope Nb d) elt (te d))
  (hk:scope.kind = .function:=by rfl) (ho:kQ X.N X.env.scope scope Nb cp=true:=by first | rfl | kernel_rfl) (hs:∀ x,foldedSetIterable iter X.env x=pure x:=by intro _;rfl)
  (sS:swapsWith (.ListComp elt [⟨tg,iter,ifs,0⟩] scope pos) (some (.Name x pos')) gG.line X.env=pure true:=by rfl)
  (i7:X.fn x=true\/X.env.scope.names.lookup x=some .local:=by first | exact .inl rfl | exact .inr rfl | assumption) :
  PS X (.Assign [.Name x pos'] (.ListComp elt [⟨tg,iter,ifs,0⟩] scope pos) gG) (bS (oS wi cp g tf te) (fG i)):=by
 intro pins s σ H D I h
 rw[exec_Assign_Name_used _ _ _ _ sS]
 refine lJ (Zv (lJ ?_))
 show wpAny _ X.A (do let _ <- comprehension (.ListComp elt [⟨tg,iter,ifs,0⟩] scope pos) scope X.env _ (newList []) false (eval iter X.env) (some (assign (.Name x pos') X.env))) _ _ s
 refine lJ (a5 (ED (use:=some (assign (.Name x pos') X.env)) (P:=fun _ s'=>SP X pins D .next s') hc (q8P hk ho) hit hg hf he hs I h fun l C H' s' m I' fC hcc hn q => ?_) fun _ s' hq=>vK (vK hq))
 show wpAny _ X.A (assign (.Name x pos') X.env (.ref l)) _ _ s'
 refine wpAny_assign_Name (Dz I' hN hi hx (v := .ref l) rfl (fun iq NI ⟨a,sb,ha⟩ => ?_) i7)
 have nC:C≠a:=by
  rcases ha with e | e
  ·rw[e];exact fC.2.1
  ·exact Zn (hcc _ _ e)
 refine⟨m,hn.sameBut sb nC,fun h' sR=>⟨_,H',?_,q⟩⟩
 exact NI.turned (t':=iq.toks) (fun b o hb e=>(sR.2 b hb).trans e) fC.1 fC.2.1 fC.2.2.2.1 fC.2.2.2.2.1 fC.2.2.2.2.2
end
section
variable {g:TG} {tf:TT} {te:TE}
end
section
variable {X:Cx} {pins:List (Addr × Obj)} {σ : St} {H:Hp} {s:Shared} {h':Heap} {T:Addr} {o:HO} {ch:List Addr} {t':Nat}
theorem Inv.gH (I:Inv X pins σ H s) (hf:∀ b∈ch,bf X pins H b) (k:∀ b u,b∉ch->s.heap.get? b=some u->h'.get? b=some u) (hT:s.heap.objs.size <= T) (new:aK X.prog X.w (upd H T o) h' T o) :
  Inv X pins σ (upd H T o) { s with heap:=h',toks:=t' }:=by
 have hn:H T=none:=I.aM.fresh hT
 have mM:∀ b u,H b=some u->b∉ch:=fun b u e hb=>by rw[(hf b hb).1] at e;cases e
 refine I.step (g':=s.gens) (d':=s.drawn) (ch:=ch) (fun b hb=>⟨(hf b hb).2.2.2.1,(hf b hb).2.1,(hf b hb).2.2.2.2.1,(hf b hb).2.2.2.2.2⟩) (fun b u _ _ hc e _=>k b u hc e) (fun b u _ _ hc e _=>⟨u.slots,k b u hc e⟩)
  (fun b u _ e n=>by rw[aA (X_ (X9 (Ng e) hT))];exact n) (fun b u hc e=>⟨u,k b u hc e⟩) (fun b xs e=>by rw[aA (bK e hn)];exact e)
  (fun b u xs e=>by rw[aA (bK e hn)];exact e) (fun b ps e=>⟨#[],by rw[aA (bK e hn),e];simp⟩) (fun m hm => ?_) (fun b u e => ?_) I.bare
 ·obtain⟨u,es,ep,ho,r⟩:=hm
  exact⟨u,es,ep,k _ u (fun hb=>(hf _ hb).2.1 rfl) ho,r⟩
 ·by_cases hb:b=T
  ·subst hb;rw[a9] at e;cases e;exact new
  ·rw[aA hb] at e
   refine (I.aM b u e).cN (fun c v hc q=>k c v ?_ q) (fun c q=>by rw[aA (bK q hn)];exact q) fun c xs q=>by rw[aA (bK q hn)];exact q
   rcases hc with z | z
   ·rw[z];exact mM b u e
   ·exact mM c _ z
end
noncomputable def qB (K:PySem.W.Frag) (a:Addr):It :=
 ⟨fun i H=>∃ xs x,bc K H a xs/\xs[i]? = some x,fun i H x H'=>∃ T v,x = .ref T/\H T=none/\H'=upd H T (.tup [.int (i:Nat),v])/\∀ xs,bc K H a xs->xs[i]? = some v,fun i H=>∃ xs,bc K H a xs/\xs.length <= i⟩
theorem EF {P:Program} {w:World} {K:PySem.W.Frag} {elts:List Expr} {x1} {tp:Pos} (a e it:Addr) (gJ:e≠it) :
  Turn P w K (.Tuple elts x1 tp) (qB K a) [e,it] e (fun i h=>(∃ old,IsEnum h e it (i:Nat) old)/\h.IsListIter it a i) where
 mem:=by simp
 obj:=fun i h st b hb=>by
  obtain⟨⟨old,he⟩,o,hi,hc,hd⟩:=st
  rcases X7.mp hb with rfl | hb
  ·exact⟨_,he,fun v z=>by cases z⟩
  ·have z:b=it:=by simpa using hb
   subst z
   exact⟨o,hi,fun v z=>by rw[hd] at z;cases z⟩
 keep:=fun i h h' st k=>by
  obtain⟨⟨old,he⟩,hi⟩:=st
  exact⟨⟨old,k e (by simp) _ he⟩,hi.at fun o q=>k it (by simp) o q⟩
 item:=by
  intro X hP hw hK hc i pins s σ H E I hf st hg
  subst hP hw hK
  obtain⟨⟨old,he⟩,hi⟩:=st
  obtain⟨xs,x,hq,hx⟩:=hg
  obtain⟨ai,rv,p,hz⟩:=I.list hq
  obtain⟨u,hu,ru⟩:=rv.get hx
  refine wpAny_pyNext_enum_item he hi p.isList (x:=u) (by simpa using hu) gJ fun h1 kJ yS sT eJ hk=>⟨_,rfl,?_⟩
  refine wpAny_letOwnedTupleGo_enum kJ fun h2 sU gB => ?_
  have hT:s.heap.objs.size≠e:=ZM (Ng he)
  have jd:h2.get? s.heap.objs.size=some { cls := .type "tuple",data := .seq #[.int i s.toks,u] }:=(gB.2 _ hT).trans sT
  have k2:∀ b o,b∉[e,it]->s.heap.get? b=some o->h2.get? b=some o:=fun b o hb q=>by
   have sV:b≠e:=fun z=>hb (by simp[z])
   have gF:b≠it:=fun z=>hb (by simp[z])
   exact (gB.2 _ sV).trans (hk b o sV gF q)
  have hn:H s.heap.objs.size=none:=I.aM.fresh (sG _)
  refine⟨.ref s.heap.objs.size,upd H s.heap.objs.size (.tup [.int i,x]),I.gH (ch:=[e,it]) (t':=s.toks + 1) hf k2 (sG _) ?_,rfl,⟨_,x,rfl,hn,rfl,fun ys hy=>by rw[I.gA hy hq];exact hx⟩,⟨⟨u,?_⟩,?_⟩,fun b hb => ?_⟩
  ·exact⟨by show 2 <= sizeLine;decide,[.int i s.toks,u],.cons ⟨_,rfl⟩ (.cons ru .nil),_,jd,rfl,_,rfl⟩
  ·have e3:((i:Int) + 1)=(((i + 1:Nat)):Int):=by omega
   rw[e3] at sU
   exact sU
  ·exact yS.at fun o q=>(gB.2 _ (Zn gJ)).trans q
  ·have:b < s.heap.objs.size:=by
    obtain⟨o,q,_⟩:=hi
    rcases X7.mp hb with rfl | hb
    ·exact Ng he
    ·have z:b=it:=by simpa using hb
     subst z;exact Ng q
   rw[aA (X_ this)]
   exact (hf b hb).1
 done:=by
  intro X hP hw hK hc i pins s σ H E I hf st hg
  subst hP hw hK
  obtain⟨⟨old,he⟩,hi⟩:=st
  obtain⟨xs,hq,hx⟩:=hg
  obtain⟨ai,rv,p,hz⟩:=I.list hq
  have hl:=rv.length
  refine wpAny_pyNext_enum_end (I.ok.hd hc) he hi p.isList (by simp;omega) fun h1 eb=>⟨rfl,?_⟩
  obtain⟨f0,f1,f2,f3,f4,f5⟩:=hf it (by simp)
  exact I.turned (t':=s.toks) (fun b o hb q=>eb b o hb q) f0 f1 f3 f4 f5
 self:=fun A i s Q E st h=>by
  obtain⟨⟨old,he⟩,hi⟩:=st
  have hT:s.TypeIs (.ref e) "enumerate" := ⟨_,he,rfl⟩
  exact Zp he h
section
variable {X:Cx} {elts:List Expr} {x1:Nat} {tp:Pos}
noncomputable def EG (K:PySem.W.Frag) (ta:TA):TI:=fun σ H R=>ta σ H fun vs H1=>∃ a,vs=[.ref a]/\(∃ xs,bc K H1 a xs)/\R (qB K a) H1
theorem EH:bootBuiltins "enumerate" = some (.type "enumerate"):=by decide +kernel
theorem NJ {a:Expr} {ta:TA} {p pos:Pos} (hg:Gl X "enumerate") (hm:X.mg "enumerate" = none) (ha:PA X [a] ta) (hs:starEach [a] X.env=[(false,eval a X.env)]:=by rfl) :
  PI X (.Tuple elts x1 tp) (.Call (.Name "enumerate" p) [a] [] pos) (EG X.K ta):=by
 intro pins s σ H R I h
 refine Call_ (lq I hg hm EH (Y8 (a5 (ha pos pins s σ H _ I h) fun us s1 h0_ => el5 h0_ fun vs H1 I1 r1 q1 => ?_) hs rfl))
 obtain⟨l,e,⟨xs,hq⟩,q⟩:=q1
 subst e
 cases r1 with
 | cons r rr =>
  cases rr
  cases r
  obtain⟨ai,rv,p,hz⟩:=I1.list hq
  refine call_enumerate_list p.isList fun h' he hi eJ hk => ?_
  have I2:Inv X pins σ H1 { s1 with heap:=h' }:=I1.kept (t':=s1.toks) hk
  refine Zp he ?_
  refine⟨_,_,_,_,H1,rfl,I2,EF l (s1.heap.objs.size + 1) s1.heap.objs.size (q1n _),⟨⟨_,he⟩,hi⟩,fun b hb => ?_,q⟩
  have hb':s1.heap.objs.size <= b:=by
   rcases X7.mp hb with rfl | hb
   ·exact q0F _
   ·have z:b=s1.heap.objs.size:=by simpa using hb
    rw[z];exact sG _
  exact I1.f7 hb' (I1.aM.fresh hb')
end
section
variable {X:Cx} {nm:Str} {tp:Pos}
end
end L2
namespace L2
open PySem PySem.Spec PyProof.Rows PySem.W
open Builtin Builtin.ObjectAttr
section
variable {prog:Program} {w:World} {A:Around} {E:Value->Shared->Prop} {s:Shared} {K:Frag} {x D:Addr} {ox:Obj} {kR:Option Obj} {name:Str}
theorem NK:builtinKind "BaseException.__getattribute__" = some .slot:=by decide +kernel
theorem NL:splitId "BaseException.__getattribute__" = some ("BaseException", "__getattribute__"):=by decide +kernel
theorem NM:plainId "BaseException.__getattribute__" = true:=PySem.F.attr_ValueError.ga.plain
theorem NN {tk:Tok} {Q:Unit->Shared->Prop} (X:K.In s.heap) (I:InstAt s.heap x ox D kR) (hb:mroIn K D (.type "BaseException")=some true) (q:Q () s) :
  wpAny (model prog w) A (checkBuiltinCall "BaseException.__getattribute__" ⟨[.ref x,.str name tk],[]⟩) Q E s:=by
 have sub:Looks (model prog w) s.heap (isInstance (.ref x) (.type "BaseException")) true:=(I.type (M:=model prog w)).andThen (looks_mroIn X hb)
 exact @check_slot (model prog w) A E s "BaseException.__getattribute__" "BaseException" "__getattribute__" (.ref x) [.str name tk] [] Q NK NL sub (PySem.F.args_bexc_ga (.ref x) (.str name tk)) q
theorem NO {tk:Tok} {Q:Value->Shared->Prop} (X:K.In s.heap) (I:InstAt s.heap x ox D kR) (hb:mroIn K D (.type "BaseException")=some true)
  (h:wpAny (model prog w) A.in1 (Builtin.«object.__getattribute__» ⟨[.ref x,.str name tk],[]⟩) (fun fin s'=>∃ v,fin = .done (.ret v)/\Q v s') E s) :
  wpAny (model prog w) A (call (.builtin "BaseException.__getattribute__") [.ref x,.str name tk]) Q E s:=by
 refine q0y (q0G NM PySem.F.entry_bexc_ga ?_)
 refine NN X I hb ?_
 refine YK h (fun fin s' hf => ?_) fun _ _ z=>z
 obtain⟨v,rfl,q⟩:=hf
 exact q
theorem EJ {fill expr:Bool} {tk:Tok} {Q:Value->Shared->Prop} (X:K.In s.heap) (I:InstAt s.heap x ox D kR) (sW:findIn K (.ref D) "__getattribute__" = some (some (.builtin "BaseException.__getattribute__")))
  (sX:findIn K (.ref D) "__getattr__" = some none) (hb:mroIn K D (.type "BaseException")=some true)
  (h:wpAny (model prog w) A.in1 (Builtin.«object.__getattribute__» ⟨[.ref x,.str name tk],[]⟩) (fun fin s'=>∃ v,fin = .done (.ret v)/\handedIn v=true/\Q v s') (fun _ _=>False) s) :
  wpAny (model prog w) A (getAttrBy (.ref x) (.str name tk) fill expr) Q E s:=by
 have L0:=I.type (M:=model prog w)
 have L1:=looks_findIn (M:=model prog w) X sW
 have L2:=looks_findIn (M:=model prog w) X sX
 have vy:(onTheHeap (Value.ref D) && (Value.builtin "BaseException.__getattribute__" == Value.builtin "object.__getattribute__"))=false:=by
  rw[show (Value.builtin "BaseException.__getattribute__" == Value.builtin "object.__getattribute__")=false by decide +kernel];rfl
 have NP:(expr && onTheHeap (Value.builtin "BaseException.__getattribute__"))=false:=by cases expr<;>rfl
 have NQ:=PySem.F.attr_ValueError.ga.bind (.ref x)
 have main:wpAny (model prog w) A (callGetattribute (.ref x) (.str name tk) (.builtin "BaseException.__getattribute__") expr) (fun v s'=>handedIn v=true/\Q v s') (fun _ _=>False) s:=by
  unfold callGetattribute
  rw[NP,Xm Eu]
  unfold boundAndCalled
  rw[NQ]
  refine lJ (vK ?_)
  exact NO (Q:=fun v s'=>handedIn v=true/\Q v s') X I hb h
 unfold getAttrBy
 refine Yl (lJ (L0.here (lJ (L1.here ?_))))
 dsimp only
 rw[vy,Xm Eu]
 unfold getAttrByItsOwn
 refine lJ (L2.here (lJ (wpAny_attempt (Yl (YK main (fun v s' hf => ?_) fun _ _ z=>z.elim)))))
 dsimp only
 rw[handedOut_of hf.1]
 exact vK hf.2
theorem NR {tk:Tok} {v:Value} {Q:Fin->Shared->Prop} (X:K.In s.heap) (I:InstAt s.heap x ox D kR) (hf:findObj K D kR name=some (.value v)) (h:Q (.done (.ret v)) s) :
  wpAny (model prog w) A (Builtin.«object.__getattribute__» ⟨[.ref x,.str name tk],[]⟩) Q E s:=by
 have L0:=I.type (M:=model prog w)
 have L1:=looks_find (M:=model prog w) X I hf
 refine lJ (vK ?_)
 dsimp only
 refine lJ (vK (lJ (L0.here (lJ (L1.here ?_)))))
 exact vK h
theorem NS {expr:Bool} {v:Value} {Q:Value->Shared->Prop} (X:K.In s.heap) (I:InstAt s.heap x ox D kR) (sW:findIn K (.ref D) "__getattribute__" = some (some (.builtin "BaseException.__getattribute__")))
  (sX:findIn K (.ref D) "__getattr__" = some none) (hb:mroIn K D (.type "BaseException")=some true) (hf:findObj K D kR name=some (.value v)) (hv:handedIn v=true) (h:Q v { s with toks:=s.toks + 1 }) :
  wpAny (model prog w) A (getAttr (.ref x) name expr) Q E s:=by
 unfold getAttr
 refine lJ (wpAny_mkText ?_)
 exact EJ (s:={ s with toks:=s.toks + 1 }) X I sW sX hb (NR (s:={ s with toks:=s.toks + 1 }) X I hf ⟨v,rfl,hv,h⟩)
theorem NT {Q:Option Value->Shared->Prop} (X:K.In s.heap) (I:InstAt s.heap x ox D kR) (sW:findIn K (.ref D) "__getattribute__" = some (some (.builtin "BaseException.__getattribute__")))
  (sX:findIn K (.ref D) "__getattr__" = some none) (hb:mroIn K D (.type "BaseException")=some true) (hm:mroIn K D (.type "object")=some true)
  (hf:findObj K D kR "__class__" = some (.bind (.builtin "getset_descriptor.__get__") (.builtin "object.__class__"))) (h:Q (some (.ref D)) { s with toks:=s.toks + 1 }) :
  wpAny (model prog w) A (getAttr? (.ref x) "__class__") Q E s:=by
 unfold getAttr? getAttrBy?
 refine lJ (wpAny_mkText (lJ (wpAny_attempt ?_)))
 refine EJ (s:={ s with toks:=s.toks + 1 }) X I sW sX hb ?_
 have L0:=I.type (M:=model prog w)
 have L1:=looks_find (M:=model prog w) X I hf
 refine lJ (vK ?_)
 dsimp only
 refine lJ (vK (lJ (Looks.here (s:={ s with toks:=s.toks + 1 }) L0 (lJ (Looks.here (s:={ s with toks:=s.toks + 1 }) L1 ?_)))))
 show wpAny _ _ (holding [Value.builtin "object.__class__"] (call (.builtin "getset_descriptor.__get__") [.builtin "object.__class__",.ref x,.ref D]) >>= ret) _ _ _
 refine lJ (Yl (q0y (class_get (s:={ s with toks:=s.toks + 1 }) (ox:=ox) (od:=kR) X I hm ?_)))
 exact vK ⟨.ref D,rfl,rfl,vK h⟩
noncomputable def dy:List Value->Bool
 | .ref _ :: r=>dy r
 | l=>l == [.type "ValueError",.type "Exception",.type "BaseException",.type "object"]
theorem EK (self:Value):∀ {l:List Value},dy l=true->refuseLoop self "__setattr__" l=pure ()
 | .ref c :: r,e=>by rw[refuseLoop_ref];exact EK self (l:=r) (by unfold dy at e;exact e)
 | [],e=>by
  unfold dy at e
  rw[Yb e];exact q1f.passes self
 | .type n :: r,e=>by
  unfold dy at e
  rw[Yb e];exact q1f.passes self
 | .none :: r,e=>by unfold dy at e;cases Yb e
 | .bool _ :: r,e=>by unfold dy at e;cases Yb e
 | .int _ _ :: r,e=>by unfold dy at e;cases Yb e
 | .float _ _ :: r,e=>by unfold dy at e;cases Yb e
 | .str _ _ :: r,e=>by unfold dy at e;cases Yb e
 | .bytes _ _ :: r,e=>by unfold dy at e;cases Yb e
 | .builtin _ :: r,e=>by unfold dy at e;cases Yb e
 | .notImplemented :: r,e=>by unfold dy at e;cases Yb e
 | .ellipsis :: r,e=>by unfold dy at e;cases Yb e
theorem sY:∀ {l:List Value},dy l=true->l.contains (.type "object")=true/\l.contains (.type "BaseException")=true/\l.isEmpty=false
 | .ref c :: r,e=>by
  have ih:=sY (l:=r) (by unfold dy at e;exact e)
  exact⟨by rw[q0f,ih.1,q1t],by rw[q0f,ih.2.1,q1t],rfl⟩
 | [],e=>by
  unfold dy at e
  rw[Yb e];decide +kernel
 | .type n :: r,e=>by
  unfold dy at e
  rw[Yb e];decide +kernel
 | .none :: r,e=>by unfold dy at e;cases Yb e
 | .bool _ :: r,e=>by unfold dy at e;cases Yb e
 | .int _ _ :: r,e=>by unfold dy at e;cases Yb e
 | .float _ _ :: r,e=>by unfold dy at e;cases Yb e
 | .str _ _ :: r,e=>by unfold dy at e;cases Yb e
 | .bytes _ _ :: r,e=>by unfold dy at e;cases Yb e
 | .builtin _ :: r,e=>by unfold dy at e;cases Yb e
 | .notImplemented :: r,e=>by unfold dy at e;cases Yb e
 | .ellipsis :: r,e=>by unfold dy at e;cases Yb e
structure bo (K:Frag) (C:Addr):Prop where
 cd:∃ cd,clsIn K C=some cd/\dy cd.mro=true/\cd.hasDict=true
 ga:findIn K (.ref C) "__getattribute__" = some (some (.builtin "BaseException.__getattribute__"))
 gh:findIn K (.ref C) "__getattr__" = some none
 sa:findIn K (.ref C) "__setattr__" = some (some (.builtin "object.__setattr__"))
 cl:findIn K (.ref C) "__class__" = some (some (.builtin "object.__class__"))
 hn:specialIn K (.builtin "object.__class__") "__get__" = some (some (.builtin "getset_descriptor.__get__"))
 tk:takesIn K (.builtin "object.__class__")=some true
theorem bo.base {C:Addr} (c:bo K C):mroIn K C (.type "BaseException")=some true:=by
 obtain⟨cd,h1,h2,_⟩:=c.cd
 unfold mroIn
 rw[h1,ZI,Xm (by rw[(sY h2).2.2];decide),(sY h2).2.1]
theorem bo.obj {C:Addr} (c:bo K C):mroIn K C (.type "object")=some true:=by
 obtain⟨cd,h1,h2,_⟩:=c.cd
 unfold mroIn
 rw[h1,ZI,Xm (by rw[(sY h2).2.2];decide),(sY h2).1]
theorem NU {C:Addr} {v:Value} {vs:Array Value} {Q:Unit->Shared->Prop} (X:K.In s.heap) (hx:s.heap.get? x=some ⟨.ref C,none,.fields vs,#[]⟩) (c:bo K C) (NV:findIn K (.ref C) name=some none)
  (h:∀ h' kU,h'.get? x=some ⟨.ref C,some s.heap.objs.size,.fields vs,#[]⟩->h'.Ns1 s.heap.objs.size (fun y=>if y=name then some v else none)->(∀ b o,b≠x->s.heap.get? b=some o->h'.get? b=some o)->Q () { s with heap:=h',toks:=kU }) :
  wpAny (model prog w) A (setAttr (.ref x) name v) Q E s:=by
 have I:InstAt s.heap x ⟨.ref C,none,.fields vs,#[]⟩ C none:=⟨hx,rfl,rfl,trivial⟩
 obtain⟨cd,di,hm,dU⟩:=c.cd
 refine set_plain X I c.sa ?_
 have SF:=PySem.F.store_object
 have sub:Looks (model prog w) s.heap (isInstance (.ref x) (.type "object")) true:=I.type.andThen (looks_mroIn X c.obj)
 refine q0G SF.slot.plain SF.entry (@check_slot (model prog w) _ _ { s with toks:=s.toks + 1 } "object.__setattr__" "object" "__setattr__" (.ref x) [.str name s.toks,v] [] _ SF.kind SF.split sub (SF.args (.ref x) (.str name s.toks) v) ?_)
 have sZ:Looks (model prog w) s.heap (mroOf (.ref C)) cd.mro:=(looks_clsIn X di).andThen .now
 rw[osa_eq,refuse_eq]
 refine lJ (lJ (Looks.here (s:={ s with toks:=s.toks + 1 }) I.type (lJ (Looks.here (s:={ s with toks:=s.toks + 1 }) sZ ?_))))
 rw[EK _ hm]
 refine vK (lJ (Looks.here (s:={ s with toks:=s.toks + 1 }) I.type (lJ (Looks.here (s:={ s with toks:=s.toks + 1 }) (looks_findIn X NV) (lJ (vK ?_))))))
 show wpAny _ _ (storeInOwnDict (.ref x) (.ref C) (.str name s.toks) name v false) _ _ _
 unfold storeInOwnDict
 refine lJ (vK (lJ ?_))
 show wpAny _ _ (instanceDict x true) _ _ _
 unfold instanceDict
 refine lJ (wpAny_loadPart (s:={ s with toks:=s.toks + 1 }) hx ?_)
 refine lJ (Looks.here (s:={ s with toks:=s.toks + 1 }) (looks_clsIn X di) ?_)
 rw[dU]
 show wpAny _ _ (alloc { cls := .type "dict",data := .dict #[] } >>= fun d=>update x (fun o=>{ o with dict:=some d }) >>= fun _=>dictMade (.ref C) x d) _ _ _
 have EL:(s.heap.push { cls := .type "dict",data := .dict #[] }).get? x=some ⟨.ref C,none,.fields vs,#[]⟩:=oQ _ hx
 have vN:x≠s.heap.objs.size:=X_ (Ng hx)
 refine lJ (wpAny_alloc' ?_)
 refine lJ (wpAny_update' EL ?_)
 refine vK ?_
 have NW:((s.heap.push { cls := .type "dict",data := .dict #[] }).update x fun o=>{ cls:=o.cls,dict:=some s.heap.objs.size,data:=o.data,slots:=o.slots }).get? s.heap.objs.size
   = some { cls := .type "dict",data := .dict #[] }:=(Heap.get?_update_ne _ _ _ _ vN.symm).trans (Heap.get?_push_at rfl rfl)
 have NX:((s.heap.push { cls := .type "dict",data := .dict #[] }).update x fun o=>{ cls:=o.cls,dict:=some s.heap.objs.size,data:=o.data,slots:=o.slots }).Ns s.heap.objs.size (fun _=>none) :=
  ⟨_,#[],_,NW,rfl,fun e he=>absurd he (by simp),fun _=>rfl⟩
 show wpAny _ _ (storeInDict s.heap.objs.size (.str name s.toks) name v) _ _ _
 unfold storeInDict newKeyGuard
 refine lJ (vK (lJ (wpAny_nsSet1 (Heap.Ns1.of_empty NX) fun h' hZ hs => ?_)))
 obtain⟨oD,Xu,Xv,NY,NZ,jS⟩:=hZ.count (Within.cons name v Within.nil)
 refine lJ (wpAny_lookBehind NY (by rw[NZ];exact pastItsLine_dict (YF jS (by rw[Ex,Zs,Zh];omega))) ?_)
 have iQ:h'.get? x=some ⟨.ref C,some s.heap.objs.size,.fields vs,#[]⟩:=(hs.2 x vN).trans (YU _ EL rfl)
 exact vK (h h' _ iQ hZ fun b ob N3 hb=>(hs.2 b (X_ (Ng hb))).trans ((Heap.get?_update_ne _ _ _ _ N3).trans (oQ _ hb)))
theorem N4 {C:Addr} {cd:ClassData} {od:Option Obj} {nm:Str} {g a:Value} (hc:clsIn K C=some cd) (ha:findIn K (.ref C) nm=some (some a)) (hn:specialIn K a "__get__" = some (some g)) (vG:takesIn K a=some true) :
  findObj K C od nm=some (.bind g a):=by
 unfold findObj
 rw[hc,ZI,ha,ZI]
 dsimp only
 rw[hn,ZI]
 dsimp only
 rw[vG,ZI]
theorem N5 {C:Addr} (c:bo K C):KitX K (.ref x) (.ref C) (fun h=>∃ ox od,InstAt h x ox C od) where
 ty:=fun _ _ _ I=>by obtain⟨_,_,I⟩:=I;exact I.type
 it:=fun _ _ X _=>by
  obtain⟨EM,jS,_⟩:=c.cd
  unfold clsIn at jS
  split at jS
  ·rename_i c' d' N6 jI ho
   intro A' Q' E' s' k q
   unfold isType loadHead
   exact lJ (wpAny_loadPart (k _ _ (X _ _ ho)) (vK q))
  ·cases jS
 ne:=fun h tp dd ai n sl X N7=>by
  obtain⟨EM,jS,_⟩:=c.cd
  refine Bool.eq_false_iff.mpr fun q => ?_
  have e:C=tp:=Value.ref.inj (beq_iff_eq.mp q)
  subst e
  unfold clsIn at jS
  split at jS
  ·rename_i c' d' N6 jI ho
   have z:=(X _ _ ho).symm.trans N7
   cases z
  ·cases jS
 ca:=fun X I k=>by
  obtain⟨ox,od,I⟩:=I
  obtain⟨EM,jS,_⟩:=c.cd
  exact NT X I c.ga c.gh c.base c.obj (N4 jS c.cl c.hn c.tk) k
variable {h:Heap} {g:Array GenState} {d:Drawn} {t:Nat} {os:OsState} {nm q:Str} {C N:Addr} {bs bm vO:List Value} {dU:Bool} {sn:List Str} {sub:List Value} {ab:Bool} {col:Option Bool} {dd:Option Addr} {k0 k1 k2 k3 k5:Option Value} {B newId jT:String}
theorem N8 (F:ExcBaseFacts B newId jT vO) (T:OwnTail h vO bm) {mN:Str->Option Value} {rest:List Value} {fI:Addr} {oI:Obj} {Q:Fin->Shared->Prop}
  (hC:h.get? C=some (excClassObj nm q C N bs bm dU sn sub ab col dd k0 k1 k2 k3 k5 newId)) (hn:h.Ns N mN) (hi:mN "__init__" = some (.ref fI))
  (yT:h.get? fI=some oI) (yU:oI.cls = .type "function")
  (hq:∀ h' e,Heap.MadeExcOf h h' e (.ref C) rest →
   wpAny (model prog w) A (call (.ref fI) (.ref e :: rest)) (fun r s'=>r = .none/\Q (.done (.ret (.ref e))) s') E ⟨h',g,d,t,os⟩) (hrest:rest.length <= sizeLine:=by size_fits) :
  wpAny (model prog w) A (Builtin.«type.__call__» ⟨.ref C :: rest,[]⟩) Q E ⟨h,g,d,t,os⟩:=by
 repeat (first | with_reducible refine ZY hC ?_ | with_reducible refine wpAny_madeBy_exc hC ?_ | wp_step)
 refine codeAny_call_builtin_code (q01 _ F.quiet) (wpAny_check_new_subT F T hC ?_)
 refine codeAny_exc_new_subT F T hC ?_ hrest
 show wpAny _ _ _ _ _ _
 have EN:=oQ { cls := .ref C,data := .fields #[.ref h.objs.size,.none,.none,.none,.bool false,.none] }
  (oQ { cls := .type "tuple",data := .seq rest.toArray } hC)
 have yV:=oQ { cls := .ref C,data := .fields #[.ref h.objs.size,.none,.none,.none,.bool false,.none] }
  (oQ { cls := .type "tuple",data := .seq rest.toArray } yT)
 have N9:((h.push { cls := .type "tuple",data := .seq rest.toArray }).push { cls := .ref C,data := .fields #[.ref h.objs.size,.none,.none,.none,.bool false,.none] }).Ns N mN :=
  let ⟨o,es,ep,e,r⟩:=hn; ⟨o,es,ep,oQ _ (oQ _ e),r⟩
 have s_:((h.push { cls := .type "tuple",data := .seq rest.toArray }).push
   { cls := .ref C,data := .fields #[.ref h.objs.size,.none,.none,.none,.bool false,.none] }).get? (h.objs.size + 1)=some
   { cls := .ref C,data := .fields #[.ref h.objs.size,.none,.none,.none,.bool false,.none] }:=by heap_get
 have N_:(Value.ref C :: bm).contains (.ref C)=true:=by simp
 have T₁ := T.keeps (h':=(h.push { cls := .type "tuple",data := .seq rest.toArray }).push { cls := .ref C,data := .fields #[.ref h.objs.size,.none,.none,.none,.bool false,.none] })
  fun b o e=>oQ _ (oQ _ e)
 unfold isInstance
 repeat (first | with_reducible refine ZY s_ ?_ | (with_reducible refine wpAny_isSubtype_exc EN ?_;rw[N_]) | wp_step)
 show wpAny _ _ (typeLookup (.ref C) _) _ _ _
 refine wpAny_typeLookup_tail EN N9 T₁ F.mroIs F.init.lookup ?_
 rw[hi]
 refine Yl (lJ ?_)
 unfold bindSpecial
 refine lJ (q0R (T := "function") ⟨_,yV,yU⟩ ?_)
 rw[Xp (by decide)]
 refine vK (lJ (YK (hq _ (h.objs.size + 1) ⟨fun b o hb=>oQ _ (oQ _ hb),Z2 (q0F _),h.objs.size,s_,Z2 (sG _),?_⟩) (fun r s' hr => ?_) fun _ _ x=>x))
 ·exact oQ _ (Heap.get?_push_at rfl rfl)
 ·obtain⟨rfl,hQ⟩:=hr
  wp_walk
  exact hQ
theorem Oa (F:ExcBaseFacts B newId jT vO) (T:OwnTail h vO bm) {mN:Str->Option Value} {rest:List Value} {fI:Addr} {oI:Obj} {Q:Value->Shared->Prop}
  (hC:h.get? C=some (excClassObj nm q C N bs bm dU sn sub ab col dd k0 k1 k2 k3 k5 newId)) (hn:h.Ns N mN) (hi:mN "__init__" = some (.ref fI))
  (yT:h.get? fI=some oI) (yU:oI.cls = .type "function")
  (hq:∀ h' e,Heap.MadeExcOf h h' e (.ref C) rest →
   wpAny (model prog w) (A.under (.builtin "type.__call__" ⟨.ref C :: rest,[]⟩)) (call (.ref fI) (.ref e :: rest)) (fun r s'=>r = .none/\Q (.ref e) s') E ⟨h',g,d,t,os⟩) (hrest:rest.length <= sizeLine:=by size_fits) :
  wpAny (model prog w) A (call (.ref C) rest) Q E ⟨h,g,d,t,os⟩:=by
 have f1:=tc_lookup
 have f2:=tc_bind (.ref C)
 have hT:(⟨h,g,d,t,os⟩:Shared).TypeIs (.ref C) "type" := ⟨_,hC,rfl⟩
 refine q0y (codeAny_of_tree ?_)
 show wpAny _ _ (callAny (.ref C) _) _ _ _
 repeat (any_goals (first | assumption | with_reducible refine ZY hC ?_ | wp_step))
 refine⟨rfl,?_⟩
 refine codeAny_call_builtin_at (q01 _ (by decide +kernel)) entry_typeCall (wpAny_check_type_call_sub hC (N8 (hrest:=hrest) F T hC hn hi yT yU fun h' e hm => ?_))
 exact hq h' e hm
end
end L2
namespace L2
open PySem PySem.Spec PyProof.Rows
noncomputable def bN (a C:Addr) (dx:Option Addr):HO := .ext fun h=>∃ t,h.get? a=some ⟨.ref C,dx,.fields #[.ref t,.none,.none,.none,.bool false,.none],#[]⟩
theorem EO {P:Program} {w:World} {H:Hp} {h:Heap} {a C t:Addr} {dx:Option Addr} (e:h.get? a=some ⟨.ref C,dx,.fields #[.ref t,.none,.none,.none,.bool false,.none],#[]⟩):aK P w H h a (bN a C dx) :=
 ⟨⟨t,e⟩,⟨_,e⟩,fun h1 h2 ⟨t',e1⟩ k=>⟨t',k _ e1⟩⟩
theorem ER {P:Program} {w:World} {H:Hp} {h:Heap} {a C:Addr} {dx:Option Addr} (x:aK P w H h a (bN a C dx)):∃ t,h.get? a=some ⟨.ref C,dx,.fields #[.ref t,.none,.none,.none,.bool false,.none],#[]⟩:=x.1
noncomputable def tj (K:PySem.W.Frag) (N:Addr) (name:Str) (r:Option Value):Prop:=∃ oc od es ep sl,K.lookup N=some ⟨oc,od,.dict es ep,sl⟩/\(es.all fun e=>match e.key with | .str _ _=>true | _=>false)=true/\nsFind es name=r
theorem tj.ns {K:PySem.W.Frag} {N:Addr} {name:Str} {r:Option Value} (x:tj K N name r) {h:Heap} (k:K.In h):∃ m,h.Ns N m/\m name=r:=by
 obtain⟨oc,od,es,ep,sl,l,hk,e⟩:=x
 refine⟨fun n=>nsFind es n,⟨_,es,ep,k _ _ l,rfl,fun en Ob => ?_,fun _=>rfl⟩,e⟩
 have:=(Array.all_eq_true'.mp hk) en Ob
 split at this
 ·rename_i s t q;exact⟨s,t,q⟩
 ·cases this
noncomputable abbrev mU:List Value:=[.type "ValueError",.type "Exception",.type "BaseException",.type "object"]
inductive bW (K:PySem.W.Frag):List Value->Prop
 | base:bW K mU
 | own {A:Addr} {c0:Value} {dd:Option Addr} {cd:ClassData} {sl:Array (Option Value)} {tl:List Value}:K.lookup A=some ⟨c0,dd,.cls cd,sl⟩->tj K cd.ns "__init__" none->bW K tl->bW K (.ref A :: tl)
theorem bW.tail {K:PySem.W.Frag} {l:List Value} (x:bW K l) {h:Heap} (k:K.In h):OwnTail h mU l:=by
 induction x with
 | base=>exact .base
 | own l n _ ih =>
  obtain⟨m,hn,e⟩:=n.ns k
  exact .own (k _ _ l) hn e ih
structure mV (K:PySem.W.Frag) (C:Addr) (jU:Option Value):Prop where
 yW:∃ (nm q:Str) (N:Addr) (bs bm:List Value) (dU:Bool) (sn:List Str) (sub:List Value) (ab:Bool) (col:Option Bool) (dd:Option Addr) (k0 k1 k2 k3 k5:Option Value),
  K.lookup C=some (excClassObj nm q C N bs bm dU sn sub ab col dd k0 k1 k2 k3 k5 "ValueError.__new__")/\bW K bm/\tj K N "__init__" jU
 kp:PySem.W.keepIn K (.ref C)=true
section
variable {X:Cx} {pins:List (Addr × Obj)} {σ : St} {H:Hp} {s:Shared} {C f:Addr} {CX:iO} {k:Nat} {fd:FuncData} {ps:List Str} {sp:Sp} {E:XK} {x:Str} {p pos pos':Pos} {e o value:Expr} {es:List Expr} {ta tv:TE} {t:TA}
theorem ES {P:Program} {w:World} {H:Hp} {h:Heap} {a:Addr} {o:HO} (x:aK P w H h a o):∃ ob,h.get? a=some ob:=by
 cases o with
 | lst xs=>obtain⟨_,_,_,_,e⟩:=x;exact⟨_,e⟩
 | tup xs=>obtain⟨_,_,_,p⟩:=x;obtain⟨o,e,_⟩:=p;exact⟨_,e⟩
 | dK ax=>obtain⟨_,_,_,_,o,_,_,e,_⟩:=x;exact⟨_,e⟩
 | dT ax=>obtain⟨_,_,_,_,o,_,_,e,_⟩:=x;exact⟨_,e⟩
 | set S n=>obtain⟨o,_,_,_,e,_⟩:=x;exact⟨_,e⟩
 | ins C dx fs=>obtain⟨_,_,_,e,_⟩:=x;exact⟨_,e⟩
 | own y=>exact x
 | xd fs=>obtain⟨_,⟨_,_,_,e,_⟩,_⟩:=x;exact⟨_,e⟩
 | rng lo hi=>obtain⟨_,_,_,e⟩:=x;exact⟨_,e⟩
 | frz ob u=>obtain⟨e,_⟩:=x;exact⟨_,e⟩
 | tbl ps=>exact⟨_,(show h.get? a=some _ from x)⟩
 | met f y=>exact⟨_,(show h.get? a=some _ from x)⟩
 | ext φ => obtain⟨_,e,_⟩:=x;exact e
theorem Inv.mW {a:Addr} (I:Inv X pins σ H s) (hn:s.heap.get? a=none):H a=none:=by
 cases q:H a with
 | none=>rfl
 | some u =>
  obtain⟨o,ho⟩:=ES (I.aM a u q)
  rw[hn] at ho;cases ho
theorem Inv.tu {h':Heap} {a:Addr} {u:HO} {t':Nat} (I:Inv X pins σ H s) (k:∀ b u,s.heap.get? b=some u->h'.get? b=some u) (hn:s.heap.get? a=none) (new:aK X.prog X.w (upd H a u) h' a u) :
  Inv X pins σ (upd H a u) { s with heap:=h',toks:=t' }:=by
 have hf:=I.mW hn
 have ne:∀ b ob,s.heap.get? b=some ob->b≠a:=fun b ob e z=>by rw[z,hn] at e;cases e
 refine I.un ⟨fun b o q _ _ _=>k b o q,fun b o q _ _ _=>⟨o.slots,k b o q⟩,fun b o q n _=>by rw[aA (ne b o q)];exact n,fun b o q _=>⟨o,k b o q⟩,fun b xs q=>by rw[aA (bK q hf)];exact q,fun b o xs q=>by rw[aA (bK q hf)];exact q,fun b ps q=>⟨#[],by rw[aA (bK q hf),q];simp⟩⟩ fun b o q => ?_
 by_cases hb:b=a
 ·subst hb;rw[a9] at q;cases q;exact new
 ·rw[aA hb] at q
  exact (I.aM b o q).cN (fun c v _ z=>k c v z) (fun c z=>by rw[aA (bK z hf)];exact z) fun c xs z=>by rw[aA (bK z hf)];exact z
theorem Inv.iR {h':Heap} {a:Addr} {us:List Value} (I:Inv X pins σ H s) (m:Heap.MadeExcOf s.heap h' a (.ref C) us):H a=none/\Inv X pins σ (upd H a (bN a C none)) { s with heap:=h' }:=by
 obtain⟨t,ht,_,_⟩:=m.there
 exact⟨I.mW m.new,I.tu (t':=s.toks) m.keeps m.new (EO ht)⟩
noncomputable def yX (C:Addr) (t:TA):TE:=fun σ H Q=>t σ H fun vs H1=>vs.length <= sizeLine/\∀ a,H1 a=none->Q (.ref a) (upd H1 a (bN a C none))
theorem Oc (M:mV X.K C none) (hg:Gl X x) (hm:X.mg x=some (.ref C)) (ha:PA X (e :: es) t) (bT:(x == ("__debug__" : Str))=false:=by decide)
  (he:starEach (e :: es) X.env=(false,eval e X.env) :: starEach es X.env:=by rfl) (bU:(backTo pos (starEach es X.env)).any (·.1)=false:=by rfl) :
  PE X (.Call (.Name x p) (e :: es) [] pos) (yX C t):=by
 intro pins s σ H Q I h
 refine Zm (rY I hg hm ?_ bT)
 refine q0X (h₀ := X.base) I.ok.mod.kK M.kp (a5 (ha pos pins s σ H _ I h) fun us s1 ⟨vs,H1,I1,r,hz,q⟩=>⟨I1.cW,?_⟩) he bU
 obtain⟨nm,q',N,bs,bm,dU,sn,sub,ab,col,dd,k0,k1,k2,k3,k5,l,T,n⟩:=M.yW
 obtain⟨mN,hN,hi⟩:=n.ns I1.cW
 obtain⟨hp,g,d,tk,os⟩:=s1
 refine wpAny_call_exc_subT q02 (T.tail I1.cW) (I1.cW _ _ l) hN hi (fun h' a hm => ?_) (by rw[q0M,<-r.length];exact hz)
 obtain⟨hf,I2⟩:=I1.iR hm
 exact⟨.ref a,_,I2,rfl,q a hf⟩
noncomputable def Od (C:Addr) (sp:Sp) (E:XK) (t:TA):TE:=fun σ H Q=>t σ H fun vs H1=>vs.length <= sizeLine/\∀ a,H1 a=none->sp (.ref a :: vs) (upd H1 a (bN a C none)) (fun v H2=>v = .non/\Q (.ref a) H2) E
theorem Oe (M:mV X.K C (some (.ref f))) (i7:PySem.W.isFn X.K (.ref f)=true) (F:bE X.prog X.w X.K X.mg X.base CX k f fd ps sp) (hr:aS (k + 1) X.A) (hb:Binds X.K fd ps []) (hx:lC CX X E) (hg:Gl X x) (hm:X.mg x=some (.ref C)) (ha:PA X (e :: es) t) (bT:(x == ("__debug__" : Str))=false:=by decide)
  (he:starEach (e :: es) X.env=(false,eval e X.env) :: starEach es X.env:=by rfl) (bU:(backTo pos (starEach es X.env)).any (·.1)=false:=by rfl) :
  PE X (.Call (.Name x p) (e :: es) [] pos) (Od C sp E t):=by
 intro pins s σ H Q I h
 refine Zm (rY I hg hm ?_ bT)
 refine q0X (h₀ := X.base) I.ok.mod.kK M.kp (a5 (ha pos pins s σ H _ I h) fun us s1 ⟨vs,H1,I1,r,hz,q⟩=>⟨I1.cW,?_⟩) he bU
 obtain⟨nm,q',N,bs,bm,dU,sn,sub,ab,col,dd,k0,k1,k2,k3,k5,l,T,n⟩:=M.yW
 obtain⟨mN,hN,hi⟩:=n.ns I1.cW
 obtain⟨oI,lI,hc⟩:=Xo.mp (beq_iff_eq.mp i7)
 obtain⟨hp,g,d,tk,os⟩:=s1
 refine Oa q02 (T.tail I1.cW) (I1.cW _ _ l) hN hi (I1.cW _ _ lI) hc (fun h' a hm => ?_) (by rw[q0M,<-r.length];exact hz)
 obtain⟨hf,I2⟩:=I1.iR hm
 have hq:=q a hf
 have r2:Vals (V.ref a :: vs) (Value.ref a :: us) := .cons rfl r
 have hl:(Value.ref a :: us ++ []).length=ps.length:=by
  rw[ZR]
  have e:=r2.length
  rw[F.len _ _ _ _ hq] at e
  exact e.symm
 have bd:=hb _ (Value.ref a :: us) I2.cW hl
 rw[ZR] at bd
 refine q0y (q0o (F.run _ X.stack _ _ ⟨Value.ref a :: us,[]⟩ (Value.ref a :: us) _ _ E (hr.make C us []) (I2.ou.make C us []) bd r2 hq) fun r s' mX => ?_)
 cases r with
 | error e=>exact hx pins σ _ _ e s' I2 mX
 | ok fl =>
  cases fl with
  | ret u =>
   obtain⟨v,H',I3,rv,ev,q3⟩:=I2.after mX
   subst ev
   exact⟨rv,⟨V.ref a,H',I3,rfl,q3⟩⟩
  | next=>exact False.elim mX
  | brk=>exact False.elim mX
  | cont=>exact False.elim mX
noncomputable def EU (K:PySem.W.Frag) (ta tv:TE) (f:Str):TS:=fun D σ H=>tv σ H fun y H1=>ta σ H1 fun x H2=>∃ a C,x = .ref a/\H2 a=some (bN a C none)/\bo K C/\sx K C f ∧
 ∀ d,H2 d=none->D.nx σ (upd (upd H2 d (.xd [(f,y)])) a (bN a C (some d)))
theorem Of {fn:Str} (ha:PE X o ta) (hv:PE X value tv) (hs:swapsWith value (some (.Attribute o fn pos')) pos.line X.env=pure false):PS X (.Assign [.Attribute o fn pos'] value pos) (EU X.K ta tv fn):=by
 intro pins s σ H D I h
 refine plainObj_wpAny_Assign_Attribute (a5 (hv pins s σ H _ I h) fun u s1 h0_ => el5 h0_ fun y H1 I1 ry q =>a5 (ha pins s1 σ H1 _ I1 q) fun ov s2 ⟨x,H2,I2,rx,a,C,ex,ea,c,n,q2⟩ => ?_) hs
 subst ex
 obtain rfl:ov=Value.ref a:=rx
 obtain⟨t,ht⟩:=ER (I2.aM a _ ea)
 have oU:H2 s2.heap.objs.size=none:=I2.fresh
 have Xw:a≠s2.heap.objs.size:=bK ea oU
 refine NU I2.cW ht c n fun h' kU iQ hZ hk => ?_
 have new:∀ H':Hp,aK X.prog X.w H' h' s2.heap.objs.size (.xd [(fn,y)]):=fun H'=>⟨_,hZ,fun g=>by
  by_cases e:g=fn
  ·subst e
   rw[Xp rfl]
   simp only[Yf,q1m]
   exact ry
  ·rw[Xm e]
   have:(g == fn)=false:=by simpa using e
   simp only[Yf,this,List.lookup_nil]
   trivial⟩
 have nm:¬ qr (some (HO.tup [])):=fun z=>z
 have yY:qr (H2 a):=by rw[ea];exact trivial
 have k2:∀ b ob,b≠a->s2.heap.get? b=some ob->h'.get? b=some ob:=hk
 refine⟨σ,_,I2.un (h':=h') (t':=kU) ⟨fun b ob q n' _ _=>k2 b ob (fun z=>by rw[z,ea] at n';cases n') q,fun b ob q n' _ _=>⟨ob.slots,k2 b ob (fun z=>by rw[z,ea] at n';cases n') q⟩,fun b ob q n' _ => ?_,fun b ob q _ => ?_,fun b xs q => ?_,fun b ob xs q => ?_,fun b Xx q=>⟨#[],?_⟩⟩ fun b ob q => ?_,q2 _ oU⟩
 ·have h1:b≠a:=fun z=>by rw[z,ea] at n';cases n'
  have h2:b≠s2.heap.objs.size:=X_ (Ng q)
  rw[aA h1,aA h2];exact n'
 ·by_cases z:b=a
  ·subst z;exact⟨_,iQ⟩
  ·exact⟨ob,k2 b ob z q⟩
 ·rw[aA (nX q ea (by unfold bN;intro z;cases z)),aA (bK q oU)];exact q
 ·rw[aA (nX q ea (by unfold bN;intro z;cases z)),aA (bK q oU)];exact q
 ·rw[aA (nX q ea (by unfold bN;intro z;cases z)),aA (bK q oU),q];simp
 ·by_cases hb:b=a
  ·subst hb;rw[a9] at q;cases q;exact EO iQ
  ·rw[aA hb] at q
   by_cases EV:b=s2.heap.objs.size
   ·subst EV;rw[a9] at q;cases q;exact new _
   ·rw[aA EV] at q
    have own:∀ c,H2 c=some (.own b)->c≠a:=fun c z e=>by rw[e,ea] at z;unfold bN at z;cases z
    refine (I2.aM b ob q).cN (fun c v hc z=>k2 c v ?_ z) (fun c z=>by rw[aA (own c z),aA (bK z oU)];exact z) fun c xs z=>by rw[aA (nX z ea (by unfold bN;intro y;cases y)),aA (bK z oU)];exact z
    rcases hc with e | e
    ·rw[e];exact hb
    ·exact own c e
end
section
variable {X:Cx}
noncomputable def lK:V->Option Value
 | .ty n=>some (.type n)
 | .ref a=>some (.ref a)
 | _=>none
theorem EW {y:V} {u c:Value} (r:RelV y u) (e:lK y=some c):u=c:=by
 cases y with
 | ty n=>cases e;exact r
 | ref a=>cases e;exact r
 | _=>cases e
theorem Og:fJ X (.builtin "isinstance") (fun xs H Q=>∃ x y c t b,xs=[x,y]/\lK y=some c/\du X.K H x t/\PySem.W.kitOne X.K t c=some b/\Q (.bl b) H):=by
 intro pins s σ H xs us Q I rv h
 obtain⟨x,y,c,t,b,rfl,hc,ty,e,q⟩:=h
 obtain⟨u,w',rfl,rx,ry⟩:=rv.two
 rw[EW ry hc]
 exact Mv I rx ty e fun tk=>⟨.bl b,H,I.tok tk,rfl,q⟩
theorem EX {x:V}:∀ {xs:List V} {us:List Value},Vals xs us->xs.all jy=true->us.countP (mS x)=xs.countP fun y=>fK y x
 | _,_,.nil,_=>rfl
 | y :: xs,u :: us,.cons r t,f=>by
  rw[q1e,Yg] at f
  rw[Zi,Zi,EX t f.2,yw r f.1]
theorem IsList.parts {h:Heap} {l:Addr} {items:Array Value} (x:h.IsList l items):∃ dd n sl,h.get? l=some { cls := .type "list",dict:=dd,data := .seq items n,slots:=sl }:=by
 obtain⟨⟨cls,dd,data,sl⟩,ho,hc,n,hd⟩:=x
 simp only at hc hd
 subst hc hd
 exact⟨dd,n,sl,ho⟩
noncomputable def Oh (K:PySem.W.Frag):V->List V->Hp->VK->Prop:=fun x vs H Q=>∃ l xs y,x = .ref l/\vs=[y]/\bc K H l xs/\jy y=true/\xs.all jy=true/\Q (.int (xs.countP fun z=>fK z y:Nat)) H
theorem Oi:sI X "list.count" (Oh X.K):=by
 intro pins s σ H x vs v us Q I rx rv h
 obtain⟨l,xs,y,rfl,rfl,hq,fy,fs,q⟩:=h
 cases rx
 obtain⟨u,rfl,ru⟩:=rv.one
 obtain⟨ai,r,pl,hz⟩:=I.list hq
 obtain⟨dd,n,sl,e⟩:=IsList.parts pl.isList
 refine q0B F.slot_list_count ⟨_,e,rfl⟩ F.entry_list_count (F.args_list_count_2 _ _) (SeqAt.list_countAt l ai.toArray n dd sl u (mS y)) ⟨e,fun w hw=>yx ru fy r fs w (by simpa using hw),?_⟩
 refine⟨.int _,H,I.tok _,⟨_,rfl⟩,?_⟩
 have e2:ai.toArray.toList.countP (mS y)=xs.countP fun z=>fK z y:=by rw[List.toList_toArray];exact EX r fs
 rw[e2]
 exact q
noncomputable def Oj (K:PySem.W.Frag):V->List V->Hp->VK->Prop:=fun x vs H Q=>∃ l xs y j,x = .ref l/\vs=[y]/\bc K H l xs/\jy y=true/\xs.all jy=true/\j < xs.length/\(∀ z,xs[j]? = some z->fK z y=true)/\(∀ m z,m < j->xs[m]? = some z->fK z y=false)/\Q (.int (j:Nat)) H
theorem Ol {x:V} {xs:List V} {us:List Value} (r:Vals xs us) (f:xs.all jy=true) {j:Nat} {u:Value} (hu:us[j]? = some u):∃ z,xs[j]? = some z/\mS x u=fK z x:=by
 have hl:=r.length
 have hj:j < us.length:=(oP.mp hu).1
 have hz:xs[j]? = some (xs[j]'(by omega)):=oO _
 obtain⟨u',e,ru⟩:=r.get hz
 rw[hu] at e;cases e
 exact⟨_,hz,yw ru ((Yr.mp f) _ (Y6 _))⟩
theorem Om:sI X "list.index" (Oj X.K):=by
 intro pins s σ H x vs v us Q I rx rv h
 obtain⟨l,xs,y,j,rfl,rfl,hq,fy,fs,hj,h1,h2,q⟩:=h
 cases rx
 obtain⟨u,rfl,ru⟩:=rv.one
 obtain⟨ai,r,pl,hz⟩:=I.list hq
 obtain⟨dd,n,sl,e⟩:=IsList.parts pl.isList
 have hl:=r.length
 have line:=oq
 have at_:∀ (m:Nat) (hm:m < ai.toArray.size),∃ z,xs[m]? = some z/\mS y ai.toArray[m]=fK z y:=fun m hm=>Ol r fs (by simp[oO (show m < ai.length by simpa using hm)])
 refine q0B F.slot_list_index ⟨_,e,rfl⟩ F.entry_list_index (F.args_list_index_2 _ _) (SeqAt.list_indexAt l ai.toArray n dd sl u (mS y) j (by simp;omega) (by omega) ?_ ?_) ⟨e,fun w hw=>yx ru fy r fs w (by simpa using hw),?_⟩
 ·obtain⟨z,e1,e2⟩:=at_ j (by simp;omega)
  rw[e2];exact h1 z e1
 ·intro m hm Oo
  obtain⟨z,e1,e2⟩:=at_ m hm
  rw[e2];exact h2 m z Oo e1
 ·exact⟨.int _,H,I.tok _,⟨_,rfl⟩,q⟩
end
theorem Oq {K:PySem.W.Frag} {a:Addr} {xs:List V} {g:TG} {tb:TS} {D:Ends} {σ : St} {H:Hp} (Pv:Nat->St->Hp->Prop) (h0:Pv 0 σ H) (hl:∀ i σ H,i <= xs.length->Pv i σ H->bc K H a xs)
  (hs:∀ i x T σ H,xs[i]? = some x->Pv i σ H->H T=none->g (.ref T) σ (upd H T (.tup [.int (i:Nat),x])) fun σ2 H2=>tb { D with nx:=Pv (i + 1),ct:=Pv (i + 1),bk:=D.nx } σ2 H2) (hd:∀ σ H,Pv xs.length σ H->D.nx σ H) :
  ∃ W:Nat->Nat->St->Hp->Prop,(∃ m,W 0 m σ H)/\∀ i m σ H,W i m σ H →
   ((qB K a).stop i H/\D.nx σ H)\/((qB K a).go i H/\∃ N:St->Hp->Prop,(∀ σ' H',N σ' H'->∃ m',m' < m/\W (i + 1) m' σ' H')/\∀ x H',(qB K a).qu i H x H'->g x σ H' fun σ2 H2=>tb { D with nx:=N,ct:=N,bk:=D.nx } σ2 H2):=by
 refine⟨fun i m σ H=>m=xs.length - i/\i <= xs.length/\Pv i σ H,⟨xs.length,by simp,YW _,h0⟩,?_⟩
 rintro i m σ H ⟨rfl,hi,p⟩
 have q:=hl i σ H hi p
 by_cases cA:i < xs.length
 ·refine .inr ⟨⟨xs,xs[i],q,by simp[cA]⟩,Pv (i + 1),fun σ' H' p'=>⟨xs.length - (i + 1),by omega,rfl,cA,p'⟩,fun x H' y => ?_⟩
  obtain⟨T,v,rfl,hT,rfl,y⟩:=y
  exact hs i v T σ H (y xs q) p hT
 ·have e:i=xs.length:=by omega
  subst e
  exact .inl ⟨⟨xs,q,sG _⟩,hd σ H p⟩
section
variable {g:TG} {tf:TT} {te:TE} {l:Addr} {τ0:St} {H0:Hp} {Q:VK}
end
section
variable {X:Cx} {es:List Expr} {te:TE} {t:TA}
theorem tE {c j p} (ha:PE X (.Constant c j p) te) (hr:PA X es t):PA X (.Constant c j p :: es) (eR te t):=mR ha hr rfl
theorem yZ {x p} (ha:PE X (.Name x p) te) (hr:PA X es t):PA X (.Name x p :: es) (eR te t):=mR ha hr rfl
theorem y0 {f a k p} (ha:PE X (.Call f a k p) te) (hr:PA X es t):PA X (.Call f a k p :: es) (eR te t):=mR ha hr rfl
theorem y3 {a p} (ha:PE X (.List a p) te) (hr:PA X es t):PA X (.List a p :: es) (eR te t):=mR ha hr rfl
theorem y4 {a k p} (ha:PE X (.Tuple a k p) te) (hr:PA X es t):PA X (.Tuple a k p :: es) (eR te t):=mR ha hr rfl
theorem y6 {a k p} (ha:PE X (.Subscript a k p) te) (hr:PA X es t):PA X (.Subscript a k p :: es) (eR te t):=mR ha hr rfl
theorem y7 {a k p} (ha:PE X (.Attribute a k p) te) (hr:PA X es t):PA X (.Attribute a k p :: es) (eR te t):=mR ha hr rfl
end
inductive D where
 | non | bl (b:Bool) | int (i:Int) | str (x:Str) | tup (xs:List D) | lst (xs:List D)
mutual
noncomputable def Is (H:Hp):D->V->Prop
 | .non,v=>v = .non
 | .bl b,v=>v = .bl b
 | .int i,v=>v = .int i
 | .str x,v=>v = .str x
 | .tup ds,v=>∃ a vs,v = .ref a/\H a=some (.tup vs)/\ae H ds vs
 | .lst ds,v=>∃ a vs,v = .ref a/\H a=some (.lst vs)/\ae H ds vs
noncomputable def ae (H:Hp):List D->List V->Prop
 | [],vs=>vs=[]
 | d :: ds,vs=>∃ v r,vs=v :: r/\Is H d v/\ae H ds r
end
mutual
theorem Is.same {H H':Hp} (s:av H H'):∀ {d:D} {v:V},Is H d v->Is H' d v
 | .non,_,h=>h
 | .bl _,_,h=>h
 | .int _,_,h=>h
 | .str _,_,h=>h
 | .tup _,_,h=>by
  simp only[Is] at h ⊢
  obtain⟨a,vs,e,h1,h2⟩:=h
  exact⟨a,vs,e,s _ _ h1,ae.same s h2⟩
 | .lst _,_,h=>by
  simp only[Is] at h ⊢
  obtain⟨a,vs,e,h1,h2⟩:=h
  exact⟨a,vs,e,s _ _ h1,ae.same s h2⟩
theorem ae.same {H H':Hp} (s:av H H'):∀ {d:List D} {v:List V},ae H d v->ae H' d v
 | [],_,h=>h
 | _ :: _,_,h=>by
  simp only[ae] at h ⊢
  obtain⟨v,r,e,h1,h2⟩:=h
  exact⟨v,r,e,Is.same s h1,ae.same s h2⟩
end
theorem ae.length {H:Hp}:∀ {ds:List D} {vs:List V},ae H ds vs->vs.length=ds.length
 | [],_,h=>by simp only[ae] at h;rw[h];rfl
 | _ :: _,_,h=>by
  simp only[ae] at h
  obtain⟨v,r,rfl,_,h2⟩:=h
  rw[Ex,Ex,ae.length h2]
theorem ae.get {H:Hp}:∀ {ds:List D} {vs:List V} {i:Nat} {v:V},ae H ds vs->vs[i]? = some v->∃ d,ds[i]? = some d/\Is H d v
 | [],_,i,v,h,e=>by simp only[ae] at h;rw[h] at e;simp at e
 | d :: ds,_,i,v,h,e=>by
  simp only[ae] at h
  obtain⟨v',r,rfl,h1,h2⟩:=h
  cases i with
  | zero=>simp at e;subst e;exact⟨d,rfl,h1⟩
  | succ i=>simp at e;simpa using ae.get h2 e
theorem ae.nil {H:Hp}:ae H [] []:=by simp only[ae]
theorem ae.cons {H:Hp} {d:D} {ds:List D} {v:V} {vs:List V} (h:Is H d v) (r:ae H ds vs):ae H (d :: ds) (v :: vs):=by
 simp only[ae]
 exact⟨v,vs,rfl,h,r⟩
theorem ae.snoc {H:Hp} {d:D} {v:V}:∀ {ds:List D} {vs:List V},ae H ds vs->Is H d v->ae H (ds ++ [d]) (vs ++ [v])
 | [],_,h,q=>by simp only[ae] at h;subst h;exact .cons q .nil
 | _ :: _,_,h,q=>by
  simp only[ae] at h
  obtain⟨v',r,rfl,h1,h2⟩:=h
  exact .cons h1 (ae.snoc h2 q)
mutual
noncomputable def dep:D->Nat
 | .tup ds=>bO ds + 1
 | .lst ds=>bO ds + 1
 | _=>0
noncomputable def bO:List D->Nat
 | []=>0
 | d :: ds=>max (dep d) (bO ds)
end
mutual
noncomputable def Ot:D->Bool
 | .tup _=>false
 | .lst ds=>decide (ds.length <= 1000) && EY ds
 | _=>true
noncomputable def EY:List D->Bool
 | []=>true
 | d :: ds=>Ot d && EY ds
end
theorem y8:∀ {ds:List D} {i:Nat} {d:D},ds[i]? = some d->dep d <= bO ds
 | [],i,d,e=>by simp at e
 | d' :: ds,0,d,e=>by simp at e;subst e;simp only[bO];exact Nat.le_max_left _ _
 | d' :: ds,i + 1,d,e=>by simp at e;simp only[bO];exact YF (y8 e) (Nat.le_max_right _ _)
noncomputable def fL:D->String
 | .non => "NoneType" | .bl _ => "bool" | .int _ => "int" | .str _ => "str" | .tup _ => "tuple" | .lst _ => "list"
theorem Is.ty {K:PySem.W.Frag} {H:Hp}:∀ {d:D} {v:V},Is H d v->du K H v (.type (fL d))
 | .non,_,h=>by cases (show _=_ from h);exact .non
 | .bl b,_,h=>by cases (show _=_ from h);exact .bl b
 | .int i,_,h=>by cases (show _=_ from h);exact .int i
 | .str x,_,h=>by cases (show _=_ from h);exact .str x
 | .tup _,_,h=>by
  simp only[Is] at h
  obtain⟨a,vs,rfl,h1,_⟩:=h
  exact .tup h1
 | .lst _,_,h=>by
  simp only[Is] at h
  obtain⟨a,vs,rfl,h1,_⟩:=h
  exact .lst h1
noncomputable def dz (T c:String):Bool:=T == c || (T == "bool" && c == "int")
section
variable {K:PySem.W.Frag}
theorem Ou:∀ T∈["NoneType", "bool", "int", "str", "tuple", "list"],PySem.W.kitOne K (.type T) (.type "bool")=some (dz T "bool"):=by
 intro T hT
 simp only[X7,Yu,q03] at hT
 rcases hT with rfl | rfl | rfl | rfl | rfl | rfl<;>kernel_rfl
theorem Ov:∀ T∈["NoneType", "bool", "int", "str", "tuple", "list"],PySem.W.kitOne K (.type T) (.type "int")=some (dz T "int"):=by
 intro T hT
 simp only[X7,Yu,q03] at hT
 rcases hT with rfl | rfl | rfl | rfl | rfl | rfl<;>kernel_rfl
theorem kit_tuple:∀ T∈["NoneType", "bool", "int", "str", "tuple", "list"],PySem.W.kitOne K (.type T) (.type "tuple")=some (dz T "tuple"):=by
 intro T hT
 simp only[X7,Yu,q03] at hT
 rcases hT with rfl | rfl | rfl | rfl | rfl | rfl<;>kernel_rfl
theorem Ox:∀ T∈["NoneType", "bool", "int", "str", "tuple", "list"],PySem.W.kitOne K (.type T) (.type "list")=some (dz T "list"):=by
 intro T hT
 simp only[X7,Yu,q03] at hT
 rcases hT with rfl | rfl | rfl | rfl | rfl | rfl<;>kernel_rfl
theorem vP (d:D):fL d∈["NoneType", "bool", "int", "str", "tuple", "list"]:=by cases d<;>simp[fL]
end
section
variable {X:Cx}
noncomputable def strsOf:List Expr->Option (List Str)
 | []=>some []
 | .Constant (.str x) _ _ :: r=>(strsOf r).map (x :: ·)
 | _=>none
theorem EZ:∀ {es:List Expr} {ss:List Str},strsOf es=some ss->PA X es (fun _ H Q=>Q (ss.map V.str) H)
 | [],ss,h=>by
  cases h
  exact fun pos pins s σ H Q I h=>DZ pos pins s σ H Q I h
 | .Constant (.str x) j p :: r,ss,h=>by
  obtain⟨s2,h2,rfl⟩:=Xo.mp (show (strsOf r).map (x :: ·)=some ss from h)
  have ih:=EZ h2
  exact fun pos pins s σ H Q I h=>tE (DC (j:=j) (pos:=p)) ih pos pins s σ H Q I h
 | .Constant (.int _) _ _ :: _,_,h=>by cases h
 | .Constant (.bool _) _ _ :: _,_,h=>by cases h
 | .Constant .none _ _ :: _,_,h=>by cases h
 | .Name _ _ :: _,_,h=>by cases h
theorem Oy {es:List Expr} {ss:List Str} {pos:Pos} (h:strsOf es=some ss) (hz:ss.length <= sizeLine):PE X (.List es pos) (fun _ H Q=>∀ p,H p=none->Q (.ref p) (upd H p (.lst (ss.map V.str)))):=by
 intro pins s σ H Q I hq
 exact D0 (EZ h) pins s σ H Q I ⟨by rw[qy];exact hz,hq⟩
theorem PE.weak {e:Expr} {t t':TE} (h:PE X e t) (k:∀ σ H Q,t' σ H Q->t σ H Q):PE X e t':=fun pins s σ H Q I q=>h pins s σ H Q I (k σ H Q q)
theorem PT.weak {e:Expr} {t t':TT} (h:PT X e t) (k:∀ σ H Q,t' σ H Q->t σ H Q):PT X e t':=fun pins s σ H Q I q=>h pins s σ H Q I (k σ H Q q)
theorem PA.weak {es:List Expr} {t t':TA} (h:PA X es t) (k:∀ σ H Q,t' σ H Q->t σ H Q):PA X es t':=fun pos pins s σ H Q I q=>h pos pins s σ H Q I (k σ H Q q)
theorem PS.weak {st:Stmt} {t t':TS} (h:PS X st t) (k:∀ D σ H,t' D σ H->t D σ H):PS X st t':=fun pins s σ H D I q=>h pins s σ H D I (k D σ H q)
theorem eF.weak {st:List Stmt} {t t':TS} (h:eF X st t) (k:∀ D σ H,t' D σ H->t D σ H):eF X st t':=fun pins s σ H D I q=>h pins s σ H D I (k D σ H q)
theorem Oz {i:Nat} {x:Str} {es:List Expr} {te:TE} {pos' p pos:Pos} (hN:X.N.Nodup) (hi:X.N[i]? = some x) (hx:Loc X.env.scope x) (he:PE X (.List es p) te) (hf:X.fn x=true\/X.env.scope.names.lookup x=some .local):PS X (.Assign [.Name x pos'] (.List es p) pos) (bS te (fG i)):=vC hN hi hx he rfl hf
theorem OA {i:Nat} {x:Str} {a b:Expr} {op:Operator} {te:TE} {pos' p pos:Pos} (hN:X.N.Nodup) (hi:X.N[i]? = some x) (hx:Loc X.env.scope x) (he:PE X (.BinOp a op b p) te) (hf:X.fn x=true\/X.env.scope.names.lookup x=some .local):PS X (.Assign [.Name x pos'] (.BinOp a op b p) pos) (bS te (fG i)):=vC hN hi hx he rfl hf
theorem OB {i:Nat} {x:Str} {f:Expr} {as:List Expr} {ks:List Keyword} {te:TE} {pos' p pos:Pos} (hN:X.N.Nodup) (hi:X.N[i]? = some x) (hx:Loc X.env.scope x) (he:PE X (.Call f as ks p) te) (hf:X.fn x=true\/X.env.scope.names.lookup x=some .local):PS X (.Assign [.Name x pos'] (.Call f as ks p) pos) (bS te (fG i)):=vC hN hi hx he rfl hf
theorem OC {c A B:Prop} [Decidable c] (hc:¬ c) (h:A):if (!decide c)=true then A else B:=by
 rw[Yc hc];exact h
theorem OD {L:List Stmt} {k:Nat} {d:Stmt} {t u:TS} (hk:k < L.length) (h:PS X (L.getD k d) t) (r:eF X (L.drop (k + 1)) u):eF X (L.drop k) (lr t u):=by
 have e:L.drop k=L.getD k d :: L.drop (k + 1):=by
  rw[YI hk,Et,oO hk];rfl
 rw[e];exact DH h r
theorem OE {L:List Stmt} {k:Nat} {d:Stmt} {t:TS} (hk:L.length=k + 1) (h:PS X (L.getD k d) t):eF X (L.drop k) t:=by
 have gr:k < L.length:=by omega
 have e:L.drop k=[L.getD k d]:=by
  rw[YI gr,Et,oO gr,q0s (by omega)];rfl
 rw[e];exact DI h
theorem OF {L:List Stmt} {t:TS} (h:eF X (L.drop 0) t):eF X L t:=h
theorem gK {n:Nat} (h:n <= 20):n <= sizeLine:=Zb (qz (YF h (by decide)))
end
section
variable {κ : Type} [DecidableEq κ]
end
section
variable {P:Program} {w:World} {H:Hp} {h:Heap} {a:Addr}
end
section
variable {X:Cx} {pins:List (Addr × Obj)} {σ : St} {H:Hp} {s:Shared} {a:Addr} {y v:V} {u r:Value} {o:Option V} {A:Around} {E:Value->Shared->Prop}
end
section
variable {X:Cx} {pins:List (Addr × Obj)} {σ : St} {H:Hp} {s:Shared} {a:Addr} {ax:List (Key × V)} {k:Key} {u:Value} {A:Around} {E:Value->Shared->Prop}
end
section
variable {X:Cx} {o i e value:Expr} {pos pos' yd:Pos} {td ty tv:TE}
end
section
variable {X:Cx} {pos:Pos}
end
section
variable {X:Cx} {pins:List (Addr × Obj)} {σ : St} {H:Hp} {s:Shared} {a:Addr} {y d:V} {u r:Value} {o:Option V} {A:Around} {E:Value->Shared->Prop}
end
section
variable {X:Cx} {o e f:Expr} {apos dw:Pos} {td ty tx:TE}
end
section
variable {X:Cx} {pins:List (Addr × Obj)} {σ : St} {H:Hp} {s:Shared} {a:Addr} {ax:List (Key × V)} {A:Around} {E:Value->Shared->Prop}
end
section
variable {X:Cx} {pins:List (Addr × Obj)} {σ : St} {H:Hp} {s:Shared} {a:Addr} {y:V} {u:Value} {A:Around} {E:Value->Shared->Prop}
end
end L2
namespace L2
section
variable {κ : Type} [DecidableEq κ]
end
end L2
namespace L2
open PySem PySem.Spec PyProof.Rows
structure JE (X:Cx) (e:Expr) (t:TE):Prop where
 out:PE X e t
structure JT (X:Cx) (e:Expr) (t:TT):Prop where
 out:PT X e t
structure JW (X:Cx) (e:Expr) (t:TT):Prop where
 out:PW X e t
structure JA (X:Cx) (es:List Expr) (t:TA):Prop where
 out:PA X es t
structure JS (X:Cx) (st:Stmt) (t:TS):Prop where
 out:PS X st t
structure bZ (X:Cx) (st:List Stmt) (t:TS):Prop where
 out:eF X st t
structure JF (X:Cx) (ifs:List Expr) (t:TT):Prop where
 out:PF X ifs t
structure JG (X:Cx) (tg:Expr) (t:TG):Prop where
 out:PG X tg t
structure jA (X:Cx) (ts:List Expr) (t:iM):Prop where
 out:sd X ts t
structure JI (X:Cx) (tg iter:Expr) (wi:TI):Prop where
 out:PI X tg iter wi
structure JC (X:Cx) (op:CmpOp) (a b:Expr) (t:TE):Prop where
 out:PC X op a b t
theorem JE.weak {X:Cx} {e:Expr} {t t':TE} (h:JE X e t) (k:∀ σ H Q,t' σ H Q->t σ H Q):JE X e t':=⟨PE.weak h.out k⟩
theorem JT.weak {X:Cx} {e:Expr} {t t':TT} (h:JT X e t) (k:∀ σ H Q,t' σ H Q->t σ H Q):JT X e t':=⟨PT.weak h.out k⟩
theorem JA.weak {X:Cx} {es:List Expr} {t t':TA} (h:JA X es t) (k:∀ σ H Q,t' σ H Q->t σ H Q):JA X es t':=⟨PA.weak h.out k⟩
theorem JS.weak {X:Cx} {st:Stmt} {t t':TS} (h:JS X st t) (k:∀ D σ H,t' D σ H->t D σ H):JS X st t':=⟨PS.weak h.out k⟩
theorem bZ.weak {X:Cx} {st:List Stmt} {t t':TS} (h:bZ X st t) (k:∀ D σ H,t' D σ H->t D σ H):bZ X st t':=⟨eF.weak h.out k⟩
theorem JW.jt {X:Cx} {e:Expr} {t:TT} (h:JW X e t):JT X e t:=⟨PW.pt h.out⟩
theorem OG {X:Cx} {i:Nat} {x:Str} {pos:Pos} (hN:X.N[i]? = some x) (hv:mK X.env.scope x) (hd:(x == ("__debug__" : Str))=false:=by decide) (di:(x == ("__classdict__" : Str))=false:=by decide):JE X (.Name x pos) (d9 i):=⟨L2.DB hN hv hd di⟩
theorem bX {X:Cx} {i j pos}:JE X (.Constant (.int i) j pos) (tC (.int i)):=⟨L2.Lj⟩
theorem y9 {X:Cx} {b j pos}:JE X (.Constant (.bool b) j pos) (tC (.bl b)):=⟨L2.Lk⟩
theorem OH {X:Cx} {j pos}:JE X (.Constant .none j pos) (tC .non):=⟨L2.Ll⟩
theorem vQ {X:Cx} {x j pos}:JE X (.Constant (.str x) j pos) (tC (.str x)):=⟨L2.DC⟩
theorem iu {X:Cx} {x:Str} {v:V} {u:Value} {pos:Pos} (hg:Gl X x) (hm:X.mg x=some u) (r:RelV v u) (hd:(x == ("__debug__" : Str))=false:=by decide):JE X (.Name x pos) (tC v):=⟨L2.Lm hg hm r hd⟩
theorem E5 {X:Cx} {x:Str} {v:V} {u:Value} {pos:Pos} (hg:Gl X x) (hm:X.mg x=none) (hv:bootBuiltins x=some u) (r:RelV v u) (hn:x ≠ "__name__" := by decide) (hd:(x == ("__debug__" : Str))=false:=by decide):JE X (.Name x pos) (tC v):=⟨L2.Ln hg hm hv r hn hd⟩
theorem OI {X:Cx} {a:Expr} {ta:TE} {j pos'} (ha:JE X a ta):JC X .Is a (.Constant .none j pos') (n_ ta):=⟨L2.Lo ha.out⟩
theorem OJ {X:Cx} {a b:Expr} {pos:Pos} {op:CmpOp} {t:TE} (h:JC X op a b t) (h1:behindInMarks op b=false:=by first | exact DD _ (by decide) (by decide) | rfl):JT X (.Compare a [op] [b] pos) (tB t):=⟨L2.Lp h.out h1⟩
theorem y_ {X:Cx} {e:Expr} {t:TE} (h:JE X e t) (he:∀ whole,isTrue e X.env whole=(do let v <- whole;standAt e.pos;holding [v] (truthy v)):=by intro _;rfl):JT X e (tB t):=⟨L2.Lq h.out he⟩
theorem OK {X:Cx} {a:Expr} {pos:Pos} {tA:TT} (ha:JT X a tA):JW X (.BoolOp .And [a] pos) tA:=⟨L2.Lr ha.out⟩
theorem E7 {X:Cx} {a:Expr} {pos:Pos} {tA:TT} (ha:JT X a tA):JW X (.BoolOp .Or [a] pos) tA:=⟨L2.Ls ha.out⟩
theorem OL {X:Cx} {a b:Expr} {pos:Pos} {tA kN:TT} {rest:List Expr} (ha:JT X a tA) (hb:JW X (.BoolOp .And (b :: rest) pos) kN):JW X (.BoolOp .And (a :: b :: rest) pos) (oa tA kN):=⟨L2.Lu ha.out hb.out⟩
theorem za {X:Cx} {a b:Expr} {pos:Pos} {tA kN:TT} {rest:List Expr} (ha:JT X a tA) (hb:JW X (.BoolOp .Or (b :: rest) pos) kN):JW X (.BoolOp .Or (a :: b :: rest) pos) (xX tA kN):=⟨L2.Lw ha.out hb.out⟩
theorem zb {X:Cx} {a:Expr} {pos:Pos} {tA:TT} (ha:JT X a tA):JT X (.UnaryOp .Not a pos) (rZ tA):=⟨L2.Lx ha.out⟩
theorem OM {X:Cx} {a:Expr} {pos:Pos} {op} {t:TE} (h:JE X a t):JE X (.BoolOp op [a] pos) t:=⟨L2.Ly h.out⟩
theorem ON {X:Cx} {a b:Expr} {ta tb:TE} {pos:Pos} {rest:List Expr} (ha:JE X a ta) (hb:JE X (.BoolOp .And (b :: rest) pos) tb):JE X (.BoolOp .And (a :: b :: rest) pos) (DE ta tb):=⟨L2.Lz ha.out hb.out⟩
theorem OO {X:Cx} {a:Expr} {ta:TE} {pos:Pos} (ha:JE X a ta):JE X (.UnaryOp .Not a pos) (DF ta):=⟨L2.LA ha.out⟩
theorem zc {X:Cx} {a b:Expr} {ta tb:TE} {pos:Pos} {tA:TT} {c:Expr} (hc:JT X c tA) (ha:JE X a ta) (hb:JE X b tb):JE X (.IfExp c a b pos) (xY tA ta tb):=⟨L2.LB hc.out ha.out hb.out⟩
theorem iS {X:Cx}  : bZ X [] DG:=⟨L2.LC⟩
theorem tF {X:Cx} {st:Stmt} {rest:List Stmt} {t u:TS} (h1:JS X st t) (h2:bZ X rest u):bZ X (st :: rest) (lr t u):=⟨L2.DH h1.out h2.out⟩
theorem oV {X:Cx} {st:Stmt} {t:TS} (h1:JS X st t):bZ X [st] t:=⟨L2.DI h1.out⟩
theorem E8 {X:Cx} {e:Expr} {te:TE} {pos:Pos} (he:JE X e te) (hs:swapsWith e none pos.line X.env=pure false:=by rfl):JS X (.Expr e pos) (DJ te):=⟨L2.LF he.out hs⟩
theorem tG {X:Cx} {e:Expr} {te:TE} {pos:Pos} (he:JE X e te):JS X (.Return (some e) pos) (oe te):=⟨L2.LG he.out⟩
theorem E9 {X:Cx} {t u:TS} {pos:Pos} {c:Expr} {a b:List Stmt} {tc:TT} (hc:JT X c tc) (ha:bZ X a t) (hb:bZ X b u):JS X (.If c a b pos) (r_ tc t u):=⟨L2.LH hc.out ha.out hb.out⟩
theorem zd {X:Cx} {pos:Pos} {i:Nat} {x:Str} (hN:X.N.Nodup) (hi:X.N[i]? = some x) (hx:Loc X.env.scope x) (hf:X.fn x=true\/X.env.scope.names.lookup x=some .local:=by first | exact .inl rfl | exact .inr rfl | assumption):JG X (.Name x pos) (fG i):=⟨L2.LI hN hi hx hf⟩
theorem iT {X:Cx}  : jA X [] sg:=⟨L2.LL⟩
theorem ze {X:Cx} {e:Expr} {es:List Expr} {t:TG} {u:iM} (h1:JG X e t) (h2:jA X es u) (hs:(assignEach (e :: es) X.env).map (·.2)=assign e X.env :: (assignEach es X.env).map (·.2):=by rfl):jA X (e :: es) (DK t u):=⟨L2.LM h1.out h2.out hs⟩
theorem E_ {X:Cx} {pos:Pos} {es:List Expr} {k:Nat} {t:iM} {n:Nat} (hc:X.calm=true) (h:jA X es t) (hn:(assignEach es X.env).length=n:=by rfl) (fH:(assignEach es X.env).findIdx? (·.1)=none:=by rfl):JG X (.Tuple es k pos) (sh X.K n t):=⟨L2.LN hc h.out hn fH⟩
theorem tH {X:Cx} {pos:Pos} {o i:Expr} {to ti:TE} {t:lu} (ho:JE X o to) (hi:JE X i ti) (hs:oh X t) (ha:∀ v,assign (.Subscript o i pos) X.env v=(do
   let ov <- holding [v] (eval o X.env)
   let iv <- holding [v,ov] (eval i X.env)
   standAt pos
   holding [v,ov,iv] (setItem ov iv v)
   release [v,ov,iv] []):=by intro _;rfl):JG X (.Subscript o i pos) (oj to ti t):=⟨L2.LO ho.out hi.out hs ha⟩
theorem qC {X:Cx} {pos:Pos} {tg e:Expr} {te:TE} {g:TG} (he:JE X e te) (hg:JG X tg g) (hs:swapsWithSole [tg] e pos.line X.env=pure false:=by rfl) (hw:swappedStores [tg] e X.env=pure none:=by rfl) (h1:(assignEach [tg] X.env).map (·.2)=[assign tg X.env]:=by rfl):JS X (.Assign [tg] e pos) (bS te g):=⟨L2.LP he.out hg.out hs hw h1⟩
theorem vR {X:Cx} {pos:Pos} {i:Nat} {x:Str} {e:Expr} {te:TE} {pos':Pos} (hN:X.N.Nodup) (hi:X.N[i]? = some x) (hx:Loc X.env.scope x) (he:JE X e te) (hs:swapsWith e (some (.Name x pos')) pos.line X.env=pure false:=by rfl) (hf:X.fn x=true\/X.env.scope.names.lookup x=some .local:=by first | exact .inl rfl | exact .inr rfl | assumption):JS X (.Assign [.Name x pos'] e pos) (bS te (fG i)):=⟨L2.vC hN hi hx he.out hs hf⟩
theorem OQ {X:Cx} {tg:Expr} {a:Expr} {ta:TA} {p pos:Pos} (hg:Gl X "range") (hm:X.mg "range" = none) (ha:JA X [a] ta) (hs:starEach [a] X.env=[(false,eval a X.env)]:=by rfl):JI X tg (.Call (.Name "range" p) [a] [] pos) (DP ta):=⟨L2.LV hg hm ha.out hs⟩
theorem OR {X:Cx} {tg:Expr} {a b:Expr} {ta:TA} {p pos:Pos} (hg:Gl X "range") (hm:X.mg "range" = none) (ha:JA X [a,b] ta) (hs:starEach [a,b] X.env=[(false,eval a X.env),(false,eval b X.env)]:=by rfl) (gB:starEach [b] X.env=[(false,eval b X.env)]:=by rfl):JI X tg (.Call (.Name "range" p) [a,b] [] pos) (DQ ta):=⟨L2.LW hg hm ha.out hs gB⟩
theorem Fb {X:Cx} {tg:Expr} {iter:Expr} {body:List Stmt} {wi:TI} {g:TG} {tb:TS} {pos:Pos} (hp:PassesOwn (model X.prog X.w) X.A X.env X.xe) (hc:X.calm=true) (hi:JI X tg iter wi) (hg:JG X tg g) (hb:bZ X body tb) (hs:∀ x,foldedSetIterable iter X.env x=pure x:=by intro _;rfl):JS X (.For tg iter body [] pos) (sj wi g tb):=⟨L2.LY hp hc hi.out hg.out hb.out hs⟩
theorem oW {X:Cx} {a b:Expr} {ta tb:TE} {pos:Pos} {op:Operator} {r:R2} (ho:cB X (binaryOp op) r) (ha:JE X a ta) (hb:JE X b tb):JE X (.BinOp a op b pos) (ly r ta tb):=⟨L2.LZ ho ha.out hb.out⟩
theorem OS {X:Cx} {a:Expr} {ta:TE} {pos:Pos} {op:UnaryOp} {r:V->Hp->VK->Prop} (ho:vE X (unaryOp op) r) (ha:JE X a ta):JE X (.UnaryOp op a pos) (DR r ta):=⟨L2.L4 ho ha.out⟩
theorem OT {X:Cx} {a b:Expr} {ta tb:TE} {pos:Pos} {op:CmpOp} {r:R2} (ho:cB X (compareOp op) r) (ha:JE X a ta) (hb:JE X b tb) (hm:behindInMarks op b=false):JE X (.Compare a [op] [b] pos) (ly r ta tb):=⟨L2.Mm ho ha.out hb.out hm⟩
theorem zf {X:Cx} {a b:Expr} {ta tb:TE} {pos:Pos} {op:CmpOp} {r:R2} (ho:cB X (compareOp op) r) (ha:JE X a ta) (hb:JE X b tb) (hm:behindInMarks op b=false):JT X (.Compare a [op] [b] pos) (DX (ly r ta tb)):=⟨L2.Mn ho ha.out hb.out hm⟩
theorem OU {X:Cx} {a b c:Expr} {ta tb tc:TE} {pos:Pos} {op jK:CmpOp} {r r':R2} (ho:cB X (compareOp op) r) (i5:cB X (compareOp jK) r') (ha:JE X a ta) (hb:JE X b tb) (hc:JE X c tc) (hm:lastMarks [op,jK] [b,c]=false:=by with_unfolding_all rfl):JE X (.Compare a [op,jK] [b,c] pos) (DY r r' ta tb tc):=⟨L2.Mo ho i5 ha.out hb.out hc.out hm⟩
theorem aY {X:Cx}  : JA X [] ik:=⟨L2.DZ⟩
theorem oX {X:Cx} {e:Expr} {es:List Expr} {te:TE} {t:TA} (ha:JE X e te) (hr:JA X es t) (hs:starEach (e :: es) X.env=(false,eval e X.env) :: starEach es X.env:=by rfl):JA X (e :: es) (eR te t):=⟨L2.mR ha.out hr.out hs⟩
theorem OW {X:Cx} {es:List Expr} {t:TA} {pos:Pos} {x1} (h:JA X es t):JE X (.Tuple es x1 pos) (sy t):=⟨L2.Mz h.out⟩
theorem mY {X:Cx} {es:List Expr} {t:TA} {pos:Pos} (h:JA X es t):JE X (.List es pos) (sA t):=⟨L2.D0 h.out⟩
theorem tI {X:Cx} {CX:iO} {k:Nat} {f:Addr} {fd:FuncData} {ps:List Str} {sp:Sp} {jL:List V} {ds:List Value} {E:XK} {x:Str} {p pos:Pos} {e:Expr} {es:List Expr} {t:TA} (F:bE X.prog X.w X.K X.mg X.base CX k f fd ps sp) (hr:aS k X.A) (hg:Gl X x) (hm:X.mg x=some (.ref f)) (hk:PySem.W.keepIn X.K (.ref f)=true) (hb:Binds X.K fd ps ds) (hd:Vals jL ds) (hx:lC CX X E) (ha:JA X (e :: es) t) (bT:(x == ("__debug__" : Str))=false:=by decide) (he:starEach (e :: es) X.env=(false,eval e X.env) :: starEach es X.env:=by rfl) (bU:(backTo pos (starEach es X.env)).any (·.1)=false:=by rfl):JE X (.Call (.Name x p) (e :: es) [] pos) (oy sp jL E t):=⟨L2.MB F hr hg hm hk hb hd hx ha.out bT he bU⟩
theorem tJ {X:Cx} {x:Str} {p pos:Pos} {e:Expr} {es:List Expr} {t:TA} {id:String} {r:List V->Hp->VK->Prop} (hc:fJ X (.builtin id) r) (hg:Gl X x) (hm:X.mg x=none) (hv:bootBuiltins x=some (.builtin id)) (ha:JA X (e :: es) t) (hn:x ≠ "__name__" := by decide) (bT:(x == ("__debug__" : Str))=false:=by decide) (he:starEach (e :: es) X.env=(false,eval e X.env) :: starEach es X.env:=by rfl) (bU:(backTo pos (starEach es X.env)).any (·.1)=false:=by rfl):JE X (.Call (.Name x p) (e :: es) [] pos) (oA r t):=⟨L2.MD hc hg hm hv ha.out hn bT he bU⟩
theorem qD {X:Cx} {x:Str} {p pos:Pos} {e:Expr} {es:List Expr} {t:TA} {T:String} {r:List V->Hp->VK->Prop} (hc:fJ X (.type T) r) (hg:Gl X x) (hm:X.mg x=none) (hv:bootBuiltins x=some (.type T)) (ha:JA X (e :: es) t) (hn:x ≠ "__name__" := by decide) (bT:(x == ("__debug__" : Str))=false:=by decide) (he:starEach (e :: es) X.env=(false,eval e X.env) :: starEach es X.env:=by rfl) (bU:(backTo pos (starEach es X.env)).any (·.1)=false:=by rfl):JE X (.Call (.Name x p) (e :: es) [] pos) (oA r t):=⟨L2.ME hc hg hm hv ha.out hn bT he bU⟩
theorem zg {X:Cx} {e:Expr} {te:TE} {lo hi:Option Expr} {tl th:TO} {pos p2:Pos} {r:V->Option Int->Option Int->Hp->VK->Prop} (hr:lF X r) (he:JE X e te) (hl:PO X lo tl) (hu:PO X hi th):JE X (.Subscript e (.Slice lo hi none p2) pos) (Ef r te tl th):=⟨L2.MR hr he.out hl hu⟩
theorem vS {X:Cx} {a b:Expr} {ta tb:TE} {pos:Pos} {r:R2} (hr:qx X r) (ha:JE X a ta) (hb:JE X b tb) (hs:yo b):JE X (.Subscript a b pos) (ly r ta tb):=⟨L2.MW hr ha.out hb.out hs⟩
theorem qE {X:Cx} {o e:Expr} {es:List Expr} {to:TE} {t:TA} {name:Str} {apos dw:Pos} {T id:String} {r:V->List V->Hp->VK->Prop} (pa:PlainAttrs T) (slot:Slot T name id) (yy:typeOf (.builtin id)=pure (.type "method_descriptor")) (hm:yp X id r) (ho:JE X o to) (ha:JA X (e :: es) t) (jP:attributeBase o name X.env (eval o X.env)=eval o X.env:=by rfl) (oK:((backTo dw (starEach (e :: es) X.env)).all (fun x => !x.1) && (backToKw dw (keywordEach [] X.env)).all (fun x=>x.1.isSome)
   && decide ((e :: es).length + ([]:List Keyword).length + (if ([]:List Keyword).isEmpty then 0 else 1) < 30))=true:=by rfl) (jQ:(apos.endLine == dw.line)=true:=by rfl) (hs:starEach (e :: es) X.env=(false,eval e X.env) :: starEach es X.env:=by rfl) (hplain:(backTo dw (starEach es X.env)).any (·.1)=false:=by rfl):JE X (.Call (.Attribute o name apos) (e :: es) [] dw) (sF X.K T r to t):=⟨L2.M9 pa slot yy hm ho.out ha.out jP oK jQ hs hplain⟩
theorem jv {X:Cx} (i:Nat) {x:Str} {pos:Pos} (hN:X.N[i]? = some x:=by rfl) (hv:mK X.env.scope x:=by first | exact Or.inl rfl | exact Or.inr (Or.inl rfl) | exact Or.inr (Or.inr rfl)) (hd:(x == ("__debug__" : Str))=false:=by decide) (di:(x == ("__classdict__" : Str))=false:=by decide):JE X (.Name x pos) (d9 i):=⟨L2.pv i hN hv hd di⟩
theorem oY {X:Cx}:JF X [] sO:=⟨L2.Nn⟩
theorem OX {X:Cx} {c:Expr} {t:TT} (h:JT X c t):JF X [c] t:=⟨L2.Np h.out⟩
theorem Fc {X:Cx} {elt tg iter:Expr} {ifs:List Expr} {scope:Scope} {pos:Pos} {wi:TI} {g:BD->TG} {tf:BD->TT} {te:BD->TE} (cp:List (Option Nat)) (Nb:List Str) (hc:X.calm=true) (hi:JI X tg iter wi) (hg:∀ d,JG (cg X scope Nb d) tg (g d)) (hf:∀ d,JF (cg X scope Nb d) ifs (tf d)) (he:∀ d,JE (cg X scope Nb d) elt (te d)) (hk:scope.kind = .function:=by rfl) (ho:kQ X.N X.env.scope scope Nb cp=true:=by first | rfl | kernel_rfl) (hs:∀ x,foldedSetIterable iter X.env x=pure x:=by intro _;rfl):JE X (.ListComp elt [⟨tg,iter,ifs,0⟩] scope pos) (oS wi cp g tf te):=⟨L2.NG cp Nb hc hi.out (fun dd=>(hg dd).out) (fun dd=>(hf dd).out) (fun dd=>(he dd).out) hk ho hs⟩
theorem OY {X:Cx} {elt tg iter:Expr} {ifs:List Expr} {scope:Scope} {pos:Pos} {wi:TI} {g:BD->TG} {tf:BD->TT} {te:BD->TE} (cp:List (Option Nat)) (Nb:List Str) {i:Nat} {x:Str} {pos' gG:Pos} (hN:X.N.Nodup) (hi:X.N[i]? = some x) (hx:Loc X.env.scope x) (hc:X.calm=true) (hit:JI X tg iter wi) (hg:∀ d,JG (cg X scope Nb d) tg (g d)) (hf:∀ d,JF (cg X scope Nb d) ifs (tf d)) (he:∀ d,JE (cg X scope Nb d) elt (te d)) (hk:scope.kind = .function:=by rfl) (ho:kQ X.N X.env.scope scope Nb cp=true:=by first | rfl | kernel_rfl) (hs:∀ x,foldedSetIterable iter X.env x=pure x:=by intro _;rfl) (sS:swapsWith (.ListComp elt [⟨tg,iter,ifs,0⟩] scope pos) (some (.Name x pos')) gG.line X.env=pure true:=by rfl) (i7:X.fn x=true\/X.env.scope.names.lookup x=some .local:=by first | exact .inl rfl | exact .inr rfl | assumption):JS X (.Assign [.Name x pos'] (.ListComp elt [⟨tg,iter,ifs,0⟩] scope pos) gG) (bS (oS wi cp g tf te) (fG i)):=⟨L2.NH cp Nb hN hi hx hc hit.out (fun dd=>(hg dd).out) (fun dd=>(hf dd).out) (fun dd=>(he dd).out) hk ho hs sS i7⟩
theorem OZ {X:Cx} {elts:List Expr} {x1:Nat} {tp:Pos} {a:Expr} {ta:TA} {p pos:Pos} (hg:Gl X "enumerate") (hm:X.mg "enumerate" = none) (ha:JA X [a] ta) (hs:starEach [a] X.env=[(false,eval a X.env)]:=by rfl):JI X (.Tuple elts x1 tp) (.Call (.Name "enumerate" p) [a] [] pos) (EG X.K ta):=⟨L2.NJ hg hm ha.out hs⟩
theorem O0 {X:Cx} {pos pos':Pos} {o value:Expr} {ta tv:TE} {fn:Str} (ha:JE X o ta) (hv:JE X value tv) (hs:swapsWith value (some (.Attribute o fn pos')) pos.line X.env=pure false):JS X (.Assign [.Attribute o fn pos'] value pos) (EU X.K ta tv fn):=⟨L2.Of ha.out hv.out hs⟩
theorem je {X:Cx} {es:List Expr} {te:TE} {t:TA} {c j p} (ha:JE X (.Constant c j p) te) (hr:JA X es t):JA X (.Constant c j p :: es) (eR te t):=⟨L2.tE ha.out hr.out⟩
theorem jf {X:Cx} {es:List Expr} {te:TE} {t:TA} {x p} (ha:JE X (.Name x p) te) (hr:JA X es t):JA X (.Name x p :: es) (eR te t):=⟨L2.yZ ha.out hr.out⟩
theorem jV {X:Cx} {es:List Expr} {te:TE} {t:TA} {f a k p} (ha:JE X (.Call f a k p) te) (hr:JA X es t):JA X (.Call f a k p :: es) (eR te t):=⟨L2.y0 ha.out hr.out⟩
theorem zh {X:Cx} {es:List Expr} {te:TE} {t:TA} {a p} (ha:JE X (.List a p) te) (hr:JA X es t):JA X (.List a p :: es) (eR te t):=⟨L2.y3 ha.out hr.out⟩
theorem zi {X:Cx} {es:List Expr} {te:TE} {t:TA} {a k p} (ha:JE X (.Tuple a k p) te) (hr:JA X es t):JA X (.Tuple a k p :: es) (eR te t):=⟨L2.y4 ha.out hr.out⟩
theorem oZ {X:Cx} {es:List Expr} {te:TE} {t:TA} {a k p} (ha:JE X (.Subscript a k p) te) (hr:JA X es t):JA X (.Subscript a k p :: es) (eR te t):=⟨L2.y6 ha.out hr.out⟩
theorem zj {X:Cx} {es:List Expr} {te:TE} {t:TA} {a k p} (ha:JE X (.Attribute a k p) te) (hr:JA X es t):JA X (.Attribute a k p :: es) (eR te t):=⟨L2.y7 ha.out hr.out⟩
theorem O1 {X:Cx} {es:List Expr} {ss:List Str} {pos:Pos} (h:strsOf es=some ss) (hz:ss.length <= sizeLine):JE X (.List es pos) (fun _ H Q=>∀ p,H p=none->Q (.ref p) (upd H p (.lst (ss.map V.str)))):=⟨L2.Oy h hz⟩
theorem Fd {X:Cx} {i:Nat} {x:Str} {es:List Expr} {te:TE} {pos' p pos:Pos} (hN:X.N.Nodup) (hi:X.N[i]? = some x) (hx:Loc X.env.scope x) (he:JE X (.List es p) te) (hf:X.fn x=true\/X.env.scope.names.lookup x=some .local):JS X (.Assign [.Name x pos'] (.List es p) pos) (bS te (fG i)):=⟨L2.Oz hN hi hx he.out hf⟩
theorem vT {X:Cx} {i:Nat} {x:Str} {a b:Expr} {op:Operator} {te:TE} {pos' p pos:Pos} (hN:X.N.Nodup) (hi:X.N[i]? = some x) (hx:Loc X.env.scope x) (he:JE X (.BinOp a op b p) te) (hf:X.fn x=true\/X.env.scope.names.lookup x=some .local):JS X (.Assign [.Name x pos'] (.BinOp a op b p) pos) (bS te (fG i)):=⟨L2.OA hN hi hx he.out hf⟩
theorem O3 {X:Cx} {i:Nat} {x:Str} {f:Expr} {as:List Expr} {ks:List Keyword} {te:TE} {pos' p pos:Pos} (hN:X.N.Nodup) (hi:X.N[i]? = some x) (hx:Loc X.env.scope x) (he:JE X (.Call f as ks p) te) (hf:X.fn x=true\/X.env.scope.names.lookup x=some .local):JS X (.Assign [.Name x pos'] (.Call f as ks p) pos) (bS te (fG i)):=⟨L2.OB hN hi hx he.out hf⟩
theorem mZ {X:Cx} {L:List Stmt} {k:Nat} {d:Stmt} {t u:TS} (hk:k < L.length) (h:JS X (L.getD k d) t) (r:bZ X (L.drop (k + 1)) u):bZ X (L.drop k) (lr t u):=⟨L2.OD hk h.out r.out⟩
theorem O4 {X:Cx} {L:List Stmt} {k:Nat} {d:Stmt} {t:TS} (hk:L.length=k + 1) (h:JS X (L.getD k d) t):bZ X (L.drop k) t:=⟨L2.OE hk h.out⟩
theorem O5 {X:Cx} {L:List Stmt} {t:TS} (h:bZ X (L.drop 0) t):bZ X L t:=⟨L2.OF h.out⟩
theorem eS.tK {P:Program} {w:World} {K:PySem.W.Frag} {mg:Str->Option Value} {base:Heap} {x qual:Str} {st:Stmt} {f:Addr} {fd:FuncData} {N ps:List Str} {k:Nat} {sp:Sp} (F:eS K x qual st f fd) (S:jM N ps (aW st)) (len:∀ vs H Q E,sp vs H Q E->vs.length=ps.length)
  (cH:∀ (aD:Value) (A:Around) (outer:List Env) (s:Shared) (H:Hp) (vs:List V) (Q:VK) (E:XK),aS k (A.deeper (envOfC qual (aW st) s.heap.objs.size f aD))->sp vs H Q E →
   ∃ t,bZ (ar bz P w K mg base N qual (aW st) f aD A outer s H E).bG (b_ st) t/\t { nx:=fun _ H'=>Q .non H',rt:=Q } (start N vs) H):bE P w K mg base bz (k + 1) f fd ps sp :=
 F.ok S len fun aD A outer s H vs Q E hr h=>let ⟨t,g,q⟩:=cH aD A outer s H vs Q E hr h; ⟨t,g.out,q⟩
end L2
namespace LJS
open PySem
noncomputable def hp (i j:Int):Int:=reduceHash (Builtin.Tuple.tupleHashOf [hashInt i,hashInt j])
theorem Fe {prog:Program} {w:World} (i j:Int):hT prog w [i,j]=hp i j:=rfl
noncomputable def vU:List (Int × Int):=(List.range 12).flatMap fun j=>(List.range j).map fun i:Nat=>(Int.ofNat i,Int.ofNat j)
theorem O6:∀ a∈vU,∀ b∈vU,hp a.1 a.2=hp b.1 b.2->a=b:=by decide +kernel
theorem Ff {i j:Int} (h0:0 <= i) (h1:i < j) (h2:j < 12):(i,j)∈vU:=by
 obtain⟨a,rfl⟩:∃ a:Nat,i=a:=⟨i.toNat,by omega⟩
 obtain⟨b,rfl⟩:∃ b:Nat,j=b:=⟨j.toNat,by omega⟩
 unfold vU
 exact List.mem_flatMap.mpr ⟨b,Ym.mpr (by omega),Yd.mpr ⟨a,Ym.mpr (by omega),rfl⟩⟩
end LJS
namespace L2
open PySem PySem.Spec PyProof.Rows
noncomputable def jW (S:Addr) (n:Nat):HO := .ext fun h=>∃ hs:List Int,hs.length=n/\LJS.jG h S hs
theorem O7 {P:Program} {w:World} {H:Hp} {h:Heap} {S:Addr} {hs:List Int} {n:Nat} (e:LJS.jG h S hs) (hn:hs.length=n):aK P w H h S (jW S n) :=
 ⟨⟨hs,hn,e⟩,let ⟨o,_,_,_,ho,_⟩:=e; ⟨o,ho⟩,fun h1 h2 ⟨vV,en,e1⟩ k=>⟨vV,en,LJS.K_ e1 fun o eo=>k o eo⟩⟩
section
variable {X:Cx}
theorem Fg:∀ {ps:List Addr} {ai:List Value},Vals (ps.map V.ref) ai->ai=ps.map Value.ref
 | [],_,.nil=>rfl
 | _ :: _,_,.cons r rs=>by cases r;rw[Fg rs];rfl
theorem O8:fJ X (.builtin "len") (fun xs H Q=>∃ (p:Addr) (n:Nat),xs=[.ref p]/\H p=some (jW p n)/\n < 1000/\Q (.int n) H):=by
 intro pins s σ H xs us Q I r h
 obtain⟨p,n,rfl,hp,hn,q⟩:=h
 obtain⟨u,rfl,rx⟩:=vals1 r
 cases rx
 obtain⟨⟨hs,hl,o,es,ep,t,ho,hex,hd,T⟩,_⟩:=I.aM p _ hp
 have e:es.size=n:=by rw[T.num,hl]
 refine call_len_set ho hex hd T.fits (by omega) ⟨.int n,H,I.tok _,⟨_,by rw[e]⟩,q⟩
theorem Fh:∀ {bs:List Bool} {ai:List Value},Vals (bs.map V.bl) ai->ai=bs.map Value.bool
 | [],_,.nil=>rfl
 | _ :: _,_,.cons r rs=>by cases r;rw[Fh rs];rfl
theorem all_range (bs:List Bool):(List.range bs.length).all (fun i=>bs.getD i true)=bs.all id:=by
 rw[q0c,Yr,Yr]
 constructor
 ·intro h b hb
  obtain⟨i,hi⟩:=Xq.mp hb
  have hl:=(oP.mp hi).1
  have:=h i (Ym.mpr hl)
  rw[Et,hi] at this
  exact this
 ·intro h i hi
  have hl:=Ym.mp hi
  rw[Et,oO hl]
  exact h _ (Y6 hl)
theorem O9 (hc:X.calm=true):fJ X (.builtin "all") (fun xs H Q=>∃ (l:Addr) (bs:List Bool),xs=[.ref l]/\bc X.K H l (bs.map V.bl)/\Q (.bl (bs.all id)) H):=by
 intro pins s σ H xs us Q I r h
 obtain⟨l,bs,rfl,hq,q⟩:=h
 obtain⟨u,rfl,rx⟩:=vals1 r
 cases rx
 obtain⟨ai,r',pl,_⟩:=I.list hq
 obtain rfl:=Fh r'
 have hL:=pl.isList
 have ll:l < s.heap.objs.size:=by obtain⟨o,e,_⟩:=hL;exact Ng e
 have nI:l≠s.heap.objs.size:=X_ ll
 refine call_all_walk (ZZ hL ?_)
 refine⟨s.heap.objs.size,_,_,_,_,_,fun i=>bs.getD i true,rfl,q1u (by rw[q0g];exact I.ok.hd hc) s.heap.objs.size l nI _,⟨⟨_,X1 _ rfl,rfl,rfl⟩,hL.push _⟩,fun i v s' Q' E' hv vW => ?_,fun h' tk kp => ?_⟩
 ·have hv:(bs.map Value.bool).toArray[i]? = some v:=hv
  have vW:Q' (bs.getD i true) s':=vW
  rw[q0u,Ni] at hv
  obtain⟨b,eb,rfl⟩:=Xo.mp hv
  rw[Et,eb] at vW
  exact Zc vW
 ·refine⟨.bl (bs.all id),H,I.kept (t':=tk) fun b o e=>kp b o (fun z => ?_) (oQ _ e),?_,q⟩
  ·have:=Ng e
   rw[YZ.mp z] at this
   exact Y9 _ this
  ·show Value.bool _=Value.bool _
   rw[yG,qy,all_range]
end
end L2
namespace LJ
open PySem L2
structure Fn (P:Program) (w:World) (K:PySem.W.Frag) (mg:Str->Option Value) (base:Heap) (k:Nat) (x:Str) (ps:List Str) (sp:Sp) (f:Addr) (fd:FuncData):Prop where
 ok:bE P w K mg base bz k f fd ps sp
 vX:mg x=some (.ref f)
 kp:PySem.W.keepIn K (.ref f)=true
 bd:Binds K fd ps []
theorem Fi:bootBuiltins "bool" = some (.type "bool"):=by decide +kernel
theorem Fj:bootBuiltins "int" = some (.type "int"):=by decide +kernel
theorem zk:bootBuiltins "tuple" = some (.type "tuple"):=by decide +kernel
theorem Fl:bootBuiltins "list" = some (.type "list"):=by decide +kernel
theorem O_:bootBuiltins "set" = some (.type "set"):=by decide +kernel
theorem Pa:bootBuiltins "all" = some (.builtin "all"):=by decide +kernel
section
variable {K:PySem.W.Frag}
end
structure cb (many:Int) (ys:List (Int × Int × Int)):Prop where
 m1:1 <= many
 jB:many <= 12
 jX:ys.length <= 30
 ends:∀ y∈ys,0 <= y.1/\y.1 < y.2.1/\y.2.1 < many/\0 <= y.2.2/\y.2.2 <= 1000000000
 unlike:(ys.map fun y=>(y.1,y.2.1)).Nodup
end LJ
namespace L2
open PySem PySem.Spec PyProof.Rows
section
variable {X:Cx}
end
end L2
namespace LJ
open PySem L2
noncomputable def iU:Nat->List (Int × Int)
 | 0=>[]
 | n + 1=>iU n ++ (List.range n).map fun a:Nat=>(Int.ofNat a,Int.ofNat n)
theorem zo:∀ {n:Nat} {k:Int × Int},k∈iU n->0 <= k.1/\k.1 < k.2/\k.2 < n
 | 0,_,h=>nomatch h
 | n + 1,k,h=>by
  rcases YM.mp h with h | h
  ·have:=zo h;omega
  ·obtain⟨a,ha,rfl⟩:=Yd.mp h
   have:=Ym.mp ha
   refine⟨Int.natCast_nonneg a,?_,?_⟩
   ·show (a:Int) < (n:Int);omega
   ·show (n:Int) < ((n + 1:Nat):Int);omega
theorem Fm:∀ n:Nat,(iU n).Nodup
 | 0=>q1I
 | n + 1=>by
  refine Zq.mpr ⟨Fm n,?_,fun k h1 k' h2 e => ?_⟩
  ·refine ZX.mpr (q0w.imp fun {a b} ne e=>ne ?_)
   exact q1g (congrArg Prod.fst e)
  ·subst e
   obtain⟨a,ha,rfl⟩:=Yd.mp h2
   have:=(zo h1).2.2
   have:(n:Int) < (n:Int):=this
   omega
theorem Fp:∀ n:Nat,n <= 12->(iU n).length <= 66:=by
 intro n h
 rcases n with _ | _ | _ | _ | _ | _ | _ | _ | _ | _ | _ | _ | _ | n
 all_goals first | decide | omega
end LJ
namespace LJ
open PySem
theorem Pb {j n:Nat} (h:j < n):seqIndex? (j:Int) n=some j:=by
 unfold seqIndex?
 first | (simp;omega) | skip
end LJ
namespace L2
open PySem PySem.Spec PyProof.Rows
section
variable {X:Cx}
theorem Fq:fJ X (.type "range") (fun xs H Q=>∃ j:Int,xs=[.int j]/\∀ r,H r=none->Q (.ref r) (upd H r (.rng 0 j))):=by
 intro pins s σ H xs us Q I r h
 obtain⟨j,rfl,q⟩:=h
 obtain⟨u,rfl,t,rfl⟩:=vals1 r
 refine call_range_1 ⟨.ref s.heap.objs.size,_,I.laid (t':=s.toks + 1 + 1) (o := .rng 0 j) (fun b o e=>oQ _ e) (sG _) ?_,rfl,q _ (I.aM.fresh (sG _))⟩
 exact⟨_,_,_,X1 _ rfl⟩
noncomputable def a_ (n:Nat):List Int:=(List.range n).map fun a:Nat=>(a:Int)
theorem zp:∀ {ns:List Int} {us:List Value},us.length=ns.length->(∀ (i:Nat) (u:Value),us[i]? = some u->∃ t,u = .int (ns.getD i 0) t)->Vals (ns.map V.int) us
 | [],[],_,_ => .nil
 | [],_ :: _,h,_=>by simp at h
 | _ :: _,[],h,_=>by simp at h
 | n :: ns,u :: us,h,g=>by
  obtain⟨t,e⟩:=g 0 u rfl
  refine .cons ⟨t,e⟩ (zp (by simpa using h) fun i v e2 => ?_)
  obtain⟨t,e⟩:=g (i + 1) v (by simpa using e2)
  exact⟨t,by simpa using e⟩
theorem Pc (hc:X.calm=true):fJ X (.type "list") (fun xs H Q=>∃ (r:Addr) (n:Nat),xs=[.ref r]/\H r=some (.rng 0 (n:Int))/\n <= 1000/\∀ l,H l=none->Q (.ref l) (upd H l (.lst ((a_ n).map V.int)))):=by
 intro pins s σ H xs us Q I r h
 obtain⟨a,n,rfl,ha,hn,q⟩:=h
 obtain⟨u,rfl,rx⟩:=vals1 r
 cases rx
 obtain⟨t,u,v,e⟩:=(show ∃ t u v,s.heap.get? a=some { cls := .type "range",data := .fields #[.int 0 t,.int (n:Int) u,.int 1 v] } from I.aM a _ ha)
 have hs:Builtin.Range.rangeSize 0 (n:Int) 1=n:=by rw[rangeSize_one];split<;>omega
 refine call_list_range (n:=n) (I.ok.hd hc) e (small_one (by omega) (by omega) (by omega) (by omega)) hs (by omega) fun h' tk acc c' kp e' it => ?_
 refine⟨.ref s.heap.objs.size,_,I.laid (t':=tk) (o := .lst ((a_ n).map V.int)) kp (sG _) ?_,rfl,q _ (I.aM.fresh (sG _))⟩
 refine⟨Zb (qz (by rw[qy,a_,qy,YV];exact hn)),acc.toList,c',?_,by simpa using e'⟩
 refine zp ?_ fun i u e => ?_
 ·rw[My,it.1,a_,qy,YV]
 ·rw[Yh] at e
  obtain⟨t',e2⟩:=it.2 i u e
  have hi:i < n:=by rw[<-it.1];exact (Ys.mp e).1
  refine⟨t',e2.trans ?_⟩
  rw[a_,Et,Ni,YQ hi]
  show Value.int (0 + (i:Int) * 1) t'=Value.int (i:Int) t'
  rw[Int.zero_add,Int.mul_one]
theorem Fs:∀ {us:List Value} {ns:List Int},IntsAre us ns->Vals (ns.map V.int) us
 | _,_,.nil => .nil
 | _,_,.cons n t r => .cons ⟨t,rfl⟩ (Fs r)
theorem Pd:fJ X (.builtin "sorted") (fun xs H Q=>∃ (l:Addr) (ns:List Int),xs=[.ref l]/\bc X.K H l (ns.map V.int)/\ns.length < 64/\∀ (r:Addr) (fc:List Int),fc.Perm ns->fc.Pairwise (· <= ·)->H r=none->Q (.ref r) (upd H r (.lst (fc.map V.int)))):=by
 intro pins s σ H xs us Q I r h
 obtain⟨l,ns,rfl,hq,m_,q⟩:=h
 obtain⟨u,rfl,rx⟩:=vals1 r
 cases rx
 obtain⟨ai,r',pl,_⟩:=I.list hq
 have hl:=r'.length
 rw[qy] at hl
 refine sorted_ints pl.isList (by simpa using intsAre_of r') (by omega) fun out fc hI pm pw => ?_
 have hf:H (s.heap.objs.size + 1)=none:=I.aM.fresh (q0F _)
 obtain⟨e,he⟩:=sortedAll_at s.heap ai out
 refine⟨.ref (s.heap.objs.size + 1),_,I.laid (t':=s.toks) (o := .lst (fc.map V.int)) (fun b o e=>sortedAll_old e) (q0F _) ?_,rfl,q _ fc pm pw hf⟩
 refine⟨Zb (qz (by rw[qy,pm.length_eq];omega)),out.toList,e,Fs hI,?_⟩
 simpa [seqObj] using he
theorem Ft {prog:Program} {w:World} {A:Around} {E:Value->Shared->Prop} {I l:Addr} {items:Array Value} (W:Walks prog w A I [I,l] [I] items.size (fun i v=>items[i]? = some v) (fun i h=>h.IsListIter I l i/\h.IsList l items)) :
  ∀ (k i:Nat) (s:Shared) (Q:List Value->Shared->Prop),i + k <= items.size->(s.heap.IsListIter I l i/\s.heap.IsList l items) →
   (∀ h' tk,(h'.IsListIter I l (i + k)/\h'.IsList l items)->(∀ b o,b∉[I]->s.heap.get? b=some o->h'.get? b=some o)->Q ((items.toList.drop i).take k) { s with heap:=h',toks:=tk })->wpAny (model prog w) A (draw (.ref I) k) Q E s
 | 0,i,s,Q,_,st,g=>by
  show wpAny _ _ (pure []) Q E s
  refine vK ?_
  have:=g s.heap s.toks st fun _ _ _ e=>e
  rw[q04] at this
  exact this
 | k + 1,i,s,Q,hk,st,g=>by
  have hi:i < items.size:=by omega
  show wpAny _ _ (pyNext (.ref I) >>= _) Q E s
  refine lJ (W.item i s _ _ hi st fun v h1 jC hv kW zq => ?_)
  refine lJ (Yl (Ft W k (i + 1) _ _ (by omega) kW fun h2 zr mQ zu=>vK ?_))
  have e:items.toList.drop i=v :: items.toList.drop (i + 1):=by
   rw[YI (by rw[My];exact hi)]
   congr 1
   have Fu:items[i]? = some v:=hv
   rw[X8 hi] at Fu
   simpa using Fu
  have:=g h2 zr (by rw[show i + (k + 1)=i + 1 + k by omega];exact mQ) fun b o hb e=>zu b o hb (zq b o hb e)
  rw[e,List.take_succ_cons] at this
  exact this
theorem Pe {prog:Program} {w:World} {A:Around} {E:Value->Shared->Prop} {s:Shared} {l:Addr} {items:Array Value} {Q:List Value->Shared->Prop} (hh:A.handled=none) (hl:s.heap.IsList l items)
  (g:∀ h' tk,(∀ b o,b≠s.heap.objs.size->s.heap.get? b=some o->h'.get? b=some o)->Q items.toList { s with heap:=h',toks:=tk }):wpAny (model prog w) A (unpackItems (.ref l) items.size none) Q E s:=by
 have ll:l < s.heap.objs.size:=by obtain⟨o,e,_⟩:=hl;exact Ng e
 have W:=q1u (prog:=prog) (w:=w) hh s.heap.objs.size l (X_ ll) items
 unfold unpackItems
 refine lJ ?_
 unfold notIterableAtAll
 refine lJ (wpAny_specialOf hl.typeIs slot_list_iter.lookup (vK ?_))
 simp only[Ye,YY]
 refine lJ (Yl (ZZ hl ?_))
 refine lJ (Yl (Ft W items.size 0 _ _ (by omega) ⟨⟨_,X1 _ rfl,rfl,rfl⟩,hl.push _⟩ fun h1 jC kW zq => ?_))
 rw[q0T,Yz (by rw[My];exact sG _),Xm (by rw[My];exact Y9 _)]
 rw[Yx] at kW
 refine lJ (Yl (W.done _ _ _ kW fun h2 zr zu => ?_))
 simp only[Option.isSome_none,Ye,YY]
 refine vK (g h2 zr fun b o hb e=>zu b o (by simpa using hb) (zq b o (by simpa using hb) (oQ _ e)))
noncomputable def Pf (K:PySem.W.Frag) (n:Nat) (t:iM):TG:=fun v σ H Q=>∃ a xs,v = .ref a/\bc K H a xs/\xs.length=n/\t xs σ H Q
theorem Pg {es:List Expr} {k:Nat} {t:iM} {n:Nat} {pos:Pos} (hc:X.calm=true) (h:jA X es t)
  (hn:(assignEach es X.env).length=n:=by rfl) (fH:(assignEach es X.env).findIdx? (·.1)=none:=by rfl):JG X (.Tuple es k pos) (Pf X.K n t):=by
 refine⟨?_⟩
 intro pins s σ H v u Q I r hw
 obtain⟨a,xs,e1,hq,hl,hw⟩:=hw
 subst e1
 cases r
 obtain⟨ai,rv,ht,hz⟩:=I.list hq
 have hlen:=rv.length
 rw[assign_Tuple]
 refine lJ (Zv ?_)
 unfold unpack
 rw[fH,show (assignEach es X.env).length=ai.toArray.size by rw[hn,<-hl,hlen];simp]
 refine lJ (Yl (Pe (I.ok.hd hc) ht.isList fun h' tk kp => ?_))
 have I1:Inv X pins σ H { s with heap:=h',toks:=tk }:=I.kept fun b o e=>kp b o (X_ (Ng e)) e
 exact h.out pins _ σ H xs _ Q I1 (by simpa using rv) hw
end
section
variable {X:Cx} {e:Expr} {te:TE} {pos p2 p3 p4:Pos}
end
inductive DV where
 | p (d:D) | o (k:Nat)
inductive OV where
 | lst (ds:List D) | dct (ax:List (Key × D))
structure ay where
 sl:List (Option DV)
 mu:List (Option OV)
noncomputable def qF (F:Hp):List (Key × D)->List (Key × V)->Prop
 | [],ws=>ws=[]
 | kd :: r,ws=>∃ v t,ws=(kd.1,v) :: t/\Is F kd.2 v/\qF F r t
noncomputable def ff (F:Hp):OV->HO->Prop
 | .lst ds,o=>∃ vs,o = .lst vs/\ae F ds vs
 | .dct ax,o=>∃ ws,o = .dK ws/\qF F ax ws
theorem qF.same {F F':Hp} (s:av F F'):∀ {Fv:List (Key × D)} {ws:List (Key × V)},qF F Fv ws->qF F' Fv ws
 | [],_,h=>h
 | _ :: _,_,⟨v,t,e,h1,h2⟩=>⟨v,t,e,h1.same s,qF.same s h2⟩
theorem ff.same {F F':Hp} (s:av F F'):∀ {ov:OV} {o:HO},ff F ov o->ff F' ov o
 | .lst _,_,⟨vs,e,h⟩=>⟨vs,e,h.same s⟩
 | .dct _,_,⟨ws,e,h⟩=>⟨ws,e,h.same s⟩
noncomputable def fM (F:Hp) (ad:List Addr):DV->V->Prop
 | .p d,v=>Is F d v
 | .o k,v=>∃ a,ad[k]? = some a/\v = .ref a
noncomputable def Lv (ad:List Addr) (mu:List (Option OV)) (a:Addr):Prop:=∃ (k:Nat) (ov:OV),ad[k]? = some a/\mu[k]? = some (some ov)
class aE where
 ad:List Addr
 ok:Hp->Prop
 same:∀ {H H':Hp},ok H->av H H'->ok H'
 put:∀ {H:Hp} {a:Addr} {o o':HO},ok H->H a=some o->((∃ vs,o = .lst vs)\/∃ ws,o = .dK ws)->ok (upd H a o')
 tb:∀ {H:Hp} {a:Addr},ok H->a∈ad->∃ ps,H a=some (.tbl ps)
theorem ff.kind {F:Hp}:∀ {ov:OV} {o:HO},ff F ov o->(∃ vs,o = .lst vs)\/∃ ws,o = .dK ws
 | .lst _,_,⟨vs,e,_⟩ => .inl ⟨vs,e⟩
 | .dct _,_,⟨ws,e,_⟩ => .inr ⟨ws,e⟩
variable [aE]
structure SR (F:Hp) (ad:List Addr) (δ : ay) (σ : St) (H:Hp):Prop where
 sub:av F H
 off:∀ a,Lv ad δ.mu a->F a=none
 cj:ad.length = δ.mu.length
 inj:∀ (k l:Nat) (a:Addr) (ov ow:OV),ad[k]? = some a->ad[l]? = some a -> δ.mu[k]? = some (some ov) -> δ.mu[l]? = some (some ow)->k=l
 mu:∀ (k:Nat) (ov:OV),δ.mu[k]? = some (some ov)->∃ a o,ad[k]? = some a/\H a=some o/\ff F ov o
 sl:∀ (i:Nat) (x:DV),δ.sl[i]? = some (some x)->∃ v,σ[i]? = some (some v)/\fM F ad x v
 len : σ.length = δ.sl.length
 tab:aE.ok H
 nt:∀ a∈aE.ad,F a=none
structure Ext (F:Hp) (ad:List Addr) (mu:List (Option OV)) (H:Hp) (F':Hp) (az:List Addr) (cE:List (Option OV)) (H':Hp):Prop where
 same:av F F'
 new:∀ a o,F' a=some o->F a=some o\/H a=none\/Lv ad mu a
 keep:∀ a o,H a=some o->¬ Lv ad mu a->a∉aE.ad->H' a=some o
 pre:∀ (k:Nat) (a:Addr),ad[k]? = some a->az[k]? = some a
 bV:∀ a,Lv az cE a->Lv ad mu a\/H a=none
 iV:∀ a o,H a=some o->∃ o',H' a=some o'
section
variable {F F' Fw H H' iw:Hp} {ad az tL:List Addr} {mu cE tM:List (Option OV)} {δ : ay} {σ : St}
theorem cZ {H:Hp} {a:Addr} {o:HO} (h:H a=none):av H (upd H a o):=fun b u e=>by rw[aA (bK e h)];exact e
theorem Ext.refl:Ext F ad mu H F ad mu H:=⟨fun _ _ e=>e,fun _ _ e => .inl e,fun _ _ e _ _=>e,fun _ _ e=>e,fun _ e => .inl e,fun _ o e=>⟨o,e⟩⟩
theorem Ext.trans (x:Ext F ad mu H F' az cE H') (y:Ext F' az cE H' Fw tL tM iw):Ext F ad mu H Fw tL tM iw where
 same:=x.same.trans y.same
 new:=fun a o e=>by
  rcases y.new a o e with h | h | h
  ·exact x.new a o h
  ·refine .inr (.inl ?_)
   cases q:H a with
   | none=>rfl
   | some u=>obtain⟨u',h'⟩:=x.iV a u q;rw[h] at h';cases h'
  ·rcases x.bV a h with h | h
   ·exact .inr (.inr h)
   ·exact .inr (.inl h)
 keep:=fun a o e n t=>y.keep a o (x.keep a o e n t) (fun l=>by
  rcases x.bV a l with h | h
  ·exact n h
  ·rw[e] at h;cases h) t
 pre:=fun k a e=>y.pre k a (x.pre k a e)
 bV:=fun a l=>by
  rcases y.bV a l with h | h
  ·exact x.bV a h
  ·refine .inr ?_
   cases q:H a with
   | none=>rfl
   | some u=>obtain⟨u',h'⟩:=x.iV a u q;rw[h] at h';cases h'
 iV:=fun a o e=>let ⟨o1,e1⟩:=x.iV a o e;y.iV a o1 e1
theorem fM.ext {x:DV} {v:V} (h:fM F ad x v) (e:Ext F ad mu H F' az cE H'):fM F' az x v:=by
 cases x with
 | p d=>exact Is.same e.same h
 | o k=>obtain⟨a,h1,h2⟩:=h;exact⟨a,e.pre k a h1,h2⟩
noncomputable def Nw (F H H':Hp):Hp:=fun a=>match H a with
 | none=>H' a
 | some _=>F a
theorem Nw.same (s:av F H):av F (Nw F H H'):=fun a o e=>by
 unfold Nw;rw[s a o e];exact e
theorem Nw.sub (s:av F H) (k:av H H'):av (Nw F H H') H':=fun a o e=>by
 unfold Nw at e
 cases q:H a with
 | none=>rw[q] at e;exact e
 | some u=>rw[q] at e;exact k a o (s a o e)
theorem Nw.upd {p:Addr} {o:HO} (s:av F H) (hp:H p=none):Nw F H (upd H p o)=upd F p o:=by
 funext a
 unfold Nw L2.upd
 by_cases c:a=p
 ·subst c;rw[hp,Xp rfl];simp
 ·rw[Xm c,Xm c]
  cases q:H a with
  | none =>
   cases q2:F a with
   | none=>rfl
   | some u=>rw[s a u q2] at q;cases q
  | some u=>rfl
theorem Nw.refl (s:av F H):Nw F H H=F:=by
 funext a
 unfold Nw
 cases q:H a with
 | none =>
  cases q2:F a with
  | none=>rfl
  | some u=>rw[s a u q2] at q;cases q
 | some u=>rfl
theorem SR.al (S:SR F ad δ σ H) (k:av H H'):SR (Nw F H H') ad δ σ H':=by
 have sm:=Nw.same (H':=H') S.sub
 refine⟨Nw.sub S.sub k,fun a l => ?_,S.cj,S.inj,fun i ov e => ?_,fun i x e => ?_,S.len,aE.same S.tab k,fun a ha=>by obtain⟨ps,q⟩:=aE.tb S.tab ha;unfold Nw;rw[q];exact S.nt a ha⟩
 ·obtain⟨i,ov,e1,e2⟩:=l
  obtain⟨a',o,e3,e4,_⟩:=S.mu i ov e2
  rw[e1] at e3;cases e3
  unfold Nw;rw[e4];exact S.off a ⟨i,ov,e1,e2⟩
 ·obtain⟨a,o,e1,e2,h⟩:=S.mu i ov e
  exact⟨a,o,e1,k a o e2,h.same sm⟩
 ·obtain⟨v,e1,h⟩:=S.sl i x e
  refine⟨v,e1,?_⟩
  cases x with
  | p d=>exact Is.same sm h
  | o k=>exact h
theorem Ext.al (S:SR F ad δ σ H) (k:av H H'):Ext F ad δ.mu H (Nw F H H') ad δ.mu H' where
 same:=Nw.same S.sub
 new:=fun a o e=>by
  unfold Nw at e
  cases q:H a with
  | none=>exact .inr (.inl rfl)
  | some u=>rw[q] at e;exact .inl e
 keep:=fun a o e _ _=>k a o e
 pre:=fun _ _ e=>e
 bV:=fun _ l => .inl l
 iV:=fun a o e=>⟨o,k a o e⟩
theorem SR.own {p:Addr} {o:HO} {ov:OV} (S:SR F ad δ σ H) (hp:H p=none) (h:ff F ov o):SR F (ad ++ [p]) ⟨δ.sl,δ.mu ++ [some ov]⟩ σ (upd H p o):=by
 have old:∀ {k:Nat} {w:OV},(δ.mu ++ [some ov])[k]? = some (some w)->(k < δ.mu.length /\ δ.mu[k]? = some (some w))\/(k = δ.mu.length/\w=ov):=fun {k w} e=>by
  by_cases c:k < δ.mu.length
  ·rw[Xn c] at e;exact .inl ⟨c,e⟩
  ·have hl:=(oP.mp e).1
   rw[Ew,Yk] at hl
   have ek:k = δ.mu.length:=by omega
   subst ek
   rw[Xr (sG _),YG] at e
   exact .inr ⟨rfl,by simpa using e.symm⟩
 have pre:∀ {k:Nat},k < δ.mu.length->(ad ++ [p])[k]? = ad[k]? := fun {k} c=>Xn (by rw[S.cj];exact c)
 have last:(ad ++ [p])[δ.mu.length]? = some p:=by rw[<-S.cj,Xr (sG _),YG];rfl
 have np:∀ {k:Nat} {a:Addr} {w:OV},ad[k]? = some a -> δ.mu[k]? = some (some w)->a≠p:=fun {k a w} e1 e2=>by
  obtain⟨a',u,e3,e4,_⟩:=S.mu k w e2
  rw[e1] at e3;cases e3
  exact bK e4 hp
 refine⟨fun a u e => ?_,fun a l => ?_,by rw[Ew,Ew,S.cj];rfl,fun k l a w w' e1 e2 e3 e4 => ?_,fun k w e => ?_,fun i x e => ?_,S.len,aE.same S.tab (cZ hp),S.nt⟩
 ·have:=S.sub a u e
  rw[aA (bK this hp)];exact this
 ·obtain⟨k,w,e1,e2⟩:=l
  rcases old e2 with⟨c,e3⟩ | ⟨c,e3⟩
  ·rw[pre c] at e1;exact S.off a ⟨k,w,e1,e3⟩
  ·subst c;rw[last] at e1;cases e1
   cases q:F p with
   | none=>rfl
   | some u=>rw[S.sub p u q] at hp;cases hp
 ·rcases old e3 with⟨c,q⟩ | ⟨c,q⟩
  ·rw[pre c] at e1
   rcases old e4 with⟨c',q'⟩ | ⟨c',q'⟩
   ·rw[pre c'] at e2;exact S.inj k l a w w' e1 e2 q q'
   ·subst c';rw[last] at e2;cases e2;exact absurd rfl (np e1 q)
  ·subst c;rw[last] at e1;cases e1
   rcases old e4 with⟨c',q'⟩ | ⟨c',q'⟩
   ·rw[pre c'] at e2;exact absurd rfl (np e2 q')
   ·exact c'.symm
 ·rcases old e with⟨c,q⟩ | ⟨c,q⟩
  ·obtain⟨a,u,e1,e2,h'⟩:=S.mu k w q
   exact⟨a,u,by rw[pre c];exact e1,by rw[aA (np e1 q)];exact e2,h'⟩
  ·subst c;subst q;exact⟨p,o,last,a9,h⟩
 ·obtain⟨v,e1,h'⟩:=S.sl i x e
  refine⟨v,e1,?_⟩
  cases x with
  | p d=>exact h'
  | o k =>
   obtain⟨a,e2,e3⟩:=h'
   exact⟨a,by rw[Xn (oP.mp e2).1];exact e2,e3⟩
theorem Ext.own {p:Addr} {o:HO} {ov:OV} (S:SR F ad δ σ H) (hp:H p=none):Ext F ad δ.mu H F (ad ++ [p]) (δ.mu ++ [some ov]) (upd H p o) where
 same:=fun _ _ e=>e
 new:=fun _ _ e => .inl e
 keep:=fun a u e _ _=>by rw[aA (bK e hp)];exact e
 pre:=fun k a e=>by rw[Xn (oP.mp e).1];exact e
 bV:=fun a l=>by
  obtain⟨k,w,e1,e2⟩:=l
  by_cases c:k < δ.mu.length
  ·rw[Xn c] at e2
   rw[Xn (by rw[S.cj];exact c)] at e1
   exact .inl ⟨k,w,e1,e2⟩
  ·have hl:=(oP.mp e2).1
   rw[Ew,Yk] at hl
   have ek:k=ad.length:=by rw[S.cj];omega
   subst ek
   rw[Xr (sG _),YG] at e1
   have:p=a:=by simpa using e1
   subst this;exact .inr hp
 iV:=fun a u e=>⟨u,by rw[aA (bK e hp)];exact e⟩
theorem SR.put {k:Nat} {a:Addr} {o:HO} {ov ow:OV} (S:SR F ad δ σ H) (hk : δ.mu[k]? = some (some ow)) (ha:ad[k]? = some a) (h:ff F ov o):SR F ad ⟨δ.sl,δ.mu.set k (some ov)⟩ σ (upd H a o):=by
 have kl:=(oP.mp hk).1
 have old:∀ {l:Nat} {w:OV},(δ.mu.set k (some ov))[l]? = some (some w)->(l≠k /\ δ.mu[l]? = some (some w))\/(l=k/\w=ov):=fun {l w} e=>by
  by_cases c:k=l
  ·subst c;rw[Yo kl] at e;exact .inr ⟨rfl,by simpa using e.symm⟩
  ·rw[Yt c] at e;exact .inl ⟨fun z=>c z.symm,e⟩
 have lv:∀ {l:Nat} {w:OV} {b:Addr},ad[l]? = some b->(δ.mu.set k (some ov))[l]? = some (some w)->Lv ad δ.mu b:=fun {l w b} e1 e2=>by
  rcases old e2 with⟨_,q⟩ | ⟨c,_⟩
  ·exact⟨l,w,e1,q⟩
  ·subst c;exact⟨l,ow,e1,hk⟩
 have tk:aE.ok (upd H a o):=by
  obtain⟨a',u,e1,e2,h'⟩:=S.mu k ow hk
  rw[ha] at e1;cases e1
  exact aE.put S.tab e2 h'.kind
 refine⟨fun b u e => ?_,fun b l => ?_,by rw[Y1];exact S.cj,fun l l' b w w' e1 e2 e3 e4 => ?_,fun l w e => ?_,fun i x e => ?_,S.len,tk,S.nt⟩
 ·have nb:b≠a:=fun z=>by
   subst z
   rw[S.off b ⟨k,ow,ha,hk⟩] at e;cases e
  rw[aA nb];exact S.sub b u e
 ·obtain⟨l,w,e1,e2⟩:=l
  exact S.off b (lv e1 e2)
 ·have h1:∃ w,δ.mu[l]? = some (some w):=by
   rcases old e3 with⟨_,q⟩ | ⟨c,_⟩
   ·exact⟨_,q⟩
   ·subst c;exact⟨_,hk⟩
  have h2:∃ w,δ.mu[l']? = some (some w):=by
   rcases old e4 with⟨_,q⟩ | ⟨c,_⟩
   ·exact⟨_,q⟩
   ·subst c;exact⟨_,hk⟩
  obtain⟨w1,q1⟩:=h1
  obtain⟨w2,q2⟩:=h2
  exact S.inj l l' b _ _ e1 e2 q1 q2
 ·rcases old e with⟨c,q⟩ | ⟨c,q⟩
  ·obtain⟨b,u,e1,e2,h'⟩:=S.mu l w q
   have nb:b≠a:=fun z=>by subst z;exact c (S.inj l k b _ _ e1 ha q hk)
   exact⟨b,u,e1,by rw[aA nb];exact e2,h'⟩
  ·subst c;subst q;exact⟨a,o,ha,a9,h⟩
 ·exact S.sl i x e
theorem Ext.put {k:Nat} {a:Addr} {o:HO} {ov ow:OV} (S:SR F ad δ σ H) (hk : δ.mu[k]? = some (some ow)) (ha:ad[k]? = some a):Ext F ad δ.mu H F ad (δ.mu.set k (some ov)) (upd H a o) where
 same:=fun _ _ e=>e
 new:=fun _ _ e => .inl e
 keep:=fun b u e n _=>by rw[aA fun z=>n (by subst z;exact⟨k,ow,ha,hk⟩)];exact e
 pre:=fun _ _ e=>e
 bV:=fun b l=>by
  obtain⟨l,w,e1,e2⟩:=l
  by_cases c:k=l
  ·subst c;exact .inl ⟨k,ow,e1,hk⟩
  ·rw[Yt c] at e2;exact .inl ⟨l,w,e1,e2⟩
 iV:=fun b u e=>by
  by_cases c:b=a
  ·subst c;exact⟨o,a9⟩
  ·exact⟨u,by rw[aA c];exact e⟩
theorem SR.fix {k:Nat} {a:Addr} {o:HO} {ow:OV} (S:SR F ad δ σ H) (hk : δ.mu[k]? = some (some ow)) (ha:ad[k]? = some a) (ho:H a=some o):SR (upd F a o) ad ⟨δ.sl,δ.mu.set k none⟩ σ H:=by
 have kl:=(oP.mp hk).1
 have fa:=S.off a ⟨k,ow,ha,hk⟩
 have sm:av F (upd F a o):=fun b u e=>by rw[aA (bK e fa)];exact e
 have old:∀ {l:Nat} {w:OV},(δ.mu.set k none)[l]? = some (some w)->l≠k /\ δ.mu[l]? = some (some w):=fun {l w} e=>by
  by_cases c:k=l
  ·subst c;rw[Yo kl] at e;cases e
  ·rw[Yt c] at e;exact⟨fun z=>c z.symm,e⟩
 refine⟨fun b u e => ?_,fun b l => ?_,by rw[Y1];exact S.cj,fun l l' b w w' e1 e2 e3 e4=>S.inj l l' b w w' e1 e2 (old e3).2 (old e4).2,fun l w e => ?_,fun i x e => ?_,S.len,S.tab,fun b hb => ?_⟩
 ·by_cases c:b=a
  ·subst c;rw[a9] at e;cases e;exact ho
  ·rw[aA c] at e;exact S.sub b u e
 ·obtain⟨l,w,e1,e2⟩:=l
  obtain⟨c,q⟩:=old e2
  have nb:b≠a:=fun z=>by subst z;exact c (S.inj l k b _ _ e1 ha q hk)
  rw[aA nb];exact S.off b ⟨l,w,e1,q⟩
 ·obtain⟨b,u,e1,e2,h'⟩:=S.mu l w (old e).2
  exact⟨b,u,e1,e2,h'.same sm⟩
 ·obtain⟨v,e1,h'⟩:=S.sl i x e
  refine⟨v,e1,?_⟩
  cases x with
  | p d=>exact Is.same sm h'
  | o k=>exact h'
 ·obtain⟨ps,q⟩:=aE.tb S.tab hb
  have nb:b≠a:=fun z=>by
   subst z
   obtain⟨a',u,e1,e2,h'⟩:=S.mu k ow hk
   rw[ha] at e1;cases e1
   rw[q] at e2;cases e2
   rcases h'.kind with⟨_,z⟩ | ⟨_,z⟩<;>cases z
  rw[aA nb];exact S.nt b hb
theorem Ext.fix {k:Nat} {a:Addr} {o:HO} {ow:OV} (S:SR F ad δ σ H) (hk : δ.mu[k]? = some (some ow)) (ha:ad[k]? = some a):Ext F ad δ.mu H (upd F a o) ad (δ.mu.set k none) H where
 same:=fun b u e=>by rw[aA (bK e (S.off a ⟨k,ow,ha,hk⟩))];exact e
 new:=fun b u e=>by
  by_cases c:b=a
  ·subst c;exact .inr (.inr ⟨k,ow,ha,hk⟩)
  ·rw[aA c] at e;exact .inl e
 keep:=fun b u e _ _=>e
 pre:=fun _ _ e=>e
 bV:=fun b l=>by
  obtain⟨l,w,e1,e2⟩:=l
  by_cases c:k=l
  ·subst c;rw[Yo (oP.mp hk).1] at e2;cases e2
  ·rw[Yt c] at e2;exact .inl ⟨l,w,e1,e2⟩
 iV:=fun b u e=>⟨u,e⟩
theorem SR.set {i:Nat} {x:DV} {v:V} (S:SR F ad δ σ H) (h:fM F ad x v):SR F ad ⟨δ.sl.set i (some x),δ.mu⟩ (σ.set i (some v)) H:=by
 refine⟨S.sub,S.off,S.cj,S.inj,S.mu,fun j y e => ?_,by rw[Y1,Y1];exact S.len,S.tab,S.nt⟩
 by_cases c:i=j
 ·subst c
  have hl:=(oP.mp e).1
  rw[Y1] at hl
  rw[Yo hl] at e
  cases e
  exact⟨v,Yo (by rw[S.len];exact hl),h⟩
 ·rw[Yt c] at e
  obtain⟨w,e1,h1⟩:=S.sl j y e
  exact⟨w,by rw[Yt c];exact e1,h1⟩
end
noncomputable abbrev WE:=ay->(DV->ay->Prop)->Prop
noncomputable abbrev WA:=ay->(List DV->ay->Prop)->Prop
noncomputable abbrev WT:=ay->(Bool->ay->Prop)->Prop
noncomputable def c_ (F:Hp) (ad:List Addr):List DV->List V->Prop
 | [],vs=>vs=[]
 | x :: xs,vs=>∃ v r,vs=v :: r/\fM F ad x v/\c_ F ad xs r
theorem c_.ext {F F' H H':Hp} {ad az:List Addr} {mu cE:List (Option OV)} (e:Ext F ad mu H F' az cE H'):∀ {xs:List DV} {vs:List V},c_ F ad xs vs->c_ F' az xs vs
 | [],_,h=>h
 | _ :: _,_,⟨v,r,q,h1,h2⟩=>⟨v,r,q,h1.ext e,c_.ext e h2⟩
noncomputable def tD (f:WE):TE:=fun σ H Q=>∃ F ad δ K,SR F ad δ σ H/\f δ K/\∀ x δ',K x δ'->∀ v F' az H',Ext F ad δ.mu H F' az δ'.mu H'->SR F' az δ' σ H'->fM F' az x v->Q v H'
noncomputable def bL (f:WA):TA:=fun σ H Q=>∃ F ad δ K,SR F ad δ σ H/\f δ K/\∀ xs δ',K xs δ'->∀ vs F' az H',Ext F ad δ.mu H F' az δ'.mu H'->SR F' az δ' σ H'->c_ F' az xs vs->Q vs H'
noncomputable def de (f:WT):TT:=fun σ H Q=>∃ F ad δ K,SR F ad δ σ H/\f δ K/\∀ b δ',K b δ'->∀ F' az H',Ext F ad δ.mu H F' az δ'.mu H'->SR F' az δ' σ H'->Q b H'
noncomputable def gs (F H:Hp):D->V->Prop
 | .lst ds,v=>∃ a vs,v = .ref a/\H a=some (.lst vs)/\ae F ds vs
 | d,v=>Is F d v
noncomputable def iy (x:DV) (δ : ay) (K:D->Prop):Prop:=match x with
 | .p d=>K d
 | .o k=>match δ.mu[k]? with
  | some (some (.lst ds))=>K (.lst ds)
  | _=>False
theorem gs.of {F H:Hp} (s:av F H):∀ {d:D} {v:V},Is F d v->gs F H d v
 | .lst _,_,h=>by
  simp only[Is] at h
  obtain⟨a,vs,e,h1,h2⟩:=h
  exact⟨a,vs,e,s _ _ h1,h2⟩
 | .tup _,_,h=>h
 | .non,_,h=>h
 | .bl _,_,h=>h
 | .int _,_,h=>h
 | .str _,_,h=>h
theorem gs.is {F H:Hp} (s:av F H):∀ {d:D} {v:V},gs F H d v->Is H d v
 | .lst _,_,h=>by
  obtain⟨a,vs,e,h1,h2⟩:=h
  simp only[Is]
  exact⟨a,vs,e,h1,h2.same s⟩
 | .tup _,_,h=>Is.same s h
 | .non,_,h=>Is.same s h
 | .bl _,_,h=>Is.same s h
 | .int _,_,h=>Is.same s h
 | .str _,_,h=>Is.same s h
theorem jg {F H:Hp} {ad:List Addr} {δ : ay} {σ : St} {x:DV} {v:V} {K:D->Prop} (S:SR F ad δ σ H) (hv:fM F ad x v) (h:iy x δ K):∃ d,K d/\gs F H d v:=by
 cases x with
 | p d=>exact⟨d,h,gs.of S.sub hv⟩
 | o k =>
  unfold iy at h
  dsimp only at h
  split at h
  ·rename_i ds e
   obtain⟨a,e1,rfl⟩:=hv
   obtain⟨a',o,e2,e3,vs,rfl,h4⟩:=S.mu k _ e
   rw[e1] at e2;cases e2
   exact⟨_,h,a,vs,rfl,e3,h4⟩
  ·exact h.elim
noncomputable def jY:List DV->ay->(List D->Prop)->Prop
 | [],_,K=>K []
 | x :: xs,δ,K=>iy x δ fun d=>jY xs δ fun ds=>K (d :: ds)
noncomputable def gL (F H:Hp):List D->List V->Prop
 | [],vs=>vs=[]
 | d :: ds,vs=>∃ v r,vs=v :: r/\gs F H d v/\gL F H ds r
theorem vY {F H:Hp} {ad:List Addr} {δ : ay} {σ : St} (S:SR F ad δ σ H):∀ {xs:List DV} {vs:List V} {K:List D->Prop},c_ F ad xs vs->jY xs δ K->∃ ds,K ds/\gL F H ds vs
 | [],_,_,hv,h=>⟨[],h,hv⟩
 | x :: xs,_,_,⟨v,r,rfl,h1,h2⟩,h=>by
  obtain⟨d,h',rd⟩:=jg S h1 h
  obtain⟨ds,qG,o8⟩:=vY S h2 h'
  exact⟨d :: ds,qG,v,r,rfl,rd,o8⟩
noncomputable abbrev Made (F H:Hp) (K:D->Prop) (Q:VK):Prop:=∀ z v H',K z->av H H'->Is (Nw F H H') z v->Q v H'
noncomputable def d5 (X:Cx) (f:Value->Value->Sem Value) (g:D->D->(D->Prop)->Prop):Prop :=
 cB X f fun x y H Q=>∃ F d e K,av F H/\gs F H d x/\gs F H e y/\g d e K/\Made F H K Q
noncomputable def FA (X:Cx) (g:D->D->(D->Prop)->Prop):Prop :=
 qx X fun x y H Q=>∃ F d e K,av F H/\gs F H d x/\gs F H e y/\g d e K/\Made F H K Q
noncomputable def eK (X:Cx) (f:Value) (g:List D->(D->Prop)->Prop):Prop :=
 fJ X f fun xs H Q=>∃ F ds K,av F H/\gL F H ds xs/\g ds K/\Made F H K Q
noncomputable def d2 (f g:WE) (op:D->D->(D->Prop)->Prop):WE:=fun δ K=>f δ fun x δ1=>g δ1 fun y δ2=>iy x δ2 fun d=>iy y δ2 fun e=>op d e fun z=>K (.p z) δ2
noncomputable def d1 (f:WE) (op:D->(D->Prop)->Prop):WE:=fun δ K=>f δ fun x δ1=>iy x δ1 fun d=>op d fun z=>K (.p z) δ1
noncomputable def dN (f:WA) (op:List D->(D->Prop)->Prop):WE:=fun δ K=>f δ fun xs δ1=>jY xs δ1 fun ds=>op ds fun z=>K (.p z) δ1
noncomputable def dC (d:D):WE:=fun δ K=>K (.p d) δ
noncomputable def aa (i:Nat):WE:=fun δ K=>match δ.sl[i]? with
 | some (some x)=>K x δ
 | _=>False
noncomputable def ag:WA:=fun δ K=>K [] δ
noncomputable def af (f:WE) (g:WA):WA:=fun δ K=>f δ fun x δ1=>g δ1 fun xs δ2=>K (x :: xs) δ2
section
variable {X:Cx} {a b c:Expr} {f g h:WE} {fa:WA} {pos:Pos}
theorem tN {e:Expr} {d:D} {v:V} (h:JE X e (tC v)) (hi:∀ F,Is F d v):JE X e (tD (dC d)):=h.weak fun σ H Q h0_ => el7 h0_ fun F ad δ K S q k =>k _ _ q _ _ _ _ .refl S (hi F)
theorem aq {i j pos}:JE X (.Constant (.int i) j pos) (tD (dC (.int i))):=tN bX fun _=>rfl
theorem jD {i j pos}:JE X (.Constant (.bool i) j pos) (tD (dC (.bl i))):=tN y9 fun _=>rfl
theorem qH {j pos}:JE X (.Constant .none j pos) (tD (dC .non)):=tN OH fun _=>rfl
theorem tO {x j pos}:JE X (.Constant (.str x) j pos) (tD (dC (.str x))):=tN vQ fun _=>rfl
theorem Ph {x:Str} {i:Int} {u:Value} {pos:Pos} (hg:Gl X x) (hm:X.mg x=some u) (r:RelV (.int i) u) (hd:(x == ("__debug__" : Str))=false:=by decide):JE X (.Name x pos) (tD (dC (.int i))):=tN (iu hg hm r hd) fun _=>rfl
theorem dv (i:Nat) {x:Str} {pos:Pos} (hN:X.N[i]? = some x:=by rfl) (hv:mK X.env.scope x:=by first | exact Or.inl rfl | exact Or.inr (Or.inl rfl) | exact Or.inr (Or.inr rfl))
  (hd:(x == ("__debug__" : Str))=false:=by decide) (di:(x == ("__classdict__" : Str))=false:=by decide):JE X (.Name x pos) (tD (aa i)) :=
 (OG hN hv hd di).weak fun σ H Q h0_ => el7 h0_ fun F ad δ K S q k =>by
  unfold aa at q
  split at q
  ·rename_i x e
   obtain⟨v,e1,h1⟩:=S.sl i x e
   exact⟨v,e1,k _ _ q _ _ _ _ .refl S h1⟩
  ·exact q.elim
theorem vZ {r:R2} {ta tb:TE} {op:D->D->(D->Prop)->Prop} (hr:∀ x y H Q,(∃ F d e K,av F H/\gs F H d x/\gs F H e y/\op d e K/\Made F H K Q)->r x y H Q):∀ σ H Q,tD (d2 f g op) σ H Q->ly r (tD f) (tD g) σ H Q:=by
 rintro σ H Q ⟨F,ad,δ,K,S,q,k⟩
 refine⟨F,ad,δ,_,S,q,fun x δ1 h1 v1 F1 aQ H1 E1 S1 V1=>⟨F1,aQ,δ1,_,S1,h1,fun y δ2 h2 v2 F2 cy H2 E2 S2 V2=>hr _ _ _ _ ?_⟩⟩
 obtain⟨d,h3,rd⟩:=jg S2 (V1.ext E2) h2
 obtain⟨e,h4,re⟩:=jg S2 V2 h3
 exact⟨F2,d,e,_,S2.sub,rd,re,h4,fun z v H' hz sm is=>k _ _ hz _ _ _ _ ((E1.trans E2).trans (Ext.al S2 sm)) (S2.al sm) is⟩
theorem bu {op:Operator} {o:D->D->(D->Prop)->Prop} (ho:d5 X (binaryOp op) o) (ha:JE X a (tD f)) (hb:JE X b (tD g)):JE X (.BinOp a op b pos) (tD (d2 f g o)) :=
 (oW ho ha hb).weak (vZ (ta:=tD f) (tb:=tD g) fun _ _ _ _ h=>h)
theorem lM {op:CmpOp} {o:D->D->(D->Prop)->Prop} (ho:d5 X (compareOp op) o) (ha:JE X a (tD f)) (hb:JE X b (tD g)) (hm:behindInMarks op b=false):JE X (.Compare a [op] [b] pos) (tD (d2 f g o)) :=
 (OT ho ha hb hm).weak (vZ (ta:=tD f) (tb:=tD g) fun _ _ _ _ h=>h)
theorem bh {o:D->D->(D->Prop)->Prop} (ho:FA X o) (ha:JE X a (tD f)) (hb:JE X b (tD g)) (hs:yo b):JE X (.Subscript a b pos) (tD (d2 f g o)) :=
 (vS ho ha hb hs).weak (vZ (ta:=tD f) (tb:=tD g) fun _ _ _ _ h=>h)
theorem aB:JA X [] (bL ag):=aY.weak fun σ H Q h0_ => el7 h0_ fun F ad δ K S q k =>k _ _ q _ _ _ _ .refl S rfl
theorem o9:∀ σ H Q,bL (af f fa) σ H Q->eR (tD f) (bL fa) σ H Q:=by
 rintro σ H Q ⟨F,ad,δ,K,S,q,k⟩
 exact⟨F,ad,δ,_,S,q,fun x δ1 h1 v1 F1 aQ H1 E1 S1 V1=>⟨F1,aQ,δ1,_,S1,h1,fun xs δ2 h2 vs F2 cy H2 E2 S2 V2=>k _ _ h2 _ _ _ _ (E1.trans E2) S2 ⟨v1,vs,rfl,V1.ext E2,V2⟩⟩⟩
theorem eA {e:Expr} {es:List Expr} (ha:JE X e (tD f)) (hr:JA X es (bL fa)) (hs:starEach (e :: es) X.env=(false,eval e X.env) :: starEach es X.env:=by rfl):JA X (e :: es) (bL (af f fa)):=(oX ha hr hs).weak o9
theorem aJ {es:List Expr} {c j p} (ha:JE X (.Constant c j p) (tD f)) (hr:JA X es (bL fa)):JA X (.Constant c j p :: es) (bL (af f fa)):=(je ha hr).weak o9
theorem ah {es:List Expr} {x p} (ha:JE X (.Name x p) (tD f)) (hr:JA X es (bL fa)):JA X (.Name x p :: es) (bL (af f fa)):=(jf ha hr).weak o9
theorem cQ {es:List Expr} {x y k p} (ha:JE X (.Call x y k p) (tD f)) (hr:JA X es (bL fa)):JA X (.Call x y k p :: es) (bL (af f fa)):=(jV ha hr).weak o9
theorem lN {es:List Expr} {x p} (ha:JE X (.List x p) (tD f)) (hr:JA X es (bL fa)):JA X (.List x p :: es) (bL (af f fa)):=(zh ha hr).weak o9
theorem tP {es:List Expr} {x k p} (ha:JE X (.Tuple x k p) (tD f)) (hr:JA X es (bL fa)):JA X (.Tuple x k p :: es) (bL (af f fa)):=(zi ha hr).weak o9
theorem bp {es:List Expr} {x k p} (ha:JE X (.Subscript x k p) (tD f)) (hr:JA X es (bL fa)):JA X (.Subscript x k p :: es) (bL (af f fa)):=(oZ ha hr).weak o9
theorem FC {r:List V->Hp->VK->Prop} {op:List D->(D->Prop)->Prop} (hr:∀ xs H Q,(∃ F ds K,av F H/\gL F H ds xs/\op ds K/\Made F H K Q)->r xs H Q):∀ σ H Q,tD (dN fa op) σ H Q->oA r (bL fa) σ H Q:=by
 rintro σ H Q ⟨F,ad,δ,K,S,q,k⟩
 refine⟨F,ad,δ,_,S,q,fun xs δ1 h1 vs F1 aQ H1 E1 S1 V1=>hr _ _ _ ?_⟩
 obtain⟨ds,h2,o8⟩:=vY S1 V1 h1
 exact⟨F1,ds,_,S1.sub,o8,h2,fun z v H' hz sm is=>k _ _ hz _ _ _ _ (E1.trans (Ext.al S1 sm)) (S1.al sm) is⟩
theorem jh {x:Str} {p:Pos} {e:Expr} {es:List Expr} {id:String} {o:List D->(D->Prop)->Prop} (hc:eK X (.builtin id) o) (hg:Gl X x) (hm:X.mg x=none) (hv:bootBuiltins x=some (.builtin id)) (ha:JA X (e :: es) (bL fa)) (hn:x ≠ "__name__" := by decide) (bT:(x == ("__debug__" : Str))=false:=by decide)
  (he:starEach (e :: es) X.env=(false,eval e X.env) :: starEach es X.env:=by rfl) (bU:(backTo pos (starEach es X.env)).any (·.1)=false:=by rfl):JE X (.Call (.Name x p) (e :: es) [] pos) (tD (dN fa o)) :=
 (tJ hc hg hm hv ha hn bT he bU).weak (FC fun _ _ _ h=>h)
theorem Pj {x:Str} {p:Pos} {e:Expr} {es:List Expr} {T:String} {o:List D->(D->Prop)->Prop} (hc:eK X (.type T) o) (hg:Gl X x) (hm:X.mg x=none) (hv:bootBuiltins x=some (.type T)) (ha:JA X (e :: es) (bL fa)) (hn:x ≠ "__name__" := by decide) (bT:(x == ("__debug__" : Str))=false:=by decide)
  (he:starEach (e :: es) X.env=(false,eval e X.env) :: starEach es X.env:=by rfl) (bU:(backTo pos (starEach es X.env)).any (·.1)=false:=by rfl):JE X (.Call (.Name x p) (e :: es) [] pos) (tD (dN fa o)) :=
 (qD hc hg hm hv ha hn bT he bU).weak (FC fun _ _ _ h=>h)
end
noncomputable def FD (k:Nat) (ds:List D):Option DV->Option DV
 | some (.o j)=>if j=k then some (.p (.lst ds)) else some (.o j)
 | s=>s
noncomputable def ay.fix (δ : ay) (k:Nat) (ds:List D):ay:=⟨δ.sl.map (FD k ds),δ.mu.set k none⟩
noncomputable def nh (x:DV) (δ : ay) (K:D->ay->Prop):Prop:=match x with
 | .p d=>K d δ
 | .o k=>match δ.mu[k]? with
  | some (some (.lst ds))=>K (.lst ds) (δ.fix k ds)
  | _=>False
noncomputable def ji:List DV->ay->(List D->ay->Prop)->Prop
 | [],δ,K=>K [] δ
 | x :: xs,δ,K=>nh x δ fun d δ1=>ji xs δ1 fun ds δ2=>K (d :: ds) δ2
section
variable {F F' H H':Hp} {ad az:List Addr} {δ δ':ay} {σ σ':St}
theorem SR.fixed {k:Nat} {a:Addr} {vs:List V} {ds:List D} (S:SR F ad δ σ H) (hk : δ.mu[k]? = some (some (.lst ds))) (ha:ad[k]? = some a) (ho:H a=some (.lst vs)) (hi:ae F ds vs):SR (upd F a (.lst vs)) ad (δ.fix k ds) σ H:=by
 have S1:=S.fix hk ha ho
 have sm:av F (upd F a (.lst vs)):=(Ext.fix (o := .lst vs) S hk ha).same
 refine⟨S1.sub,S1.off,S1.cj,S1.inj,S1.mu,fun i x e => ?_,by rw[S.len];unfold ay.fix;rw[qy],S1.tab,S1.nt⟩
 unfold ay.fix at e
 rw[Ni] at e
 obtain⟨s,e1,e2⟩:=Xo.mp e
 match s,e2 with
 | none,e2=>cases e2
 | some (.p d),e2 =>
  cases (show some (DV.p d)=some x from e2)
  exact S1.sl i _ e1
 | some (.o j),e2 =>
  have e3:(if j=k then some (DV.p (.lst ds)) else some (DV.o j))=some x:=e2
  clear e2
  obtain⟨v,h1,a',h2,h3⟩:=S.sl i _ e1
  by_cases c:j=k
  ·rw[Xp c] at e3
   subst c
   cases e3
   rw[ha] at h2;cases h2
   refine⟨v,h1,?_⟩
   show Is _ (.lst ds) v
   simp only[Is]
   exact⟨a,vs,h3,a9,hi.same sm⟩
  ·rw[Xm c] at e3
   cases e3
   exact⟨v,h1,a',h2,h3⟩
theorem v3 {x:DV} {v:V} {K:D->ay->Prop} (S:SR F ad δ σ H) (hv:fM F ad x v) (h:nh x δ K):∃ d δ' F',K d δ'/\Ext F ad δ.mu H F' ad δ'.mu H/\SR F' ad δ' σ H/\Is F' d v:=by
 cases x with
 | p d=>exact⟨d,δ,F,h,.refl,S,hv⟩
 | o k =>
  unfold nh at h
  dsimp only at h
  split at h
  ·rename_i ds e
   obtain⟨a,e1,rfl⟩:=hv
   obtain⟨a',o,e2,e3,vs,rfl,h4⟩:=S.mu k _ e
   rw[e1] at e2;cases e2
   refine⟨_,_,_,h,Ext.fix S e e1,S.fixed e e1 e3 h4,?_⟩
   simp only[Is]
   exact⟨a,vs,rfl,a9,h4.same (Ext.fix (o := .lst vs) S e e1).same⟩
  ·exact h.elim
theorem v5:∀ {xs:List DV} {vs:List V} {δ : ay} {F:Hp} {K:List D->ay->Prop},SR F ad δ σ H->c_ F ad xs vs->ji xs δ K->∃ ds δ' F',K ds δ'/\Ext F ad δ.mu H F' ad δ'.mu H/\SR F' ad δ' σ H/\ae F' ds vs
 | [],_,δ,F,_,S,hv,h=>⟨[],δ,F,h,.refl,S,by simp only[ae];exact hv⟩
 | x :: xs,_,δ,F,_,S,⟨v,r,e,h1,h2⟩,h=>by
  subst e
  obtain⟨d,δ1,F1,h',E1,S1,i1⟩:=v3 S h1 h
  obtain⟨ds,δ2,F2,qG,E2,S2,i2⟩:=v5 S1 (h2.ext E1) h'
  exact⟨d :: ds,δ2,F2,qG,E1.trans E2,S2,.cons (i1.same E2.same) i2⟩
end
noncomputable def eM (fa:WA):WE:=fun δ K=>fa δ fun xs δ1=>ji xs δ1 fun ds δ2=>ds.length <= 1000/\K (.p (.tup ds)) δ2
noncomputable def cm (fa:WA):WE:=fun δ K=>fa δ fun xs δ1=>ji xs δ1 fun ds δ2=>ds.length <= 1000/\K (.p (.lst ds)) δ2
noncomputable def tQ (fa:WA):WE:=fun δ K=>fa δ fun xs δ1=>ji xs δ1 fun ds δ2=>ds.length <= 1000/\K (.o δ2.mu.length) ⟨δ2.sl,δ2.mu ++ [some (.lst ds)]⟩
section
variable {X:Cx} {a b c:Expr} {es:List Expr} {f g h:WE} {fa:WA} {t u:WT} {pos:Pos}
theorem jZ {n:Nat} (h:n <= 1000):n <= sizeLine:=Zb (qz h)
theorem lO {x1} (ha:JA X es (bL fa)):JE X (.Tuple es x1 pos) (tD (eM fa)):=(OW ha).weak fun σ H Q h0_ => el7 h0_ fun F ad δ K S q k =>
 ⟨F,ad,δ,_,S,q,fun xs δ1 h1 vs F1 aQ H1 E1 S1 V1=>by
  obtain⟨ds,δ2,F2,⟨hl,h2⟩,E2,S2,i2⟩:=v5 S1 V1 h1
  refine⟨jZ (by rw[i2.length];exact hl),fun p hp => ?_⟩
  have sm:av H1 (upd H1 p (.tup vs)):=cZ hp
  refine k _ _ h2 _ _ _ _ ((E1.trans E2).trans (Ext.al S2 sm)) (S2.al sm) ?_
  show Is _ (.tup ds) _
  simp only[Is]
  rw[Nw.upd S2.sub hp]
  refine⟨p,vs,rfl,a9,i2.same fun b o e => ?_⟩
  rw[aA (bK (S2.sub b o e) hp)];exact e⟩
theorem gZ (ha:JA X es (bL fa)):JE X (.List es pos) (tD (cm fa)):=(mY ha).weak fun σ H Q h0_ => el7 h0_ fun F ad δ K S q k =>
 ⟨F,ad,δ,_,S,q,fun xs δ1 h1 vs F1 aQ H1 E1 S1 V1=>by
  obtain⟨ds,δ2,F2,⟨hl,h2⟩,E2,S2,i2⟩:=v5 S1 V1 h1
  refine⟨jZ (by rw[i2.length];exact hl),fun p hp => ?_⟩
  have sm:av H1 (upd H1 p (.lst vs)):=cZ hp
  refine k _ _ h2 _ _ _ _ ((E1.trans E2).trans (Ext.al S2 sm)) (S2.al sm) ?_
  show Is _ (.lst ds) _
  simp only[Is]
  rw[Nw.upd S2.sub hp]
  refine⟨p,vs,rfl,a9,i2.same fun b o e => ?_⟩
  rw[aA (bK (S2.sub b o e) hp)];exact e⟩
theorem zv (ha:JA X es (bL fa)):JE X (.List es pos) (tD (tQ fa)):=(mY ha).weak fun σ H Q h0_ => el7 h0_ fun F ad δ K S q k =>
 ⟨F,ad,δ,_,S,q,fun xs δ1 h1 vs F1 aQ H1 E1 S1 V1=>by
  obtain⟨ds,δ2,F2,⟨hl,h2⟩,E2,S2,i2⟩:=v5 S1 V1 h1
  refine⟨jZ (by rw[i2.length];exact hl),fun p hp => ?_⟩
  have oi:ff F2 (.lst ds) (.lst vs):=⟨vs,rfl,i2⟩
  refine k _ _ h2 _ _ _ _ ((E1.trans E2).trans (Ext.own S2 hp)) (S2.own hp oi) ⟨p,?_,rfl⟩
  rw[<-S2.cj,Xr (sG _),YG];rfl⟩
noncomputable def qJ (x:DV) (P:Bool->Prop):Prop:=match x with
 | .p (.bl b)=>P b
 | _=>False
noncomputable def dT (f:WE):WT:=fun δ K=>f δ fun x δ1=>qJ x fun b=>K b δ1
noncomputable def j2 (t u:WT):WT:=fun δ K=>t δ fun b δ1=>if b=true then u δ1 K else K false δ1
noncomputable def ni (t u:WT):WT:=fun δ K=>t δ fun b δ1=>if b=true then K true δ1 else u δ1 K
noncomputable def df (t:WT):WT:=fun δ K=>t δ fun b δ1=>K (!b) δ1
noncomputable def zw (t:WT) (f g:WE):WE:=fun δ K=>t δ fun b δ1=>if b=true then f δ1 K else g δ1 K
noncomputable def j3 (f g:WE):WE:=fun δ K=>f δ fun x δ1=>qJ x fun b=>if b=true then g δ1 K else K (.p (.bl false)) δ1
noncomputable def v7 (f:WE):WE:=fun δ K=>f δ fun x δ1=>qJ x fun b=>K (.p (.bl (!b))) δ1
theorem v8 {F:Hp} {ad:List Addr} {x:DV} {v:V} {P:Bool->Prop} (hv:fM F ad x v) (h:qJ x P):∃ b,v = .bl b/\P b:=by
 unfold qJ at h
 split at h
 ·rename_i b
  exact⟨b,hv,h⟩
 ·exact h.elim
theorem iz (ha:JE X a (tD f)) (he:∀ whole,isTrue a X.env whole=(do let v <- whole;standAt a.pos;holding [v] (truthy v)):=by intro _;rfl):JT X a (de (dT f)) :=
 (y_ ha he).weak fun σ H Q h0_ => el7 h0_ fun F ad δ K S q k =>⟨F,ad,δ,_,S,q,fun x δ1 h1 v F1 aQ H1 E1 S1 V1=>by
  obtain⟨b,rfl,h2⟩:=v8 V1 h1
  exact⟨b,rfl,k _ _ h2 _ _ _ E1 S1⟩⟩
theorem dA {op:CmpOp} {o:D->D->(D->Prop)->Prop} (ho:d5 X (compareOp op) o) (ha:JE X a (tD f)) (hb:JE X b (tD g)) (hm:behindInMarks op b=false):JT X (.Compare a [op] [b] pos) (de (dT (d2 f g o))) :=
 (zf ho ha hb hm).weak fun σ H Q h0_ => el7 h0_ fun F ad δ K S q k =>vZ (ta:=tD f) (tb:=tD g) (fun _ _ _ _ h=>h) σ H _ ⟨F,ad,δ,_,S,q,fun x δ1 h1 v F1 aQ H1 E1 S1 V1=>by
  obtain⟨b,rfl,h2⟩:=v8 V1 h1
  exact⟨b,rfl,k _ _ h2 _ _ _ E1 S1⟩⟩
theorem jj (ha:JT X a (de t)):JT X (.UnaryOp .Not a pos) (de (df t)):=(zb ha).weak fun σ H Q h0_ => el7 h0_ fun F ad δ K S q k =>⟨F,ad,δ,_,S,q,fun b δ1 h1 F1 aQ H1 E1 S1=>k _ _ h1 _ _ _ E1 S1⟩
theorem Pk:∀ σ H Q,de (j2 t u) σ H Q->oa (de t) (de u) σ H Q:=fun σ H Q h0_ => el7 h0_ fun F ad δ K S q k =>⟨F,ad,δ,_,S,q,fun b δ1 h1 F1 aQ H1 E1 S1=>by
 cases b with
 | true =>
  rw[Xp rfl] at h1 ⊢
  exact⟨F1,aQ,δ1,_,S1,h1,fun b δ2 h2 F2 cy H2 E2 S2=>k _ _ h2 _ _ _ (E1.trans E2) S2⟩
 | false =>
  rw[Xm Eu] at h1 ⊢
  exact k _ _ h1 _ _ _ E1 S1⟩
theorem Pl:∀ σ H Q,de (ni t u) σ H Q->xX (de t) (de u) σ H Q:=fun σ H Q h0_ => el7 h0_ fun F ad δ K S q k =>⟨F,ad,δ,_,S,q,fun b δ1 h1 F1 aQ H1 E1 S1=>by
 cases b with
 | false =>
  rw[Xm Eu] at h1 ⊢
  exact⟨F1,aQ,δ1,_,S1,h1,fun b δ2 h2 F2 cy H2 E2 S2=>k _ _ h2 _ _ _ (E1.trans E2) S2⟩
 | true =>
  rw[Xp rfl] at h1 ⊢
  exact k _ _ h1 _ _ _ E1 S1⟩
theorem JW.weak {e:Expr} {t t':TT} (h:JW X e t) (k:∀ σ H Q,t' σ H Q->t σ H Q):JW X e t':=⟨fun wh pins s σ H Q I q=>h.out wh pins s σ H Q I (k σ H Q q)⟩
theorem FE (ha:JT X a (de t)):JW X (.BoolOp .And [a] pos) (de t):=OK ha
theorem v9 (ha:JT X a (de t)):JW X (.BoolOp .Or [a] pos) (de t):=E7 ha
theorem FF {rest:List Expr} (ha:JT X a (de t)) (hb:JW X (.BoolOp .And (b :: rest) pos) (de u)):JW X (.BoolOp .And (a :: b :: rest) pos) (de (j2 t u)):=(OL ha hb).weak Pk
theorem tR {rest:List Expr} (ha:JT X a (de t)) (hb:JW X (.BoolOp .Or (b :: rest) pos) (de u)):JW X (.BoolOp .Or (a :: b :: rest) pos) (de (ni t u)):=(za ha hb).weak Pl
theorem lP {op} (ha:JE X a (tD f)):JE X (.BoolOp op [a] pos) (tD f):=OM ha
theorem lQ {rest:List Expr} (ha:JE X a (tD f)) (hb:JE X (.BoolOp .And (b :: rest) pos) (tD g)):JE X (.BoolOp .And (a :: b :: rest) pos) (tD (j3 f g)) :=
 (ON ha hb).weak fun σ H Q h0_ => el7 h0_ fun F ad δ K S q k =>⟨F,ad,δ,_,S,q,fun x δ1 h1 v F1 aQ H1 E1 S1 V1=>by
  obtain⟨b,rfl,h2⟩:=v8 V1 h1
  refine⟨b,rfl,?_⟩
  cases b with
  | true =>
   rw[Xp rfl] at h2 ⊢
   exact⟨F1,aQ,δ1,_,S1,h2,fun x δ2 h3 v F2 cy H2 E2 S2 V2=>k _ _ h3 _ _ _ _ (E1.trans E2) S2 V2⟩
  | false =>
   rw[Xm Eu] at h2 ⊢
   exact k _ _ h2 _ _ _ _ E1 S1 rfl⟩
theorem FG (ha:JE X a (tD f)):JE X (.UnaryOp .Not a pos) (tD (v7 f)) :=
 (OO ha).weak fun σ H Q h0_ => el7 h0_ fun F ad δ K S q k =>⟨F,ad,δ,_,S,q,fun x δ1 h1 v F1 aQ H1 E1 S1 V1=>by
  obtain⟨b,rfl,h2⟩:=v8 V1 h1
  exact⟨b,rfl,k _ _ h2 _ _ _ _ E1 S1 rfl⟩⟩
theorem Pn (hc:JT X c (de t)) (ha:JE X a (tD f)) (hb:JE X b (tD g)):JE X (.IfExp c a b pos) (tD (zw t f g)) :=
 (zc hc ha hb).weak fun σ H Q h0_ => el7 h0_ fun F ad δ K S q k =>⟨F,ad,δ,_,S,q,fun b δ1 h1 F1 aQ H1 E1 S1=>by
  cases b with
  | true =>
   rw[Xp rfl] at h1 ⊢
   exact⟨F1,aQ,δ1,_,S1,h1,fun x δ2 h3 v F2 cy H2 E2 S2 V2=>k _ _ h3 _ _ _ _ (E1.trans E2) S2 V2⟩
  | false =>
   rw[Xm Eu] at h1 ⊢
   exact⟨F1,aQ,δ1,_,S1,h1,fun x δ2 h3 v F2 cy H2 E2 S2 V2=>k _ _ h3 _ _ _ _ (E1.trans E2) S2 V2⟩⟩
end
structure KS where
 nx:ay->Prop
 rt:DV->ay->Prop
 bk:ay->Prop:=fun _=>False
 ct:ay->Prop:=fun _=>False
noncomputable abbrev WS:=KS->ay->Prop
noncomputable def Cn (F:Hp) (ad:List Addr) (mu:List (Option OV)) (H:Hp) (P:ay->Prop) (R:St->Hp->Prop):Prop:=∀ δ',P δ'->∀ F' az σ' H',Ext F ad mu H F' az δ'.mu H'->SR F' az δ' σ' H'->R σ' H'
class bM where
 ok:Nat->Int->Prop
 kp:List Addr->List (Option OV)->Hp->Prop
 st:∀ {F ad mu H F' az cE H'},Ext F ad mu H F' az cE H'->kp ad mu H->kp az cE H'
instance (priority:=low) Po:bM:=⟨fun _ _=>False,fun _ _ _=>True,fun _ _=>trivial⟩
section
variable [bM]
structure qK (F:Hp) (ad:List Addr) (mu:List (Option OV)) (H:Hp) (K:KS) (D:Ends):Prop where
 nx:Cn F ad mu H K.nx D.nx
 bk:Cn F ad mu H K.bk D.bk
 ct:Cn F ad mu H K.ct D.ct
 rt:∀ x δ',K.rt x δ'->∀ v F' az σ' H',Ext F ad mu H F' az δ'.mu H'->SR F' az δ' σ' H'->fM F' az x v->D.rt v H'
 kp:bM.kp ad mu H
theorem Cn.ext {F F' H H':Hp} {ad az:List Addr} {mu cE:List (Option OV)} {P:ay->Prop} {R:St->Hp->Prop} (c:Cn F ad mu H P R) (e:Ext F ad mu H F' az cE H'):Cn F' az cE H' P R:=fun δ' h _ _ _ _ E S=>c δ' h _ _ _ _ (e.trans E) S
theorem qK.ext {F F' H H':Hp} {ad az:List Addr} {mu cE:List (Option OV)} {K:KS} {D:Ends} (c:qK F ad mu H K D) (e:Ext F ad mu H F' az cE H'):qK F' az cE H' K D :=
 ⟨c.nx.ext e,c.bk.ext e,c.ct.ext e,fun x δ' h _ _ _ _ _ E S V=>c.rt x δ' h _ _ _ _ _ (e.trans E) S V,bM.st e c.kp⟩
noncomputable def cM (G:WS):TS:=fun D σ H=>∃ F ad δ K,SR F ad δ σ H/\G K δ /\ qK F ad δ.mu H K D
noncomputable def au (G G':WS):WS:=fun K δ => G { K with nx:=G' K } δ
noncomputable def dW:WS:=fun K δ => K.nx δ
noncomputable def aO (i:Nat) (f:WE):WS:=fun K δ => f δ fun x δ1=>K.nx ⟨δ1.sl.set i (some x),δ1.mu⟩
noncomputable def jE (f:WE):WS:=fun K δ => f δ fun _ δ1=>K.nx δ1
noncomputable def aN (f:WE):WS:=fun K δ => f δ fun x δ1=>K.rt x δ1
noncomputable def bx (t:WT) (G G':WS):WS:=fun K δ => t δ fun b δ1=>if b=true then G K δ1 else G' K δ1
section
variable {X:Cx} {e c:Expr} {st:Stmt} {rest:List Stmt} {f:WE} {t:WT} {G G':WS} {pos:Pos}
theorem eB:bZ X [] (cM dW):=iS.weak fun D σ H h0_ => el7 h0_ fun F ad δ K S q k =>k.nx _ q _ _ _ _ .refl S
theorem a7 (h:JS X st (cM G)):bZ X [st] (cM G):=oV h
theorem a8 (h:JS X st (cM G)) (r:bZ X rest (cM G')):bZ X (st :: rest) (cM (au G G')) :=
 (tF h r).weak fun D σ H h0_ => el7 h0_ fun F ad δ K S q k =>⟨F,ad,δ,_,S,q,⟨fun δ' h _ _ _ _ E S'=>⟨_,_,δ',K,S',h,k.ext E⟩,k.bk,k.ct,k.rt,k.kp⟩⟩
theorem Pp {i:Nat}:∀ D σ H,cM (aO i f) D σ H->bS (tD f) (fG i) D σ H:=fun D σ H h0_ => el7 h0_ fun F ad δ K S q k =>⟨F,ad,δ,_,S,q,fun x δ1 h1 v F1 aQ H1 E1 S1 V1=>k.nx _ h1 _ _ _ _ E1 (S1.set V1)⟩
theorem b9 {i:Nat} {x:Str} {pos':Pos} (hN:X.N.Nodup) (hi:X.N[i]? = some x) (hx:Loc X.env.scope x) (he:JE X e (tD f)) (hs:swapsWith e (some (.Name x pos')) pos.line X.env=pure false:=by rfl)
  (hf:X.fn x=true\/X.env.scope.names.lookup x=some .local:=by first | exact .inl rfl | exact .inr rfl | assumption):JS X (.Assign [.Name x pos'] e pos) (cM (aO i f)):=(vR hN hi hx he hs hf).weak Pp
theorem v_ (he:JE X e (tD f)) (hs:swapsWith e none pos.line X.env=pure false:=by rfl):JS X (.Expr e pos) (cM (jE f)) :=
 (E8 he hs).weak fun D σ H h0_ => el7 h0_ fun F ad δ K S q k =>⟨F,ad,δ,_,S,q,fun x δ1 h1 v F1 aQ H1 E1 S1 V1=>k.nx _ h1 _ _ _ _ E1 S1⟩
theorem bD (he:JE X e (tD f)):JS X (.Return (some e) pos) (cM (aN f)) :=
 (tG he).weak fun D σ H h0_ => el7 h0_ fun F ad δ K S q k =>⟨F,ad,δ,_,S,q,fun x δ1 h1 v F1 aQ H1 E1 S1 V1=>k.rt _ _ h1 _ _ _ _ _ E1 S1 V1⟩
theorem dX {a b:List Stmt} (hc:JT X c (de t)) (ha:bZ X a (cM G)) (hb:bZ X b (cM G')):JS X (.If c a b pos) (cM (bx t G G')) :=
 (E9 hc ha hb).weak fun D σ H h0_ => el7 h0_ fun F ad δ K S q k =>⟨F,ad,δ,_,S,q,fun b δ1 h1 F1 aQ H1 E1 S1=>by
  cases b with
  | true =>
   rw[Xp rfl] at h1 ⊢
   exact⟨F1,aQ,δ1,K,S1,h1,k.ext E1⟩
  | false =>
   rw[Xm Eu] at h1 ⊢
   exact⟨F1,aQ,δ1,K,S1,h1,k.ext E1⟩⟩
noncomputable def zx:WS:=fun _ _=>False
noncomputable abbrev WG:=DV->ay->(ay->Prop)->Prop
noncomputable def j4 (g:WG):TG:=fun v σ H Q=>∃ F ad δ x K,SR F ad δ σ H/\fM F ad x v/\g x δ K/\Cn F ad δ.mu H K Q
noncomputable abbrev o_:=List D->ay->(ay->Prop)->Prop
noncomputable def lR (g:o_):iM:=fun vs σ H Q=>∃ F ad δ ds K,SR F ad δ σ H/\ae F ds vs/\g ds δ K/\Cn F ad δ.mu H K Q
noncomputable def cf (i:Nat):WG:=fun x δ K=>K ⟨δ.sl.set i (some x),δ.mu⟩
noncomputable def qL:o_:=fun ds δ K=>match ds with
 | []=>K δ
 | _=>False
noncomputable def lS (g:WG) (g':o_):o_:=fun ds δ K=>match ds with
 | d :: r=>g (.p d) δ fun δ1=>g' r δ1 K
 | []=>False
theorem JG.weak {tg:Expr} {t t':TG} (h:JG X tg t) (k:∀ v σ H Q,t' v σ H Q->t v σ H Q):JG X tg t':=⟨fun pins s σ H v u Q I r q=>h.out pins s σ H v u Q I r (k v σ H Q q)⟩
theorem jA.weak {ts:List Expr} {t t':iM} (h:jA X ts t) (k:∀ v σ H Q,t' v σ H Q->t v σ H Q):jA X ts t':=⟨fun pins s σ H v u Q I r q=>h.out pins s σ H v u Q I r (k v σ H Q q)⟩
theorem dQ {i:Nat} {x:Str} (hN:X.N.Nodup) (hi:X.N[i]? = some x) (hx:Loc X.env.scope x) (hf:X.fn x=true\/X.env.scope.names.lookup x=some .local:=by first | exact .inl rfl | exact .inr rfl | assumption):JG X (.Name x pos) (j4 (cf i)) :=
 (zd hN hi hx hf).weak fun v σ H Q ⟨F,ad,δ,x,K,S,V,q,k⟩=>k _ q _ _ _ _ .refl (S.set V)
theorem zy:jA X [] (lR qL):=iT.weak fun vs σ H Q ⟨F,ad,δ,ds,K,S,V,q,k⟩=>by
 unfold qL at q
 split at q
 ·simp only[ae] at V
  exact⟨V,k _ q _ _ _ _ .refl S⟩
 ·exact q.elim
theorem qM {es:List Expr} {g:WG} {g':o_} (h1:JG X e (j4 g)) (h2:jA X es (lR g')) (hs:(assignEach (e :: es) X.env).map (·.2)=assign e X.env :: (assignEach es X.env).map (·.2):=by rfl):jA X (e :: es) (lR (lS g g')) :=
 (ze h1 h2 hs).weak fun vs σ H Q ⟨F,ad,δ,ds,K,S,V,q,k⟩=>by
  unfold lS at q
  split at q
  ·rename_i d r
   simp only[ae] at V
   obtain⟨v,r',e,i1,i2⟩:=V
   exact⟨v,r',e,F,ad,δ,.p d,_,S,i1,q,fun δ' h _ _ _ _ E S'=>⟨_,_,δ',r,K,S',i2.same E.same,h,k.ext E⟩⟩
  ·exact q.elim
noncomputable def tT (n:Nat) (g:o_):WG:=fun x δ K=>iy x δ fun d=>match d with
 | .tup ds=>ds.length=n/\g ds δ K
 | .lst ds=>ds.length=n/\g ds δ K
 | _=>False
theorem JG.or {tg:Expr} {t t':TG} (h:JG X tg t) (h':JG X tg t'):JG X tg (fun v σ H Q=>t v σ H Q\/t' v σ H Q):=⟨fun pins s σ H v u Q I r q=>q.elim (fun q=>h.out pins s σ H v u Q I r q) fun q=>h'.out pins s σ H v u Q I r q⟩
theorem zz {es:List Expr} {k:Nat} {g:o_} {n:Nat} (hc:X.calm=true) (h:jA X es (lR g)) (hn:(assignEach es X.env).length=n:=by rfl) (fH:(assignEach es X.env).findIdx? (·.1)=none:=by rfl):JG X (.Tuple es k pos) (j4 (tT n g)) :=
 ((E_ hc h hn fH).or (Pg hc h hn fH)).weak fun v σ H Q ⟨F,ad,δ,x,K,S,V,q,k⟩=>by
  obtain⟨d,q,rd⟩:=jg S V q
  split at q
  ·rename_i ds
   have wa:Is F (.tup ds) v:=rd
   simp only[Is] at wa
   obtain⟨a,vs,e,h1,h2⟩:=wa
   exact .inl ⟨a,vs,e,bC.of (S.sub _ _ h1),by rw[h2.length];exact q.1,F,ad,δ,ds,K,S,h2,q.2,k⟩
  ·rename_i ds
   obtain⟨a,vs,e,h1,h2⟩:=rd
   exact .inr ⟨a,vs,e,bc.of h1,by rw[h2.length];exact q.1,F,ad,δ,ds,K,S,h2,q.2,k⟩
  ·exact q.elim
noncomputable def pb (f:WE) (g:WG):WS:=fun K δ => f δ fun x δ1=>g x δ1 K.nx
theorem Pq {tg:Expr} {g:WG} (he:JE X e (tD f)) (hg:JG X tg (j4 g)) (hs:swapsWithSole [tg] e pos.line X.env=pure false:=by rfl) (hw:swappedStores [tg] e X.env=pure none:=by rfl)
  (h1:(assignEach [tg] X.env).map (·.2)=[assign tg X.env]:=by rfl):JS X (.Assign [tg] e pos) (cM (pb f g)) :=
 (qC he hg hs hw h1).weak fun D σ H h0_ => el7 h0_ fun F ad δ K S q k =>⟨F,ad,δ,_,S,q,fun x δ1 h1 v F1 aQ H1 E1 S1 V1=>⟨F1,aQ,δ1,x,K.nx,S1,V1,h1,k.nx.ext E1⟩⟩
end
end
structure pd where
 items:List D
 bA:ay->Prop
noncomputable abbrev WI:=ay->(pd->ay->Prop)->Prop
noncomputable def pe (F:Hp) (ad:List Addr) (it:pd) (J:It):Prop:=∀ (F':Hp) (az:List Addr) (δ : ay) (σ : St) (H:Hp),av F F'->(∀ (k:Nat) (a:Addr),ad[k]? = some a->az[k]? = some a)->SR F' az δ σ H->it.bA δ →
 J.stop it.items.length H/\∀ (i:Nat) (d:D),it.items[i]? = some d->J.go i H/\∀ x H',J.qu i H x H'->av H H'/\Is (Nw F' H H') d x
noncomputable def kX (w:WI):TI:=fun σ H R=>∃ F ad δ K,SR F ad δ σ H/\w δ K/\∀ it δ',K it δ'->∀ J F' az H',Ext F ad δ.mu H F' az δ'.mu H'->SR F' az δ' σ H'->pe F' az it J->R J H'
noncomputable def wb (n:Nat):Option DV->Option DV->Option DV
 | none,_=>none
 | some _,some (.o k)=>if k < n then some (.o k) else none
 | some _,s=>s
noncomputable def fg (n:Nat):List (Option DV)->List (Option DV)->List (Option DV)
 | s0 :: r0,s :: r=>wb n s0 s :: fg n r0 r
 | [],_ :: r=>none :: fg n [] r
 | _,[]=>[]
noncomputable def ay.trim (δ0 δ : ay):ay:=⟨fg δ0.mu.length δ0.sl δ.sl,δ.mu.take δ0.mu.length⟩
theorem zA {n:Nat}:∀ (l0 l:List (Option DV)),(fg n l0 l).length=l.length
 | _ :: r0,_ :: r=>by rw[fg,Ex,Ex,zA r0 r]
 | [],_ :: r=>by rw[fg,Ex,Ex,zA [] r]
 | [],[]=>rfl
 | _ :: _,[]=>rfl
theorem zB {n:Nat}:∀ {l0 l:List (Option DV)} {i:Nat} {x:DV},(fg n l0 l)[i]? = some (some x)->l[i]? = some (some x)/\∀ k,x = .o k->k < n
 | s0 :: r0,s :: r,0,x,h=>by
  have h:wb n s0 s=some x:=by simpa [fg] using h
  match s0,s,h with
  | none,_,h=>cases h
  | some _,none,h=>cases h
  | some _,some (.p d),h=>cases (show some (DV.p d)=some x from h);exact⟨rfl,fun k e=>nomatch e⟩
  | some _,some (.o k),h =>
   have h:(if k < n then some (DV.o k) else none)=some x:=h
   by_cases c:k < n
   ·rw[Xp c] at h;cases h;exact⟨rfl,fun k' e=>by cases e;exact c⟩
   ·rw[Xm c] at h;cases h
 | s0 :: r0,s :: r,i + 1,x,h=>by
  have h:(fg n r0 r)[i]? = some (some x):=by simpa [fg] using h
  simpa using zB h
 | [],s :: r,0,x,h=>by simp[fg] at h
 | [],s :: r,i + 1,x,h=>by
  have h:(fg n [] r)[i]? = some (some x):=by simpa [fg] using h
  simpa using zB h
 | [],[],i,x,h=>by simp[fg] at h
 | _ :: _,[],i,x,h=>by simp[fg] at h
section
variable {F F' H H':Hp} {ad az:List Addr} {δ δ' δ0:ay} {σ σ' τ : St} {mu cE:List (Option OV)} {l:Addr} {o:HO}
theorem Lv.take {n:Nat} {a:Addr} (h:Lv (ad.take n) (mu.take n) a):Lv ad mu a:=by
 obtain⟨k,ov,e1,e2⟩:=h
 have hk:k < n:=by
  have:=(oP.mp e1).1
  rw[Yp] at this;omega
 rw[Yw hk] at e1 e2
 exact⟨k,ov,e1,e2⟩
theorem SR.trim (S:SR F ad δ σ H):SR F (ad.take δ0.mu.length) (δ0.trim δ) σ H:=by
 have tk:∀ {k:Nat} {a:Addr},(ad.take δ0.mu.length)[k]? = some a->k < δ0.mu.length/\ad[k]? = some a:=fun {k a} e=>by
  have hk:k < δ0.mu.length:=by
   have:=(oP.mp e).1
   rw[Yp] at this;omega
  rw[Yw hk] at e;exact⟨hk,e⟩
 have tm:∀ {k:Nat} {w:Option OV},(δ.mu.take δ0.mu.length)[k]? = some w->k < δ0.mu.length /\ δ.mu[k]? = some w:=fun {k w} e=>by
  have hk:k < δ0.mu.length:=by
   have:=(oP.mp e).1
   rw[Yp] at this;omega
  rw[Yw hk] at e;exact⟨hk,e⟩
 refine⟨S.sub,fun a x=>S.off a x.take,?_,fun k l a w w' e1 e2 e3 e4=>S.inj k l a w w' (tk e1).2 (tk e2).2 (tm e3).2 (tm e4).2,fun k ov e => ?_,fun i x e => ?_,?_,S.tab,S.nt⟩
 ·show (ad.take _).length=(δ.mu.take _).length
  rw[Yp,Yp,S.cj]
 ·obtain⟨a,o,e1,e2,h⟩:=S.mu k ov (tm e).2
  exact⟨a,o,by rw[Yw (tm e).1];exact e1,e2,h⟩
 ·obtain⟨e1,e2⟩:=zB e
  obtain⟨v,h1,h2⟩:=S.sl i x e1
  refine⟨v,h1,?_⟩
  cases x with
  | p d=>exact h2
  | o k =>
   obtain⟨a,h3,h4⟩:=h2
   exact⟨a,by rw[Yw (e2 k rfl)];exact h3,h4⟩
 ·show σ.length=(fg _ _ _).length
  rw[zA];exact S.len
theorem Ext.trim {n:Nat} (e:Ext F ad mu H F' az cE H') (hn:ad.length=n):Ext F ad mu H F' (az.take n) (cE.take n) H' :=
 ⟨e.same,e.new,e.keep,fun k a h=>by rw[Yw (by rw[<-hn];exact (oP.mp h).1)];exact e.pre k a h,fun a x=>e.bV a x.take,e.iV⟩
theorem SR.other (S:SR F ad δ σ H) (hf:F l=none) (hl:¬ Lv ad δ.mu l) (tk:aE.ok (upd H l o)):SR F ad δ σ (upd H l o):=by
 refine⟨fun a u e => ?_,S.off,S.cj,S.inj,fun k ov e => ?_,S.sl,S.len,tk,S.nt⟩
 ·rw[aA (bK e hf)];exact S.sub a u e
 ·obtain⟨a,u,e1,e2,h⟩:=S.mu k ov e
  exact⟨a,u,e1,by rw[aA fun z=>hl (by subst z;exact⟨k,ov,e1,e⟩)];exact e2,h⟩
theorem Ext.other (e:Ext F ad mu H F' az cE H') (hl:H l=none):Ext F ad mu H F' az cE (upd H' l o) :=
 ⟨e.same,e.new,fun a u h n t=>by rw[aA (bK h hl)];exact e.keep a u h n t,e.pre,e.bV,fun a u h=>by rw[aA (bK h hl)];exact e.iV a u h⟩
theorem SR.adopt (S:SR F ad δ σ H) (hf:F l=none) (ho:H l=some o) (hl:¬ Lv ad δ.mu l) (no:∀ ps,o ≠ .tbl ps:=by intro _ z;cases z):SR (upd F l o) ad δ σ H:=by
 have sm:av F (upd F l o):=cZ hf
 refine⟨fun a u e => ?_,fun a x => ?_,S.cj,S.inj,fun k ov e => ?_,fun i x e => ?_,S.len,S.tab,fun a ha=>by
  obtain⟨ps,q⟩:=aE.tb S.tab ha
  rw[aA fun z=>by subst z;rw[ho] at q;exact no ps (Yi q)]
  exact S.nt a ha⟩
 ·by_cases c:a=l
  ·subst c;rw[a9] at e;cases e;exact ho
  ·rw[aA c] at e;exact S.sub a u e
 ·rw[aA fun z=>hl (by subst z;exact x)];exact S.off a x
 ·obtain⟨a,u,e1,e2,h⟩:=S.mu k ov e
  exact⟨a,u,e1,e2,h.same sm⟩
 ·obtain⟨v,e1,h⟩:=S.sl i x e
  refine⟨v,e1,?_⟩
  cases x with
  | p d=>exact Is.same sm h
  | o k=>exact h
theorem Ext.adopt (e:Ext F ad mu H F' az cE H') (hl:H l=none) (hf:F' l=none):Ext F ad mu H (upd F' l o) az cE H' :=
 ⟨e.same.trans (cZ hf),fun a u h=>by
  by_cases c:a=l
  ·subst c;exact .inr (.inl hl)
  ·rw[aA c] at h;exact e.new a u h,e.keep,e.pre,e.bV,e.iV⟩
theorem SR.dB {ov:OV} (S:SR F ad δ σ H) (hf:F l=none) (ho:H l=some o) (hl:¬ Lv ad δ.mu l) (h:ff F ov o):SR F (ad ++ [l]) ⟨δ.sl,δ.mu ++ [some ov]⟩ σ H:=by
 have old:∀ {k:Nat} {w:OV},(δ.mu ++ [some ov])[k]? = some (some w)->(k < δ.mu.length /\ δ.mu[k]? = some (some w))\/(k = δ.mu.length/\w=ov):=fun {k w} e=>by
  by_cases c:k < δ.mu.length
  ·rw[Xn c] at e;exact .inl ⟨c,e⟩
  ·have hl:=(oP.mp e).1
   rw[Ew,Yk] at hl
   have ek:k = δ.mu.length:=by omega
   subst ek
   rw[Xr (sG _),YG] at e
   exact .inr ⟨rfl,by simpa using e.symm⟩
 have pre:∀ {k:Nat},k < δ.mu.length->(ad ++ [l])[k]? = ad[k]? := fun {k} c=>Xn (by rw[S.cj];exact c)
 have last:(ad ++ [l])[δ.mu.length]? = some l:=by rw[<-S.cj,Xr (sG _),YG];rfl
 refine⟨S.sub,fun a x => ?_,by rw[Ew,Ew,S.cj];rfl,fun k k' a w w' e1 e2 e3 e4 => ?_,fun k w e => ?_,fun i x e => ?_,S.len,S.tab,S.nt⟩
 ·obtain⟨k,w,e1,e2⟩:=x
  rcases old e2 with⟨c,e3⟩ | ⟨c,e3⟩
  ·rw[pre c] at e1;exact S.off a ⟨k,w,e1,e3⟩
  ·subst c;rw[last] at e1;cases e1;exact hf
 ·rcases old e3 with⟨c,q⟩ | ⟨c,q⟩
  ·rw[pre c] at e1
   rcases old e4 with⟨c',q'⟩ | ⟨c',q'⟩
   ·rw[pre c'] at e2;exact S.inj k k' a w w' e1 e2 q q'
   ·subst c';rw[last] at e2;cases e2;exact absurd ⟨k,w,e1,q⟩ hl
  ·subst c;rw[last] at e1;cases e1
   rcases old e4 with⟨c',q'⟩ | ⟨c',q'⟩
   ·rw[pre c'] at e2;exact absurd ⟨k',w',e2,q'⟩ hl
   ·exact c'.symm
 ·rcases old e with⟨c,q⟩ | ⟨c,q⟩
  ·obtain⟨a,u,e1,e2,h'⟩:=S.mu k w q
   exact⟨a,u,by rw[pre c];exact e1,e2,h'⟩
  ·subst c;subst q;exact⟨l,o,last,ho,h⟩
 ·obtain⟨v,e1,h'⟩:=S.sl i x e
  refine⟨v,e1,?_⟩
  cases x with
  | p d=>exact h'
  | o k =>
   obtain⟨a,e2,e3⟩:=h'
   exact⟨a,by rw[Xn (oP.mp e2).1];exact e2,e3⟩
theorem Ext.dB {ov:OV} (e:Ext F ad mu H F' az cE H') (hl:H l=none) (hm:az.length=cE.length):Ext F ad mu H F' (az ++ [l]) (cE ++ [some ov]) H' :=
 ⟨e.same,e.new,e.keep,fun k a h=>by rw[Xn (oP.mp (e.pre k a h)).1];exact e.pre k a h,fun a x=>by
  obtain⟨k,w,e1,e2⟩:=x
  by_cases c:k < cE.length
  ·rw[Xn c] at e2
   rw[Xn (by rw[hm];exact c)] at e1
   exact e.bV a ⟨k,w,e1,e2⟩
  ·have gu:=(oP.mp e2).1
   rw[Ew,Yk] at gu
   have ek:k=az.length:=by rw[hm];omega
   subst ek
   rw[Xr (sG _),YG] at e1
   have:l=a:=by simpa using e1
   subst this;exact .inr hl,e.iV⟩
theorem SR.back {sl:List (Option DV)} (S0:SR F ad δ σ H) (e:Ext F ad δ.mu H F' az cE H') (S:SR F' az ⟨sl,cE⟩ τ H'):SR F' az ⟨δ.sl,cE⟩ σ H' :=
 ⟨S.sub,S.off,S.cj,S.inj,S.mu,fun i x q=>let ⟨v,h1,h2⟩:=S0.sl i x q; ⟨v,h1,h2.ext e⟩,S0.len,S.tab,S.nt⟩
noncomputable def cR (cp:List (Option Nat)) (sl:List (Option DV)):List (Option DV):=cp.map fun o=>match o with
 | some i=>(sl[i]?).join
 | none=>none
theorem SR.pf {cp:List (Option Nat)} (S:SR F ad δ σ H):SR F ad ⟨cR cp δ.sl,δ.mu⟩ (gY cp σ) H:=by
 refine⟨S.sub,S.off,S.cj,S.inj,S.mu,fun j x e => ?_,by unfold gY cR;rw[qy,qy],S.tab,S.nt⟩
 unfold cR at e
 rw[Ni] at e
 obtain⟨o,e1,e2⟩:=Xo.mp e
 match o,e2 with
 | none,e2=>cases e2
 | some i,e2 =>
  have e2:(δ.sl[i]?).join=some x:=e2
  cases q : δ.sl[i]? with
  | none=>rw[q] at e2;cases e2
  | some z =>
   rw[q] at e2
   have e3:z=some x:=e2
   subst e3
   obtain⟨v,h1,h2⟩:=S.sl i x q
   refine⟨v,?_,h2⟩
   unfold gY
   rw[Ni,e1]
   show some ((σ[i]?).join)=some (some v)
   rw[h1];rfl
end
noncomputable def j5 (δ0:ay) (bA:ay->Prop) (g:WG) (b:WS) (K:KS):List D->ay->Prop
 | [],δ => bA δ /\ K.nx δ
 | d :: r,δ => bA δ /\ g (.p d) δ fun δ1=>b { nx:=fun δ2=>j5 δ0 bA g b K r (δ0.trim δ2),ct:=fun δ2=>j5 δ0 bA g b K r (δ0.trim δ2),bk:=K.nx,rt:=K.rt } δ1
noncomputable def eC (w:WI) (g:WG) (b:WS):WS:=fun K δ => w δ fun it δ1=>j5 δ1 it.bA g b K it.items δ1
noncomputable def iW (δ0:ay) (bA:ay->Prop) (g:WG) (t:WT) (f:WE) (K:List D->ay->Prop):List D->List D->ay->Prop
 | [],acc,δ => bA δ /\ K acc δ
 | d :: r,acc,δ => bA δ /\ g (.p d) δ fun δ1=>t δ1 fun b δ2=>if b=true then f δ2 fun x δ3=>nh x δ3 fun e δ4=>acc.length < 1000/\iW δ0 bA g t f K r (acc ++ [e]) (δ0.trim δ4) else iW δ0 bA g t f K r acc (δ0.trim δ2)
noncomputable def iA (w:WI) (cp:List (Option Nat)) (g:WG) (t:WT) (f:WE):WE:=fun δ K=>w δ fun it δ1=>iW ⟨cR cp δ1.sl,δ1.mu⟩ it.bA g t f (fun acc δ'=>K (.p (.lst acc)) ⟨δ1.sl,δ'.mu⟩) it.items [] ⟨cR cp δ1.sl,δ1.mu⟩
noncomputable def ph (w:WI) (cp:List (Option Nat)) (g:WG) (t:WT) (f:WE):WE:=fun δ K=>w δ fun it δ1=>iW ⟨cR cp δ1.sl,δ1.mu⟩ it.bA g t f (fun acc δ'=>K (.o δ'.mu.length) ⟨δ1.sl,δ'.mu ++ [some (.lst acc)]⟩) it.items [] ⟨cR cp δ1.sl,δ1.mu⟩
section
variable {X:Cx} {tg iter elt:Expr} {body:List Stmt} {w:WI} {g:WG} {b:WS} {pos:Pos} {ifs:List Expr} {t:WT} {f:WE} {scope:Scope}
theorem lT [bM] (hp:PassesOwn (model X.prog X.w) X.A X.env X.xe) (hc:X.calm=true) (hi:JI X tg iter (kX w)) (hg:JG X tg (j4 g)) (hb:bZ X body (cM b)) (hs:∀ x,foldedSetIterable iter X.env x=pure x:=by intro _;rfl) :
  JS X (.For tg iter body [] pos) (cM (eC w g b)):=(Fb hp hc hi hg hb hs).weak fun D σ H h0_ => el7 h0_ fun F ad δ K S q k =>by
 refine⟨F,ad,δ,_,S,q,fun it δ1 h1 J F1 aQ H1 E1 S1 I1 => ?_⟩
 have k1:=k.ext E1
 refine⟨fun i m σ' H'=>∃ F' az δ',i + m=it.items.length/\Ext F1 aQ δ1.mu H1 F' az δ'.mu H'/\SR F' az δ' σ' H'/\j5 δ1 it.bA g b K (it.items.drop i) δ',⟨it.items.length,F1,aQ,δ1,by omega,.refl,S1,h1⟩,?_⟩
 rintro i m σ' H' ⟨F',az,δ',hm,E',S',h⟩
 by_cases cA:i < it.items.length
 ·rw[YI cA] at h
  obtain⟨ck,h⟩:=h
  obtain⟨go,yl⟩:=(I1 F' az δ' σ' H' E'.same E'.pre S' ck).2 i _ (oO cA)
  refine .inr ⟨go,fun σ2 H2=>∃ F2 cy δ2,Ext F1 aQ δ1.mu H1 F2 cy δ2.mu H2/\SR F2 cy δ2 σ2 H2/\j5 δ1 it.bA g b K (it.items.drop (i + 1)) δ2,fun σ2 H2 ⟨F2,cy,δ2,e1,e2,e3⟩=>⟨m - 1,by omega,F2,cy,δ2,by omega,e1,e2,e3⟩,fun x H2 y => ?_⟩
  obtain⟨sm,is⟩:=yl x H2 y
  have E2:=E'.trans (Ext.al S' sm)
  refine⟨_,az,δ',.p _,_,S'.al sm,is,h,fun δ3 h3 F3 tU σ3 H3 E3 S3 => ?_⟩
  have tV:=E2.trans E3
  refine⟨F3,tU,δ3,_,S3,h3,⟨fun δ4 h4 F4 wc σ4 H4 E4 S4=>⟨F4,_,_,(tV.trans E4).trim S1.cj,S4.trim,h4⟩,k1.nx.ext tV,fun δ4 h4 F4 wc σ4 H4 E4 S4=>⟨F4,_,_,(tV.trans E4).trim S1.cj,S4.trim,h4⟩,(k1.ext tV).rt,(k1.ext tV).kp⟩⟩
 ·have ei:i=it.items.length:=by omega
  subst ei
  rw[q0s (sG _)] at h
  obtain⟨ck,h⟩:=h
  exact .inl ⟨(I1 F' az δ' σ' H' E'.same E'.pre S' ck).1,k1.nx _ h _ _ _ _ E' S'⟩
noncomputable def gM:WT:=fun δ K=>K true δ
theorem JF.weak {ifs:List Expr} {t t':TT} (h:JF X ifs t) (k:∀ σ H Q,t' σ H Q->t σ H Q):JF X ifs t':=⟨fun pins s σ H Q I q=>h.out pins s σ H Q I (k σ H Q q)⟩
theorem qN:JF X [] (de gM):=oY.weak fun σ H Q h0_ => el7 h0_ fun F ad δ K S q k =>k _ _ q _ _ _ .refl S
theorem lU {c:Expr} (h:JT X c (de t)):JF X [c] (de t):=OX h
theorem FH {J:It} {l:Addr} {F1:Hp} {aQ:List Addr} {δ1:ay} {σ : St} {H1:Hp} {it:pd} {cp:List (Option Nat)} {Q:VK} {K:List D->ay->Prop} (S1:SR F1 aQ δ1 σ H1) (I1:pe F1 aQ it J) (hl:H1 l=none)
  (h:iW ⟨cR cp δ1.sl,δ1.mu⟩ it.bA g t f K it.items [] ⟨cR cp δ1.sl,δ1.mu⟩)
  (fin:∀ acc δ' F' az τ H' ys,K acc δ'->Ext F1 aQ δ1.mu H1 F' az δ'.mu H'->SR F' az δ' τ H'->H' l=some (.lst ys)->F' l=none->¬ Lv az δ'.mu l->ae F' acc ys->Q (.ref l) H') :
  Ez J (j4 g) (de t) (tD f) l (gY cp σ) (upd H1 l (.lst [])) Q:=by
 have f1:F1 l=none:=by
  cases q:F1 l with
  | none=>rfl
  | some u=>rw[S1.sub l u q] at hl;cases hl
 have nl:∀ {ad mu},(∀ a,Lv ad mu a->Lv aQ δ1.mu a\/H1 a=none)->True:=fun _=>trivial
 have l1:¬ Lv aQ δ1.mu l:=fun ⟨k,ov,e1,e2⟩=>by
  obtain⟨a,o,e3,e4,_⟩:=S1.mu k ov e2
  rw[e1] at e3;cases e3
  rw[hl] at e4;cases e4
 have S0:SR F1 aQ ⟨cR cp δ1.sl,δ1.mu⟩ (gY cp σ) (upd H1 l (.lst [])):=S1.pf.other f1 l1 (aE.same S1.tab (cZ hl))
 refine⟨fun i m τ H'=>∃ F' az δ' acc ys,i + m=it.items.length/\Ext F1 aQ δ1.mu H1 F' az δ'.mu H'/\SR F' az δ' τ H'/\H' l=some (.lst ys)/\F' l=none/\¬ Lv az δ'.mu l/\ae F' acc ys/\iW ⟨cR cp δ1.sl,δ1.mu⟩ it.bA g t f K (it.items.drop i) acc δ',⟨it.items.length,F1,aQ,_,[],[],by omega,Ext.refl.other hl,S0,a9,f1,l1,.nil,h⟩,?_⟩
 rintro i m τ H' ⟨F',az,δ',acc,ys,hm,E',S',gu,lV,nq,ia,h⟩
 by_cases cA:i < it.items.length
 ·rw[YI cA] at h
  obtain⟨ck,h⟩:=h
  obtain⟨go,yl⟩:=(I1 F' az δ' τ H' E'.same E'.pre S' ck).2 i _ (oO cA)
  have step:∀ {F2:Hp} {cy:List Addr} {zC:List (Option OV)} {H2:Hp},Ext F' az δ'.mu H' F2 cy zC H2->H2 l=some (.lst ys)/\F2 l=none/\¬ Lv cy zC l/\ae F2 acc ys:=fun {F2 cy zC H2} e=>by
   refine⟨e.keep _ _ gu nq (fun z=>by obtain⟨ps,q⟩:=aE.tb S1.tab z;rw[hl] at q;cases q),?_,fun z => ?_,ia.same e.same⟩
   ·cases q:F2 l with
    | none=>rfl
    | some u =>
     rcases e.new l u q with z | z | z
     ·rw[lV] at z;cases z
     ·rw[gu] at z;cases z
     ·exact absurd z nq
   ·rcases e.bV l z with z | z
    ·exact nq z
    ·rw[gu] at z;cases z
  refine .inr ⟨go,fun τ2 H2=>∃ F2 cy δ2 lW wd,Ext F1 aQ δ1.mu H1 F2 cy δ2.mu H2/\SR F2 cy δ2 τ2 H2/\H2 l=some (.lst wd)/\F2 l=none/\¬ Lv cy δ2.mu l/\ae F2 lW wd/\iW ⟨cR cp δ1.sl,δ1.mu⟩ it.bA g t f K (it.items.drop (i + 1)) lW δ2,
   fun τ2 H2 ⟨F2,cy,δ2,lW,wd,r⟩=>⟨m - 1,by omega,F2,cy,δ2,lW,wd,by omega,r⟩,fun x H2 y => ?_⟩
  obtain⟨sm,is⟩:=yl x H2 y
  have X2:=Ext.al S' sm
  refine⟨_,az,δ',.p _,_,S'.al sm,is,h,fun δ3 h3 F3 tU σ3 H3 X3 S3 => ?_⟩
  refine⟨F3,tU,δ3,_,S3,h3,fun bb δ4 h4 F4 wc H4 X4 S4 => ?_⟩
  have zD:=(X2.trans X3).trans X4
  cases bb with
  | false =>
   dsimp only at h4 ⊢
   rw[Xm Eu] at h4 ⊢
   obtain⟨a1,a2,a3,a4⟩:=step zD
   exact⟨F4,_,_,acc,ys,(E'.trans zD).trim S1.cj,S4.trim (δ0:=⟨cR cp δ1.sl,δ1.mu⟩),a1,a2,fun z=>a3 z.take,a4,h4⟩
  | true =>
   dsimp only at h4 ⊢
   rw[Xp rfl] at h4 ⊢
   refine⟨F4,wc,δ4,_,S4,h4,fun y δ5 h5 v F5 Xy H5 X5 S5 V5 => ?_⟩
   obtain⟨e,δ6,F6,⟨hlen,h6⟩,X6,S6,i6⟩:=v3 S5 V5 h5
   have FJ:=(zD.trans X5).trans X6
   obtain⟨a1,a2,a3,a4⟩:=step FJ
   refine⟨ys,a1,qz (by rw[a4.length];omega),F6,_,_,acc ++ [e],ys ++ [v],?_,(S6.other a2 a3 (aE.put S6.tab a1 (.inl ⟨_,rfl⟩))).trim (δ0:=⟨cR cp δ1.sl,δ1.mu⟩),a9,a2,fun z=>a3 z.take,a4.snoc i6,h6⟩
   exact ((E'.trans FJ).other hl).trim S1.cj
 ·have ei:i=it.items.length:=by omega
  subst ei
  rw[q0s (sG _)] at h
  obtain⟨ck,h⟩:=h
  exact .inl ⟨(I1 F' az δ' τ H' E'.same E'.pre S' ck).1,fin _ _ _ _ _ _ _ h E' S' gu lV nq ia⟩
theorem FK {cp:List (Option Nat)}:∀ σ H Q,tD (iA w cp g t f) σ H Q->oS (kX w) cp (fun _=>j4 g) (fun _=>de t) (fun _=>tD f) σ H Q:=fun σ H Q h0_ => el7 h0_ fun F ad δ K S q k =>by
 refine⟨F,ad,δ,_,S,q,fun it δ1 h1 J F1 aQ H1 E1 S1 I1=>fun d l hl => ?_⟩
 refine FH S1 I1 hl h1 fun acc δ' F' az τ H' ys hk E' S' gu lV nq ia => ?_
 have sm:av F' (upd F' l (.lst ys)):=cZ lV
 refine k _ _ hk _ _ _ _ (E1.trans (E'.adopt hl lV)) (SR.back (sl := δ'.sl) S1 (E'.adopt hl lV) (S'.adopt lV gu nq)) ?_
 show Is _ (.lst acc) _
 simp only[Is]
 exact⟨l,ys,rfl,a9,ia.same sm⟩
theorem Pr {cp:List (Option Nat)}:∀ σ H Q,tD (ph w cp g t f) σ H Q->oS (kX w) cp (fun _=>j4 g) (fun _=>de t) (fun _=>tD f) σ H Q:=fun σ H Q h0_ => el7 h0_ fun F ad δ K S q k =>by
 refine⟨F,ad,δ,_,S,q,fun it δ1 h1 J F1 aQ H1 E1 S1 I1=>fun d l hl => ?_⟩
 refine FH S1 I1 hl h1 fun acc δ' F' az τ H' ys hk E' S' gu lV nq ia => ?_
 have S2:=S'.dB (ov := .lst acc) lV gu nq ⟨ys,rfl,ia⟩
 have E2:=E'.dB (ov := .lst acc) hl S'.cj
 refine k _ _ hk _ _ _ _ (E1.trans E2) (SR.back (sl := δ'.sl) S1 E2 S2) ⟨l,?_,rfl⟩
 rw[<-S'.cj,Xr (sG _),YG];rfl
theorem kY (cp:List (Option Nat)) (Nb:List Str) (hc:X.calm=true) (hi:JI X tg iter (kX w)) (hg:∀ d,JG (cg X scope Nb d) tg (j4 g)) (hf:∀ d,JF (cg X scope Nb d) ifs (de t)) (he:∀ d,JE (cg X scope Nb d) elt (tD f))
  (hk:scope.kind = .function:=by rfl) (ho:kQ X.N X.env.scope scope Nb cp=true:=by first | rfl | kernel_rfl) (hs:∀ x,foldedSetIterable iter X.env x=pure x:=by intro _;rfl) :
  JE X (.ListComp elt [⟨tg,iter,ifs,0⟩] scope pos) (tD (iA w cp g t f)):=(Fc cp Nb hc hi hg hf he hk ho hs).weak FK
theorem we (cp:List (Option Nat)) (Nb:List Str) (hc:X.calm=true) (hi:JI X tg iter (kX w)) (hg:∀ d,JG (cg X scope Nb d) tg (j4 g)) (hf:∀ d,JF (cg X scope Nb d) ifs (de t)) (he:∀ d,JE (cg X scope Nb d) elt (tD f))
  (hk:scope.kind = .function:=by rfl) (ho:kQ X.N X.env.scope scope Nb cp=true:=by first | rfl | kernel_rfl) (hs:∀ x,foldedSetIterable iter X.env x=pure x:=by intro _;rfl) :
  JE X (.ListComp elt [⟨tg,iter,ifs,0⟩] scope pos) (tD (ph w cp g t f)):=(Fc cp Nb hc hi hg hf he hk ho hs).weak Pr
theorem Pt [bM] (cp:List (Option Nat)) (Nb:List Str) {i:Nat} {x:Str} {pos' gG:Pos} (hN:X.N.Nodup) (hi:X.N[i]? = some x) (hx:Loc X.env.scope x) (hc:X.calm=true) (hit:JI X tg iter (kX w)) (hg:∀ d,JG (cg X scope Nb d) tg (j4 g)) (hf:∀ d,JF (cg X scope Nb d) ifs (de t)) (he:∀ d,JE (cg X scope Nb d) elt (tD f))
  (hk:scope.kind = .function:=by rfl) (ho:kQ X.N X.env.scope scope Nb cp=true:=by first | rfl | kernel_rfl) (hs:∀ x,foldedSetIterable iter X.env x=pure x:=by intro _;rfl)
  (sS:swapsWith (.ListComp elt [⟨tg,iter,ifs,0⟩] scope pos) (some (.Name x pos')) gG.line X.env=pure true:=by rfl)
  (i7:X.fn x=true\/X.env.scope.names.lookup x=some .local:=by first | exact .inl rfl | exact .inr rfl | assumption) :
  JS X (.Assign [.Name x pos'] (.ListComp elt [⟨tg,iter,ifs,0⟩] scope pos) gG) (cM (aO i (iA w cp g t f))) :=
 (OY cp Nb hN hi hx hc hit hg hf he hk ho hs sS i7).weak fun D σ H h0_ => el7 h0_ fun F ad δ K S q k =>FK σ H _ ⟨F,ad,δ,_,S,q,fun x δ1 h1 v F1 aQ H1 E1 S1 V1=>k.nx _ h1 _ _ _ _ E1 (S1.set V1)⟩
end
inductive RV where
 | p (d:D) | n (ds:List D) | a (j:Nat)
noncomputable abbrev GD:=List DV->List OV->(RV->List OV->Prop)->Prop
structure zE (F:Hp) (ad:List Addr) (H:Hp) (r:RV) (ows:List OV) (v:V) (F' H':Hp):Prop where
 sub:av F' H'
 same:av F F'
 new:∀ a o,F' a=some o->F a=some o\/H a=none
 keep:∀ a o,H a=some o->a∉ad->a∉aE.ad->H' a=some o
 tab:aE.ok H'
 nt:∀ a∈aE.ad,F' a=none
 len:ows.length=ad.length
 own:∀ (j:Nat) (ow:OV),ows[j]? = some ow->∃ a o,ad[j]? = some a/\H' a=some o/\ff F' ow o
 off:∀ a∈ad,F' a=none
 res:match r with
  | .p d=>Is F' d v
  | .n ds=>∃ a vs,v = .ref a/\H a=none/\H' a=some (.lst vs)/\F' a=none/\ae F' ds vs
  | .a j=>∃ a,ad[j]? = some a/\v = .ref a
noncomputable def kZ (G:GD) (n:Nat):Sp:=fun vs H Q _=>vs.length=n/\∃ F ad ys ovs K,SR F ad ⟨ys.map some,ovs.map some⟩ (vs.map some) H/\G ys ovs K/\∀ r ows,K r ows->∀ v F' H',zE F ad H r ows v F' H'->Q v H'
noncomputable def gb (n:Nat) (K:RV->List OV->Prop) (x:DV) (δ : ay):Prop:=∃ ows,δ.mu.take n=ows.map some/\ows.length=n/\match x with
 | .p d=>K (.p d) ows
 | .o k=>if k < n then K (.a k) ows else match δ.mu[k]? with
  | some (some (.lst ds))=>K (.n ds) ows\/K (.p (.lst ds)) ows
  | _=>False
noncomputable def bP (n:Nat) (K:RV->List OV->Prop):KS where
 nx:=gb n K (.p .non)
 rt:=gb n K
section
variable {F F' H H':Hp} {ad az:List Addr} {σ σ':St}
theorem FL {α : Type} {l:List α} {i:Nat} {x : α} (h:(l.map some)[i]? = some (some x)):l[i]? = some x:=by
 rw[Ni] at h
 obtain⟨y,e,q⟩:=Xo.mp h
 cases q;exact e
theorem Pu {α : Type} {l:List α} {i:Nat} {x : α} (h:l[i]? = some x):(l.map some)[i]? = some (some x):=by
 rw[Ni,h];rfl
theorem SR.start {ys:List DV} {mu:List (Option OV)} {vs:List V} {N:List Str} (S:SR F ad ⟨ys.map some,mu⟩ (vs.map some) H):SR F ad ⟨ys.map some ++ List.replicate (N.length - vs.length) none,mu⟩ (start N vs) H:=by
 have hl:vs.length=ys.length:=by
  have:=S.len
  rw[qy] at this
  show vs.length=ys.length
  rw[this];show (ys.map some).length=_;rw[qy]
 refine⟨S.sub,S.off,S.cj,S.inj,S.mu,fun i x e => ?_,?_,S.tab,S.nt⟩
 ·have hi:i < ys.length:=by
   by_cases c:i < ys.length
   ·exact c
   ·rw[Xr (by rw[qy];omega),ZG] at e
    split at e
    ·cases e
    ·cases e
  rw[Xn (by rw[qy];exact hi)] at e
  obtain⟨v,h1,h2⟩:=S.sl i x e
  exact⟨v,by unfold L2.start;rw[Xn (by rw[qy,hl];exact hi)];exact h1,h2⟩
 ·unfold L2.start
  show _=(ys.map some ++ _).length
  rw[Ew,Ew,Y3,Y3,qy,qy,hl]
theorem qO {ovs:List OV} {δ : ay} {x:DV} {v:V} {K:RV->List OV->Prop} {Q:VK} {sl:List (Option DV)} {τ : St} (S0:SR F ad ⟨sl,ovs.map some⟩ τ H) (E:Ext F ad (ovs.map some) H F' az δ.mu H') (S:SR F' az δ σ' H') (V:fM F' az x v)
  (h:gb ovs.length K x δ) (k:∀ r ows,K r ows->∀ v F' H',zE F ad H r ows v F' H'->Q v H'):Q v H':=by
 obtain⟨ows,tk,hl,h⟩:=h
 have al:ad.length=ovs.length:=by have:=S0.cj;rwa [qy] at this
 have lv:∀ (j:Nat) (a:Addr),ad[j]? = some a->∃ ow,ows[j]? = some ow /\ δ.mu[j]? = some (some ow)/\Lv az δ.mu a:=fun j a e=>by
  have hj:j < ovs.length:=by rw[<-al];exact (oP.mp e).1
  have h1:(δ.mu.take ovs.length)[j]? = some (some (ows[j]'(by rw[hl];exact hj))):=by
   rw[tk,Ni,oO (by rw[hl];exact hj)];rfl
  rw[Yw hj] at h1
  exact⟨_,oO (by rw[hl];exact hj),h1,j,_,E.pre j a e,h1⟩
 have j6:∀ a∈ad,F' a=none:=fun a ha=>by
  obtain⟨j,e⟩:=Xq.mp ha
  obtain⟨_,_,_,l⟩:=lv j a e
  exact S.off a l
 have base:∀ {F2:Hp},av F' F2->av F2 H'->(∀ a o,F2 a=some o->F' a=some o\/(H a=none/\¬ a∈ad))->(∀ a∈ad,F2 a=none)->(∀ a∈aE.ad,F2 a=none)->∀ {r:RV},(match r with
   | .p d=>Is F2 d v
   | .n ds=>∃ a vs,v = .ref a/\H a=none/\H' a=some (.lst vs)/\F2 a=none/\ae F2 ds vs
   | .a j=>∃ a,ad[j]? = some a/\v = .ref a)->zE F ad H r ows v F2 H':=fun {F2} s1 s2 n2 o2 Pw {r} res=>by
  refine⟨s2,E.same.trans s1,fun a o e => ?_,fun a o e n t => ?_,S.tab,Pw,by rw[hl,al],fun j ow e => ?_,o2,res⟩
  ·rcases n2 a o e with e | ⟨e,_⟩
   ·rcases E.new a o e with z | z | ⟨j,ov,z,_⟩
    ·exact .inl z
    ·exact .inr z
    ·rw[j6 a (Xq.mpr ⟨j,z⟩)] at e;cases e
   ·exact .inr e
  ·exact E.keep a o e (fun ⟨j,ov,z,_⟩=>n (Xq.mpr ⟨j,z⟩)) t
  ·have hj:j < ad.length:=by rw[al,<-hl];exact (oP.mp e).1
   obtain⟨zF,e1,e2,_⟩:=lv j _ (oO hj)
   rw[e] at e1;cases e1
   obtain⟨a,o,e3,e4,h5⟩:=S.mu j _ e2
   rw[E.pre j _ (oO hj)] at e3
   cases e3
   exact⟨_,o,oO hj,e4,h5.same s1⟩
 cases x with
 | p d=>exact k _ _ h _ _ _ (base (F2:=F') (fun _ _ e=>e) S.sub (fun _ _ e => .inl e) j6 S.nt V)
 | o i =>
  dsimp only at h
  obtain⟨a,e1,rfl⟩:=V
  by_cases c:i < ovs.length
  ·rw[Xp c] at h
   have ei:ad[i]? = some a:=by
    have:=E.pre i _ (oO (by rw[al];exact c))
    rw[e1] at this
    rw[oO (by rw[al];exact c)]
    exact this.symm
   exact k _ _ h _ _ _ (base (F2:=F') (fun _ _ e=>e) S.sub (fun _ _ e => .inl e) j6 S.nt ⟨a,ei,rfl⟩)
  ·rw[Xm c] at h
   split at h
   ·rename_i ds em
    obtain⟨a',o,e2,e3,vs,rfl,h4⟩:=S.mu i _ em
    rw[e1] at e2;cases e2
    have na:a∉ad:=fun z=>by
     obtain⟨j,e⟩:=Xq.mp z
     obtain⟨ow,_,e5,_⟩:=lv j a e
     have:i=j:=S.inj i j a _ _ e1 (E.pre j a e) em e5
     subst this
     exact c (by rw[<-al];exact (oP.mp e).1)
    have fa:F' a=none:=S.off a ⟨i,_,e1,em⟩
    have ha:H a=none:=by
     rcases E.bV a ⟨i,_,e1,em⟩ with⟨j,ov,z,_⟩ | z
     ·exact absurd (Xq.mpr ⟨j,z⟩) na
     ·exact z
    rcases h with h | h
    ·exact k _ _ h _ _ _ (base (F2:=F') (fun _ _ e=>e) S.sub (fun _ _ e => .inl e) j6 S.nt ⟨a,vs,rfl,ha,e3,fa,h4⟩)
    ·refine k _ _ h _ _ _ (base (F2:=upd F' a (.lst vs)) (cZ fa) (fun b o e => ?_) (fun b o e => ?_) (fun b hb => ?_) (fun b hb => ?_) ?_)
     ·by_cases z:b=a
      ·subst z;rw[a9] at e;cases e;exact e3
      ·rw[aA z] at e;exact S.sub b o e
     ·by_cases z:b=a
      ·subst z;exact .inr ⟨ha,na⟩
      ·rw[aA z] at e;exact .inl e
     ·rw[aA fun z=>na (by subst z;exact hb)];exact j6 b hb
     ·obtain⟨ps,q⟩:=aE.tb S.tab hb
      rw[aA fun z=>by subst z;rw[e3] at q;cases q];exact S.nt b hb
     ·show Is _ (.lst ds) _
      simp only[Is]
      exact⟨a,vs,rfl,a9,h4.same (cZ fa)⟩
   ·exact h.elim
end
theorem eS.Px {P:Program} {w:World} {K:PySem.W.Frag} {mg:Str->Option Value} {base:Heap} {x qual:Str} {st:Stmt} {f:Addr} {fd:FuncData} {N ps:List Str} {k:Nat} {G:GD} (F:eS K x qual st f fd) (S:jM N ps (aW st))
  (cH:∀ (aD:Value) (A:Around) (outer:List Env) (s:Shared) (H:Hp) (E:XK),aS k (A.deeper (envOfC qual (aW st) s.heap.objs.size f aD)) →
   ∃ B:WS,bZ (ar bz P w K mg base N qual (aW st) f aD A outer s H E).bG (b_ st) (cM B)/\∀ ys ovs K',ys.length=ps.length->G ys ovs K'->B (bP ovs.length K') ⟨ys.map some ++ List.replicate (N.length - ps.length) none,ovs.map some⟩) :
  bE P w K mg base bz (k + 1) f fd ps (kZ G ps.length) :=
 F.tK S (fun vs H Q E h=>h.1) fun aD A outer s H vs Q E hr h=>by
  obtain⟨hl,Fz,ad,ys,ovs,K',S0,g,kk⟩:=h
  obtain⟨B,jb,hb⟩:=cH aD A outer s H E hr
  have hy:ys.length=ps.length:=by
   have:=S0.len
   rw[qy] at this
   rw[<-hl,this];show _=(ys.map some).length;rw[qy]
  refine⟨_,jb,Fz,ad,⟨ys.map some ++ List.replicate (N.length - ps.length) none,ovs.map some⟩,bP ovs.length K',by rw[<-hl];exact S0.start,hb ys ovs K' hy g,⟨fun δ' h F' az σ' H' E' S' => ?_,fun δ' h=>h.elim,fun δ' h=>h.elim,fun y δ' h v F' az σ' H' E' S' V => ?_,trivial⟩⟩
  ·exact qO (σ' := σ') S0 E' S' (x := .p .non) (v := .non) rfl h kk
  ·exact qO (σ' := σ') S0 E' S' V h kk
noncomputable def passes (mu:List (Option OV)):List DV->Nat->Option (List DV × List (Nat × OV))
 | [],_=>some ([],[])
 | .p d :: xs,j=>match passes mu xs j with
  | some r=>some (.p d :: r.1,r.2)
  | none=>none
 | .o k :: xs,j=>match mu[k]? with
  | some (some ov)=>match passes mu xs (j + 1) with
   | some r=>some (.o j :: r.1,(k,ov) :: r.2)
   | none=>none
  | _=>none
noncomputable def eT (mu:List (Option OV)):List (Nat × OV)->List OV->List (Option OV)
 | (k,_) :: r,ow :: ows=>eT (mu.set k (some ow)) r ows
 | _,_=>mu
noncomputable def j7:List (Nat × OV)->Bool
 | []=>true
 | (k,_) :: r => !(r.any fun e=>e.1 == k) && j7 r
noncomputable def lX (δ : ay) (fN:List (Nat × OV)) (K:DV->ay->Prop) (r:RV) (ows:List OV):Prop:=match r with
 | .p d=>K (.p d) ⟨δ.sl,eT δ.mu fN ows⟩
 | .n ds=>K (.p (.lst ds)) ⟨δ.sl,eT δ.mu fN ows⟩
 | .a j=>match fN[j]? with
  | some ko=>K (.o ko.1) ⟨δ.sl,eT δ.mu fN ows⟩
  | none=>False
noncomputable def px (δ : ay) (fN:List (Nat × OV)) (K:DV->ay->Prop) (r:RV) (ows:List OV):Prop:=match r with
 | .n ds=>K (.o (eT δ.mu fN ows).length) ⟨δ.sl,eT δ.mu fN ows ++ [some (.lst ds)]⟩
 | _=>False
noncomputable def aj (n:Nat) (G:GD) (fa:WA):WE:=fun δ K=>fa δ fun xs δ1=>match passes δ1.mu xs 0 with
 | some r=>(j7 r.2=true/\r.1.length=n)/\G r.1 (r.2.map (·.2)) (lX δ1 r.2 K)
 | none=>False
noncomputable def tW (n:Nat) (G:GD) (fa:WA):WE:=fun δ K=>fa δ fun xs δ1=>match passes δ1.mu xs 0 with
 | some r=>(j7 r.2=true/\r.1.length=n)/\G r.1 (r.2.map (·.2)) (px δ1 r.2 K)
 | none=>False
section
variable {F F' H H':Hp} {ad az:List Addr} {δ : ay} {σ σ':St}
theorem wg {mu:List (Option OV)} (hm:∀ (k:Nat) (ov:OV),mu[k]? = some (some ov)->∃ a o,ad[k]? = some a/\H a=some o/\ff F ov o):∀ {xs:List DV} {vs:List V} {j:Nat} {r:List DV × List (Nat × OV)},passes mu xs j=some r->c_ F ad xs vs →
  ∃ as:List Addr,as.length=r.2.length/\(∀ (i:Nat) (ko:Nat × OV),r.2[i]? = some ko->mu[ko.1]? = some (some ko.2)/\∃ a o,as[i]? = some a/\ad[ko.1]? = some a/\H a=some o/\ff F ko.2 o) ∧
   ∀ (pre:List Addr),pre.length=j->∃ _u:Unit,vs.length=r.1.length/\∀ (i:Nat) (y:DV),r.1[i]? = some y->∃ v,vs[i]? = some v/\fM F (pre ++ as) y v
 | [],vs,j,r,h,hv=>by
  cases h
  have:vs=[]:=hv
  subst this
  exact⟨[],rfl,fun i ko e=>by simp at e,fun pre _=>⟨(),rfl,fun i y e=>by simp at e⟩⟩
 | .p d :: xs,_,j,r,h,⟨v,t,e,h1,h2⟩=>by
  subst e
  unfold passes at h
  split at h
  ·rename_i r' hr
   cases h
   obtain⟨as,l,b,c⟩:=wg hm hr h2
   refine⟨as,l,b,fun pre hp=>⟨(),?_,fun i y e => ?_⟩⟩
   ·obtain⟨_,c1,_⟩:=c pre hp
    rw[Ex,Ex,c1]
   ·obtain⟨_,_,c2⟩:=c pre hp
    cases i with
    | zero=>cases (show some (DV.p d)=some y by simpa using e);exact⟨v,rfl,h1⟩
    | succ i=>simpa using c2 i y (by simpa using e)
  ·cases h
 | .o k :: xs,_,j,r,h,⟨v,t,e,h1,h2⟩=>by
  subst e
  unfold passes at h
  split at h
  ·rename_i ov hk
   split at h
   ·rename_i r' hr
    cases h
    obtain⟨as,l,b,c⟩:=wg hm hr h2
    obtain⟨a,e1,rfl⟩:=h1
    obtain⟨a',o,e2,e3,e4⟩:=hm k ov hk
    rw[e1] at e2;cases e2
    refine⟨a :: as,by rw[Ex,Ex,l],fun i ko e => ?_,fun pre hp=>⟨(),?_,fun i y e => ?_⟩⟩
    ·cases i with
     | zero=>cases (show some (k,ov)=some ko by simpa using e);exact⟨hk,a,o,rfl,e1,e3,e4⟩
     | succ i=>simpa using b i ko (by simpa using e)
    ·obtain⟨_,c1,_⟩:=c (pre ++ [a]) (by rw[Ew,hp];rfl)
     rw[Ex,Ex,c1]
    ·obtain⟨_,_,c2⟩:=c (pre ++ [a]) (by rw[Ew,hp];rfl)
     cases i with
     | zero =>
      cases (show some (DV.o j)=some y by simpa using e)
      refine⟨_,rfl,a,?_,rfl⟩
      rw[Xr (by omega),hp,YG];rfl
     | succ i =>
      obtain⟨v',c3,c4⟩:=c2 i y (by simpa using e)
      exact⟨v',by simpa using c3,by rw[ZA] at c4;exact c4⟩
   ·cases h
  ·cases h
theorem FN:∀ {fN:List (Nat × OV)},j7 fN=true->∀ (i j:Nat) (k:Nat) (a b:OV),fN[i]? = some (k,a)->fN[j]? = some (k,b)->i=j
 | [],_,i,j,k,a,b,e,_=>by simp at e
 | (k',ov) :: r,h,i,j,k,a,b,e1,e2=>by
  unfold j7 at h
  simp only[Yg,Z0] at h
  have no:∀ (m:Nat) (c:OV),r[m]? = some (k',c)->False:=fun m c e=>by
   have:=q0n.mp h.1 _ (Xq.mpr ⟨m,e⟩)
   exact this (by simp)
  cases i with
  | zero =>
   cases (show some (k',ov)=some (k,a) by simpa using e1)
   cases j with
   | zero=>rfl
   | succ j=>exact (no j b (by simpa using e2)).elim
  | succ i =>
   cases j with
   | zero=>cases (show some (k',ov)=some (k,b) by simpa using e2);exact (no i a (by simpa using e1)).elim
   | succ j=>rw[FN h.2 i j k a b (by simpa using e1) (by simpa using e2)]
theorem FO:∀ (fN:List (Nat × OV)) (ows:List OV) (mu:List (Option OV)),(eT mu fN ows).length=mu.length
 | (k,_) :: r,ow :: ows,mu=>by rw[eT,FO r ows,Y1]
 | [],_,_=>rfl
 | _ :: _,[],_=>rfl
theorem wj:∀ (fN:List (Nat × OV)) (ows:List OV) (mu:List (Option OV)) (l:Nat),(∀ ko∈fN,ko.1≠l)->(eT mu fN ows)[l]? = mu[l]?
 | (k,_) :: r,ow :: ows,mu,l,h=>by
  rw[eT,wj r ows _ l fun ko hk=>h ko (Nk _ hk),Yt (h _ Nh)]
 | [],_,_,_,_=>rfl
 | _ :: _,[],_,_,_=>rfl
theorem FP:∀ {fN:List (Nat × OV)} {ows:List OV} {mu:List (Option OV)} {i:Nat} {ko:Nat × OV} {ow:OV},j7 fN=true->fN[i]? = some ko->ows[i]? = some ow->ko.1 < mu.length->(eT mu fN ows)[ko.1]? = some (some ow)
 | (k,ov) :: r,zF :: ows,mu,0,ko,ow,h,e1,e2,hl=>by
  cases (show some (k,ov)=some ko by simpa using e1)
  cases (show some zF=some ow by simpa using e2)
  unfold j7 at h
  simp only[Yg,Z0] at h
  rw[eT,wj r ows _ k fun ko hk z=>absurd (by simpa using z) (q0n.mp h.1 ko hk),Yo hl]
 | (k,ov) :: r,zF :: ows,mu,i + 1,ko,ow,h,e1,e2,hl=>by
  unfold j7 at h
  simp only[Yg,Z0] at h
  rw[eT]
  exact FP h.2 (by simpa using e1) (by simpa using e2) (by rw[Y1];exact hl)
 | [],_,_,i,_,_,_,e1,_,_=>by simp at e1
 | _ :: _,[],_,i,_,_,_,_,e2,_=>by simp at e2
theorem FQ {xs:List DV} {vs:List V} {r:List DV × List (Nat × OV)} {G:GD} {n:Nat} {Q:VK} {E:XK} {K:RV->List OV->Prop} (S:SR F ad δ σ H) (V:c_ F ad xs vs) (hn:vs.length=n) (hp:passes δ.mu xs 0=some r) (nd:j7 r.2=true) (g:G r.1 (r.2.map (·.2)) K)
  (fin:∀ res ows v F' H',K res ows->Ext F ad δ.mu H F' ad (eT δ.mu r.2 ows) H'->SR F' ad ⟨δ.sl,eT δ.mu r.2 ows⟩ σ H'->(match res with
   | .p d=>Is F' d v
   | .n ds=>∃ a vs,v = .ref a/\H a=none/\H' a=some (.lst vs)/\F' a=none/\ae F' ds vs
   | .a j=>∃ ko a,r.2[j]? = some ko/\ad[ko.1]? = some a/\v = .ref a)->Q v H'):kZ G n vs H Q E:=by
 obtain⟨as,al,b,c⟩:=wg S.mu hp V
 obtain⟨_,c1,c2⟩:=c [] rfl
 have qP:∀ (i:Nat) (a:Addr),as[i]? = some a->Lv ad δ.mu a/\∃ ko,r.2[i]? = some ko/\ad[ko.1]? = some a /\ δ.mu[ko.1]? = some (some ko.2):=fun i a e=>by
  have hi:i < r.2.length:=by rw[<-al];exact (oP.mp e).1
  obtain⟨m1,a',o,e1,e2,_,_⟩:=b i _ (oO hi)
  rw[e] at e1;cases e1
  exact⟨⟨_,_,e2,m1⟩,_,oO hi,e2,m1⟩
 refine⟨hn,F,as,r.1,r.2.map (·.2),K,⟨S.sub,fun a ⟨i,ov,e1,e2⟩=>S.off a (qP i a e1).1,by rw[al];show _=((r.2.map (·.2)).map some).length;rw[qy,qy],fun i j a ov ow e1 e2 _ _ => ?_,fun i ov e => ?_,fun i y e => ?_,?_,S.tab,S.nt⟩,g,fun res ows hk v F' H' P => ?_⟩
 ·obtain⟨_,ko,k1,k2,k3⟩:=qP i a e1
  obtain⟨_,kp,p1,p2,p3⟩:=qP j a e2
  have:ko.1=kp.1:=S.inj _ _ a _ _ k2 p2 k3 p3
  exact FN nd i j ko.1 ko.2 kp.2 k1 (by rw[this];exact p1)
 ·have e:=FL e
  rw[Ni] at e
  obtain⟨ko,e1,rfl⟩:=Xo.mp e
  obtain⟨_,a,o,e2,_,e4,e5⟩:=b i ko e1
  exact⟨a,o,e2,e4,e5⟩
 ·obtain⟨v,e1,e2⟩:=c2 i y (FL e)
  exact⟨v,Pu e1,by simpa using e2⟩
 ·show (vs.map some).length=(r.1.map some).length
  rw[qy,qy,c1]
 ·have ol:ows.length=r.2.length:=by rw[P.len,al]
  have kK:∀ (l:Nat) (ow:OV),(eT δ.mu r.2 ows)[l]? = some (some ow)->(∃ (i:Nat) (ko:Nat × OV),r.2[i]? = some ko/\ko.1=l/\ows[i]? = some ow)\/((∀ ko∈r.2,ko.1≠l) /\ δ.mu[l]? = some (some ow)):=fun l ow e=>by
   by_cases z:∃ ko∈r.2,ko.1=l
   ·obtain⟨ko,hk,rfl⟩:=z
    obtain⟨i,hi⟩:=Xq.mp hk
    have pA:i < ows.length:=by rw[ol];exact (oP.mp hi).1
    have:=FP (mu := δ.mu) nd hi (oO pA) (oP.mp (b i ko hi).1).1
    rw[e] at this
    cases this
    exact .inl ⟨i,ko,hi,rfl,oO pA⟩
   ·have z':∀ ko∈r.2,ko.1≠l:=fun ko hk q=>z ⟨ko,hk,q⟩
    rw[wj _ _ _ _ z'] at e
    exact .inr ⟨z',e⟩
  have FT:∀ (l:Nat) (ow:OV) (a:Addr),ad[l]? = some a->(eT δ.mu r.2 ows)[l]? = some (some ow)->Lv ad δ.mu a:=fun l ow a e1 e2=>by
   rcases kK l ow e2 with⟨i,ko,hi,rfl,_⟩ | ⟨_,q⟩
   ·exact⟨_,_,e1,(b i ko hi).1⟩
   ·exact⟨_,_,e1,q⟩
  have Py:∀ a,a∈as->Lv ad δ.mu a:=fun a ha=>by
   obtain⟨i,e⟩:=Xq.mp ha
   exact (qP i a e).1
  have ex:Ext F ad δ.mu H F' ad (eT δ.mu r.2 ows) H':=by
   refine⟨P.same,fun a o e => ?_,fun a o e n t=>P.keep a o e (fun z=>n (Py a z)) t,fun _ _ e=>e,fun a ⟨l,ow,e1,e2⟩ => .inl (FT l ow a e1 e2),fun a o e => ?_⟩
   ·rcases P.new a o e with z | z
    ·exact .inl z
    ·exact .inr (.inl z)
   ·by_cases z:a∈as
    ·obtain⟨i,e1⟩:=Xq.mp z
     have hi:i < ows.length:=by rw[P.len];exact (oP.mp e1).1
     obtain⟨a',o',e2,e3,_⟩:=P.own i _ (oO hi)
     rw[e1] at e2;cases e2
     exact⟨o',e3⟩
    ·by_cases t:a∈aE.ad
     ·obtain⟨ps,q⟩:=aE.tb P.tab t
      exact⟨_,q⟩
     ·exact⟨o,P.keep a o e z t⟩
  have zG:∀ a,Lv ad δ.mu a->F' a=none:=fun a l=>by
   by_cases z:a∈as
   ·exact P.off a z
   ·cases q:F' a with
    | none=>rfl
    | some u =>
     rcases P.new a u q with y | y
     ·rw[S.off a l] at y;cases y
     ·obtain⟨k,ov,e1,e2⟩:=l
      obtain⟨a',o,e3,e4,_⟩:=S.mu k ov e2
      rw[e1] at e3;cases e3
      rw[y] at e4;cases e4
  have sr:SR F' ad ⟨δ.sl,eT δ.mu r.2 ows⟩ σ H':=by
   refine⟨P.sub,fun a ⟨l,ow,e1,e2⟩=>zG a (FT l ow a e1 e2),by rw[S.cj];exact (FO _ _ _).symm,fun k l a ov ow e1 e2 e3 e4 => ?_,fun l ow e => ?_,fun i y e => ?_,S.len,P.tab,P.nt⟩
   ·have h3:∃ w,δ.mu[k]? = some (some w):=by
     rcases kK k ov e3 with⟨i,ko,hi,rfl,_⟩ | ⟨_,q⟩
     ·exact⟨_,(b i ko hi).1⟩
     ·exact⟨_,q⟩
    have h4:∃ w,δ.mu[l]? = some (some w):=by
     rcases kK l ow e4 with⟨i,ko,hi,rfl,_⟩ | ⟨_,q⟩
     ·exact⟨_,(b i ko hi).1⟩
     ·exact⟨_,q⟩
    obtain⟨_,h3⟩:=h3
    obtain⟨_,h4⟩:=h4
    exact S.inj k l a _ _ e1 e2 h3 h4
   ·rcases kK l ow e with⟨i,ko,hi,rfl,ho⟩ | ⟨z,q⟩
    ·obtain⟨_,a,o,e1,e2,_,_⟩:=b i ko hi
     obtain⟨a',o',e3,e4,h5⟩:=P.own i ow ho
     rw[e1] at e3;cases e3
     exact⟨a,o',e2,e4,h5⟩
    ·obtain⟨a,o,e1,e2,h⟩:=S.mu l ow q
     refine⟨a,o,e1,P.keep a o e2 (fun y => ?_) (fun t => ?_),h.same P.same⟩
     ·obtain⟨i,e3⟩:=Xq.mp y
      obtain⟨_,ko,k1,k2,k3⟩:=qP i a e3
      exact z ko (Xq.mpr ⟨i,k1⟩) (S.inj _ _ a _ _ k2 e1 k3 q)
     ·obtain⟨ps,q2⟩:=aE.tb S.tab t
      rw[e2] at q2
      cases q2
      rcases h.kind with⟨_,z⟩ | ⟨_,z⟩<;>cases z
   ·obtain⟨v,e1,h⟩:=S.sl i y e
    exact⟨v,e1,h.ext ex⟩
  refine fin res ows v F' H' hk ex sr ?_
  have pB:=P.res
  cases res with
  | p d=>exact pB
  | n ds=>exact pB
  | a j =>
   obtain⟨a,e1,e2⟩:=pB
   obtain⟨_,ko,k1,k2,_⟩:=qP j a e1
   exact⟨ko,a,k1,k2,e2⟩
end
section
variable {X:Cx} {fa:WA} {G:GD} {pos:Pos}
theorem FU {F1 F2 H1 H2:Hp} {aQ:List Addr} {δ1:ay} {σ : St} {xs:List DV} {vs:List V} {r:List DV × List (Nat × OV)} {ows:List OV} {a:Addr} (S1:SR F1 aQ δ1 σ H1) (V1:c_ F1 aQ xs vs) (hp:passes δ1.mu xs 0=some r) (n1:H1 a=none):¬ Lv aQ (eT δ1.mu r.2 ows) a:=fun ⟨k,ov,e1,e2⟩=>by
 have c:∃ ov,δ1.mu[k]? = some (some ov):=by
  by_cases y:∃ ko∈r.2,ko.1=k
  ·obtain⟨ko,gr,rfl⟩:=y
   obtain⟨as,_,b,_⟩:=wg S1.mu hp V1
   obtain⟨i,hi⟩:=Xq.mp gr
   exact⟨_,(b i ko hi).1⟩
  ·rw[wj _ _ _ _ fun ko gr q=>y ⟨ko,gr,q⟩] at e2
   exact⟨_,e2⟩
 obtain⟨Pz,c⟩:=c
 obtain⟨a',o,e3,e4,_⟩:=S1.mu k Pz c
 rw[e1] at e3;cases e3
 rw[n1] at e4;cases e4
theorem c_.length {F:Hp} {ad:List Addr}:∀ {xs:List DV} {vs:List V},c_ F ad xs vs->vs.length=xs.length
 | [],vs,h=>by have h:vs=[]:=h;rw[h];rfl
 | x :: xs,vs,⟨v,r,e,_,h2⟩=>by rw[e,Ex,Ex,c_.length h2]
theorem wk {mu:List (Option OV)}:∀ {xs:List DV} {j:Nat} {r:List DV × List (Nat × OV)},passes mu xs j=some r->r.1.length=xs.length
 | [],j,r,h=>by cases h;rfl
 | .p d :: xs,j,r,h=>by
  unfold passes at h
  split at h
  ·rename_i r' hr;cases h;show (DV.p d :: r'.1).length=_;rw[Ex,Ex,wk hr]
  ·cases h
 | .o k :: xs,j,r,h=>by
  unfold passes at h
  split at h
  ·split at h
   ·rename_i r' hr;cases h;show (DV.o j :: r'.1).length=_;rw[Ex,Ex,wk hr]
   ·cases h
  ·cases h
section
variable {k:Nat} {f:Addr} {fd:FuncData} {ps:List Str} {x:Str} {p:Pos} {e:Expr} {es:List Expr} {n:Nat}
theorem FV {E:XK} {F F1 H H1:Hp} {ad aQ:List Addr} {δ δ1:ay} {σ : St} {K:DV->ay->Prop} {Q:VK} {xs:List DV} {vs:List V} (kk:∀ x δ',K x δ'->∀ v F' az H',Ext F ad δ.mu H F' az δ'.mu H'->SR F' az δ' σ H'->fM F' az x v->Q v H') (h1:match passes δ1.mu xs 0 with
 | some r=>(j7 r.2=true/\r.1.length=n)/\G r.1 (r.2.map (·.2)) (lX δ1 r.2 K)
 | none=>False) (E1:Ext F ad δ.mu H F1 aQ δ1.mu H1) (S1:SR F1 aQ δ1 σ H1) (V1:c_ F1 aQ xs vs):kZ G n (vs ++ []) H1 Q E:=by
 split at h1
 ·rename_i r hp
  obtain⟨⟨nd,hn⟩,h1⟩:=h1
  rw[ZR]
  refine FQ S1 V1 (by rw[V1.length,<-wk hp,hn]) hp nd h1 fun res ows v F2 H2 hk E2 S2 j8 => ?_
  unfold lX at hk
  cases res with
  | p d=>exact kk _ _ hk _ _ _ _ (E1.trans E2) S2 j8
  | n ds =>
   obtain⟨a,us,rfl,n1,n2,n3,n4⟩:=j8
   refine kk _ _ hk _ _ _ _ (E1.trans (E2.adopt (o := .lst us) n1 n3)) (S2.adopt n3 n2 (FU (F2:=F2) (H2:=H2) S1 V1 hp n1)) ?_
   show Is _ (.lst ds) _
   simp only[Is]
   exact⟨a,us,rfl,a9,n4.same (cZ n3)⟩
  | a j =>
   obtain⟨ko,a,h1,h2,h3⟩:=j8
   dsimp only at hk
   rw[h1] at hk
   exact kk _ _ hk _ _ _ _ (E1.trans E2) S2 ⟨a,h2,h3⟩
 ·exact h1.elim
theorem PB {E:XK}:∀ σ H Q,tD (aj n G fa) σ H Q->oy (kZ G n) [] E (bL fa) σ H Q:=fun σ H Q h0_ => el7 h0_ fun F ad δ K S q kk =>
 ⟨F,ad,δ,_,S,q,fun xs δ1 h1 vs F1 aQ H1 E1 S1 V1=>FV kk h1 E1 S1 V1⟩
theorem PD {E:XK}:∀ σ H Q,tD (tW n G fa) σ H Q->oy (kZ G n) [] E (bL fa) σ H Q:=fun σ H Q h0_ => el7 h0_ fun F ad δ K S q kk =>by
 refine⟨F,ad,δ,_,S,q,fun xs δ1 h1 vs F1 aQ H1 E1 S1 V1 => ?_⟩
 split at h1
 ·rename_i r hp
  obtain⟨⟨nd,hn⟩,h1⟩:=h1
  rw[ZR]
  refine FQ S1 V1 (by rw[V1.length,<-wk hp,hn]) hp nd h1 fun res ows v F2 H2 hk E2 S2 j8 => ?_
  unfold px at hk
  cases res with
  | p d=>exact hk.elim
  | n ds =>
   obtain⟨a,us,rfl,n1,n2,n3,n4⟩:=j8
   have oi:ff F2 (.lst ds) (.lst us):=⟨us,rfl,n4⟩
   refine kk _ _ hk _ _ _ _ (E1.trans (E2.dB (ov := .lst ds) n1 S2.cj)) (S2.dB n3 n2 (FU (F2:=F2) (H2:=H2) S1 V1 hp n1) oi) ⟨a,?_,rfl⟩
   have:aQ.length=(eT δ1.mu r.2 ows).length:=S2.cj
   rw[<-this,Xr (sG _),YG];rfl
  | a j=>exact hk.elim
 ·exact h1.elim
theorem PH (Fn:bE X.prog X.w X.K X.mg X.base bz k f fd ps (kZ G n)) (hr:aS k X.A) (hg:Gl X x) (hm:X.mg x=some (.ref f)) (hk:PySem.W.keepIn X.K (.ref f)=true) (hb:Binds X.K fd ps [])
  (ha:JA X (e :: es) (bL fa)) (bT:(x == ("__debug__" : Str))=false:=by decide) (he:starEach (e :: es) X.env=(false,eval e X.env) :: starEach es X.env:=by rfl) (bU:(backTo pos (starEach es X.env)).any (·.1)=false:=by rfl) :
  JE X (.Call (.Name x p) (e :: es) [] pos) (tD (aj n G fa)):=(tI Fn hr hg hm hk hb .nil sM ha bT he bU).weak PB
theorem PJ (Fn:bE X.prog X.w X.K X.mg X.base bz k f fd ps (kZ G n)) (hr:aS k X.A) (hg:Gl X x) (hm:X.mg x=some (.ref f)) (hk:PySem.W.keepIn X.K (.ref f)=true) (hb:Binds X.K fd ps [])
  (ha:JA X (e :: es) (bL fa)) (bT:(x == ("__debug__" : Str))=false:=by decide) (he:starEach (e :: es) X.env=(false,eval e X.env) :: starEach es X.env:=by rfl) (bU:(backTo pos (starEach es X.env)).any (·.1)=false:=by rfl) :
  JE X (.Call (.Name x p) (e :: es) [] pos) (tD (tW n G fa)):=(tI Fn hr hg hm hk hb .nil sM ha bT he bU).weak PD
end
end
end L2
namespace PySem
open Sem (wp)
open AutoSeq1 (wpAny_loadPart')
theorem PK (l:Addr) (items:Array Value) (n:Nat) (dct:Option Addr) (sl:Array (Option Value)) :
  Meets (Builtin.«enumerate.__new__» ⟨[.type "enumerate",.ref l],[]⟩) (fun _ R s=>s.heap.get? l=some { cls := .type "tuple",dict:=dct,data := .seq items n,slots:=sl } ∧
   R (.ok (.ret (.ref (s.heap.push { cls := .type "tuple_iterator",data := .fields #[.ref l,.int 0 0] }).objs.size)))
    { s with heap:=(s.heap.push { cls := .type "tuple_iterator",data := .fields #[.ref l,.int 0 0] }).push { cls := .type "enumerate",data := .fields #[.none,.bool false,.ref s.heap.objs.size,rawInt 0,.none,.none] } }) :=
 .of_wp fun prog w A R s h=>by
  obtain⟨hp,g,d,tk,os⟩:=s;obtain⟨hl,h⟩:=h
  have PL:=sub_enumerate
  have hL:Heap.IsTuple (Shared.heap ⟨hp,g,d,tk,os⟩) l items:=⟨_,hl,rfl,n,rfl⟩
  wp_walk using YO hl
  refine wpAny_stack_any fun st=>vK ?_
  split
  ·rename_i c _ _ _ _ _
   cases (c == Value.type "enumerate")
   ·wp_walk using YO hl,q0h hL
    exact⟨_,rfl,h⟩
   ·wp_walk using YO hl,q0h hL
    exact⟨_,rfl,h⟩
  ·wp_walk using YO hl,q0h hL
   exact⟨_,rfl,h⟩
section
variable {prog:Program} {w:World} {A:Around} {E:Value->Shared->Prop} {s:Shared}
theorem PM {l:Addr} {items:Array Value} {Q:Value->Shared->Prop} (hL:s.heap.IsTuple l items)
  (h:∀ h',IsEnum h' (s.heap.objs.size + 1) s.heap.objs.size 0 .none->h'.IsTupleIter s.heap.objs.size l 0->h'.objs.size=s.heap.objs.size + 2 →
   (∀ b o,s.heap.get? b=some o->h'.get? b=some o)->Q (.ref (s.heap.objs.size + 1)) { s with heap:=h' }) :
  wpAny (model prog w) A (call (.type "enumerate") [.ref l]) Q E s:=by
 obtain⟨⟨c,dct,dt,sl⟩,hl,hc,n,hd⟩:=hL
 replace hc:c = .type "tuple" := hc
 replace hd:dt = .seq items n:=hd
 subst hc hd
 refine callType_new F.called_enumerate (by decide) (F.typeCall_enumerate_1 _) (F.newCall_enumerate_1 _) (fun obj=>F.args_object_init_2 obj _) F.entry_enumerate_new
  (PK l items n dct sl) ⟨hl,?_⟩
 have hz:(s.heap.push { cls := .type "tuple_iterator",data := .fields #[.ref l,.int 0 0] }).objs.size=s.heap.objs.size + 1:=Z3 ..
 show _/\_
 rw[hz]
 have he:IsEnum ((s.heap.push { cls := .type "tuple_iterator",data := .fields #[.ref l,.int 0 0] }).push
   { cls := .type "enumerate",data := .fields #[.none,.bool false,.ref s.heap.objs.size,rawInt 0,.none,.none] }) (s.heap.objs.size + 1) s.heap.objs.size 0 .none:=by
  have:=X1 (s.heap.push { cls := .type "tuple_iterator",data := .fields #[.ref l,.int 0 0] })
   (o:={ cls := .type "enumerate",data := .fields #[.none,.bool false,.ref s.heap.objs.size,rawInt 0,.none,.none] }) rfl
  rw[hz] at this;exact this
 refine⟨⟨_,he,rfl⟩,h _ he ⟨_,oQ _ (X1 _ rfl),rfl,rfl⟩ (by rw[Z3,hz]) fun b o x=>oQ _ (oQ _ x)⟩
theorem PN {it l:Addr} {i:Nat} {items:Array Value} {x:Value} {Q:Value->Shared->Prop} (hit:s.heap.IsTupleIter it l i) (hl:s.heap.IsTuple l items) (hx:items[i]? = some x)
  (hQ:∀ h',h'.IsTupleIter it l (i + 1)->Heap.SameBut it s.heap h'->Q x { s with heap:=h' }):wpAny (model prog w) A (Builtin.SmallTypes.nextOf (.ref it)) Q E s:=by
 obtain⟨o,ho,hc,hd⟩:=id hit
 obtain⟨ol,zH,_,nl,zI⟩:=hl
 have nn:¬ ((Value.ref l == Value.none)=true):=Eu
 unfold Builtin.SmallTypes.nextOf
 refine lJ (ZH (name:=Str.ofString "__next__") hit.typeIs Zx (q0z Zx hit.typeIs F.entry_tuple_iterator_next ?_ (F.args_tuple_iterator_next_1 _)))
 show wpAny _ _ (field (.ref it) 0 >>= _) _ _ s;refine lJ (ZJ ho hd (x := .ref l) rfl ?_)
 show wpAny _ _ (if (Value.ref l == Value.none)=true then _ else _) _ _ s;rw[Xm nn]
 show wpAny _ _ (field (.ref it) 1 >>= _) _ _ s;refine lJ (ZJ ho hd (x := .int i 0) rfl ?_)
 show wpAny _ _ (seqItems? (.ref l) >>= _) _ _ s;refine lJ (Z1 zH zI ?_)
 simp only[Yj,hx]
 refine lJ (q05 ho hd (by simp) (vK ⟨x,rfl,vK (hQ _ ⟨_,YU _ ho (q0v (ZO hd _)),(Obj.cls_mapFields ..).trans hc,?_⟩ (Yy ..))⟩))
 rw[ZO hd];simp[rawInt]
theorem PQ {it l:Addr} {i:Nat} {items:Array Value} {Q:Value->Shared->Prop} (hh:A.handled=none) (hit:s.heap.IsTupleIter it l i) (hl:s.heap.IsTuple l items) (hx:items[i]? = none)
  (hE:∀ h' e,Heap.ExtBut it s.heap h'->(∃ o,h'.get? e=some o/\o.cls = .type "StopIteration")->E (.ref e) { s with heap:=h' }):wpAny (model prog w) A (Builtin.SmallTypes.nextOf (.ref it)) Q E s:=by
 obtain⟨o,ho,hc,hd⟩:=id hit
 obtain⟨ol,zH,_,nl,zI⟩:=hl
 have nn:¬ ((Value.ref l == Value.none)=true):=Eu
 unfold Builtin.SmallTypes.nextOf
 refine lJ (ZH (name:=Str.ofString "__next__") hit.typeIs Zx (q0z Zx hit.typeIs F.entry_tuple_iterator_next ?_ (F.args_tuple_iterator_next_1 _)))
 show wpAny _ _ (field (.ref it) 0 >>= _) _ _ s;refine lJ (ZJ ho hd (x := .ref l) rfl ?_)
 show wpAny _ _ (if (Value.ref l == Value.none)=true then _ else _) _ _ s;rw[Xm nn]
 show wpAny _ _ (field (.ref it) 1 >>= _) _ _ s;refine lJ (ZJ ho hd (x := .int i 0) rfl ?_)
 show wpAny _ _ (seqItems? (.ref l) >>= _) _ _ s;refine lJ (Z1 zH zI ?_)
 simp only[Yj,hx]
 refine lJ (wpAny_rule (lJ (q05 ho hd (by simp) ?_)))
 show wpAny _ _ (newExc (.type "StopIteration") [] >>= _) _ _ _;refine lJ ?_
 simp only[newExc,newTuple];refine lJ (Y2 ?_ (by size_fits))
 refine lJ (m:=firstArgMember _ _) (wpAny_of_eq (a:=Value.none) (by first | rfl | (simp only[firstArgMember];rfl)) (Y2 ?_ (by size_fits)))
 simp only[raiseNew];refine lJ (wpAny_handled ?_)
 first | rw[show A.in1.handled=none from hh] | rw[hh]
 refine lJ (vK (wpAny_throw (hE _ _ (((Yy ..).extBut.push _).push _) ⟨_,X1 _ rfl,rfl⟩)))
theorem FW (hh:A.handled=none) (it l:Addr) (gJ:l≠it) (items:Array Value):Draws prog w A it [it,l] items.size (fun i v=>items[i]? = some v) (fun i h=>h.IsTupleIter it l i/\h.IsTuple l items) where
 live:=fun _ _ st=>let ⟨o,ho,_⟩:=st.1; ⟨o,ho⟩
 frame:=fun _ _ _ st hk=>⟨st.1.at fun o e=>hk it (by simp) o e,st.2.at fun o e=>hk l (by simp) o e⟩
 item:=fun i s Q E hi st hQ=>PN st.1 st.2 (x:=items[i]) (by simp[hi]) fun h' zJ vV=>hQ _ h' s.toks (by simp[hi]) ⟨zJ,st.2.extBut vV.extBut gJ⟩ vV
 done:=fun s Q E st hE=>PQ hh st.1 st.2 (by simp) hE
end
end PySem
namespace L2
open PySem PySem.Spec PyProof.Rows
noncomputable def tX (K:PySem.W.Frag) (a:Addr):It :=
 ⟨fun i H=>∃ xs x,bC K H a xs/\xs[i]? = some x,fun i H x H'=>∃ T v,x = .ref T/\H T=none/\H'=upd H T (.tup [.int (i:Nat),v])/\∀ xs,bC K H a xs->xs[i]? = some v,fun i H=>∃ xs,bC K H a xs/\xs.length=i⟩
theorem PR {P:Program} {w:World} {K:PySem.W.Frag} {elts:List Expr} {x1} {tp:Pos} (a e it:Addr) (gJ:e≠it) (PU:a≠e) (FX:a≠it) :
  Turn P w K (.Tuple elts x1 tp) (tX K a) [e,it] e (fun i h=>(∃ old,IsEnum h e it (i:Nat) old)/\h.IsTupleIter it a i) where
 mem:=by simp
 obj:=fun i h st b hb=>by
  obtain⟨⟨old,he⟩,o,hi,hc,hd⟩:=st
  rcases X7.mp hb with rfl | hb
  ·exact⟨_,he,fun v z=>by cases z⟩
  ·have z:b=it:=by simpa using hb
   subst z
   exact⟨o,hi,fun v z=>by rw[hd] at z;cases z⟩
 keep:=fun i h h' st k=>by
  obtain⟨⟨old,he⟩,hi⟩:=st
  exact⟨⟨old,k e (by simp) _ he⟩,hi.at fun o q=>k it (by simp) o q⟩
 item:=by
  intro X hP hw hK hc i pins s σ H E I hf st hg
  subst hP hw hK
  obtain⟨⟨old,he⟩,hi⟩:=st
  obtain⟨xs,x,hq,hx⟩:=hg
  obtain⟨ai,rv,p,hz⟩:=I.tuple hq
  obtain⟨u,hu,ru⟩:=rv.get hx
  have D:=FW (prog:=X.prog) (w:=X.w) (A:=X.A.in1) (by rw[q0g];exact I.ok.hd hc) it a FX ai.toArray
  have pA:i < ai.toArray.size:=by rw[yG];exact (oP.mp hu).1
  refine wpAny_pyNext_enum_itemD D he ⟨hi,p⟩ pA gJ (by simp[gJ,Zn PU]) fun y h1 tk py kJ yS sT eJ hk=>⟨_,rfl,?_⟩
  have ey:y=u:=by
   have py:ai.toArray[i]? = some y:=py
   rw[q0u,hu] at py;cases py;rfl
  subst ey
  refine wpAny_letOwnedTupleGo_enum kJ fun h2 sU gB => ?_
  have hT:s.heap.objs.size≠e:=ZM (Ng he)
  have jd:h2.get? s.heap.objs.size=some { cls := .type "tuple",data := .seq #[.int i tk,y] }:=(gB.2 _ hT).trans sT
  have k2:∀ b o,b∉[e,it]->s.heap.get? b=some o->h2.get? b=some o:=fun b o hb q=>by
   have sV:b≠e:=fun z=>hb (by simp[z])
   have gF:b≠it:=fun z=>hb (by simp[z])
   exact (gB.2 _ sV).trans (hk b o sV gF q)
  have hn:H s.heap.objs.size=none:=I.aM.fresh (sG _)
  refine⟨.ref s.heap.objs.size,upd H s.heap.objs.size (.tup [.int i,x]),I.gH (ch:=[e,it]) (t':=tk + 1) hf k2 (sG _) ?_,rfl,⟨_,x,rfl,hn,rfl,fun ys hy=>by rw[I.fF hy hq];exact hx⟩,⟨⟨y,?_⟩,?_⟩,fun b hb => ?_⟩
  ·exact⟨by show 2 <= sizeLine;decide,[.int i tk,y],.cons ⟨_,rfl⟩ (.cons ru .nil),_,jd,rfl,_,rfl⟩
  ·have e3:((i:Int) + 1)=(((i + 1:Nat)):Int):=by omega
   rw[e3] at sU
   exact sU
  ·exact yS.1.at fun o q=>(gB.2 _ (Zn gJ)).trans q
  ·have:b < s.heap.objs.size:=by
    obtain⟨o,q,_⟩:=hi
    rcases X7.mp hb with rfl | hb
    ·exact Ng he
    ·have z:b=it:=by simpa using hb
     subst z;exact Ng q
   rw[aA (X_ this)]
   exact (hf b hb).1
 done:=by
  intro X hP hw hK hc i pins s σ H E I hf st hg
  subst hP hw hK
  obtain⟨⟨old,he⟩,hi⟩:=st
  obtain⟨xs,hq,hx⟩:=hg
  obtain⟨ai,rv,p,hz⟩:=I.tuple hq
  have D:=FW (prog:=X.prog) (w:=X.w) (A:=X.A.in1) (by rw[q0g];exact I.ok.hd hc) it a FX ai.toArray
  have pA:ai.toArray.size=i:=by rw[yG,<-rv.length];exact hx
  refine wpAny_pyNext_enum_endD D he (by rw[pA];exact⟨hi,p⟩) fun h1 eb=>⟨rfl,?_⟩
  obtain⟨f0,f1,f2,f3,f4,f5⟩:=hf it (by simp)
  exact I.turned (t':=s.toks) (fun b o hb q=>eb b o hb q) f0 f1 f3 f4 f5
 self:=fun A i s Q E st h=>by
  obtain⟨⟨old,he⟩,hi⟩:=st
  exact Zp he h
section
variable {X:Cx} {elts:List Expr} {x1:Nat} {tp:Pos} {tg:Expr}
noncomputable def PV (K:PySem.W.Frag) (ta:TA):TI:=fun σ H R=>ta σ H fun vs H1=>∃ a,vs=[.ref a]/\(((∃ xs,bc K H1 a xs)/\R (qB K a) H1)\/((∃ xs,bC K H1 a xs)/\R (tX K a) H1))
theorem PX {a:Expr} {ta:TA} {p pos:Pos} (hg:Gl X "enumerate") (hm:X.mg "enumerate" = none) (ha:JA X [a] ta) (hs:starEach [a] X.env=[(false,eval a X.env)]:=by rfl) :
  JI X (.Tuple elts x1 tp) (.Call (.Name "enumerate" p) [a] [] pos) (PV X.K ta):=by
 refine⟨?_⟩
 intro pins s σ H R I h
 refine Call_ (lq I hg hm EH (Y8 (a5 (ha.out pos pins s σ H _ I h) fun us s1 h0_ => el5 h0_ fun vs H1 I1 r1 q1 => ?_) hs rfl))
 obtain⟨l,e,q⟩:=q1
 subst e
 obtain⟨u,rfl,rx⟩:=vals1 r1
 cases rx
 have fp:∀ b∈[s1.heap.objs.size + 1,s1.heap.objs.size],bf X pins H1 b:=fun b hb=>by
  have hb':s1.heap.objs.size <= b:=by
   rcases X7.mp hb with rfl | hb
   ·exact q0F _
   ·have z:b=s1.heap.objs.size:=by simpa using hb
    rw[z];exact sG _
  exact I1.f7 hb' (I1.aM.fresh hb')
 rcases q with⟨⟨xs,hq⟩,q⟩ | ⟨⟨xs,hq⟩,q⟩
 ·obtain⟨ai,rv,p,hz⟩:=I1.list hq
  refine call_enumerate_list p.isList fun h' he hi eJ hk => ?_
  have I2:Inv X pins σ H1 { s1 with heap:=h' }:=I1.kept (t':=s1.toks) hk
  refine Zp he ?_
  exact⟨_,_,_,_,H1,rfl,I2,EF l (s1.heap.objs.size + 1) s1.heap.objs.size (q1n _),⟨⟨_,he⟩,hi⟩,fp,q⟩
 ·obtain⟨ai,rv,p,hz⟩:=I1.tuple hq
  have wm:l < s1.heap.objs.size:=by obtain⟨o,e,_⟩:=p;exact Ng e
  refine PM p fun h' he hi eJ hk => ?_
  have I2:Inv X pins σ H1 { s1 with heap:=h' }:=I1.kept (t':=s1.toks) hk
  refine Zp he ?_
  exact⟨_,_,_,_,H1,rfl,I2,PR l (s1.heap.objs.size + 1) s1.heap.objs.size (q1n _) (X_ (Za wm)) (X_ wm),⟨⟨_,he⟩,hi⟩,fp,q⟩
noncomputable def zK (K:PySem.W.Frag) (tl:TE):TI:=fun σ H R=>tl σ H fun x H1=>∃ a,x = .ref a/\(((∃ xs,bc K H1 a xs)/\R (DM K a) H1)\/((∃ xs,bC K H1 a xs)/\R (DN K a) H1))
theorem PY {l:Expr} {tl:TE} (hl:JE X l tl):JI X tg l (zK X.K tl):=by
 refine⟨?_⟩
 intro pins s σ H R I h
 refine a5 (hl.out pins s σ H _ I h) fun v s1 h0_ => el5 h0_ fun x H1 I1 r1 q1 => ?_
 obtain⟨a,e,q⟩:=q1
 subst e
 cases r1
 have fp:∀ b∈[s1.heap.objs.size],bf X pins H1 b:=fun b hb=>by
  have e:b=s1.heap.objs.size:=by simpa using hb
  subst e
  exact I1.f7 (sG _) (I1.aM.fresh (sG _))
 rcases q with⟨⟨xs,hq⟩,q⟩ | ⟨⟨xs,hq⟩,q⟩
 ·obtain⟨ai,rv,p,hz⟩:=I1.list hq
  exact ZZ p.isList ⟨s1.heap.objs.size,[s1.heap.objs.size],_,_,H1,rfl,I1.kept (t':=s1.toks) fun b o e=>oQ _ e,LQ a _,⟨_,X1 _ rfl,rfl,rfl⟩,fp,q⟩
 ·obtain⟨ai,rv,p,hz⟩:=I1.tuple hq
  exact q0h (show s1.heap.IsTuple a ai.toArray from p) ⟨s1.heap.objs.size,[s1.heap.objs.size],_,_,H1,rfl,I1.kept (t':=s1.toks) fun b o e=>oQ _ e,LR a _,⟨_,X1 _ rfl,rfl,rfl⟩,fp,q⟩
end
variable [aE]
noncomputable def cn (lo:Int) (n:Nat):List D:=(List.range n).map fun i:Nat=>D.int (lo + i)
noncomputable def k6:Nat->List D->List D
 | _,[]=>[]
 | i,d :: r => .tup [.int i,d] :: k6 (i + 1) r
noncomputable def tY (x:DV) (δ : ay) (K:pd->Prop):Prop:=match x with
 | .p (.lst ds)=>K ⟨ds,fun _=>True⟩
 | .p (.tup ds)=>K ⟨ds,fun _=>True⟩
 | .o k=>match δ.mu[k]? with
  | some (some (.lst ds))=>K ⟨ds,fun δ' => δ'.mu[k]? = some (some (.lst ds))⟩
  | _=>False
 | _=>False
noncomputable def cJ (f:WE):WI:=fun δ K=>f δ fun x δ1=>tY x δ1 fun it=>K it δ1
noncomputable def nr (fa:WA):WI:=fun δ K=>fa δ fun xs δ1=>match xs with
 | [.p (.int j)]=>(-(2 ^ 62) <= j/\j < 2 ^ 62)/\K ⟨cn 0 j.toNat,fun _=>True⟩ δ1
 | _=>False
noncomputable def zL (fa:WA):WI:=fun δ K=>fa δ fun xs δ1=>match xs with
 | [.p (.int i),.p (.int j)]=>(-(2 ^ 62) <= i/\i < 2 ^ 62 /\ -(2 ^ 62) <= j/\j < 2 ^ 62)/\K ⟨cn i (j - i).toNat,fun _=>True⟩ δ1
 | _=>False
noncomputable def lY (fa:WA):WI:=fun δ K=>fa δ fun xs δ1=>match xs with
 | [x]=>tY x δ1 fun it=>K ⟨k6 0 it.items,it.bA⟩ δ1
 | _=>False
noncomputable def zM (x:DV) (δ : ay) (K:pd->Prop):Prop:=match x with
 | .p (.lst ds)=>K ⟨ds,fun _=>True⟩
 | .o k=>match δ.mu[k]? with
  | some (some (.lst ds))=>K ⟨ds,fun δ' => δ'.mu[k]? = some (some (.lst ds))⟩
  | _=>False
 | _=>False
theorem lZ {lo:Int} {n i:Nat} {d:D} (h:(cn lo n)[i]? = some d):i < n/\d = .int (lo + i):=by
 unfold cn at h
 rw[Ni] at h
 obtain⟨j,e,rfl⟩:=Xo.mp h
 have hj:=(oP.mp e).1
 rw[YV] at hj
 rw[YQ hj] at e
 cases e
 exact⟨hj,rfl⟩
theorem l6 (lo:Int) (n:Nat):(cn lo n).length=n:=by unfold cn;rw[qy,YV]
theorem tZ:∀ (ds:List D) (i:Nat),(k6 i ds).length=ds.length
 | [],_=>rfl
 | d :: r,i=>by rw[k6,Ex,Ex,tZ r]
theorem t5:∀ {ds:List D} {k i:Nat} {d:D},(k6 k ds)[i]? = some d->∃ e,ds[i]? = some e/\d = .tup [.int ((k + i:Nat):Int),e]
 | [],k,i,d,h=>by simp[k6] at h
 | e :: r,k,0,d,h=>by
  cases (show some (D.tup [.int (k:Nat),e])=some d by simpa [k6] using h)
  exact⟨e,rfl,rfl⟩
 | e :: r,k,i + 1,d,h=>by
  obtain⟨e',h1,h2⟩:=t5 (ds:=r) (k:=k + 1) (i:=i) (d:=d) (by simpa [k6] using h)
  exact⟨e',by simpa using h1,by rw[h2];congr 4;omega⟩
section
variable {X:Cx} {tg l a b:Expr} {f:WE} {fa:WA} {F H:Hp} {ad:List Addr} {δ : ay} {σ : St}
theorem JI.weak {iter:Expr} {w w':TI} (h:JI X tg iter w) (k:∀ σ H R,w' σ H R->w σ H R):JI X tg iter w':=⟨fun pins s σ H R I q=>h.out pins s σ H R I (k σ H R q)⟩
theorem qQ {ds:List D} {vs:List V} (h:ae F ds vs) {i:Nat} {d:D} (e:ds[i]? = some d):∃ v,vs[i]? = some v/\Is F d v:=by
 have hl:=h.length
 have hi:i < vs.length:=by rw[hl];exact (oP.mp e).1
 obtain⟨d',e1,h1⟩:=h.get (oO hi)
 rw[e] at e1;cases e1
 exact⟨_,oO hi,h1⟩
theorem FY {x:DV} {v:V} {K:pd->Prop} (S:SR F ad δ σ H) (V1:fM F ad x v) (h:zM x δ K):∃ a it,v = .ref a/\K it/\(∃ vs,H a=some (.lst vs)) ∧
  ∀ (F':Hp) (az:List Addr) (δ':ay) (σ':St) (H':Hp),av F F'->(∀ (k:Nat) (a:Addr),ad[k]? = some a->az[k]? = some a)->SR F' az δ' σ' H'->it.bA δ'->∃ vs,H' a=some (.lst vs)/\ae F' it.items vs:=by
 unfold zM at h
 split at h
 ·rename_i ds
  have V2:Is F (.lst ds) v:=V1
  simp only[Is] at V2
  obtain⟨a,vs,rfl,h1,h2⟩:=V2
  exact⟨a,_,rfl,h,⟨vs,S.sub _ _ h1⟩,fun F' az δ' σ' H' s _ S' _=>⟨vs,S'.sub _ _ (s _ _ h1),h2.same s⟩⟩
 ·rename_i k
  split at h
  ·rename_i ds e
   obtain⟨a,e1,rfl⟩:=V1
   obtain⟨a',o,e2,e3,vs,rfl,h4⟩:=S.mu k _ e
   rw[e1] at e2;cases e2
   refine⟨a,_,rfl,h,⟨vs,e3⟩,fun F' az δ' σ' H' _ pre S' ck => ?_⟩
   obtain⟨Xz,o,e5,e6,ws,rfl,h7⟩:=S'.mu k _ ck
   rw[pre k a e1] at e5;cases e5
   exact⟨ws,e6,h7⟩
  ·exact h.elim
 ·exact h.elim
theorem FZ {x:DV} {v:V} {K:pd->Prop} (S:SR F ad δ σ H) (V1:fM F ad x v) (h:tY x δ K):∃ a it,v = .ref a/\K it ∧
  (((∃ vs,H a=some (.lst vs))/\∀ (F':Hp) (az:List Addr) (δ':ay) (σ':St) (H':Hp),av F F'->(∀ (k:Nat) (a:Addr),ad[k]? = some a->az[k]? = some a)->SR F' az δ' σ' H'->it.bA δ'->∃ vs,H' a=some (.lst vs)/\ae F' it.items vs) ∨
  ((∃ vs,H a=some (.tup vs))/\∀ (F':Hp) (az:List Addr) (δ':ay) (σ':St) (H':Hp),av F F'->(∀ (k:Nat) (a:Addr),ad[k]? = some a->az[k]? = some a)->SR F' az δ' σ' H'->it.bA δ'->∃ vs,H' a=some (.tup vs)/\ae F' it.items vs)):=by
 unfold tY at h
 split at h
 ·rename_i ds
  obtain⟨a,it,e,k,r⟩:=FY (x := .p (.lst ds)) S V1 h
  exact⟨a,it,e,k,.inl r⟩
 ·rename_i ds
  have V2:Is F (.tup ds) v:=V1
  simp only[Is] at V2
  obtain⟨a,vs,rfl,h1,h2⟩:=V2
  exact⟨a,_,rfl,h,.inr ⟨⟨vs,S.sub _ _ h1⟩,fun F' az δ' σ' H' s _ S' _=>⟨vs,S'.sub _ _ (s _ _ h1),h2.same s⟩⟩⟩
 ·rename_i k
  obtain⟨a,it,e,k,r⟩:=FY (x := .o k) S V1 h
  exact⟨a,it,e,k,.inl r⟩
 ·exact h.elim
theorem iB (hl:JE X l (tD f)):JI X tg l (kX (cJ f)):=(PY hl).weak fun σ H R h0_ => el7 h0_ fun F ad δ K S q k =>⟨F,ad,δ,_,S,q,fun x δ1 h1 v F1 aQ H1 E1 S1 V1=>by
 obtain⟨a,it,rfl,hk,r⟩:=FZ S1 V1 h1
 refine⟨a,rfl,?_⟩
 rcases r with⟨⟨vs,e⟩,r⟩ | ⟨⟨vs,e⟩,r⟩
 ·refine .inl ⟨⟨vs,bc.of e⟩,k _ _ hk _ _ _ _ E1 S1 fun F' az δ' σ' H' s pre S' ck => ?_⟩
  obtain⟨ws,e1,e2⟩:=r F' az δ' σ' H' s pre S' ck
  refine⟨⟨ws,bc.of e1,by rw[e2.length];exact sG _⟩,fun i d ed => ?_⟩
  obtain⟨w,e3,e4⟩:=qQ e2 ed
  refine⟨⟨ws,w,bc.of e1,e3⟩,fun y iw ⟨eh,hy⟩ => ?_⟩
  subst eh
  refine⟨fun _ _ e=>e,?_⟩
  have:=hy ws (bc.of e1)
  rw[e3] at this;cases this
  rw[Nw.refl S'.sub];exact e4
 ·refine .inr ⟨⟨vs,bC.of e⟩,k _ _ hk _ _ _ _ E1 S1 fun F' az δ' σ' H' s pre S' ck => ?_⟩
  obtain⟨ws,e1,e2⟩:=r F' az δ' σ' H' s pre S' ck
  refine⟨⟨ws,bC.of e1,by rw[e2.length];exact sG _⟩,fun i d ed => ?_⟩
  obtain⟨w,e3,e4⟩:=qQ e2 ed
  refine⟨⟨ws,w,bC.of e1,e3⟩,fun y iw ⟨eh,hy⟩ => ?_⟩
  subst eh
  refine⟨fun _ _ e=>e,?_⟩
  have:=hy ws (bC.of e1)
  rw[e3] at this;cases this
  rw[Nw.refl S'.sub];exact e4⟩
theorem F0 {F H:Hp} {T:Addr} {d e:D} {x y:V} (s:av F H) (hT:H T=none) (h1:Is F d x) (h2:Is F e y):Is (Nw F H (upd H T (.tup [x,y]))) (.tup [d,e]) (.ref T):=by
 rw[Nw.upd s hT]
 have hF:F T=none:=by
  cases q:F T with
  | none=>rfl
  | some u=>rw[s T u q] at hT;cases hT
 have sm:av F (upd F T (.tup [x,y])):=cZ hF
 simp only[Is]
 exact⟨T,_,rfl,a9,.cons (h1.same sm) (.cons (h2.same sm) .nil)⟩
theorem F7 {elts:List Expr} {x1:Nat} {tp p pos:Pos} (hg:Gl X "enumerate") (hm:X.mg "enumerate" = none) (ha:JA X [a] (bL fa)) (hs:starEach [a] X.env=[(false,eval a X.env)]:=by rfl) :
  JI X (.Tuple elts x1 tp) (.Call (.Name "enumerate" p) [a] [] pos) (kX (lY fa)):=(PX hg hm ha hs).weak fun σ H R h0_ => el7 h0_ fun F ad δ K S q k =>⟨F,ad,δ,_,S,q,fun xs δ1 h1 vs F1 aQ H1 E1 S1 V1=>by
 match xs,h1,V1 with
 | [x],g1,⟨v,r,e,W1,W2⟩ =>
  subst e
  have W3:r=[]:=W2
  subst W3
  obtain⟨a,it,rfl,hk,r⟩:=FZ S1 W1 g1
  refine⟨a,rfl,?_⟩
  rcases r with⟨⟨vs,e⟩,r⟩ | ⟨⟨vs,e⟩,r⟩
  ·refine .inl ⟨⟨vs,bc.of e⟩,k _ _ hk _ _ _ _ E1 S1 fun F' az δ' σ' H' s pre S' ck => ?_⟩
   obtain⟨ws,e1,e2⟩:=r F' az δ' σ' H' s pre S' ck
   refine⟨⟨ws,bc.of e1,by rw[e2.length,tZ];exact sG _⟩,fun i d ed => ?_⟩
   obtain⟨d',zN,rfl⟩:=t5 ed
   obtain⟨w,e3,e4⟩:=qQ e2 zN
   refine⟨⟨ws,w,bc.of e1,e3⟩,fun y iw ⟨T,v,ey,hT,eh,hy⟩ => ?_⟩
   subst eh ey
   have:=hy ws (bc.of e1)
   rw[e3] at this;cases this
   refine⟨cZ hT,?_⟩
   rw[Yx]
   exact F0 S'.sub hT rfl e4
  ·refine .inr ⟨⟨vs,bC.of e⟩,k _ _ hk _ _ _ _ E1 S1 fun F' az δ' σ' H' s pre S' ck => ?_⟩
   obtain⟨ws,e1,e2⟩:=r F' az δ' σ' H' s pre S' ck
   refine⟨⟨ws,bC.of e1,by rw[e2.length,tZ]⟩,fun i d ed => ?_⟩
   obtain⟨d',zN,rfl⟩:=t5 ed
   obtain⟨w,e3,e4⟩:=qQ e2 zN
   refine⟨⟨ws,w,bC.of e1,e3⟩,fun y iw ⟨T,v,ey,hT,eh,hy⟩ => ?_⟩
   subst eh ey
   have:=hy ws (bC.of e1)
   rw[e3] at this;cases this
   refine⟨cZ hT,?_⟩
   rw[Yx]
   exact F0 S'.sub hT rfl e4
 | [],h1,_=>exact h1.elim
 | _ :: _ :: _,h1,_=>exact h1.elim⟩
theorem F8 {F1:Hp} {aQ:List Addr} {lo:Int} {n:Nat}:pe F1 aQ ⟨cn lo n,fun _=>True⟩ (si lo n):=fun F' az δ' σ' H' s pre S' _=>by
 refine⟨by show n <= (cn lo n).length;rw[l6];exact sG _,fun i d ed => ?_⟩
 obtain⟨hi,rfl⟩:=lZ ed
 refine⟨hi,fun x iw ⟨eh,ex⟩ => ?_⟩
 subst eh ex
 exact⟨fun _ _ e=>e,rfl⟩
theorem qR {p pos:Pos} (hg:Gl X "range") (hm:X.mg "range" = none) (ha:JA X [a] (bL fa)) (hs:starEach [a] X.env=[(false,eval a X.env)]:=by rfl):JI X tg (.Call (.Name "range" p) [a] [] pos) (kX (nr fa)) :=
 (OQ hg hm ha hs).weak fun σ H R h0_ => el7 h0_ fun F ad δ K S q k =>⟨F,ad,δ,_,S,q,fun xs δ1 h1 vs F1 aQ H1 E1 S1 V1=>by
  split at h1
  ·rename_i j
   obtain⟨v,r,e,V1,V2⟩:=V1
   have V2:r=[]:=V2
   have V1:v = .int j:=V1
   subst V2 V1 e
   exact⟨j,rfl,h1.1.1,h1.1.2,k _ _ h1.2 _ _ _ _ E1 S1 F8⟩
  ·exact h1.elim⟩
theorem PZ {p pos:Pos} (hg:Gl X "range") (hm:X.mg "range" = none) (ha:JA X [a,b] (bL fa)) (hs:starEach [a,b] X.env=[(false,eval a X.env),(false,eval b X.env)]:=by rfl) (gB:starEach [b] X.env=[(false,eval b X.env)]:=by rfl) :
  JI X tg (.Call (.Name "range" p) [a,b] [] pos) (kX (zL fa)) :=
 (OR hg hm ha hs gB).weak fun σ H R h0_ => el7 h0_ fun F ad δ K S q k =>⟨F,ad,δ,_,S,q,fun xs δ1 h1 vs F1 aQ H1 E1 S1 V1=>by
  split at h1
  ·rename_i i j
   obtain⟨v,r,e,V1,w,r2,e2,V2,V3⟩:=V1
   have V3:r2=[]:=V3
   have V1:v = .int i:=V1
   have V2:w = .int j:=V2
   subst V3 V1 V2 e2 e
   exact⟨i,j,rfl,h1.1,k _ _ h1.2 _ _ _ _ E1 S1 F8⟩
  ·exact h1.elim⟩
end
end L2
namespace L2
open PySem PySem.Spec PyProof.Rows
mutual
noncomputable def aC:D->D->Bool
 | .non,.non=>true
 | .bl a,.bl b=>a == b
 | .bl a,.int b=>(if a then 1 else 0) == b
 | .int a,.bl b=>a == (if b then 1 else 0)
 | .int a,.int b=>a == b
 | .str a,.str b=>a == b
 | .tup a,.tup b=>dE a b
 | .lst a,.lst b=>dE a b
 | _,_=>false
noncomputable def dE:List D->List D->Bool
 | [],[]=>true
 | a :: r,b :: s=>aC a b && dE r s
 | _,_=>false
end
mutual
theorem nu:∀ d:D,aC d d=true
 | .non=>by simp[aC]
 | .bl a=>by simp[aC]
 | .int a=>by simp[aC]
 | .str a=>by simp[aC]
 | .tup a=>by simp only[aC];exact zO a
 | .lst a=>by simp only[aC];exact zO a
theorem zO:∀ ds:List D,dE ds ds=true
 | []=>by simp[dE]
 | d :: r=>by simp only[dE,nu d,zO r,Bool.and_true]
end
mutual
theorem Is.inj {H:Hp}:∀ {d e:D} {v:V},Is H d v->Is H e v->d=e
 | .non,e,v,h,q=>by cases e<;>simp only[Is] at h q<;>first | rfl | (subst h;first | (obtain⟨_,_,z,_⟩:=q;cases z;done) | (cases q;done) | (cases q;rfl))
 | .bl a,e,v,h,q=>by cases e<;>simp only[Is] at h q<;>(subst h;first | (obtain⟨_,_,z,_⟩:=q;cases z;done) | (cases q;done) | (cases q;rfl))
 | .int a,e,v,h,q=>by cases e<;>simp only[Is] at h q<;>(subst h;first | (obtain⟨_,_,z,_⟩:=q;cases z;done) | (cases q;done) | (cases q;rfl))
 | .str a,e,v,h,q=>by cases e<;>simp only[Is] at h q<;>(subst h;first | (obtain⟨_,_,z,_⟩:=q;cases z;done) | (cases q;done) | (cases q;rfl))
 | .tup a,e,v,h,q=>by
  simp only[Is] at h
  obtain⟨p,vs,rfl,h1,h2⟩:=h
  cases e with
  | tup b =>
   simp only[Is] at q
   obtain⟨p',ws,z,q1,q2⟩:=q
   cases z
   rw[h1] at q1;cases q1
   rw[ae.inj h2 q2]
  | lst b =>
   simp only[Is] at q
   obtain⟨p',ws,z,q1,q2⟩:=q
   cases z
   rw[h1] at q1;cases q1
  | non=>simp only[Is] at q;cases q
  | bl _=>simp only[Is] at q;cases q
  | int _=>simp only[Is] at q;cases q
  | str _=>simp only[Is] at q;cases q
 | .lst a,e,v,h,q=>by
  simp only[Is] at h
  obtain⟨p,vs,rfl,h1,h2⟩:=h
  cases e with
  | lst b =>
   simp only[Is] at q
   obtain⟨p',ws,z,q1,q2⟩:=q
   cases z
   rw[h1] at q1;cases q1
   rw[ae.inj h2 q2]
  | tup b =>
   simp only[Is] at q
   obtain⟨p',ws,z,q1,q2⟩:=q
   cases z
   rw[h1] at q1;cases q1
  | non=>simp only[Is] at q;cases q
  | bl _=>simp only[Is] at q;cases q
  | int _=>simp only[Is] at q;cases q
  | str _=>simp only[Is] at q;cases q
theorem ae.inj {H:Hp}:∀ {ds es:List D} {vs:List V},ae H ds vs->ae H es vs->ds=es
 | [],es,vs,h,q=>by
  simp only[ae] at h;subst h
  cases es with
  | nil=>rfl
  | cons _ _=>simp only[ae] at q;obtain⟨_,_,z,_⟩:=q;cases z
 | d :: ds,es,vs,h,q=>by
  simp only[ae] at h
  obtain⟨v,r,rfl,h1,h2⟩:=h
  cases es with
  | nil=>simp only[ae] at q;cases q
  | cons e es =>
   simp only[ae] at q
   obtain⟨v',r',z,q1,q2⟩:=q
   cases z
   rw[Is.inj h1 q1,ae.inj h2 q2]
end
theorem t6:∀ {ds es:List D},ds.length≠es.length->dE ds es=false
 | [],[],h=>absurd rfl h
 | [],_ :: _,_=>by simp[dE]
 | _ :: _,[],_=>by simp[dE]
 | d :: r,e :: s,h=>by simp only[dE];rw[t6 (fun z=>h (by rw[Ex,Ex,z])),Bool.and_false]
noncomputable def pC (ds es:List D) (j:Nat):Bool:=match ds[j]?,es[j]? with
 | some a,some b=>aC a b
 | _,_=>true
theorem t7:∀ {ds es:List D},ds.length=es.length->(List.range ds.length).all (pC ds es)=dE ds es
 | [],[],_=>by simp[dE]
 | [],_ :: _,h=>by simp at h
 | _ :: _,[],h=>by simp at h
 | d :: r,e :: s,h=>by
  have ih:=t7 (ds:=r) (es:=s) (by simpa using h)
  rw[Ex,List.range_succ_eq_map,q1e,List.all_map]
  simp only[dE]
  rw[<-ih]
  rfl
section
variable {X:Cx} {pins:List (Addr × Obj)} {σ : St} {H:Hp} {s:Shared}
theorem wo {vs:List V} {ai:List Value} (r:Vals vs ai) {j:Nat} (h:j < ai.toArray.size):∃ v,vs[j]? = some v/\RelV v ai.toArray[j]:=by
 have hj:j < ai.length:=by simpa using h
 have hv:j < vs.length:=by rw[r.length];exact hj
 obtain⟨u,e,ru⟩:=r.get (oO hv)
 have:ai.toArray[j]=u:=by
  have:=(oP.mp e).2
  simpa using this
 rw[this]
 exact⟨_,oO hv,ru⟩
theorem cS (I:Inv X pins σ H s) {a:Addr} {vs:List V} (h:H a=some (.lst vs)):∃ ai:List Value,Vals vs ai/\s.heap.IsList a ai.toArray:=by
 obtain⟨ai,r,p,_⟩:=I.list (bc.of h)
 exact⟨ai,r,p.isList⟩
theorem cU (I:Inv X pins σ H s) {a:Addr} {vs:List V} (h:H a=some (.tup vs)):∃ ai:List Value,Vals vs ai/\s.heap.IsTuple a ai.toArray:=by
 obtain⟨ai,r,p,_⟩:=I.tuple (bC.of h)
 exact⟨ai,r,p⟩
theorem in1_units (A:Around):A.in1.units=A.units + 1:=rfl
theorem zP (I:Inv X pins σ H s):∀ (n:Nat) {A:Around} {d e:D} {v u:V} {x y:Value},dep d <= n->A.units + n < cLine->Is H d v->Is H e u->RelV v x->RelV u y->SeqAt.EqAt A s x y (aC d e)/\SeqAt.RcAt A s x y (aC d e):=by
 intro n
 induction n with
 | zero =>
  intro A d e v u x y hd hu hv hw rv ru
  have nz:A.units < cLine:=by omega
  cases d with
  | tup ds=>simp[dep] at hd
  | lst ds=>simp[dep] at hd
  | non =>
   cases (show v = .non from hv);cases rv
   cases e with
   | non=>cases (show u = .non from hw);cases ru;simp only[aC];exact⟨q0L _,SeqAt.RcAt.none_none⟩
   | bl b=>cases (show u = .bl b from hw);cases ru;simp only[aC];exact⟨SeqAt.EqAt.none_bool _,SeqAt.RcAt.none_bool _⟩
   | int b=>cases (show u = .int b from hw);obtain⟨t,rfl⟩:=ru;simp only[aC];exact⟨SeqAt.EqAt.none_int _ _,SeqAt.RcAt.none_int _ _⟩
   | str b=>cases (show u = .str b from hw);obtain⟨t,rfl⟩:=ru;simp only[aC];exact⟨SeqAt.EqAt.none_str _ _,SeqAt.RcAt.none_str _ _⟩
   | tup es=>simp only[Is] at hw;obtain⟨a,vs,rfl,h1,_⟩:=hw;cases ru;obtain⟨_,_,p⟩:=cU I h1;simp only[aC];exact⟨SeqAt.EqAt.none_tuple p nz,SeqAt.RcAt.none_tuple p nz⟩
   | lst es=>simp only[Is] at hw;obtain⟨a,vs,rfl,h1,_⟩:=hw;cases ru;obtain⟨_,_,p⟩:=cS I h1;simp only[aC];exact⟨SeqAt.EqAt.none_list p nz,SeqAt.RcAt.none_list p nz⟩
  | bl b0 =>
   cases (show v = .bl b0 from hv);cases rv
   cases e with
   | non=>cases (show u = .non from hw);cases ru;simp only[aC];exact⟨SeqAt.EqAt.bool_none _,SeqAt.RcAt.bool_none _⟩
   | bl b=>cases (show u = .bl b from hw);cases ru;simp only[aC];exact⟨SeqAt.EqAt.bool_bool _ _,SeqAt.RcAt.bool_bool _ _⟩
   | int b=>cases (show u = .int b from hw);obtain⟨t,rfl⟩:=ru;simp only[aC];exact⟨SeqAt.EqAt.bool_int _ _ _,SeqAt.RcAt.bool_int _ _ _⟩
   | str b=>cases (show u = .str b from hw);obtain⟨t,rfl⟩:=ru;simp only[aC];exact⟨SeqAt.EqAt.bool_str _ _ _,SeqAt.RcAt.bool_str _ _ _⟩
   | tup es=>simp only[Is] at hw;obtain⟨a,vs,rfl,h1,_⟩:=hw;cases ru;obtain⟨_,_,p⟩:=cU I h1;simp only[aC];exact⟨SeqAt.EqAt.bool_tuple _ p nz,SeqAt.RcAt.bool_tuple _ p nz⟩
   | lst es=>simp only[Is] at hw;obtain⟨a,vs,rfl,h1,_⟩:=hw;cases ru;obtain⟨_,_,p⟩:=cS I h1;simp only[aC];exact⟨SeqAt.EqAt.bool_list _ p nz,SeqAt.RcAt.bool_list _ p nz⟩
  | int b0 =>
   cases (show v = .int b0 from hv);obtain⟨t0,rfl⟩:=rv
   cases e with
   | non=>cases (show u = .non from hw);cases ru;simp only[aC];exact⟨SeqAt.EqAt.int_none _ _,SeqAt.RcAt.int_none _ _⟩
   | bl b=>cases (show u = .bl b from hw);cases ru;simp only[aC];exact⟨SeqAt.EqAt.int_bool _ _ _,SeqAt.RcAt.int_bool _ _ _⟩
   | int b=>cases (show u = .int b from hw);obtain⟨t,rfl⟩:=ru;simp only[aC];exact⟨q0Y _ _ _ _,SeqAt.RcAt.int_int _ _ _ _⟩
   | str b=>cases (show u = .str b from hw);obtain⟨t,rfl⟩:=ru;simp only[aC];exact⟨q0U _ _ _ _,SeqAt.RcAt.int_str _ _ _ _⟩
   | tup es=>simp only[Is] at hw;obtain⟨a,vs,rfl,h1,_⟩:=hw;cases ru;obtain⟨_,_,p⟩:=cU I h1;simp only[aC];exact⟨SeqAt.EqAt.int_tuple _ _ p nz,SeqAt.RcAt.int_tuple _ _ p nz⟩
   | lst es=>simp only[Is] at hw;obtain⟨a,vs,rfl,h1,_⟩:=hw;cases ru;obtain⟨_,_,p⟩:=cS I h1;simp only[aC];exact⟨SeqAt.EqAt.int_list _ _ p nz,SeqAt.RcAt.int_list _ _ p nz⟩
  | str b0 =>
   cases (show v = .str b0 from hv);obtain⟨t0,rfl⟩:=rv
   cases e with
   | non=>cases (show u = .non from hw);cases ru;simp only[aC];exact⟨SeqAt.EqAt.str_none _ _,SeqAt.RcAt.str_none _ _⟩
   | bl b=>cases (show u = .bl b from hw);cases ru;simp only[aC];exact⟨SeqAt.EqAt.str_bool _ _ _,SeqAt.RcAt.str_bool _ _ _⟩
   | int b=>cases (show u = .int b from hw);obtain⟨t,rfl⟩:=ru;simp only[aC];exact⟨q0V _ _ _ _,SeqAt.RcAt.str_int _ _ _ _⟩
   | str b=>cases (show u = .str b from hw);obtain⟨t,rfl⟩:=ru;simp only[aC];exact⟨SeqAt.EqAt.str_str _ _ _ _,SeqAt.RcAt.str_str _ _ _ _⟩
   | tup es=>simp only[Is] at hw;obtain⟨a,vs,rfl,h1,_⟩:=hw;cases ru;obtain⟨_,_,p⟩:=cU I h1;simp only[aC];exact⟨SeqAt.EqAt.str_tuple _ _ p nz,SeqAt.RcAt.str_tuple _ _ p nz⟩
   | lst es=>simp only[Is] at hw;obtain⟨a,vs,rfl,h1,_⟩:=hw;cases ru;obtain⟨_,_,p⟩:=cS I h1;simp only[aC];exact⟨SeqAt.EqAt.str_list _ _ p nz,SeqAt.RcAt.str_list _ _ p nz⟩
 | succ n ih =>
  intro A d e v u x y hd hu hv hw rv ru
  have nz:A.units < cLine:=by omega
  have step:∀ {ds es:List D} {vs us:List V} {ai bg:List Value} (r1:Vals vs ai) (r2:Vals us bg),bO ds <= n->ae H ds vs->ae H es us →
    ∀ (j:Nat) (h1:j < ai.toArray.size) (h2:j < bg.toArray.size),SeqAt.EqAt A.in1 s ai.toArray[j] bg.toArray[j] (pC ds es j):=fun {ds es vs us ai bg} r1 r2 hl i1 i2 j h1 h2=>by
   obtain⟨v1,e1,q1⟩:=wo r1 h1
   obtain⟨v2,e2,q2⟩:=wo r2 h2
   obtain⟨d1,f1,g1⟩:=i1.get e1
   obtain⟨d2,f2,g2⟩:=i2.get e2
   unfold pC
   rw[f1,f2]
   exact (ih (YF (y8 f1) hl) (by rw[in1_units];omega) g1 g2 q1 q2).1
  cases d with
  | tup ds =>
   have hl:bO ds <= n:=by simp only[dep] at hd;omega
   have zQ:=hv
   simp only[Is] at hv
   obtain⟨a,vs,rfl,h1,i1⟩:=hv
   cases rv
   obtain⟨ai,r1,p1⟩:=cU I h1
   cases e with
   | tup es =>
    have zR:=hw
    simp only[Is] at hw
    obtain⟨b,us,rfl,h2,i2⟩:=hw
    cases ru
    obtain⟨bg,r2,p2⟩:=cU I h2
    have rc:SeqAt.RcAt A s (.ref a) (.ref b) (aC (.tup ds) (.tup es)):=by
     have:=SeqAt.RcAt.tuples p1 p2 nz (step r1 r2 hl i1 i2)
     have l1:ai.toArray.size=ds.length:=by rw[yG,<-r1.length,i1.length]
     have l2:bg.toArray.size=es.length:=by rw[yG,<-r2.length,i2.length]
     rw[l1,l2] at this
     have eb:((List.range (min ds.length es.length)).all (pC ds es) && ds.length == es.length)=aC (.tup ds) (.tup es):=by
      simp only[aC]
      by_cases c:ds.length=es.length
      ·rw[<-c,Nat.min_self,t7 c];simp
      ·rw[t6 c];simp[c]
     rw[eb] at this;exact this
    refine⟨?_,rc⟩
    by_cases c:a=b
    ·subst c
     have:=Is.inj zQ zR
     rw[this,nu];exact q0L _
    ·exact SeqAt.EqAt.of_refs c rc
   | lst es =>
    simp only[Is] at hw
    obtain⟨b,us,rfl,h2,i2⟩:=hw
    cases ru
    obtain⟨bg,r2,p2⟩:=cS I h2
    simp only[aC];exact⟨SeqAt.EqAt.tuple_list p1 p2 nz,SeqAt.RcAt.tuple_list p1 p2 nz⟩
   | non=>cases (show u = .non from hw);cases ru;simp only[aC];exact⟨SeqAt.EqAt.tuple_none p1 nz,SeqAt.RcAt.tuple_none p1 nz⟩
   | bl b=>cases (show u = .bl b from hw);cases ru;simp only[aC];exact⟨SeqAt.EqAt.tuple_bool _ p1 nz,SeqAt.RcAt.tuple_bool _ p1 nz⟩
   | int b=>cases (show u = .int b from hw);obtain⟨t,rfl⟩:=ru;simp only[aC];exact⟨SeqAt.EqAt.tuple_int _ _ p1 nz,SeqAt.RcAt.tuple_int _ _ p1 nz⟩
   | str b=>cases (show u = .str b from hw);obtain⟨t,rfl⟩:=ru;simp only[aC];exact⟨SeqAt.EqAt.tuple_str _ _ p1 nz,SeqAt.RcAt.tuple_str _ _ p1 nz⟩
  | lst ds =>
   have hl:bO ds <= n:=by simp only[dep] at hd;omega
   have zQ:=hv
   simp only[Is] at hv
   obtain⟨a,vs,rfl,h1,i1⟩:=hv
   cases rv
   obtain⟨ai,r1,p1⟩:=cS I h1
   cases e with
   | lst es =>
    have zR:=hw
    simp only[Is] at hw
    obtain⟨b,us,rfl,h2,i2⟩:=hw
    cases ru
    obtain⟨bg,r2,p2⟩:=cS I h2
    have l1:ai.toArray.size=ds.length:=by rw[yG,<-r1.length,i1.length]
    have l2:bg.toArray.size=es.length:=by rw[yG,<-r2.length,i2.length]
    have rc:SeqAt.RcAt A s (.ref a) (.ref b) (aC (.lst ds) (.lst es)):=by
     by_cases c:ds.length=es.length
     ·have:=SeqAt.RcAt.lists p1 p2 (by rw[l1,l2];exact c) nz (step r1 r2 hl i1 i2)
      rw[l1,t7 c] at this
      simp only[aC];exact this
     ·simp only[aC];rw[t6 c]
      exact SeqAt.RcAt.lists_lengths p1 p2 (by rw[l1,l2];simpa using c) nz
    refine⟨?_,rc⟩
    by_cases c:a=b
    ·subst c
     have:=Is.inj zQ zR
     rw[this,nu];exact q0L _
    ·exact SeqAt.EqAt.of_refs c rc
   | tup es =>
    simp only[Is] at hw
    obtain⟨b,us,rfl,h2,i2⟩:=hw
    cases ru
    obtain⟨bg,r2,p2⟩:=cU I h2
    simp only[aC];exact⟨SeqAt.EqAt.list_tuple p1 p2 nz,SeqAt.RcAt.list_tuple p1 p2 nz⟩
   | non=>cases (show u = .non from hw);cases ru;simp only[aC];exact⟨SeqAt.EqAt.list_none p1 nz,SeqAt.RcAt.list_none p1 nz⟩
   | bl b=>cases (show u = .bl b from hw);cases ru;simp only[aC];exact⟨SeqAt.EqAt.list_bool _ p1 nz,SeqAt.RcAt.list_bool _ p1 nz⟩
   | int b=>cases (show u = .int b from hw);obtain⟨t,rfl⟩:=ru;simp only[aC];exact⟨SeqAt.EqAt.list_int _ _ p1 nz,SeqAt.RcAt.list_int _ _ p1 nz⟩
   | str b=>cases (show u = .str b from hw);obtain⟨t,rfl⟩:=ru;simp only[aC];exact⟨SeqAt.EqAt.list_str _ _ p1 nz,SeqAt.RcAt.list_str _ _ p1 nz⟩
  | non=>exact ih (by simp[dep]) (by omega) hv hw rv ru
  | bl b0=>exact ih (by simp[dep]) (by omega) hv hw rv ru
  | int b0=>exact ih (by simp[dep]) (by omega) hv hw rv ru
  | str b0=>exact ih (by simp[dep]) (by omega) hv hw rv ru
theorem P0 (I:Inv X pins σ H s) {A:Around} {d e:D} {v u:V} {x y:Value} (hd:dep d <= 60) (hu:A.units + 61 < cLine) (hv:Is H d v) (hw:Is H e u) (rv:RelV v x) (ru:RelV u y):SeqAt.RcNeAt A s x y (!aC d e):=by
 have nz:A.units < cLine:=by omega
 have step:∀ {ds es:List D} {vs us:List V} {ai bg:List Value} (r1:Vals vs ai) (r2:Vals us bg),bO ds <= 59->ae H ds vs->ae H es us →
   ∀ (j:Nat) (h1:j < ai.toArray.size) (h2:j < bg.toArray.size),SeqAt.EqAt A.in1 s ai.toArray[j] bg.toArray[j] (pC ds es j):=fun {ds es vs us ai bg} r1 r2 hl i1 i2 j h1 h2=>by
  obtain⟨v1,e1,q1⟩:=wo r1 h1
  obtain⟨v2,e2,q2⟩:=wo r2 h2
  obtain⟨d1,f1,g1⟩:=i1.get e1
  obtain⟨d2,f2,g2⟩:=i2.get e2
  unfold pC
  rw[f1,f2]
  exact (zP I 59 (YF (y8 f1) hl) (by rw[in1_units];omega) g1 g2 q1 q2).1
 cases d with
 | tup ds =>
  have hl:bO ds <= 59:=by simp only[dep] at hd;omega
  simp only[Is] at hv
  obtain⟨a,vs,rfl,h1,i1⟩:=hv
  cases rv
  obtain⟨ai,r1,p1⟩:=cU I h1
  cases e with
  | tup es =>
   simp only[Is] at hw
   obtain⟨b,us,rfl,h2,i2⟩:=hw
   cases ru
   obtain⟨bg,r2,p2⟩:=cU I h2
   have:=SeqAt.RcNeAt.tuples p1 p2 nz (step r1 r2 hl i1 i2)
   have l1:ai.toArray.size=ds.length:=by rw[yG,<-r1.length,i1.length]
   have l2:bg.toArray.size=es.length:=by rw[yG,<-r2.length,i2.length]
   rw[l1,l2] at this
   have eb:((List.range (min ds.length es.length)).all (pC ds es) && ds.length == es.length)=aC (.tup ds) (.tup es):=by
    simp only[aC]
    by_cases c:ds.length=es.length
    ·rw[<-c,Nat.min_self,t7 c];simp
    ·rw[t6 c];simp[c]
   rw[eb] at this;exact this
  | lst es=>simp only[Is] at hw;obtain⟨b,us,rfl,h2,i2⟩:=hw;cases ru;obtain⟨bg,r2,p2⟩:=cS I h2;simp only[aC];exact SeqAt.RcNeAt.tuple_list p1 p2 nz
  | non=>cases (show u = .non from hw);cases ru;simp only[aC];exact SeqAt.RcNeAt.tuple_none p1 nz
  | bl b=>cases (show u = .bl b from hw);cases ru;simp only[aC];exact SeqAt.RcNeAt.tuple_bool _ p1 nz
  | int b=>cases (show u = .int b from hw);obtain⟨t,rfl⟩:=ru;simp only[aC];exact SeqAt.RcNeAt.tuple_int _ _ p1 nz
  | str b=>cases (show u = .str b from hw);obtain⟨t,rfl⟩:=ru;simp only[aC];exact SeqAt.RcNeAt.tuple_str _ _ p1 nz
 | lst ds =>
  have hl:bO ds <= 59:=by simp only[dep] at hd;omega
  simp only[Is] at hv
  obtain⟨a,vs,rfl,h1,i1⟩:=hv
  cases rv
  obtain⟨ai,r1,p1⟩:=cS I h1
  cases e with
  | lst es =>
   simp only[Is] at hw
   obtain⟨b,us,rfl,h2,i2⟩:=hw
   cases ru
   obtain⟨bg,r2,p2⟩:=cS I h2
   have l1:ai.toArray.size=ds.length:=by rw[yG,<-r1.length,i1.length]
   have l2:bg.toArray.size=es.length:=by rw[yG,<-r2.length,i2.length]
   by_cases c:ds.length=es.length
   ·have:=SeqAt.RcNeAt.lists p1 p2 (by rw[l1,l2];exact c) nz (step r1 r2 hl i1 i2)
    rw[l1,t7 c] at this
    simp only[aC];exact this
   ·simp only[aC];rw[t6 c]
    exact SeqAt.RcNeAt.lists_lengths p1 p2 (by rw[l1,l2];simpa using c) nz
  | tup es=>simp only[Is] at hw;obtain⟨b,us,rfl,h2,i2⟩:=hw;cases ru;obtain⟨bg,r2,p2⟩:=cU I h2;simp only[aC];exact SeqAt.RcNeAt.list_tuple p1 p2 nz
  | non=>cases (show u = .non from hw);cases ru;simp only[aC];exact SeqAt.RcNeAt.list_none p1 nz
  | bl b=>cases (show u = .bl b from hw);cases ru;simp only[aC];exact SeqAt.RcNeAt.list_bool _ p1 nz
  | int b=>cases (show u = .int b from hw);obtain⟨t,rfl⟩:=ru;simp only[aC];exact SeqAt.RcNeAt.list_int _ _ p1 nz
  | str b=>cases (show u = .str b from hw);obtain⟨t,rfl⟩:=ru;simp only[aC];exact SeqAt.RcNeAt.list_str _ _ p1 nz
 | non =>
  cases (show v = .non from hv);cases rv
  cases e with
  | non=>cases (show u = .non from hw);cases ru;simp only[aC];exact SeqAt.RcNeAt.none_none
  | bl b=>cases (show u = .bl b from hw);cases ru;simp only[aC];exact SeqAt.RcNeAt.none_bool _
  | int b=>cases (show u = .int b from hw);obtain⟨t,rfl⟩:=ru;simp only[aC];exact SeqAt.RcNeAt.none_int _ _
  | str b=>cases (show u = .str b from hw);obtain⟨t,rfl⟩:=ru;simp only[aC];exact SeqAt.RcNeAt.none_str _ _
  | tup es=>simp only[Is] at hw;obtain⟨a,vs,rfl,h1,_⟩:=hw;cases ru;obtain⟨_,_,p⟩:=cU I h1;simp only[aC];exact SeqAt.RcNeAt.none_tuple p nz
  | lst es=>simp only[Is] at hw;obtain⟨a,vs,rfl,h1,_⟩:=hw;cases ru;obtain⟨_,_,p⟩:=cS I h1;simp only[aC];exact SeqAt.RcNeAt.none_list p nz
 | bl b0 =>
  cases (show v = .bl b0 from hv);cases rv
  cases e with
  | non=>cases (show u = .non from hw);cases ru;simp only[aC];exact SeqAt.RcNeAt.bool_none _
  | bl b=>cases (show u = .bl b from hw);cases ru;simp only[aC];exact SeqAt.RcNeAt.bool_bool _ _
  | int b=>cases (show u = .int b from hw);obtain⟨t,rfl⟩:=ru;simp only[aC];exact SeqAt.RcNeAt.bool_int _ _ _
  | str b=>cases (show u = .str b from hw);obtain⟨t,rfl⟩:=ru;simp only[aC];exact SeqAt.RcNeAt.bool_str _ _ _
  | tup es=>simp only[Is] at hw;obtain⟨a,vs,rfl,h1,_⟩:=hw;cases ru;obtain⟨_,_,p⟩:=cU I h1;simp only[aC];exact SeqAt.RcNeAt.bool_tuple _ p nz
  | lst es=>simp only[Is] at hw;obtain⟨a,vs,rfl,h1,_⟩:=hw;cases ru;obtain⟨_,_,p⟩:=cS I h1;simp only[aC];exact SeqAt.RcNeAt.bool_list _ p nz
 | int b0 =>
  cases (show v = .int b0 from hv);obtain⟨t0,rfl⟩:=rv
  cases e with
  | non=>cases (show u = .non from hw);cases ru;simp only[aC];exact SeqAt.RcNeAt.int_none _ _
  | bl b=>cases (show u = .bl b from hw);cases ru;simp only[aC];exact SeqAt.RcNeAt.int_bool _ _ _
  | int b=>cases (show u = .int b from hw);obtain⟨t,rfl⟩:=ru;simp only[aC];exact SeqAt.RcNeAt.int_int _ _ _ _
  | str b=>cases (show u = .str b from hw);obtain⟨t,rfl⟩:=ru;simp only[aC];exact SeqAt.RcNeAt.int_str _ _ _ _
  | tup es=>simp only[Is] at hw;obtain⟨a,vs,rfl,h1,_⟩:=hw;cases ru;obtain⟨_,_,p⟩:=cU I h1;simp only[aC];exact SeqAt.RcNeAt.int_tuple _ _ p nz
  | lst es=>simp only[Is] at hw;obtain⟨a,vs,rfl,h1,_⟩:=hw;cases ru;obtain⟨_,_,p⟩:=cS I h1;simp only[aC];exact SeqAt.RcNeAt.int_list _ _ p nz
 | str b0 =>
  cases (show v = .str b0 from hv);obtain⟨t0,rfl⟩:=rv
  cases e with
  | non=>cases (show u = .non from hw);cases ru;simp only[aC];exact SeqAt.RcNeAt.str_none _ _
  | bl b=>cases (show u = .bl b from hw);cases ru;simp only[aC];exact SeqAt.RcNeAt.str_bool _ _ _
  | int b=>cases (show u = .int b from hw);obtain⟨t,rfl⟩:=ru;simp only[aC];exact SeqAt.RcNeAt.str_int _ _ _ _
  | str b=>cases (show u = .str b from hw);obtain⟨t,rfl⟩:=ru;simp only[aC];exact SeqAt.RcNeAt.str_str _ _ _ _
  | tup es=>simp only[Is] at hw;obtain⟨a,vs,rfl,h1,_⟩:=hw;cases ru;obtain⟨_,_,p⟩:=cU I h1;simp only[aC];exact SeqAt.RcNeAt.str_tuple _ _ p nz
  | lst es=>simp only[Is] at hw;obtain⟨a,vs,rfl,h1,_⟩:=hw;cases ru;obtain⟨_,_,p⟩:=cS I h1;simp only[aC];exact SeqAt.RcNeAt.str_list _ _ p nz
end
variable [aE]
noncomputable def intsOf:List D->Option (List Int)
 | []=>some []
 | .int i :: r=>match intsOf r with
  | some ns=>some (i :: ns)
  | none=>none
 | _=>none
theorem F9:∀ ns:List Int,intsOf (ns.map D.int)=some ns
 | []=>rfl
 | n :: r=>by show (match intsOf (r.map D.int) with | some ns=>some (n :: ns) | none=>none)=_;rw[F9 r]
theorem wq:∀ {ds:List D} {ns:List Int},intsOf ds=some ns->ds=ns.map D.int
 | [],ns,h=>by cases h;rfl
 | .int i :: r,ns,h=>by
  unfold intsOf at h
  split at h
  ·rename_i ms e;cases h;rw[YC,wq e]
  ·cases h
 | .non :: r,ns,h=>by cases h
 | .bl _ :: r,ns,h=>by cases h
 | .str _ :: r,ns,h=>by cases h
 | .tup _ :: r,ns,h=>by cases h
 | .lst _ :: r,ns,h=>by cases h
theorem qT {F:Hp}:∀ {ns:List Int} {vs:List V},ae F (ns.map D.int) vs->vs=ns.map V.int
 | [],vs,h=>by simp only[Z6,ae] at h;exact h
 | n :: r,vs,h=>by
  simp only[YC,ae] at h
  obtain⟨v,t,rfl,h1,h2⟩:=h
  have h1:v = .int n:=h1
  rw[qT h2,h1];rfl
theorem t8 {F:Hp}:∀ {ns:List Int},ae F (ns.map D.int) (ns.map V.int)
 | [] => .nil
 | n :: r => .cons (show _=_ from rfl) t8
theorem qU {F:Hp}:∀ {as bs:List D} {us vs:List V},ae F as us->ae F bs vs->ae F (as ++ bs) (us ++ vs)
 | [],bs,us,vs,h,q=>by simp only[ae] at h;subst h;exact q
 | a :: r,bs,us,vs,h,q=>by
  simp only[ae] at h
  obtain⟨v,t,rfl,h1,h2⟩:=h
  exact .cons h1 (qU h2 q)
theorem F_ {F:Hp}:∀ {as:List D} {us:List V} (n:Nat),ae F as us->ae F (as.take n) (us.take n)
 | as,us,0,_=>by rw[q04,q04];exact .nil
 | [],us,n + 1,h=>by simp only[ae] at h;subst h;exact .nil
 | a :: r,us,n + 1,h=>by
  simp only[ae] at h
  obtain⟨v,t,rfl,h1,h2⟩:=h
  exact .cons h1 (F_ n h2)
theorem Ga {F:Hp}:∀ {as:List D} {us:List V} (n:Nat),ae F as us->ae F (as.drop n) (us.drop n)
 | as,us,0,h=>h
 | [],us,n + 1,h=>by simp only[ae] at h;subst h;exact .nil
 | a :: r,us,n + 1,h=>by
  simp only[ae] at h
  obtain⟨v,t,rfl,h1,h2⟩:=h
  exact Ga n h2
theorem Gb {F:Hp}:∀ {as:List D} {us:List V} (n:Nat) {d:D} {v:V},ae F as us->Is F d v->ae F (as.set n d) (us.set n v)
 | [],us,n,d,v,h,_=>by simp only[ae] at h;subst h;exact .nil
 | a :: r,us,0,d,v,h,q=>by
  simp only[ae] at h
  obtain⟨w,t,rfl,h1,h2⟩:=h
  exact .cons q h2
 | a :: r,us,n + 1,d,v,h,q=>by
  simp only[ae] at h
  obtain⟨w,t,rfl,h1,h2⟩:=h
  exact .cons h1 (Gb n h2 q)
theorem Gd {F:Hp}:∀ {as:List D} {us:List V} (n:Nat),ae F as us->ae F (as.eraseIdx n) (us.eraseIdx n)
 | [],us,n,h=>by simp only[ae] at h;subst h;exact .nil
 | a :: r,us,0,h=>by
  simp only[ae] at h
  obtain⟨w,t,rfl,h1,h2⟩:=h
  exact h2
 | a :: r,us,n + 1,h=>by
  simp only[ae] at h
  obtain⟨w,t,rfl,h1,h2⟩:=h
  exact .cons h1 (Gd n h2)
theorem wt {F H:Hp} {p:Addr} {ds:List D} {vs:List V} (s:av F H) (hp:H p=none) (h:ae F ds vs):Is (Nw F H (upd H p (.lst vs))) (.lst ds) (.ref p):=by
 rw[Nw.upd s hp]
 simp only[Is]
 exact⟨p,vs,rfl,a9,h.same (cZ (s.free hp))⟩
theorem zS {F H:Hp} {p:Addr} {ds:List D} {vs:List V} (s:av F H) (hp:H p=none) (h:ae F ds vs):Is (Nw F H (upd H p (.tup vs))) (.tup ds) (.ref p):=by
 rw[Nw.upd s hp]
 simp only[Is]
 exact⟨p,vs,rfl,a9,h.same (cZ (s.free hp))⟩
theorem t9 {F H:Hp} {d:D} {v:V} (s:av F H) (h:Is F d v):Is (Nw F H H) d v:=by rw[Nw.refl s];exact h
noncomputable def pD:D->D->(D->Prop)->Prop
 | .int i,.int j,K=>K (.int (i + j))
 | .lst a,.lst b,K=>a.length + b.length <= 1000/\K (.lst (a ++ b))
 | .tup a,.tup b,K=>(a≠[]/\a.length + b.length <= 1000)/\K (.tup (a ++ b))
 | .str a,.str b,K=>a.length + b.length <= 1000/\K (.str (a ++ b))
 | _,_,_=>False
noncomputable def oI (f:Int->Int->D):D->D->(D->Prop)->Prop
 | .int i,.int j,K=>K (f i j)
 | _,_,_=>False
noncomputable def dj (C:Int->Int->Prop) (f:Int->Int->D):D->D->(D->Prop)->Prop
 | .int i,.int j,K=>C i j/\K (f i j)
 | _,_,_=>False
noncomputable def fh:D->D->(D->Prop)->Prop
 | .int i,.int j,K=>lB i j/\K (.int (i * j))
 | .lst a,.int j,K=>(-(2 ^ 63) <= j/\j < 2 ^ 63/\a.length * j.toNat <= 1000)/\K (.lst (List.replicate j.toNat a).flatten)
 | _,_,_=>False
section
variable {X:Cx}
theorem wu {f:Value->Value->Sem Value} {g:Int->Int->V} {h:Int->Int->D} (op:cB X f (lz g)) (hg:∀ F i j,Is F (h i j) (g i j)):d5 X f (oI h):=by
 rintro pins s σ H x y v u Q I rx ry ⟨F,d,e,K,sub,rd,re,q,md⟩
 unfold oI at q
 split at q
 ·rename_i i j
  exact op pins s σ H x y v u Q I rx ry ⟨i,j,rd,re,md _ _ _ q (fun _ _ e=>e) (hg _ i j)⟩
 ·exact q.elim
theorem zT {f:Value->Value->Sem Value} {C:Int->Int->Prop} {g:Int->Int->V} {h:Int->Int->D} (op:cB X f (rI C g)) (hg:∀ F i j,Is F (h i j) (g i j)):d5 X f (dj C h):=by
 rintro pins s σ H x y v u Q I rx ry ⟨F,d,e,K,sub,rd,re,q,md⟩
 unfold dj at q
 split at q
 ·rename_i i j
  exact op pins s σ H x y v u Q I rx ry ⟨i,j,rd,re,q.1,md _ _ _ q.2 (fun _ _ e=>e) (hg _ i j)⟩
 ·exact q.elim
theorem wx:d5 X (binaryOp .Add) pD:=by
 rintro pins s σ H x y v u Q I rx ry ⟨F,d,e,K,sub,rd,re,q,md⟩
 unfold pD at q
 split at q
 ·rename_i i j
  exact DT pins s σ H x y v u Q I rx ry ⟨i,j,rd,re,md _ _ _ q (fun _ _ e=>e) rfl⟩
 ·rename_i as bs
  obtain⟨a,us,rfl,h1,h2⟩:=rd
  obtain⟨b,ws,rfl,h3,h4⟩:=re
  refine vJ pins s σ H _ _ v u Q I rx ry ⟨a,b,us,ws,rfl,rfl,h1,h3,jZ (by rw[h2.length,h4.length];exact q.1),fun p hp=>md _ _ _ q.2 (cZ hp) (wt sub hp (qU h2 h4))⟩
 ·rename_i as bs
  have dF:Is F (.tup as) x:=rd
  have gN:Is F (.tup bs) y:=re
  simp only[Is] at dF gN
  obtain⟨a,us,rfl,h1,h2⟩:=dF
  obtain⟨b,ws,rfl,h3,h4⟩:=gN
  have ne:us≠[]:=fun z=>q.1.1 (Zr.mp (by rw[<-h2.length,z];rfl))
  refine MV pins s σ H _ _ v u Q I rx ry ⟨a,b,us,ws,rfl,rfl,bC.of (sub _ _ h1),bC.of (sub _ _ h3),ne,jZ (by rw[h2.length,h4.length];exact q.1.2),fun z => ?_,fun z p hp=>md _ _ _ q.2 (cZ hp) (zS sub hp (qU h2 h4))⟩
  have:bs=[]:=Zr.mp (by rw[<-h4.length,z];rfl)
  subst this
  refine md _ _ _ q.2 (fun _ _ e=>e) (t9 sub ?_)
  rw[ZR];exact rd
 ·rename_i as bs
  have dF:x = .str as:=rd
  have gN:y = .str bs:=re
  subst dF gN
  exact Mp pins s σ H _ _ v u Q I rx ry ⟨as,bs,rfl,rfl,jZ q.1,md _ _ _ q.2 (fun _ _ e=>e) rfl⟩
 ·exact q.elim
theorem j9:d5 X (binaryOp .Sub) (oI fun i j => .int (i - j)):=wu L5 fun _ _ _=>rfl
theorem pE:d5 X (binaryOp .Mult) fh:=by
 rintro pins s σ H x y v u Q I rx ry ⟨F,d,e,K,sub,rd,re,q,md⟩
 unfold fh at q
 split at q
 ·rename_i i j
  exact L6 pins s σ H x y v u Q I rx ry ⟨i,j,rd,re,q.1,md _ _ _ q.2 (fun _ _ e=>e) rfl⟩
 ·rename_i as j
  obtain⟨a,us,rfl,h1,h2⟩:=rd
  refine Nc pins s σ H _ _ v u Q I rx ry ⟨a,j,us,rfl,re,h1,q.1.1,q.1.2.1,jZ (by rw[h2.length];exact q.1.2.2),fun p hp=>md _ _ _ q.2 (cZ hp) (wt sub hp ?_)⟩
  have:∀ k:Nat,ae F (List.replicate k as).flatten (List.replicate k us).flatten:=fun k=>by
   induction k with
   | zero=>exact .nil
   | succ k ih=>rw[YS,YS,ZC,ZC];exact qU h2 ih
  exact this _
 ·exact q.elim
theorem P8:d5 X (binaryOp .FloorDiv) (dj sv fun i j => .int (i.fdiv j)):=zT L7 fun _ _ _=>rfl
theorem jF:d5 X (binaryOp .Mod) (dj (fun _ j=>0 < j) fun i j => .int (i % j)):=zT x9 fun _ _ _=>rfl
theorem l7:d5 X (binaryOp .Pow) (dj dS fun i j => .int (i ^ j.toNat)):=zT L8 fun _ _ _=>rfl
noncomputable def oEq:D->D->(D->Prop)->Prop:=fun d e K=>dep d <= 60/\K (.bl (aC d e))
noncomputable def nv:D->D->(D->Prop)->Prop:=fun d e K=>dep d <= 60/\K (.bl (!aC d e))
theorem gv (hu:X.A.units + 64 < cLine):d5 X (compareOp .Eq) oEq:=by
 rintro pins s σ H x y v u Q I rx ry ⟨F,d,e,K,sub,rd,re,q,md⟩
 exact (zP I 60 q.1 (by omega) (rd.is sub) (re.is sub) rx ry).2 _ _ _ _ ⟨.bl _,H,I,rfl,md _ _ _ q.2 (fun _ _ e=>e) rfl⟩
theorem qV (hu:X.A.units + 64 < cLine):d5 X (compareOp .NotEq) nv:=by
 rintro pins s σ H x y v u Q I rx ry ⟨F,d,e,K,sub,rd,re,q,md⟩
 exact P0 I q.1 (by omega) (rd.is sub) (re.is sub) rx ry _ _ _ _ ⟨.bl _,H,I,rfl,md _ _ _ q.2 (fun _ _ e=>e) rfl⟩
noncomputable def oLt:D->D->(D->Prop)->Prop
 | .int i,.int j,K=>K (.bl (decide (i < j)))
 | .tup a,.tup b,K=>match intsOf a,intsOf b with
  | some ns,some ms=>K (.bl (HT.lexLt ns ms))
  | _,_=>False
 | _,_,_=>False
theorem wy (hu:X.A.units + 64 < cLine):d5 X (compareOp .Lt) oLt:=by
 rintro pins s σ H x y v u Q I rx ry ⟨F,d,e,K,sub,rd,re,q,md⟩
 unfold oLt at q
 split at q
 ·rename_i i j
  exact DU pins s σ H x y v u Q I rx ry ⟨i,j,rd,re,md _ _ _ q (fun _ _ e=>e) rfl⟩
 ·rename_i as bs
  split at q
  ·rename_i ns ms e1 e2
   rw[wq e1] at rd
   rw[wq e2] at re
   have dF:Is F (.tup (ns.map D.int)) x:=rd
   have gN:Is F (.tup (ms.map D.int)) y:=re
   simp only[Is] at dF gN
   obtain⟨a,us,rfl,h1,h2⟩:=dF
   obtain⟨b,ws,rfl,h3,h4⟩:=gN
   rw[qT h2] at h1
   rw[qT h4] at h3
   exact MT (by omega) pins s σ H _ _ v u Q I rx ry ⟨a,b,ns,ms,rfl,rfl,bC.of (sub _ _ h1),bC.of (sub _ _ h3),md _ _ _ q (fun _ _ e=>e) rfl⟩
  ·exact q.elim
 ·exact q.elim
theorem wz:d5 X (compareOp .LtE) (oI fun i j => .bl (decide (i <= j))):=wu Mg fun _ _ _=>rfl
theorem wA:d5 X (compareOp .Gt) (oI fun i j => .bl (decide (j < i))):=wu Mh fun _ _ _=>rfl
theorem P9:d5 X (compareOp .GtE) (oI fun i j => .bl (decide (j <= i))):=wu Mi fun _ _ _=>rfl
noncomputable def jk:D->D->(D->Prop)->Prop
 | .non,.non,K=>K (.bl true)
 | .bl _,.non,K=>K (.bl false)
 | .int _,.non,K=>K (.bl false)
 | .str _,.non,K=>K (.bl false)
 | .tup _,.non,K=>K (.bl false)
 | .lst _,.non,K=>K (.bl false)
 | _,_,_=>False
theorem Ge {F H:Hp} {d e:D} {x y:V} {K:D->Prop} (rd:gs F H d x) (re:gs F H e y) (q:jk d e K):y = .non/\K (.bl (decide (x = .non))):=by
 unfold jk at q
 split at q
 ·have:x = .non:=rd;have h2:y = .non:=re;subst this;exact⟨h2,q⟩
 ·rename_i b;have:x = .bl b:=rd;have h2:y = .non:=re;subst this;exact⟨h2,q⟩
 ·rename_i b;have:x = .int b:=rd;have h2:y = .non:=re;subst this;exact⟨h2,q⟩
 ·rename_i b;have:x = .str b:=rd;have h2:y = .non:=re;subst this;exact⟨h2,q⟩
 ·rename_i b;have rd:Is F (.tup b) x:=rd;simp only[Is] at rd;obtain⟨a,_,rfl,_⟩:=rd;exact⟨re,q⟩
 ·rename_i b;obtain⟨a,_,rfl,_⟩:=rd;exact⟨re,q⟩
 ·exact q.elim
noncomputable def zU:D->D->(D->Prop)->Prop:=fun d e K=>jk d e fun z=>match z with
 | .bl b=>K (.bl (!b))
 | _=>False
theorem P_:d5 X (compareOp .Is) jk:=by
 rintro pins s σ H x y v u Q I rx ry ⟨F,d,e,K,sub,rd,re,q,md⟩
 obtain⟨h1,h2⟩:=Ge rd re q
 exact Mj pins s σ H x y v u Q I rx ry ⟨h1,md _ _ _ h2 (fun _ _ e=>e) rfl⟩
theorem Qa:d5 X (compareOp .IsNot) zU:=by
 rintro pins s σ H x y v u Q I rx ry ⟨F,d,e,K,sub,rd,re,q,md⟩
 obtain⟨h1,h2⟩:=Ge rd re q
 exact Ml pins s σ H x y v u Q I rx ry ⟨h1,md _ _ _ h2 (fun _ _ e=>e) rfl⟩
noncomputable def k7 (neg:Bool):D->D->(D->Prop)->Prop
 | d,.lst es,K=>bO es <= 55/\K (.bl (if neg then !(es.any fun e=>aC e d) else es.any fun e=>aC e d))
 | d,.tup es,K=>bO es <= 55/\K (.bl (if neg then !(es.any fun e=>aC e d) else es.any fun e=>aC e d))
 | _,_,_=>False
noncomputable def g9 (H:Hp) (d:D) (u:Value):Bool:=by
 classical exact if ∃ e v,Is H e v/\RelV v u/\aC e d=true then true else false
theorem Gf {H:Hp} {d e:D} {v:V} {u:Value} (h:Is H e v) (r:RelV v u):g9 H d u=aC e d:=by
 unfold g9
 split
 ·rename_i z
  obtain⟨e',v',h',r',q⟩:=z
  have:v'=v:=r'.inj r
  subst this
  rw[Is.inj h h'];exact q.symm
 ·rename_i z
  cases q:aC e d with
  | false=>rfl
  | true=>exact absurd ⟨e,v,h,r,q⟩ z
theorem t_ {H:Hp} {d:D}:∀ {es:List D} {vs:List V} {us:List Value},ae H es vs->Vals vs us->us.any (g9 H d)=es.any fun e=>aC e d
 | [],vs,us,h,r=>by simp only[ae] at h;subst h;cases r;rfl
 | e :: es,vs,us,h,r=>by
  simp only[ae] at h
  obtain⟨v,t,rfl,h1,h2⟩:=h
  cases r with
  | cons r1 r2=>rw[List.any_cons,List.any_cons,Gf h1 r1,t_ h2 r2]
theorem ua {pins:List (Addr × Obj)} {σ : St} {H:Hp} {s:Shared} (I:Inv X pins σ H s) {A:Around} (hu:A.units + 60 < cLine) {d:D} {x:V} {w:Value} (hd:Is H d x) (rd:RelV x w):∀ {es:List D} {vs:List V} {us:List Value},bO es <= 55->ae H es vs->Vals vs us->∀ u∈us,SeqAt.EqAt A s u w (g9 H d u)
 | [],vs,us,_,h,r=>by simp only[ae] at h;subst h;cases r;intro u hu;cases hu
 | e :: es,vs,us,hp,h,r=>by
  simp only[ae] at h
  obtain⟨v,t,rfl,h1,h2⟩:=h
  simp only[bO] at hp
  cases r with
  | cons r1 r2 =>
   intro u hu'
   rcases X7.mp hu' with rfl | hu'
   ·rw[Gf h1 r1];exact (zP I 55 (by omega) (by omega) h1 hd r1 rd).1
   ·exact ua I hu hd rd (by omega) h2 r2 u hu'
theorem zV (hu:X.A.units + 64 < cLine):d5 X (compareOp .In) (k7 false):=by
 rintro pins s σ H x y v u Q I rx ry ⟨F,d,e,K,sub,rd,re,q,md⟩
 unfold k7 at q
 split at q
 ·rename_i es
  obtain⟨a,vs,rfl,h1,h2⟩:=re
  cases ry
  obtain⟨ai,r,p⟩:=cS I h1
  have gF:=h2.same sub
  refine SeqAt.in_listAt (g9 H d) p (fun w hw=>ua I (by rw[in1_units];omega) (rd.is sub) rx q.1 gF r w (by simpa using hw)) ⟨.bl _,H,I,rfl,?_⟩
  rw[show ai.toArray.any (g9 H d)=ai.any (g9 H d) by simp,t_ gF r]
  exact md _ _ _ q.2 (fun _ _ e=>e) rfl
 ·rename_i es
  have gN:Is F (.tup es) y:=re
  simp only[Is] at gN
  obtain⟨a,vs,rfl,h1,h2⟩:=gN
  cases ry
  obtain⟨ai,r,p⟩:=cU I (sub _ _ h1)
  have gF:=h2.same sub
  refine SeqAt.in_tupleAt (g9 H d) p (fun w hw=>ua I (by rw[in1_units];omega) (rd.is sub) rx q.1 gF r w (by simpa using hw)) ⟨.bl _,H,I,rfl,?_⟩
  rw[show ai.toArray.any (g9 H d)=ai.any (g9 H d) by simp,t_ gF r]
  exact md _ _ _ q.2 (fun _ _ e=>e) rfl
 ·exact q.elim
theorem Gg (hu:X.A.units + 64 < cLine):d5 X (compareOp .NotIn) (k7 true):=by
 rintro pins s σ H x y v u Q I rx ry ⟨F,d,e,K,sub,rd,re,q,md⟩
 unfold k7 at q
 split at q
 ·rename_i es
  obtain⟨a,vs,rfl,h1,h2⟩:=re
  cases ry
  obtain⟨ai,r,p⟩:=cS I h1
  have gF:=h2.same sub
  refine SeqAt.notIn_listAt (g9 H d) p (fun w hw=>ua I (by rw[in1_units];omega) (rd.is sub) rx q.1 gF r w (by simpa using hw)) ⟨.bl _,H,I,rfl,?_⟩
  rw[show ai.toArray.any (g9 H d)=ai.any (g9 H d) by simp,t_ gF r]
  exact md _ _ _ q.2 (fun _ _ e=>e) rfl
 ·rename_i es
  have gN:Is F (.tup es) y:=re
  simp only[Is] at gN
  obtain⟨a,vs,rfl,h1,h2⟩:=gN
  cases ry
  obtain⟨ai,r,p⟩:=cU I (sub _ _ h1)
  have gF:=h2.same sub
  refine SeqAt.notIn_tupleAt (g9 H d) p (fun w hw=>ua I (by rw[in1_units];omega) (rd.is sub) rx q.1 gF r w (by simpa using hw)) ⟨.bl _,H,I,rfl,?_⟩
  rw[show ai.toArray.any (g9 H d)=ai.any (g9 H d) by simp,t_ gF r]
  exact md _ _ _ q.2 (fun _ _ e=>e) rfl
 ·exact q.elim
noncomputable def a6:D->D->(D->Prop)->Prop
 | .lst ds,.int i,K=>match d_ ds i with
  | some d=>K d
  | none=>False
 | .tup ds,.int i,K=>match d_ ds i with
  | some d=>K d
  | none=>False
 | .str z,.int i,K=>z.length <= 1000/\match d_ z.cps.toList i with
  | some c=>K (.str ⟨#[c]⟩)
  | none=>False
 | _,_,_=>False
theorem Gh {F:Hp} {ds:List D} {vs:List V} {i:Int} {d:D} (h:ae F ds vs) (e:d_ ds i=some d):∃ v,d_ vs i=some v/\Is F d v:=by
 unfold d_ at e ⊢
 rw[h.length]
 cases q:i9 ds.length i with
 | none=>rw[q] at e;cases e
 | some j =>
  rw[q] at e
  exact qQ h (show ds[j]? = some d from e)
theorem bj:FA X a6:=by
 rintro value slice pins s σ H x y v u Q I rx ry ⟨F,d,e,K,sub,rd,re,q,md⟩ hs
 unfold a6 at q
 split at q
 ·rename_i ds i
  split at q
  ·rename_i d' e1
   obtain⟨a,vs,rfl,h1,h2⟩:=rd
   obtain⟨w,e2,h3⟩:=Gh h2 e1
   exact vI value slice pins s σ H _ _ v u Q I rx ry ⟨a,vs,i,w,rfl,re,bc.of h1,e2,md _ _ _ q (fun _ _ e=>e) (t9 sub h3)⟩ hs
  ·exact q.elim
 ·rename_i ds i
  split at q
  ·rename_i d' e1
   have dF:Is F (.tup ds) x:=rd
   simp only[Is] at dF
   obtain⟨a,vs,rfl,h1,h2⟩:=dF
   obtain⟨w,e2,h3⟩:=Gh h2 e1
   exact MX value slice pins s σ H _ _ v u Q I rx ry ⟨a,vs,i,w,rfl,re,bC.of (sub _ _ h1),e2,md _ _ _ q (fun _ _ e=>e) (t9 sub h3)⟩ hs
  ·exact q.elim
 ·rename_i z i
  obtain⟨hz,q⟩:=q
  split at q
  ·rename_i c e1
   have dF:x = .str z:=rd
   subst dF
   exact MY value slice pins s σ H _ _ v u Q I rx ry ⟨z,i,c,rfl,re,jZ hz,e1,md _ _ _ q (fun _ _ e=>e) rfl⟩ hs
  ·exact q.elim
 ·exact q.elim
noncomputable def cutD (ds:List D) (lo hi:Option Int):List D:=(ds.drop (HT.aX ds.length 0 lo)).take (HT.aX ds.length ds.length hi - HT.aX ds.length 0 lo)
theorem Gi {F:Hp} {ds:List D} {vs:List V} (h:ae F ds vs) (lo hi:Option Int):ae F (cutD ds lo hi) (cI vs lo hi):=by
 unfold cutD cI
 rw[h.length]
 exact F_ _ (Ga _ h)
noncomputable abbrev WO:=ay->(Option Int->ay->Prop)->Prop
noncomputable def wB (f:WO):TO:=fun σ H Q=>∃ F ad δ K,SR F ad δ σ H/\f δ K/\∀ o δ',K o δ'->∀ F' az H',Ext F ad δ.mu H F' az δ'.mu H'->SR F' az δ' σ H'->Q o H'
noncomputable def pF:WO:=fun δ K=>K none δ
noncomputable def zW (f:WE):WO:=fun δ K=>f δ fun x δ1=>match x with
 | .p (.int i)=>K (some i) δ1
 | _=>False
theorem Qb:PO X none (wB pF):=fun pins s σ H Q I h0_ => el7 h0_ fun F ad δ K S q k =>Ee pins s σ H Q I (k _ _ q _ _ _ .refl S)
theorem Qc {e:Expr} {f:WE} (h:JE X e (tD f)):PO X (some e) (wB (zW f)):=fun pins s σ H Q I h0_ => el7 h0_ fun F ad δ K S q k =>vH h.out pins s σ H Q I ⟨F,ad,δ,_,S,q,fun x δ1 h1 v F1 aQ H1 E1 S1 V1=>by
 split at h1
 ·rename_i i
  exact⟨i,V1,k _ _ h1 _ _ _ E1 S1⟩
 ·exact h1.elim⟩
noncomputable def jl:D->(D->Prop)->Prop
 | .int i,K=>K (.int (-i))
 | _,_=>False
theorem zX {e:Expr} {f:WE} {pos:Pos} (he:JE X e (tD f)):JE X (.UnaryOp .USub e pos) (tD (d1 f jl)) :=
 (OS L_ he).weak fun σ H Q h0_ => el7 h0_ fun F ad δ K S q k =>⟨F,ad,δ,_,S,q,fun x δ1 h1 v F1 aQ H1 E1 S1 V1=>by
  obtain⟨d,h4,rd⟩:=jg S1 V1 h1
  unfold jl at h4
  split at h4
  ·rename_i i
   exact⟨i,rd,k _ _ h4 _ _ _ _ E1 S1 rfl⟩
  ·exact h4.elim⟩
noncomputable def ub (f g h:WE) (o o':D->D->(D->Prop)->Prop):WE:=fun δ K=>f δ fun x δ1=>g δ1 fun y δ2=>iy x δ2 fun d=>iy y δ2 fun e=>o d e fun z=>match z with
 | .bl true=>h δ2 fun w δ3=>iy y δ3 fun e'=>iy w δ3 fun c=>o' e' c fun z'=>K (.p z') δ3
 | .bl false=>K (.p (.bl false)) δ2
 | _=>False
theorem zY {a b c:Expr} {f g h:WE} {op jK:CmpOp} {o o':D->D->(D->Prop)->Prop} {pos:Pos} (ho:d5 X (compareOp op) o) (i5:d5 X (compareOp jK) o') (ha:JE X a (tD f)) (hb:JE X b (tD g)) (hc:JE X c (tD h))
  (hm:lastMarks [op,jK] [b,c]=false:=by with_unfolding_all rfl):JE X (.Compare a [op,jK] [b,c] pos) (tD (ub f g h o o')) :=
 (OU ho i5 ha hb hc hm).weak fun σ H Q h0_ => el7 h0_ fun F ad δ K S q k =>by
  refine⟨F,ad,δ,_,S,q,fun x δ1 h1 v1 F1 aQ H1 E1 S1 V1=>⟨F1,aQ,δ1,_,S1,h1,fun y δ2 h2 v2 F2 cy H2 E2 S2 V2 => ?_⟩⟩
  obtain⟨d,h3,rd⟩:=jg S2 (V1.ext E2) h2
  obtain⟨e,h4,re⟩:=jg S2 V2 h3
  refine⟨F2,d,e,_,S2.sub,rd,re,h4,fun z v H' hz sm is => ?_⟩
  have S3:=S2.al sm
  have E3:=Ext.al S2 sm
  split at hz
  ·refine⟨true,is,?_⟩
   rw[Xp rfl]
   refine⟨_,cy,δ2,_,S3,hz,fun w δ4 h5 v4 F4 wc H4 E4 S4 V4 => ?_⟩
   obtain⟨d',h6,wa⟩:=jg S4 ((V2.ext E3).ext E4) h5
   obtain⟨e',h7,Qd⟩:=jg S4 V4 h6
   exact⟨F4,d',e',_,S4.sub,wa,Qd,h7,fun z v H' hz sm is=>k _ _ hz _ _ _ _ ((((E1.trans E2).trans E3).trans E4).trans (Ext.al S4 sm)) (S4.al sm) is⟩
  ·refine⟨false,is,?_⟩
   rw[Xm Eu]
   exact k _ _ hz _ _ _ _ ((E1.trans E2).trans E3) S3 rfl
  ·exact hz.elim
end
noncomputable def sortI (ns:List Int):List Int:=ns.mergeSort fun a b=>decide (a <= b)
theorem sortI_perm (ns:List Int):(sortI ns).Perm ns:=List.mergeSort_perm ns _
theorem Qe (ns:List Int):(sortI ns).Pairwise (· <= ·):=by
 have:=List.pairwise_mergeSort (le:=fun a b:Int=>decide (a <= b)) (fun a b c h1 h2=>by simp at *;omega) (fun a b=>by simp;omega) ns
 exact this.imp fun h=>by simpa using h
theorem Gj:∀ {as bs:List Int},as.Perm bs->as.Pairwise (· <= ·)->bs.Pairwise (· <= ·)->as=bs
 | [],bs,p,_,_=>p.nil_eq
 | a :: as,[],p,_,_=>absurd p.length_eq (by simp)
 | a :: as,b :: bs,p,s,t=>by
  have e:a=b:=by
   have h1:a <= b:=by
    have hb:b∈a :: as:=p.mem_iff.mpr (Nh ..)
    rcases X7.mp hb with h | h
    ·omega
    ·exact (Zl.mp s).1 b h
   have h2:b <= a:=by
    have ha:a∈b :: bs:=p.mem_iff.mp (Nh ..)
    rcases X7.mp ha with h | h
    ·omega
    ·exact (Zl.mp t).1 a h
   omega
  subst e
  rw[Gj (List.perm_cons a |>.mp p) (Zl.mp s).2 (Zl.mp t).2]
theorem Qf {as bs:List Int} (p:as.Perm bs) (s:as.Pairwise (· <= ·)):as=sortI bs:=Gj (p.trans (sortI_perm bs).symm) s (Qe bs)
noncomputable def eD:List D->(D->Prop)->Prop
 | [.lst ds],K=>K (.int ds.length)
 | [.tup ds],K=>K (.int ds.length)
 | [.str z],K=>z.length <= 1000/\K (.int z.length)
 | _,_=>False
noncomputable def wC:List D->(D->Prop)->Prop
 | [.lst ds],K=>K (.tup ds)
 | [.tup ds],K=>K (.tup ds)
 | _,_=>False
noncomputable def pG:List D->Option (List Bool)
 | []=>some []
 | .bl b :: r=>match pG r with
  | some bs=>some (b :: bs)
  | none=>none
 | _=>none
theorem Gk:∀ bs:List Bool,pG (bs.map D.bl)=some bs
 | []=>rfl
 | n :: r=>by show (match pG (r.map D.bl) with | some ns=>some (n :: ns) | none=>none)=_;rw[Gk r]
theorem Gm:∀ {ds:List D} {bs:List Bool},pG ds=some bs->ds=bs.map D.bl
 | [],ns,h=>by cases h;rfl
 | .bl i :: r,ns,h=>by
  unfold pG at h
  split at h
  ·rename_i ms e;cases h;rw[YC,Gm e]
  ·cases h
 | .non :: r,ns,h=>by cases h
 | .int _ :: r,ns,h=>by cases h
 | .str _ :: r,ns,h=>by cases h
 | .tup _ :: r,ns,h=>by cases h
 | .lst _ :: r,ns,h=>by cases h
theorem Gn {F:Hp}:∀ {bs:List Bool} {vs:List V},ae F (bs.map D.bl) vs->vs=bs.map V.bl
 | [],vs,h=>by simp only[Z6,ae] at h;exact h
 | n :: r,vs,h=>by
  simp only[YC,ae] at h
  obtain⟨v,t,rfl,h1,h2⟩:=h
  have h1:v = .bl n:=h1
  rw[Gn h2,h1];rfl
noncomputable def l8:List D->(D->Prop)->Prop
 | [.lst ds],K=>match pG ds with
  | some bs=>K (.bl (bs.all id))
  | none=>False
 | _,_=>False
noncomputable def uc:List D->(D->Prop)->Prop
 | [.int i,.int j],K=>K (.int (min i j))
 | _,_=>False
noncomputable def wD:List D->(D->Prop)->Prop
 | [.int i,.int j],K=>K (.int (max i j))
 | _,_=>False
section
variable {X:Cx}
theorem dF {F H:Hp} {d:D} {xs:List V} (h:gL F H [d] xs):∃ v,xs=[v]/\gs F H d v:=by
 obtain⟨v,r,rfl,h1,h2⟩:=h
 have h2:r=[]:=h2
 subst h2
 exact⟨v,rfl,h1⟩
theorem Gp {F H:Hp} {d e:D} {xs:List V} (h:gL F H [d,e] xs):∃ v w,xs=[v,w]/\gs F H d v/\gs F H e w:=by
 obtain⟨v,r,rfl,h1,h2⟩:=h
 obtain⟨w,rfl,h3⟩:=dF h2
 exact⟨v,w,rfl,h1,h3⟩
theorem l9:eK X (.builtin "len") eD:=by
 rintro pins s σ H xs us Q I r ⟨F,ds,K,sub,rd,q,md⟩
 unfold eD at q
 split at q
 ·obtain⟨v,rfl,a,vs,rfl,h1,h2⟩:=dF rd
  exact Ej pins s σ H _ us Q I r ⟨a,vs,rfl,.inl (bc.of h1),by rw[h2.length];exact md _ _ _ q (fun _ _ e=>e) rfl⟩
 ·rename_i es
  obtain⟨v,rfl,h⟩:=dF rd
  have h:Is F (.tup es) v:=h
  simp only[Is] at h
  obtain⟨a,vs,rfl,h1,h2⟩:=h
  exact Ej pins s σ H _ us Q I r ⟨a,vs,rfl,.inr (bC.of (sub _ _ h1)),by rw[h2.length];exact md _ _ _ q (fun _ _ e=>e) rfl⟩
 ·rename_i z
  obtain⟨v,rfl,h⟩:=dF rd
  have h:v = .str z:=h
  subst h
  exact M6 pins s σ H _ us Q I r ⟨z,rfl,jZ q.1,md _ _ _ q.2 (fun _ _ e=>e) rfl⟩
 ·exact q.elim
theorem Qg:eK X (.type "tuple") wC:=by
 rintro pins s σ H xs us Q I r ⟨F,ds,K,sub,rd,q,md⟩
 unfold wC at q
 split at q
 ·obtain⟨v,rfl,a,vs,rfl,h1,h2⟩:=dF rd
  exact Ek pins s σ H _ us Q I r ⟨a,vs,rfl,.inl ⟨bc.of h1,fun l hl=>md _ _ _ q (cZ hl) (zS sub hl h2)⟩⟩
 ·rename_i es
  obtain⟨v,rfl,h⟩:=dF rd
  have h0:Is F (.tup es) v:=h
  have h:Is F (.tup es) v:=h
  simp only[Is] at h
  obtain⟨a,vs,rfl,h1,h2⟩:=h
  exact Ek pins s σ H _ us Q I r ⟨a,vs,rfl,.inr ⟨bC.of (sub _ _ h1),md _ _ _ q (fun _ _ e=>e) (t9 sub h0)⟩⟩
 ·exact q.elim
theorem Qh (hc:X.calm=true):eK X (.builtin "all") l8:=by
 rintro pins s σ H xs us Q I r ⟨F,ds,K,sub,rd,q,md⟩
 unfold l8 at q
 split at q
 ·rename_i es
  split at q
  ·rename_i bs e
   obtain⟨v,rfl,a,vs,rfl,h1,h2⟩:=dF rd
   rw[Gm e] at h2
   rw[Gn h2] at h1
   exact O9 hc pins s σ H _ us Q I r ⟨a,bs,rfl,bc.of h1,md _ _ _ q (fun _ _ e=>e) rfl⟩
  ·exact q.elim
 ·exact q.elim
theorem Gq (hc:X.calm=true):eK X (.builtin "min") uc:=by
 rintro pins s σ H xs us Q I r ⟨F,ds,K,sub,rd,q,md⟩
 unfold uc at q
 split at q
 ·rename_i i j
  obtain⟨v,w,rfl,h1,h2⟩:=Gp rd
  have h1:v = .int i:=h1
  have h2:w = .int j:=h2
  subst h1 h2
  refine Mr hc pins s σ H _ us Q I r ⟨i,j,rfl,?_⟩
  have:(if j < i then j else i)=min i j:=by split<;>omega
  rw[this]
  exact md _ _ _ q (fun _ _ e=>e) rfl
 ·exact q.elim
theorem Qi (hc:X.calm=true):eK X (.builtin "max") wD:=by
 rintro pins s σ H xs us Q I r ⟨F,ds,K,sub,rd,q,md⟩
 unfold wD at q
 split at q
 ·rename_i i j
  obtain⟨v,w,rfl,h1,h2⟩:=Gp rd
  have h1:v = .int i:=h1
  have h2:w = .int j:=h2
  subst h1 h2
  refine Mq hc pins s σ H _ us Q I r ⟨i,j,rfl,?_⟩
  have:(if j > i then j else i)=max i j:=by split<;>omega
  rw[this]
  exact md _ _ _ q (fun _ _ e=>e) rfl
 ·exact q.elim
noncomputable def zZ (fa:WA):WE:=fun δ K=>fa δ fun xs δ1=>match xs with
 | [.p (.int j)]=>(0 <= j/\j <= 1000)/\K (.p (.lst (cn 0 j.toNat))) δ1
 | _=>False
theorem wF (n:Nat):cn 0 n=(a_ n).map D.int:=by
 unfold cn a_
 rw[YL]
 refine ZE fun i _ => ?_
 show D.int (0 + (i:Int))=D.int (i:Int)
 rw[Int.zero_add]
theorem Qj {a:Expr} {fa:WA} {p1 p2 q1 q2:Pos} (hc:X.calm=true) (z0:Gl X "list") (hl:X.mg "list" = none) (z4:bootBuiltins "list" = some (.type "list")) (pH:Gl X "range") (hr:X.mg "range" = none) (pJ:bootBuiltins "range" = some (.type "range")) (ha:JA X [a] (bL fa))
  (he:starEach [a] X.env=[(false,eval a X.env)]:=by rfl) (z5:starEach [.Call (.Name "range" p2) [a] [] q2] X.env=[(false,eval (.Call (.Name "range" p2) [a] [] q2) X.env)]:=by rfl):JE X (.Call (.Name "list" p1) [.Call (.Name "range" p2) [a] [] q2] [] q1) (tD (zZ fa)) :=
 (qD (Pc hc) z0 hl z4 (jV (qD Fq pH hr pJ ha (he:=he)) aY) (he:=z5)).weak fun σ H Q h0_ => el7 h0_ fun F ad δ K S q k =>⟨F,ad,δ,_,S,q,fun xs δ1 h1 vs F1 aQ H1 E1 S1 V1=>by
  split at h1
  ·rename_i j
   obtain⟨v,r,e,W1,W2⟩:=V1
   have W2:r=[]:=W2
   have W1:v = .int j:=W1
   subst W2 W1 e
   refine⟨j,rfl,fun rr z6=>⟨rr,j.toNat,rfl,by rw[a9,Int.toNat_of_nonneg h1.1.1],by omega,fun l hl => ?_⟩⟩
   have s1:av H1 (upd H1 rr (.rng 0 j)):=cZ z6
   have S2:=S1.al s1
   have E2:=Ext.al S1 s1
   refine k _ _ h1.2 _ _ _ _ ((E1.trans E2).trans (Ext.al S2 (cZ hl))) (S2.al (cZ hl)) ?_
   have:Is (Nw (Nw F1 H1 (upd H1 rr (.rng 0 j))) (upd H1 rr (.rng 0 j)) (upd (upd H1 rr (.rng 0 j)) l (.lst ((a_ j.toNat).map V.int)))) (.lst ((a_ j.toNat).map D.int)) (.ref l):=wt S2.sub hl t8
   rw[wF]
   exact this
  ·exact h1.elim⟩
noncomputable def gc (T:String):D->(D->Prop)->Prop:=fun d K=>K (.bl (dz (fL d) T))
theorem pK {T:String} {t:Str} {a:Expr} {f:WE} {p p2 pos:Pos} (hk:∀ d:D,PySem.W.kitOne X.K (.type (fL d)) (.type T)=some (dz (fL d) T)) (hg:Gl X "isinstance") (hm:X.mg "isinstance" = none) (Qk:Gl X t) (Ql:X.mg t=none) (Qm:bootBuiltins t=some (.type T)) (ha:JE X a (tD f))
  (sT:t ≠ "__name__" := by decide) (jd:(t == ("__debug__" : Str))=false:=by decide) (he:starEach [a,.Name t p2] X.env=(false,eval a X.env) :: starEach [.Name t p2] X.env:=by rfl):JE X (.Call (.Name "isinstance" p) [a,.Name t p2] [] pos) (tD (d1 f (gc T))) :=
 (tJ Og hg hm q0O (oX ha (jf (E5 Qk Ql Qm (v := .ty T) rfl sT jd) aY) he) (he:=he)).weak fun σ H Q h0_ => el7 h0_ fun F ad δ K S q k =>⟨F,ad,δ,_,S,q,fun x δ1 h1 v F1 aQ H1 E1 S1 V1=>by
  obtain⟨d,h2,rd⟩:=jg S1 V1 h1
  refine⟨v,.ty T,.type T,.type (fL d),_,rfl,rfl,Is.ty (rd.is S1.sub),hk d,k _ _ h2 _ _ _ _ E1 S1 rfl⟩⟩
theorem Gr {K:PySem.W.Frag}:∀ d:D,PySem.W.kitOne K (.type (fL d)) (.type "int")=some (dz (fL d) "int"):=fun d=>Ov _ (vP d)
theorem Gs {K:PySem.W.Frag}:∀ d:D,PySem.W.kitOne K (.type (fL d)) (.type "bool")=some (dz (fL d) "bool"):=fun d=>Ou _ (vP d)
theorem Gu {K:PySem.W.Frag}:∀ d:D,PySem.W.kitOne K (.type (fL d)) (.type "tuple")=some (dz (fL d) "tuple"):=fun d=>kit_tuple _ (vP d)
theorem Qn {K:PySem.W.Frag}:∀ d:D,PySem.W.kitOne K (.type (fL d)) (.type "list")=some (dz (fL d) "list"):=fun d=>Ox _ (vP d)
noncomputable def fm (x:DV) (δ : ay) (K:Nat->List D->Prop):Prop:=match x with
 | .o k=>match δ.mu[k]? with
  | some (some (.lst ds))=>K k ds
  | _=>False
 | _=>False
theorem pL {F H:Hp} {ad:List Addr} {δ : ay} {σ : St} {x:DV} {v:V} {K:Nat->List D->Prop} (S:SR F ad δ σ H) (V1:fM F ad x v) (h:fm x δ K):∃ k ds a vs,x = .o k/\K k ds/\v = .ref a/\ad[k]? = some a/\H a=some (.lst vs)/\ae F ds vs /\ δ.mu[k]? = some (some (.lst ds)):=by
 unfold fm at h
 split at h
 ·rename_i k
  split at h
  ·rename_i ds e
   obtain⟨a,e1,rfl⟩:=V1
   obtain⟨a',o,e2,e3,vs,rfl,h4⟩:=S.mu k _ e
   rw[e1] at e2;cases e2
   exact⟨k,ds,a,vs,rfl,h,rfl,e1,e3,h4,e⟩
  ·exact h.elim
 ·exact h.elim
noncomputable def l_ (f:WE) (fa:WA):WE:=fun δ K=>f δ fun x δ1=>fm x δ1 fun _ _=>fa δ1 fun ys δ2=>match ys with
 | [y]=>nh y δ2 fun d δ3=>fm x δ3 fun k ds=>ds.length < 1000/\K (.p .non) ⟨δ3.sl,δ3.mu.set k (some (.lst (ds ++ [d])))⟩
 | _=>False
theorem Gv {f:WE} {fa:WA} {K0:PySem.W.Frag}:∀ σ H Q,tD (l_ f fa) σ H Q->sF K0 "list" Eo (tD f) (bL fa) σ H Q:=fun σ H Q h0_ => el7 h0_ fun F ad δ K S q k =>⟨F,ad,δ,_,S,q,fun x δ1 h1 v F1 aQ H1 E1 S1 V1=>by
 obtain⟨k0,Gw,a,vs,rfl,h2,rfl,e1,e2,i1,m1⟩:=pL S1 V1 h1
 refine⟨.inl ⟨rfl,vs,bc.of e2⟩,F1,aQ,δ1,_,S1,h2,fun ys δ2 h3 us F2 cy H2 E2 S2 V2 => ?_⟩
 match ys,h3,V2 with
 | [y],g3,⟨u,r,e,W1,W2⟩ =>
  have W3:r=[]:=W2
  subst W3 e
  obtain⟨d,δ3,F3,h4,E3,S3,i3⟩:=v3 S2 W1 g3
  obtain⟨k1,ds,b,ws,ek,h5,eb,e3,e4,i4,m4⟩:=pL (x := .o k0) S3 ((V1.ext E2).ext E3) h4
  cases ek
  have ud:a=b:=by injection eb
  subst ud
  have oi:ff F3 (.lst (ds ++ [d])) (.lst (ws ++ [u])):=⟨_,rfl,i4.snoc i3⟩
  refine⟨a,ws,u,rfl,rfl,e4,qz (by rw[i4.length];omega),?_⟩
  exact k _ _ h5.2 _ _ _ _ (((E1.trans E2).trans E3).trans (Ext.put S3 m4 e3)) (S3.put m4 e3 oi) rfl
 | [],g3,_=>exact g3.elim
 | _ :: _ :: _,g3,_=>exact g3.elim⟩
noncomputable def pM (f:WE) (fa:WA):WE:=fun δ K=>f δ fun x δ1=>fm x δ1 fun _ _=>fa δ1 fun ys δ2=>match ys with
 | [.p (.lst es)]=>fm x δ2 fun k ds=>ds.length + es.length <= 1000/\K (.p .non) ⟨δ2.sl,δ2.mu.set k (some (.lst (ds ++ es)))⟩
 | _=>False
theorem Qo {f:WE} {fa:WA} {K0:PySem.W.Frag}:∀ σ H Q,tD (pM f fa) σ H Q->sF K0 "list" Ep (tD f) (bL fa) σ H Q:=fun σ H Q h0_ => el7 h0_ fun F ad δ K S q k =>⟨F,ad,δ,_,S,q,fun x δ1 h1 v F1 aQ H1 E1 S1 V1=>by
 obtain⟨k0,Gw,a,vs,rfl,h2,rfl,e1,e2,i1,m1⟩:=pL S1 V1 h1
 refine⟨.inl ⟨rfl,vs,bc.of e2⟩,F1,aQ,δ1,_,S1,h2,fun ys δ2 h3 us F2 cy H2 E2 S2 V2 => ?_⟩
 split at h3
 ·rename_i es
  obtain⟨u,r,e,W1,W2⟩:=V2
  have W3:r=[]:=W2
  have W4:Is F2 (.lst es) u:=W1
  simp only[Is] at W4
  obtain⟨b,zs,rfl,z1,z2⟩:=W4
  subst W3 e
  obtain⟨k1,ds,b',ws,ek,h5,eb,e3,e4,i4,m4⟩:=pL (x := .o k0) S2 (V1.ext E2) h3
  cases ek
  have ud:a=b':=by injection eb
  subst ud
  have oi:ff F2 (.lst (ds ++ es)) (.lst (ws ++ zs)):=⟨_,rfl,qU i4 z2⟩
  refine⟨a,b,ws,zs,rfl,rfl,e4,S2.sub _ _ z1,jZ (by rw[i4.length,z2.length];exact h5.1),?_⟩
  exact k _ _ h5.2 _ _ _ _ ((E1.trans E2).trans (Ext.put S2 m4 e3)) (S2.put m4 e3 oi) rfl
 ·exact h3.elim⟩
noncomputable def z7 (f:WE) (fa:WA):WE:=fun δ K=>f δ fun x δ1=>fm x δ1 fun _ _=>fa δ1 fun ys δ2=>match ys with
 | [.p (.int i)]=>fm x δ2 fun k ds=>(-(2 ^ 63) <= i/\i < 2 ^ 63)/\match seqIndex? i ds.length with
  | some j=>match ds[j]? with
   | some d=>K (.p d) ⟨δ2.sl,δ2.mu.set k (some (.lst (ds.eraseIdx j)))⟩
   | none=>False
  | none=>False
 | _=>False
theorem Qp {f:WE} {fa:WA} {K0:PySem.W.Frag}:∀ σ H Q,tD (z7 f fa) σ H Q->sF K0 "list" Er (tD f) (bL fa) σ H Q:=fun σ H Q h0_ => el7 h0_ fun F ad δ K S q k =>⟨F,ad,δ,_,S,q,fun x δ1 h1 v F1 aQ H1 E1 S1 V1=>by
 obtain⟨k0,Gw,a,vs,rfl,h2,rfl,e1,e2,i1,m1⟩:=pL S1 V1 h1
 refine⟨.inl ⟨rfl,vs,bc.of e2⟩,F1,aQ,δ1,_,S1,h2,fun ys δ2 h3 us F2 cy H2 E2 S2 V2 => ?_⟩
 split at h3
 ·rename_i i
  obtain⟨u,r,e,W1,W2⟩:=V2
  have W3:r=[]:=W2
  have W4:u = .int i:=W1
  subst W3 W4 e
  obtain⟨k1,ds,b',ws,ek,⟨h5,h6⟩,eb,e3,e4,i4,m4⟩:=pL (x := .o k0) S2 (V1.ext E2) h3
  cases ek
  have ud:a=b':=by injection eb
  subst ud
  split at h6
  ·rename_i j hj
   split at h6
   ·rename_i d hd
    obtain⟨w,g1,g2⟩:=qQ i4 hd
    have oi:ff F2 (.lst (ds.eraseIdx j)) (.lst (ws.eraseIdx j)):=⟨_,rfl,Gd j i4⟩
    refine⟨a,ws,i,j,w,rfl,rfl,e4,h5.1,h5.2,by rw[i4.length];exact hj,g1,?_⟩
    exact k _ _ h6 _ _ _ _ ((E1.trans E2).trans (Ext.put S2 m4 e3)) (S2.put m4 e3 oi) g2
   ·exact h6.elim
  ·exact h6.elim
 ·exact h3.elim⟩
noncomputable def pN (f fo fi:WE):WS:=fun K δ => f δ fun x δ1=>fo δ1 fun o δ2=>fi δ2 fun i δ3=>nh x δ3 fun d δ4=>fm o δ4 fun k ds=>match i with
 | .p (.int j)=>match i9 ds.length j with
  | some m=>K.nx ⟨δ4.sl,δ4.mu.set k (some (.lst (ds.set m d)))⟩
  | none=>False
 | _=>False
theorem wG [bM] {f fo fi:WE}:∀ D σ H,cM (pN f fo fi) D σ H->bS (tD f) (oj (tD fo) (tD fi) Ei) D σ H:=fun D σ H h0_ => el7 h0_ fun F ad δ K S q k =>⟨F,ad,δ,_,S,q,fun x δ1 h1 v F1 aQ H1 E1 S1 V1=>⟨F1,aQ,δ1,_,S1,h1,fun o δ2 h2 ov F2 cy H2 E2 S2 V2=>⟨F2,cy,δ2,_,S2,h2,fun i δ3 h3 iv F3 tU H3 E3 S3 V3=>by
 obtain⟨d,δ4,F4,h4,E4,S4,i4⟩:=v3 S3 ((V1.ext E2).ext E3) h3
 obtain⟨k0,ds,a,vs,rfl,h5,rfl,e1,e2,i1,m1⟩:=pL S4 ((V2.ext E3).ext E4) h4
 split at h5
 ·rename_i j
  split at h5
  ·rename_i m hm
   have V3:iv = .int j:=V3
   subst V3
   have oi:ff F4 (.lst (ds.set m d)) (.lst (vs.set m v)):=⟨_,rfl,Gb m i1 i4⟩
   refine⟨a,vs,j,m,rfl,rfl,e2,by rw[i1.length];exact hm,?_⟩
   exact k.nx _ h5 _ _ _ _ ((((E1.trans E2).trans E3).trans E4).trans (Ext.put S4 m1 e1)) (S4.put m1 e1 oi)
  ·exact h5.elim
 ·exact h5.elim⟩⟩⟩
end
end L2
namespace L2
open PySem PySem.Spec PyProof.Rows PySem.W
noncomputable abbrev LK:=List Int
noncomputable def kle (a b:LK):Prop:=HT.lexLt b a=false
theorem qW:∀ a:LK,HT.lexLt a a=false
 | []=>rfl
 | x :: r=>by rw[HT.oB,Xp rfl];exact qW r
theorem ue:∀ {a b:LK},HT.lexLt a b=false->HT.lexLt b a=false->a=b
 | [],[],_,_=>rfl
 | [],_ :: _,h,_=>by cases h
 | _ :: _,[],_,h=>by cases h
 | x :: r,y :: s,h,q=>by
  rw[HT.oB] at h q
  by_cases c:x=y
  ·subst c
   rw[Xp rfl] at h q
   rw[ue h q]
  ·rw[Xm c] at h
   rw[Xm (fun z=>c z.symm)] at q
   simp at h q;omega
theorem qX:∀ {a b c:LK},HT.lexLt a b=true->HT.lexLt b c=true->HT.lexLt a c=true
 | [],[],_,h,_=>by cases h
 | [],_ :: _,[],_,q=>by cases q
 | [],_ :: _,_ :: _,_,_=>rfl
 | _ :: _,[],_,h,_=>by cases h
 | _ :: _,_ :: _,[],_,q=>by cases q
 | x :: r,y :: s,z :: t,h,q=>by
  rw[HT.oB] at h q ⊢
  by_cases c1:x=y
  ·subst c1
   rw[Xp rfl] at h
   by_cases c2:x=z
   ·subst c2
    rw[Xp rfl] at q ⊢
    exact qX h q
   ·rw[Xm c2] at q ⊢;exact q
  ·rw[Xm c1] at h
   by_cases c2:y=z
   ·subst c2
    rw[Xm c1];exact h
   ·rw[Xm c2] at q
    have h1:x < y:=by simpa using h
    have h2:y < z:=by simpa using q
    rw[Xm (by omega)]
    simp;omega
theorem kle_refl (a:LK):kle a a:=qW a
theorem qY {a b:LK} (h:HT.lexLt a b=true):kle a b:=by
 unfold kle
 cases q:HT.lexLt b a with
 | false=>rfl
 | true=>have:=qX h q;rw[qW] at this;cases this
theorem kle_trans {a b c:LK} (h1:kle a b) (h2:kle b c):kle a c:=by
 unfold kle at *
 cases q:HT.lexLt c a with
 | false=>rfl
 | true =>
  cases q2:HT.lexLt a b with
  | true=>have:=qX q q2;rw[h2] at this;cases this
  | false =>
   have e:=ue q2 h1
   subst e;rw[h2] at q;cases q
theorem Qq {a b:LK} (h1:kle a b) (h2:kle b a):a=b:=ue h2 h1
section
variable {n:Nat} {k:Nat->LK} {I:Shared->Prop} {cmp:Nat->Nat->(Bool->Shared->Prop)->Shared->Prop}
noncomputable def ny (n:Nat) (k:Nat->LK) (I:Shared->Prop) (cmp:Nat->Nat->(Bool->Shared->Prop)->Shared->Prop):Prop :=
 ∀ (i j:Nat) (C:Bool->Shared->Prop) (s:Shared),i < n->j < n->I s->(∀ s',I s'->C (HT.lexLt (k i) (k j)) s')->cmp i j C s
noncomputable def KA (k:Nat->LK) (p:Array Nat) (i:Nat):LK:=k (p.getD i 0)
structure dm (n:Nat) (p:Array Nat):Prop where
 perm:p.Perm (List.range n).toArray
theorem dm.size {p:Array Nat} (h:dm n p):p.size=n:=by have:=h.perm.size_eq;simpa using this
theorem dm.lt {p:Array Nat} (h:dm n p) {i:Nat} (hi:i < n):p.getD i 0 < n:=by
 have hs:=h.size
 have e:p.getD i 0=p[i]:=by simp[Array.getD,hs,hi]
 rw[e]
 have:p[i]∈(List.range n).toArray:=(h.perm.mem_iff).mp (Array.getElem_mem _)
 simpa using this
theorem uf {p q:Array Nat} {i j:Nat} (h:p[i]? = q[j]?):p.getD i 0=q.getD j 0:=by
 rw[YD,YD,h]
theorem wH {p:Array Nat} {i j:Nat} (hj:j <= p.size) (t:Nat):KA k (kas_rev p i j) t=if i <= t/\t < j then KA k p (i + j - 1 - t) else KA k p t:=by
 have e:=getElem?_mirror_all (xs:=p) (i:=i) hj t
 unfold KA kas_rev
 by_cases c:i <= t/\t < j
 ·rw[Xp c] at e ⊢;rw[uf e]
 ·rw[Xm c] at e ⊢;rw[uf e]
theorem Qr {p:Array Nat} {src d:Nat} (hs:src < p.size) (hd:d <= src) (t:Nat) :
  KA k (bubble p src d) t=if t=src - d then KA k p src else if src - d < t/\t <= src then KA k p (t - 1) else KA k p t:=by
 have e:=getElem?_bubble hs d hd t
 unfold KA
 by_cases c:t=src - d
 ·rw[Xp c] at e ⊢;rw[uf e]
 ·rw[Xm c] at e ⊢
  by_cases c2:src - d < t/\t <= src
  ·rw[Xp c2] at e ⊢;rw[uf e]
  ·rw[Xm c2] at e ⊢;rw[uf e]
noncomputable def Up (k:Nat->LK) (p:Array Nat) (m:Nat):Prop:=∀ i j,i <= j->j < m->kle (KA k p i) (KA k p j)
noncomputable def Dn (k:Nat->LK) (p:Array Nat) (m:Nat):Prop:=∀ i j,i <= j->j < m->kle (KA k p j) (KA k p i)
theorem Up.snoc {p:Array Nat} {m:Nat} (h:Up k p m) (hm:1 <= m) (q:kle (KA k p (m - 1)) (KA k p m)):Up k p (m + 1):=fun i j jm hj=>by
 by_cases c:j < m
 ·exact h i j jm c
 ·have e:j=m:=by omega
  subst e
  by_cases c2:i=j
  ·subst c2;exact kle_refl _
  ·exact kle_trans (h i (j - 1) (by omega) (by omega)) q
theorem Dn.snoc {p:Array Nat} {m:Nat} (h:Dn k p m) (hm:1 <= m) (q:kle (KA k p m) (KA k p (m - 1))):Dn k p (m + 1):=fun i j jm hj=>by
 by_cases c:j < m
 ·exact h i j jm c
 ·have e:j=m:=by omega
  subst e
  by_cases c2:i=j
  ·subst c2;exact kle_refl _
  ·exact kle_trans q (h i (j - 1) (by omega) (by omega))
theorem Up.one {p:Array Nat}:Up k p 1:=fun i j jm hj=>by
 have:i=j:=by omega
 subst this;exact kle_refl _
theorem Dn.one {p:Array Nat}:Dn k p 1:=fun i j jm hj=>by
 have:i=j:=by omega
 subst this;exact kle_refl _
theorem dm.rev {p:Array Nat} (h:dm n p) (i j:Nat):dm n (kas_rev p i j):=⟨(mirror_perm _ _ _ _).trans h.perm⟩
theorem dm.Qs {p:Array Nat} (h:dm n p) (i j:Nat):dm n (bubble p i j):=⟨(bubble_perm _ _ _).trans h.perm⟩
theorem Gx (hc:ny n k I cmp) {p:Array Nat} (hp:dm n p):∀ (f m:Nat) (s:Shared) (Q:Nat->Shared->Prop),1 <= m->m + f=n->Up k p m->I s →
  (∀ m' s',m <= m'->m' <= n->Up k p m'->I s'->Q m' s')->(kas_asc p f m).kasWp cmp Q s
 | 0,m,s,Q,h1,h2,up,hi,fin=>fin m s (sG _) (by omega) up hi
 | f + 1,m,s,Q,h1,h2,up,hi,fin=>by
  show cmp _ _ _ s
  refine hc _ _ _ s (hp.lt (by omega)) (hp.lt (by omega)) hi fun s' b8 => ?_
  cases q:HT.lexLt (k (p.getD m 0)) (k (p.getD (m - 1) 0)) with
  | true=>dsimp only;rw[Xp rfl];exact fin m s' (sG _) (by omega) up b8
  | false =>
   dsimp only;rw[Xm Eu]
   exact Gx hc hp f (m + 1) s' Q (by omega) (by omega) (up.snoc h1 q) b8 fun m' iq a b c d=>fin m' iq (by omega) b c d
noncomputable def z8 (k:Nat->LK) (p:Array Nat) (m q:Nat):Prop:=∀ t,m - (q + 1) <= t->t < m->KA k p t=KA k p (m - 1)
theorem Gy {p:Array Nat} {m q:Nat} (hs:m <= p.size) (hq:q + 1 <= m) (e:z8 k p m q) (t:Nat):KA k (kas_rev p (m - (q + 1)) m) t=KA k p t:=by
 rw[wH hs]
 split
 ·rename_i c
  rw[e _ (by omega) (by omega),e t c.1 c.2]
 ·rfl
theorem Dn.congr {p p':Array Nat} {m:Nat} (h:Dn k p m) (e:∀ t,KA k p' t=KA k p t):Dn k p' m:=fun i j a b=>by rw[e,e];exact h i j a b
theorem wI (hc:ny n k I cmp):∀ (f:Nat) (p:Array Nat) (m q:Nat) (s:Shared) (Q:Array Nat × Nat × Nat->Shared->Prop),dm n p->1 <= m->m + f=n->q + 1 <= m->Dn k p m->z8 k p m q->I s →
  (∀ p' m' q' s',dm n p'->m <= m'->m' <= n->q' + 1 <= m'->Dn k p' m'->z8 k p' m' q'->I s'->Q (p',m',q') s')->(kas_desc f p m q).kasWp cmp Q s
 | 0,p,m,q,s,Q,hp,h1,h2,hq,dn,es,hi,fin=>fin p m q s hp (sG _) (by omega) hq dn es hi
 | f + 1,p,m,q,s,Q,hp,h1,h2,hq,dn,es,hi,fin=>by
  show cmp _ _ _ s
  refine hc _ _ _ s (hp.lt (by omega)) (hp.lt (by omega)) hi fun s' b8 => ?_
  have sz:=hp.size
  cases c1:HT.lexLt (k (p.getD m 0)) (k (p.getD (m - 1) 0)) with
  | true =>
   dsimp only;rw[Xp rfl]
   have st:kle (KA k p m) (KA k p (m - 1)):=qY c1
   by_cases Gz:q > 0
   ·rw[Xp Gz]
    have e:=Gy (k:=k) (p:=p) (m:=m) (q:=q) (by omega) hq es
    refine wI hc f _ (m + 1) 0 s' Q (hp.rev _ _) (by omega) (by omega) (by omega) ((dn.snoc h1 st).congr e) (fun t a b => ?_) b8 fun p' m' q' iq a b c d e g i=>fin p' m' q' iq a (by omega) c d e g i
    have:t=m + 1 - 1:=by omega
    rw[this]
   ·rw[Xm Gz]
    refine wI hc f p (m + 1) 0 s' Q hp (by omega) (by omega) (by omega) (dn.snoc h1 st) (fun t a b => ?_) b8 fun p' m' q' iq a b c d e g i=>fin p' m' q' iq a (by omega) c d e g i
    have:t=m + 1 - 1:=by omega
    rw[this]
  | false =>
   dsimp only;rw[Xm Eu]
   show cmp _ _ _ s'
   refine hc _ _ _ s' (hp.lt (by omega)) (hp.lt (by omega)) b8 fun s2 ma => ?_
   cases c2:HT.lexLt (k (p.getD (m - 1) 0)) (k (p.getD m 0)) with
   | true=>dsimp only;rw[Xp rfl];exact fin p m q s2 hp (sG _) (by omega) hq dn es ma
   | false =>
    dsimp only;rw[Xm Eu]
    have eq:KA k p m=KA k p (m - 1):=ue c1 c2
    refine wI hc f p (m + 1) (q + 1) s2 Q hp (by omega) (by omega) (by omega) (dn.snoc h1 (by rw[eq];exact kle_refl _)) (fun t a b => ?_) ma fun p' m' q' iq a b c d e g i=>fin p' m' q' iq a (by omega) c d e g i
    show KA k p t=KA k p m
    by_cases z:t=m
    ·rw[z]
    ·rw[es t (by omega) (by omega),eq]
theorem Dn.rev {p:Array Nat} {m:Nat} (h:Dn k p m) (hs:m <= p.size):Up k (kas_rev p 0 m) m:=fun i j jm hj=>by
 rw[wH hs,wH hs,Xp ⟨YW _,by omega⟩,Xp ⟨YW _,hj⟩]
 exact h _ _ (by omega) (by omega)
theorem GA (hc:ny n k I cmp) {p:Array Nat} (hp:dm n p) {m:Nat} {s:Shared} {Q:Nat × Array Nat->Shared->Prop} (h1:1 <= m) (hm:m <= n) (dn:Dn k p m) (hi:I s)
  (fin:∀ p' m' s',dm n p'->1 <= m'->m' <= n->Up k p' m'->I s'->Q (m',p') s'):(kas_tail3 m n p).kasWp cmp Q s:=by
 unfold kas_tail3
 rw[KasT.kasWp_bind]
 have sz:=hp.size
 refine Gx hc (hp.rev 0 m) (n - m) m s _ h1 (by omega) (dn.rev (by omega)) hi fun m' s' a b c d => ?_
 exact fin _ m' s' (hp.rev 0 m) (by omega) b c d
theorem GB (hc:ny n k I cmp) {p:Array Nat} (hp:dm n p) {m:Nat} {s:Shared} {Q:Nat × Array Nat->Shared->Prop} (h1:1 <= m) (hm:m + 1 <= n) (dn:Dn k p (m + 1)) (hi:I s)
  (fin:∀ p' m' s',dm n p'->1 <= m'->m' <= n->Up k p' m'->I s'->Q (m',p') s'):(kas_descPart m n p).kasWp cmp Q s:=by
 unfold kas_descPart
 rw[KasT.kasWp_bind]
 refine wI hc (n - (m + 1)) p (m + 1) 0 s _ hp (by omega) (by omega) (by omega) dn (fun t a b => ?_) hi fun p' m' q' s' a b c d e g i => ?_
 ·have:t=m + 1 - 1:=by omega
  rw[this]
 ·have sz:=a.size
  dsimp only
  by_cases hq:q' > 0
  ·rw[Xp hq]
   exact GA hc (a.rev _ _) (by omega) c (e.congr (Gy (by omega) d g)) i fin
  ·rw[Xm hq]
   exact GA hc a (by omega) c e i fin
theorem Qt (hc:ny n k I cmp) {p:Array Nat} (hp:dm n p) {s:Shared} {Q:Nat × Array Nat->Shared->Prop} (h1:1 <= n) (hi:I s)
  (fin:∀ p' m' s',dm n p'->1 <= m'->m' <= n->Up k p' m'->I s'->Q (m',p') s'):(kas_count n p).kasWp cmp Q s:=by
 unfold kas_count
 rw[KasT.kasWp_bind]
 have sz:=hp.size
 have key:∀ (f m:Nat) (s:Shared) (Q':Nat->Shared->Prop),1 <= m->m + f=n->Up k p m->I s →
   (∀ m' s',m <= m'->m' <= n->Up k p m'->(m' < n->HT.lexLt (KA k p m') (KA k p (m' - 1))=true)->I s'->Q' m' s')->(kas_asc p f m).kasWp cmp Q' s:=by
  intro f
  induction f with
  | zero=>intro m s Q' a b up hi fin;exact fin m s (sG _) (by omega) up (fun z=>absurd z (by omega)) hi
  | succ f ih =>
   intro m s Q' a b up hi fin
   show cmp _ _ _ s
   refine hc _ _ _ s (hp.lt (by omega)) (hp.lt (by omega)) hi fun s' b8 => ?_
   cases q:HT.lexLt (k (p.getD m 0)) (k (p.getD (m - 1) 0)) with
   | true=>dsimp only;rw[Xp rfl];exact fin m s' (sG _) (by omega) up (fun _=>q) b8
   | false =>
    dsimp only;rw[Xm Eu]
    exact ih (m + 1) s' Q' (by omega) (by omega) (up.snoc a q) b8 fun m' iq a b c d e=>fin m' iq (by omega) b c d e
 refine key (n - 1) 1 s _ (sG _) (by omega) Up.one hi fun m s' a b up nx b8 => ?_
 by_cases c1:m=n
 ·subst c1
  rw[Xp (by simp)]
  exact fin p m s' hp a (sG _) up b8
 ·rw[Xm (by simpa using c1)]
  have cA:m < n:=by omega
  have nx:=nx cA
  by_cases c2:m > 1
  ·rw[Xp c2]
   show cmp _ _ _ s'
   refine hc _ _ _ s' (hp.lt (by omega)) (hp.lt (by omega)) b8 fun s2 ma => ?_
   cases q:HT.lexLt (k (p.getD 0 0)) (k (p.getD (m - 1) 0)) with
   | true=>dsimp only;rw[Xp rfl];exact fin p m s2 hp a b up ma
   | false =>
    dsimp only;rw[Xm Eu]
    have al:∀ t,t < m->KA k p t=KA k p (m - 1):=fun t ht=>by
     refine Qq (up t (m - 1) (by omega) (by omega)) (kle_trans q (up 0 t (YW _) ht))
    have e:∀ t,KA k (kas_rev p 0 m) t=KA k p t:=fun t=>by
     rw[wH (by omega)]
     split
     ·rename_i c;rw[al _ (by omega),al t c.2]
     ·rfl
    refine GB hc (hp.rev 0 m) (by omega) (by omega) (Dn.congr (p:=p) ?_ e) ma fin
    refine Dn.snoc (fun i j jm hj => ?_) (by omega) (qY nx)
    rw[al i (by omega),al j hj];exact kle_refl _
  ·rw[Xm c2]
   have:m=1:=by omega
   subst this
   exact GB hc hp (by omega) (by omega) (Dn.one.snoc (sG _) (qY nx)) b8 fin
theorem z9 (hc:ny n k I cmp) {p:Array Nat} (hp:dm n p) {t:Nat} (ht:t < n) (up:Up k p t):∀ (f l r:Nat) (s:Shared) (Q:Nat->Shared->Prop),l <= r->r <= t->r - l <= f →
  (∀ i,i < l->kle (KA k p i) (KA k p t))->(∀ i,r <= i->i < t->kle (KA k p t) (KA k p i))->I s →
  (∀ l' s',l' <= t->(∀ i,i < l'->kle (KA k p i) (KA k p t))->(∀ i,l' <= i->i < t->kle (KA k p t) (KA k p i))->I s'->Q l' s')->(kas_place p t f l r).kasWp cmp Q s
 | 0,l,r,s,Q,h1,h2,h3,lo,qZ,hi,fin=>by
  have:l=r:=by omega
  subst this
  exact fin l s h2 lo qZ hi
 | f + 1,l,r,s,Q,h1,h2,h3,lo,qZ,hi,fin=>by
  unfold kas_place
  by_cases c:l ≥ r
  ·rw[Xp c]
   have:l=r:=by omega
   subst this
   exact fin l s h2 lo qZ hi
  ·rw[Xm c]
   show cmp _ _ _ s
   refine hc _ _ _ s (hp.lt ht) (hp.lt (by omega)) hi fun s' b8 => ?_
   cases q:HT.lexLt (k (p.getD t 0)) (k (p.getD ((l + r) / 2) 0)) with
   | true =>
    dsimp only;rw[Xp rfl]
    refine z9 hc hp ht up f l ((l + r) / 2) s' Q (by omega) (by omega) (by omega) lo (fun i a b => ?_) b8 fin
    exact kle_trans (qY q) (up _ _ a b)
   | false =>
    dsimp only;rw[Xm Eu]
    refine z9 hc hp ht up f ((l + r) / 2 + 1) r s' Q (by omega) h2 (by omega) (fun i a => ?_) qZ b8 fin
    exact kle_trans (up i ((l + r) / 2) (by omega) (by omega)) q
theorem GC (hc:ny n k I cmp):∀ (f:Nat) (p:Array Nat) (t:Nat) (s:Shared) (Q:Array Nat->Shared->Prop),dm n p->t + f=n->Up k p t->I s →
  (∀ p' s',dm n p'->Up k p' n->I s'->Q p' s')->(kas_bin f p t).kasWp cmp Q s
 | 0,p,t,s,Q,hp,h2,up,hi,fin=>by
  have:t=n:=by omega
  subst this
  exact fin p s hp up hi
 | f + 1,p,t,s,Q,hp,h2,up,hi,fin=>by
  unfold kas_bin
  rw[KasT.kasWp_bind]
  have sz:=hp.size
  refine z9 hc hp (by omega) up t 0 t s _ (YW _) (sG _) (by omega) (fun i a=>absurd a (by omega)) (fun i a b=>absurd b (by omega)) hi fun l s' hl lo qZ b8 => ?_
  refine GC hc f _ (t + 1) s' Q (hp.Qs _ _) (by omega) (fun i j jm hj => ?_) b8 fin
  have kb:=fun x=>Qr (k:=k) (p:=p) (src:=t) (d:=t - l) (by omega) (by omega) x
  have el:t - (t - l)=l:=by omega
  rw[kb i,kb j,el]
  by_cases c1:i=l
  ·subst c1
   rw[Xp rfl]
   by_cases c2:j=i
   ·rw[Xp c2];exact kle_refl _
   ·rw[Xm c2,Xp ⟨by omega,by omega⟩]
    exact qZ (j - 1) (by omega) (by omega)
  ·rw[Xm c1]
   by_cases c2:j=l
   ·subst c2
    rw[Xp rfl,Xm (by omega)]
    exact lo i (by omega)
   ·rw[Xm c2]
    by_cases c3:l < i/\i <= t
    ·rw[Xp c3,Xp ⟨by omega,by omega⟩]
     exact up _ _ (by omega) (by omega)
    ·rw[Xm c3]
     by_cases c4:l < j/\j <= t
     ·rw[Xp c4];exact up _ _ (by omega) (by omega)
     ·rw[Xm c4];exact up _ _ jm (by omega)
theorem Qu (hc:ny n k I cmp) {s:Shared} {Q:Array Nat->Shared->Prop} (h1:1 <= n) (hi:I s) (fin:∀ p s',dm n p->Up k p n->I s'->Q p s'):(kas_sort n).kasWp cmp Q s:=by
 unfold kas_sort
 rw[KasT.kasWp_bind]
 refine Qt hc ⟨Array.Perm.refl _⟩ h1 hi fun p m s' a b c d e => ?_
 dsimp only
 by_cases q:m < n
 ·rw[Xp q]
  have:max m 1=m:=by omega
  rw[this]
  exact GC hc (n - m) p m s' Q a (by omega) d e fin
 ·rw[Xm q]
  have:m=n:=by omega
  subst this
  exact fin p s' a d e
end
end L2
namespace L2
open PySem PySem.Spec PyProof.Rows
theorem GF {δ0:ay} {bA:ay->Prop} {g:WG} {b:WS} {K:KS} (I:Nat->ay->Prop):∀ (items:List D) (i:Nat) (δ : ay),I i δ →
  (∀ j d δ (L:ay->Prop),items[j]? = some d->I (i + j) δ -> (∀ δ',I (i + j + 1) δ'->L δ')->bA δ /\ g (.p d) δ fun δ1=>b { nx:=fun δ2=>L (δ0.trim δ2),ct:=fun δ2=>L (δ0.trim δ2),bk:=K.nx,rt:=K.rt } δ1) →
  (∀ δ,I (i + items.length) δ -> bA δ /\ K.nx δ)->j5 δ0 bA g b K items δ
 | [],i,δ,h,_,fin=>fin δ h
 | d :: r,i,δ,h,st,fin=>by
  unfold j5
  refine st 0 d δ (fun δ'=>j5 δ0 bA g b K r δ') rfl h fun δ' hi => ?_
  refine GF I r (i + 1) _ hi (fun j e δ L hj hI hL => ?_) fun δ hI => ?_
  ·have e:i + 1 + j=i + (j + 1):=by omega
   rw[e] at hI hL
   exact st (j + 1) _ δ L (by simpa using hj) hI hL
  ·exact fin δ (by rw[Ex];have e:i + 1 + r.length=i + (r.length + 1):=by omega
                   rw[e] at hI;exact hI)
theorem me {δ0:ay} {bA:ay->Prop} {g:WG} {b:WS} {K:KS} {items:List D} {δ : ay} (I:Nat->ay->Prop) (h0:I 0 δ)
  (st:∀ j d δ (L:ay->Prop),items[j]? = some d->I j δ -> (∀ δ',I (j + 1) δ'->L δ')->bA δ /\ g (.p d) δ fun δ1=>b { nx:=fun δ2=>L (δ0.trim δ2),ct:=fun δ2=>L (δ0.trim δ2),bk:=K.nx,rt:=K.rt } δ1)
  (fin:∀ δ,I items.length δ -> bA δ /\ K.nx δ):j5 δ0 bA g b K items δ :=
 GF I items 0 δ h0 (fun j d δ L hj hI hL=>by rw[Yx] at hI hL;exact st j d δ L hj hI hL) fun δ hI=>by rw[Yx] at hI;exact fin δ hI
noncomputable def ug (δ0:ay) (bA:ay->Prop) (g:WG) (t:WT) (f:WE) (d:D) (acc:List D) (δ : ay) (L:List D->ay->Prop):Prop :=
 bA δ /\ g (.p d) δ fun δ1=>t δ1 fun b δ2=>if b=true then f δ2 fun x δ3=>nh x δ3 fun e δ4=>acc.length < 1000/\L (acc ++ [e]) (δ0.trim δ4) else L acc (δ0.trim δ2)
theorem GG {δ0:ay} {bA:ay->Prop} {g:WG} {t:WT} {f:WE} {K:List D->ay->Prop} (I:Nat->List D->ay->Prop):∀ (items:List D) (i:Nat) (acc:List D) (δ : ay),I i acc δ →
  (∀ j d acc δ (L:List D->ay->Prop),items[j]? = some d->I (i + j) acc δ -> (∀ cq δ',I (i + j + 1) cq δ'->L cq δ')->ug δ0 bA g t f d acc δ L) →
  (∀ acc δ,I (i + items.length) acc δ -> bA δ /\ K acc δ)->iW δ0 bA g t f K items acc δ
 | [],i,acc,δ,h,_,fin=>fin acc δ h
 | d :: r,i,acc,δ,h,st,fin=>by
  unfold iW
  refine st 0 d acc δ (fun cq δ'=>iW δ0 bA g t f K r cq δ') rfl h fun cq δ' hi => ?_
  refine GG I r (i + 1) cq _ hi (fun j e acc δ L hj hI hL => ?_) fun acc δ hI => ?_
  ·have e:i + 1 + j=i + (j + 1):=by omega
   rw[e] at hI hL
   exact st (j + 1) _ acc δ L (by simpa using hj) hI hL
  ·exact fin acc δ (by rw[Ex];have e:i + 1 + r.length=i + (r.length + 1):=by omega
                       rw[e] at hI;exact hI)
theorem z_ {δ0:ay} {bA:ay->Prop} {g:WG} {t:WT} {f:WE} {K:List D->ay->Prop} {items:List D} {δ : ay} (I:Nat->List D->ay->Prop) (h0:I 0 [] δ)
  (st:∀ j d acc δ (L:List D->ay->Prop),items[j]? = some d->I j acc δ -> (∀ cq δ',I (j + 1) cq δ'->L cq δ')->ug δ0 bA g t f d acc δ L)
  (fin:∀ acc δ,I items.length acc δ -> bA δ /\ K acc δ):iW δ0 bA g t f K items [] δ :=
 GG I items 0 [] δ h0 (fun j d acc δ L hj hI hL=>by rw[Yx] at hI hL;exact st j d acc δ L hj hI hL) fun acc δ hI=>by rw[Yx] at hI;exact fin acc δ hI
theorem pO {δ0:ay} {bA:ay->Prop} {g:WG} {t:WT} {f:WE} {K:List D->ay->Prop} {items:List D} (p:D->Bool) (fn:D->D) (hl:items.length <= 1000) (hc:bA δ0)
  (st:∀ d∈items,∀ acc (L:List D->ay->Prop),acc.length < 1000->(p d=true->L (acc ++ [fn d]) δ0)->(p d=false->L acc δ0)->ug δ0 bA g t f d acc δ0 L)
  (fin:K ((items.filter p).map fn) δ0):iW δ0 bA g t f K items [] δ0:=by
 refine z_ (fun i acc δ => δ = δ0/\acc=((items.take i).filter p).map fn) ⟨rfl,rfl⟩ ?_ ?_
 ·rintro j d acc δ L hj ⟨rfl,rfl⟩ hL
  have cA:=(oP.mp hj).1
  have hm:d∈items:=Yn hj
  have hn:(((items.take j).filter p).map fn).length < 1000:=by
   rw[qy]
   have:=List.length_filter_le p (items.take j)
   rw[Yp] at this;omega
  have e:items.take (j + 1)=items.take j ++ [d]:=by rw[Z4,hj];rfl
  refine st d hm _ L hn (fun q=>hL _ _ ⟨rfl,?_⟩) (fun q=>hL _ _ ⟨rfl,?_⟩)
  ·rw[e,List.filter_append,YH];simp[List.filter,q]
  ·rw[e,List.filter_append,YH];simp[List.filter,q]
 ·rintro acc δ ⟨rfl,rfl⟩
  rw[Yz (sG _)]
  exact⟨hc,fin⟩
theorem uh {δ0:ay} {bA:ay->Prop} {g:WG} {t:WT} {f:WE} {K:List D->ay->Prop} {items:List D} (fn:D->D) (hl:items.length <= 1000) (hc:bA δ0)
  (st:∀ d∈items,∀ acc (L:List D->ay->Prop),acc.length < 1000->L (acc ++ [fn d]) δ0->ug δ0 bA g t f d acc δ0 L)
  (fin:K (items.map fn) δ0):iW δ0 bA g t f K items [] δ0 :=
 pO (fun _=>true) fn hl hc (fun d hd acc L ha h _=>st d hd acc L ha (h rfl)) (by rw[List.filter_eq_self.mpr fun _ _=>rfl];exact fin)
end L2
namespace LJ
open PySem L2
theorem GH:bootBuiltins "range" = some (.type "range"):=by decide +kernel
theorem GI:bootBuiltins "max" = some (.builtin "max"):=by decide +kernel
theorem Aa:bootBuiltins "min" = some (.builtin "min"):=by decide +kernel
theorem GJ:bootBuiltins "sorted" = some (.builtin "sorted"):=by decide +kernel
structure BT (mg:Str->Option Value):Prop where
 len:mg "len" = none
 range:mg "range" = none
 list:mg "list" = none
 tuple:mg "tuple" = none
 set:mg "set" = none
 sorted:mg "sorted" = none
 min:mg "min" = none
 max:mg "max" = none
 sum:mg "sum" = none
 all:mg "all" = none
 any:mg "any" = none
 enumerate:mg "enumerate" = none
 zip:mg "zip" = none
 isinstance:mg "isinstance" = none
 int:mg "int" = none
 bool:mg "bool" = none
 str:mg "str" = none
end LJ
namespace L2
open PySem PySem.Spec PyProof.Rows
variable [aE]
noncomputable def GK (X:Cx) (f:Value) (g:List D->(List D->Prop)->Prop):Prop :=
 fJ X f fun xs H Q=>∃ F ds K,av F H/\gL F H ds xs/\g ds K/\∀ zs vs a,K zs->H a=none->ae F zs vs->Q (.ref a) (upd H a (.lst vs))
noncomputable def wJ (fa:WA) (op:List D->(List D->Prop)->Prop):WE:=fun δ K=>fa δ fun xs δ1=>jY xs δ1 fun ds=>op ds fun zs=>K (.o δ1.mu.length) ⟨δ1.sl,δ1.mu ++ [some (.lst zs)]⟩
noncomputable def wK:List D->(List D->Prop)->Prop
 | [.lst ds],K=>match intsOf ds with
  | some ns=>ns.length < 64/\K ((sortI ns).map D.int)
  | none=>False
 | _,_=>False
section
variable {X:Cx} {fa:WA} {pos:Pos}
theorem Ab {F H:Hp} {ad:List Addr} {δ : ay} {σ : St} {p:Addr} (S:SR F ad δ σ H):fM F (ad ++ [p]) (.o δ.mu.length) (.ref p) :=
 ⟨p,by rw[<-S.cj,Xr (sG _),YG];rfl,rfl⟩
theorem Qv {r:List V->Hp->VK->Prop} {op:List D->(List D->Prop)->Prop} (hr:∀ xs H Q,(∃ F ds K,av F H/\gL F H ds xs/\op ds K/\∀ zs vs a,K zs->H a=none->ae F zs vs->Q (.ref a) (upd H a (.lst vs)))->r xs H Q):∀ σ H Q,tD (wJ fa op) σ H Q->oA r (bL fa) σ H Q:=by
 rintro σ H Q ⟨F,ad,δ,K,S,q,k⟩
 refine⟨F,ad,δ,_,S,q,fun xs δ1 h1 vs F1 aQ H1 E1 S1 V1=>hr _ _ _ ?_⟩
 obtain⟨ds,h2,o8⟩:=vY S1 V1 h1
 refine⟨F1,ds,_,S1.sub,o8,h2,fun zs us a hz hp is => ?_⟩
 have oi:ff F1 (.lst zs) (.lst us):=⟨us,rfl,is⟩
 exact k _ _ hz _ _ _ _ (E1.trans (Ext.own S1 hp)) (S1.own hp oi) (Ab S1)
theorem Qw {x:Str} {p:Pos} {e:Expr} {es:List Expr} {id:String} {o:List D->(List D->Prop)->Prop} (hc:GK X (.builtin id) o) (hg:Gl X x) (hm:X.mg x=none) (hv:bootBuiltins x=some (.builtin id)) (ha:JA X (e :: es) (bL fa)) (hn:x ≠ "__name__" := by decide) (bT:(x == ("__debug__" : Str))=false:=by decide)
  (he:starEach (e :: es) X.env=(false,eval e X.env) :: starEach es X.env:=by rfl) (bU:(backTo pos (starEach es X.env)).any (·.1)=false:=by rfl):JE X (.Call (.Name x p) (e :: es) [] pos) (tD (wJ fa o)) :=
 (tJ hc hg hm hv ha hn bT he bU).weak (Qv fun _ _ _ h=>h)
theorem Qx:GK X (.builtin "sorted") wK:=by
 rintro pins s σ H xs us Q I r ⟨F,ds,K,sub,rd,q,md⟩
 unfold wK at q
 split at q
 ·rename_i es
  split at q
  ·rename_i ns e
   obtain⟨v,rfl,a,vs,rfl,h1,h2⟩:=dF rd
   rw[wq e] at h2
   rw[qT h2] at h1
   refine Pd pins s σ H _ us Q I r ⟨a,ns,rfl,bc.of h1,q.1,fun l fc pm pw hl => ?_⟩
   rw[Qf pm pw]
   exact md _ _ _ q.2 hl t8
  ·exact q.elim
 ·exact q.elim
noncomputable def Ac (f g:WE):WE:=fun δ K=>f δ fun x δ1=>g δ1 fun y δ2=>iy x δ2 fun d=>iy y δ2 fun e=>match d,e with
 | .lst a,.lst b=>a.length + b.length <= 1000/\K (.o δ2.mu.length) ⟨δ2.sl,δ2.mu ++ [some (.lst (a ++ b))]⟩
 | _,_=>False
theorem Qy {a b:Expr} {f g:WE} (ha:JE X a (tD f)) (hb:JE X b (tD g)):JE X (.BinOp a .Add b pos) (tD (Ac f g)) :=
 (oW vJ ha hb).weak fun σ H Q h0_ => el7 h0_ fun F ad δ K S q k =>⟨F,ad,δ,_,S,q,fun x δ1 h1 v1 F1 aQ H1 E1 S1 V1=>⟨F1,aQ,δ1,_,S1,h1,fun y δ2 h2 v2 F2 cy H2 E2 S2 V2=>by
  obtain⟨d,h3,rd⟩:=jg S2 (V1.ext E2) h2
  obtain⟨e,h4,re⟩:=jg S2 V2 h3
  split at h4
  ·rename_i as bs
   obtain⟨a,us,rfl,g1,g2⟩:=rd
   obtain⟨b,ws,rfl,g3,g4⟩:=re
   have oi:ff F2 (.lst (as ++ bs)) (.lst (us ++ ws)):=⟨_,rfl,qU g2 g4⟩
   exact⟨a,b,us,ws,rfl,rfl,g1,g3,jZ (by rw[g2.length,g4.length];exact h4.1),fun p hp=>k _ _ h4.2 _ _ _ _ ((E1.trans E2).trans (Ext.own S2 hp)) (S2.own hp oi) (Ab S2)⟩
  ·exact h4.elim⟩⟩
theorem Qz [bM] {st:Stmt}:JS X st (cM zx):=⟨fun pins s D σ H I q=>by obtain⟨F,ad,δ,K,S,q,k⟩:=q;exact q.elim⟩
end
end L2
namespace LJS
open PySem PySem.SetTable PyProof.Rows
section
variable {prog:Program} {w:World} {A:Around} {S:Addr} {ks:List Int}
end
end LJS
namespace L2
open PySem PySem.Spec PyProof.Rows
section
variable {X:Cx}
end
end L2
namespace LJS
open PySem PySem.SetTable PyProof.Rows
noncomputable def fq (m:Nat) (p:Probe):Probe :=
 if p.more > 0 then { p with j:=p.j + 1,more:=p.more - 1 } else
 { p with j:=(leap m p.i p.perturb).1,more:=runEnd m (leap m p.i p.perturb).1 - (leap m p.i p.perturb).1,i:=(leap m p.i p.perturb).1,perturb:=(leap m p.i p.perturb).2 }
theorem GL (t:SetTable) (p:Probe):t.advance p=fq t.mask p:=rfl
noncomputable def bH (m:Nat):Nat->Probe->Probe
 | 0,p=>p
 | k + 1,p=>bH m k (fq m p)
theorem wL (m:Nat):∀ (a b:Nat) (p:Probe),bH m (a + b) p=bH m b (bH m a p)
 | 0,b,p=>by rw[Yx];rfl
 | a + 1,b,p=>by rw[show a + 1 + b=a + b + 1 by omega];exact wL m a b (fq m p)
noncomputable def stM (m i q:Nat):Probe:=⟨i,runEnd m i - i,i,q,none⟩
noncomputable def startM (m:Nat) (h:Int):Probe:=stM m (bits h % (m + 1)) (bits h)
theorem Ad (m:Nat):∀ (l:Nat) (p:Probe),l <= p.more->bH m l p={ p with j:=p.j + l,more:=p.more - l }
 | 0,p,_=>rfl
 | l + 1,p,h=>by
  show bH m l (fq m p)=_
  have e:fq m p={ p with j:=p.j + 1,more:=p.more - 1 }:=by unfold fq;rw[Xp (by omega)]
  rw[e,Ad m l _ (by show l <= p.more - 1;omega)]
  congr 1<;>(dsimp only;omega)
theorem GN (m i q:Nat):bH m (runEnd m i - i + 1) (stM m i q)=stM m (leap m i q).1 (leap m i q).2:=by
 rw[wL m (runEnd m i - i) 1,Ad m (runEnd m i - i) (stM m i q) (sG _)]
 show fq m _=_
 unfold fq
 rw[Xm (by show ¬ (runEnd m i - i - (runEnd m i - i) > 0);omega)]
 rfl
theorem GP {m i:Nat} (h:i <= m):runEnd m i <= m/\i <= runEnd m i:=by unfold runEnd;split<;>omega
noncomputable def nA (m:Nat) (p:Probe):Prop:=p.j + p.more <= m
theorem QA {m:Nat} {p:Probe} (h:nA m p):nA m (fq m p):=by
 unfold fq nA
 split
 ·rename_i c;have:p.j + p.more <= m:=h;dsimp only;omega
 ·have:=GP (Df m p.i p.perturb)
  dsimp only;omega
theorem GQ {m:Nat}:∀ (k:Nat) {p:Probe},nA m p->nA m (bH m k p)
 | 0,_,h=>h
 | k + 1,_,h=>GQ k (QA h)
theorem QB (m:Nat) (h:Int):nA m (startM m h):=by
 have h0:bits h % (m + 1) <= m:=ZV (Nat.mod_lt _ (q0Q _))
 have:=GP h0
 unfold startM stM nA
 dsimp only;omega
theorem GS (m:Nat) (h:Int) (k:Nat):(bH m k (startM m h)).j <= m:=by
 have:=GQ k (QB m h)
 unfold nA at this;omega
noncomputable def nB (m:Nat) (wM:Nat->Prop) (h:Int) (j:Nat):Prop:=∃ k,k < 10 * turns m/\(bH m k (startM m h)).j=j/\∀ l,l < k->wM (bH m l (startM m h)).j
theorem nB.mono {m:Nat} {wM ui:Nat->Prop} {h:Int} {j:Nat} (r:nB m wM h j) (k:∀ x,x <= m->wM x->ui x):nB m ui h j:=by
 obtain⟨n,h1,h2,h3⟩:=r
 exact⟨n,h1,h2,fun l hl=>k _ (GS m h l) (h3 l hl)⟩
theorem GU {m:Nat} {owner:Array (Option Nat)}:∀ (F i q j:Nat),layClean.free m owner F i q=some j->∃ k,k < 10 * F/\(bH m k (stM m i q)).j=j/\∀ l,l < k->(owner.getD (bH m l (stM m i q)).j (some 0)).isSome=true
 | 0,i,q,j,h=>by unfold layClean.free at h;cases h
 | F + 1,i,q,j,h=>by
  rw[xG] at h
  have r9:=Dj m i
  have ri:i <= runEnd m i:=by unfold runEnd;split<;>omega
  have j_:∀ l,l <= runEnd m i - i->(bH m l (stM m i q)).j=i + l:=fun l hl=>by rw[Ad m l _ hl];rfl
  split at h
  ·rename_i k0 hk
   cases h
   have h1:=q1x hk
   have h2:=Ym.mp (List.mem_of_find?_eq_some hk)
   refine⟨k0,by omega,j_ k0 (by omega),fun l hl => ?_⟩
   rw[j_ l (by omega)]
   have h3:∀ l,l < k0->¬ (owner.getD (i + l) (some 0)).isNone=true:=by
    intro l hl hn
    obtain⟨as,bs,e,hb⟩:=List.find?_eq_some_iff_append.mp hk |>.2
    have hlen:as.length=k0:=by
     have:=congrArg (fun x=>x[as.length]?) e
     simp at this
     have h5:as.length < runEnd m i + 1 - i:=by
      have:=congrArg List.length e
      simp at this;omega
     rw[YQ h5] at this
     exact Yi this
    have:l∈as:=by
     have h6:=congrArg (fun x=>x[l]?) e
     simp only[Xn (show l < as.length by omega)] at h6
     rw[YQ (by omega)] at h6
     exact Yn h6.symm
    have:=hb l this
    rw[hn] at this
    exact absurd this (by decide)
   have:=h3 l hl
   cases q:owner.getD (i + l) (some 0) with
   | none=>rw[q] at this;exact absurd rfl this
   | some _=>rfl
  ·rename_i hk
   have h1:=List.find?_eq_none.mp hk
   obtain⟨k,XA,QC,QD⟩:=GU F _ _ j h
   refine⟨runEnd m i - i + 1 + k,by omega,by rw[wL,GN];exact QC,fun l hl => ?_⟩
   by_cases c:l <= runEnd m i - i
   ·rw[j_ l c]
    have:=h1 l (Ym.mpr (by omega))
    cases q:owner.getD (i + l) (some 0) with
    | none=>rw[q] at this;exact absurd rfl this
    | some _=>rfl
   ·have:=QD (l - (runEnd m i - i + 1)) (by omega)
    rw[show l=runEnd m i - i + 1 + (l - (runEnd m i - i + 1)) by omega,wL,GN]
    exact this
section
variable {t:SetTable} {f:Nat->Int} {h:Int}
theorem GV (u:Up t.place) {i:Nat} (hi:i < t.place.size):t.slot t.place[i] = .live i:=by
 obtain⟨h0,h1,h2⟩:=vx u t.place[i]
 have a:¬ i < below t.place t.place[i]:=fun z=>by have:=h1 i hi z;omega
 have b:¬ below t.place t.place[i] < i:=fun z=>by
  have:=h2 (below t.place t.place[i]) (by omega) (sG _)
  have:=u.lt z hi
  omega
 have eb:below t.place t.place[i]=i:=by omega
 unfold slot
 rw[eb]
 have:(t.place[i]? == some t.place[i])=true:=by rw[X8 hi];simp
 simp only[this,ZL]
theorem GW (hd:t.dummies = #[]):∀ (F:Nat) (p:Probe) (j:Nat) (d:Option Nat),probe.go t f h F p=some (.empty j d)->∃ k,k < F/\(bH t.mask k p).j=j/\∀ l,l < k->(bH t.mask l p).j∈t.place.toList
 | 0,p,j,d,e=>by unfold probe.go at e;cases e
 | F + 1,p,j,d,e=>by
  rw[nW] at e
  rcases rN hd p.j with q | ⟨i,q,hi,hm⟩
  ·rw[q] at e
   cases e
   exact⟨0,q0Q _,rfl,fun l hl=>absurd hl (Nat.not_lt_zero _)⟩
  ·rw[q] at e
   dsimp only at e
   split at e
   ·cases e
   ·obtain⟨k,h1,h2,h3⟩:=GW hd F _ j d e
    rw[GL] at h2 h3
    refine⟨k + 1,by omega,h2,fun l hl => ?_⟩
    cases l with
    | zero=>exact hm
    | succ l=>exact h3 l (by omega)
theorem GX (hd:t.dummies = #[]) (u:Up t.place):∀ (k F:Nat) (p:Probe) (i0:Nat),k < F->t.slot (bH t.mask k p).j = .live i0->f i0=h->(∀ l,l < k->(bH t.mask l p).j∈t.place.toList)->∃ j i nx,probe.go t f h F p=some (.candidate j i nx)/\f i=h/\i < t.place.size
 | k,0,p,i0,hk,_,_,_=>absurd hk (Nat.not_lt_zero _)
 | 0,F + 1,p,i0,_,hs,hf,_=>by
  rw[nW,show t.slot p.j = .live i0 from hs]
  dsimp only
  rw[Xp (by rw[hf];simp)]
  refine⟨_,_,_,rfl,hf,?_⟩
  rcases rN hd p.j with q | ⟨i,q,hi,_⟩
  ·rw[show t.slot p.j = .live i0 from hs] at q;cases q
  ·rw[show t.slot p.j = .live i0 from hs] at q;cases q;exact hi
 | k + 1,F + 1,p,i0,hk,hs,hf,ho=>by
  have hm:=ho 0 (q0Q _)
  obtain⟨i,hi,ei⟩:=YX.mp hm
  have b8:i < t.place.size:=by rw[<-My];exact hi
  have xM:t.place[i]=p.j:=by simpa [bH] using ei
  have sl:=GV u b8
  rw[xM] at sl
  rw[nW,sl]
  dsimp only
  by_cases c:f i=h
  ·rw[Xp (by rw[c];simp)]
   exact⟨_,_,_,rfl,c,b8⟩
  ·rw[Xm (by simpa using c),GL]
   exact GX hd u k F _ i0 (by omega) hs hf fun l hl=>ho (l + 1) (by omega)
end
noncomputable def pP (owner:Array (Option Nat)) (j:Nat):Prop:=∃ k,owner[j]? = some (some k)
structure q_ (m:Nat) (hs:List Int) (owner:Array (Option Nat)) (k:Nat):Prop where
 ow:Ow m owner k
 rh:∀ (j i:Nat),owner[j]? = some (some i)->∃ h,hs[i]? = some h/\nB m (pP owner) h j
theorem GY {owner:Array (Option Nat)} {j k x:Nat} (h:pP owner x):pP (owner.setIfInBounds j (some k)) x:=by
 obtain⟨i,e⟩:=h
 have hx:=(Ys.mp e).1
 by_cases c:j=x
 ·subst c
  exact⟨k,by rw[ZS];simp[hx]⟩
 ·exact⟨i,by rw[ZS];simp[c];exact e⟩
theorem QE {m:Nat} {hs:List Int} {owner:Array (Option Nat)} {k:Nat} (hm:Mk m) (O:q_ m hs owner k) (hk:k <= m) {h:Int} (hh:hs[k]? = some h) :
  ∃ j,layClean.free m owner (turns m) (bits h % (m + 1)) (bits h)=some j/\q_ m hs (owner.setIfInBounds j (some k)) (k + 1):=by
 obtain⟨j,ej,O'⟩:=KI hm O.ow hk h
 refine⟨j,ej,O',fun x i e => ?_⟩
 rw[ZS] at e
 by_cases c:j=x
 ·subst c
  have QF:j < owner.size:=by
   by_cases z:j < owner.size
   ·exact z
   ·simp[z] at e
  simp[QF] at e
  subst e
  refine⟨h,hh,?_⟩
  obtain⟨n,n1,n2,n3⟩:=GU _ _ _ _ ej
  refine⟨n,n1,n2,fun l hl=>GY ?_⟩
  have gu:=n3 l hl
  have le:=GS m h l
  have cA:(bH m l (startM m h)).j < owner.size:=by rw[O.ow.size];omega
  have uj:(owner.getD (bH m l (startM m h)).j (some 0)).isSome=true:=gu
  rw[show owner.getD (bH m l (startM m h)).j (some 0)=owner[(bH m l (startM m h)).j] by simp[Array.getD,cA]] at uj
  obtain⟨v,hv⟩:=Z9.mp uj
  exact⟨v,by rw[X8 cA,hv]⟩
 ·simp[c] at e
  obtain⟨h',e1,e2⟩:=O.rh x i e
  exact⟨h',e1,e2.mono fun y _ hy=>GY hy⟩
theorem GZ {m:Nat} (hm:Mk m) {all:List Int}:∀ (hs:List Int) (owner:Array (Option Nat)) (k:Nat),q_ m all owner k->all.drop k=hs->k + hs.length <= m + 1 →
  ∃ aU,(hs.foldl (init:=some (owner,k)) fun acc h=>do
   let (owner,k) <- acc
   let j <- layClean.free m owner (turns m) (bits h % (m + 1)) (bits h)
   pure (owner.setIfInBounds j (some k),k + 1))=some (aU,k + hs.length)/\q_ m all aU (k + hs.length)
 | [],owner,k,O,_,_=>⟨owner,rfl,O⟩
 | h :: hs,owner,k,O,hd,hl=>by
  rw[Ex] at hl ⊢
  have hk:k < all.length:=by
   have:=congrArg List.length hd
   rw[Zk,Ex] at this;omega
  rw[YI hk] at hd
  have hh:all[k]? = some h:=by rw[oO hk];exact congrArg some (List.cons.inj hd).1
  obtain⟨j,ej,O'⟩:=QE hm O (by omega) hh
  obtain⟨o2,e2,O2⟩:=GZ hm hs _ (k + 1) O' (List.cons.inj hd).2 (by omega)
  refine⟨o2,?_,by rw[show k + (hs.length + 1)=k + 1 + hs.length by omega];exact O2⟩
  rw[q0J,show k + (hs.length + 1)=k + 1 + hs.length by omega,<-e2]
  congr 1
  show (do let j <- layClean.free m owner (turns m) (bits h % (m + 1)) (bits h);pure (owner.setIfInBounds j (some k),k + 1))=_
  rw[ej];rfl
theorem QG (m:Nat) (hs:List Int):q_ m hs (Array.replicate (m + 1) none) 0:=by
 refine⟨Dq m,fun j i e => ?_⟩
 rw[Array.getElem?_replicate] at e
 split at e<;>cases e
theorem QH {m:Nat} (hm:Mk m) (hs:Array Int) (hz:hs.size <= m + 1):∃ owner,layClean m hs=some owner/\q_ m hs.toList owner hs.size:=by
 obtain⟨o,e,O⟩:=GZ hm hs.toList _ 0 (QG m hs.toList) rfl (by rw[My];omega)
 rw[Yx,My] at O
 refine⟨o,?_,O⟩
 unfold layClean
 rw[<-Array.foldl_toList,e];rfl
theorem QI {m:Nat} (hm:Mk m) (t:SetTable) (hs:Array Int) (wanted:Nat) (hw:sizeAbove wanted - 1=m) (hz:hs.size <= m + 1) :
  ∃ t' order,t.relaid hs wanted=some (t',order)/\t'.mask=m/\t'.dummies = #[]/\t'.place.size=hs.size/\Up t'.place/\order.size=hs.size/\order.toList.Perm (List.range hs.size) ∧
   ∀ (i j k:Nat),t'.place[i]? = some j->order[i]? = some k->∃ h,hs[k]? = some h/\nB m (· ∈ t'.place.toList) h j:=by
 obtain⟨owner,e,O⟩:=QH hm hs hz
 obtain⟨aU,e',_,OP⟩:=K7 hm hs hz
 have:aU=owner:=Yi (e'.symm.trans e)
 subst this
 refine⟨{ mask:=m,place:=((iK m aU).map (·.1)).toArray,dummies := #[],finger:=t.finger,led:=t.led,moves:=t.movedTo m,plain:=t.plain },((iK m aU).map (·.2)).toArray,?_,rfl,rfl,?_,KY m aU,?_,?_,fun i j k h1 h2 => ?_⟩
 ·unfold relaid laid
  rw[hw,e];rfl
 ·rw[yG,qy,Dr O.ow]
 ·rw[yG,qy,Dr O.ow]
 ·show ((iK m aU).map (·.2)).Perm _
  rw[K8 O.ow.size]
  exact OP
 ·have h1:((iK m aU).map (·.1))[i]? = some j:=by simpa using h1
  have h2:((iK m aU).map (·.2))[i]? = some k:=by simpa using h2
  rw[Ni] at h1 h2
  obtain⟨z,G0,rfl⟩:=Xo.mp h1
  obtain⟨z',G1,rfl⟩:=Xo.mp h2
  rw[G0] at G1;cases G1
  have zm:=Yn G0
  have own:∀ z∈iK m aU,aU[z.1]? = some (some z.2):=fun z hz=>by
   unfold iK at hz
   obtain⟨j',Ae,QJ⟩:=Zw.mp hz
   obtain⟨k',wN,rfl⟩:=Xo.mp QJ
   have:j' < aU.size:=by rw[O.ow.size];exact Ym.mp Ae
   rw[show aU.getD j' none=aU[j'] by simp[Array.getD,this]] at wN
   rw[X8 this,wN]
  obtain⟨h,e1,e2⟩:=O.rh _ _ (own z zm)
  refine⟨h,by rw[<-Yh];exact e1,e2.mono fun x hx QK => ?_⟩
  obtain⟨kx,G2⟩:=QK
  show x∈(iK m aU).map (·.1)
  refine Yd.mpr ⟨(x,kx),?_,rfl⟩
  unfold iK
  refine Zw.mpr ⟨x,Ym.mpr (by omega),?_⟩
  have vN:=(Ys.mp G2).1
  rw[show aU.getD x none=aU[x] by simp[Array.getD,vN],(Ys.mp G2).2];rfl
structure mf (hk:Nat->Int) (ad:Nat->Addr) (t:SetTable) (es:Array (Int × Value)) (js:List Nat):Prop where
 P:eW t es (js.map hk)
 up:Up t.place
 pQ:(js.map hk).Nodup
 el:∀ e∈es.toList,∃ j∈js,e=(hk j,Value.ref (ad j))
 all:∀ j∈js,∃ e∈es.toList,e.1=hk j
 rh:∀ (i:Nat) (e:Int × Value) (j:Nat),es[i]? = some e->t.place[i]? = some j->nB t.mask (· ∈ t.place.toList) e.1 j
noncomputable def gf (hk:Nat->Int) (ad:Nat->Addr) (h:Heap) (S:Addr) (js:List Nat):Prop:=∃ o es ep t,h.get? S=some o/\o.ExactSet/\o.data = .set es ep t/\mf hk ad t es js
theorem G3 {hk:Nat->Int} {ad:Nat->Addr} {h h':Heap} {S:Addr} {js:List Nat} (x:gf hk ad h S js) (k:∀ o,h.get? S=some o->h'.get? S=some o):gf hk ad h' S js:=by
 obtain⟨o,es,ep,t,ho,r⟩:=x
 exact⟨o,es,ep,t,k o ho,r⟩
theorem G4 {α : Type} {xs:Array α} {p:Nat} {x : α} (hp:p <= xs.size) (i:Nat):(insertAt xs p x)[i]? = if i < p then xs[i]? else if i=p then some x else xs[i - 1]? := by
 have e:(insertAt xs p x).toList=xs.toList.take p ++ x :: xs.toList.drop p:=by
  unfold insertAt
  simp only[Array.toList_append,q0m,Array.toList_extract,q09,q0T,Nat.sub_zero,ZA,List.singleton_append]
  rw[Yz (l:=xs.toList.drop p) (by rw[Zk,My];exact sG _)]
 rw[<-Yh,e]
 have hl:(xs.toList.take p).length=p:=by rw[Yp,My];omega
 by_cases c:i < p
 ·rw[Xp c,Xn (by omega),Yw c,Yh]
 ·rw[Xm c,Xr (by omega),hl]
  by_cases c2:i=p
  ·rw[Xp c2,c2,YG];rfl
  ·rw[Xm c2]
   obtain⟨d,rfl⟩:∃ d,i=p + 1 + d:=⟨i - p - 1,by omega⟩
   rw[show p + 1 + d - p=d + 1 by omega,q0j,List.getElem?_drop,Yh]
   congr 1
   omega
theorem QL {α : Type} {es:Array α} {order:Array Nat} (h:∀ k∈order.toList,k < es.size) (i:Nat):(order.filterMap (es[·]?))[i]? = (order[i]?).bind fun k=>es[k]? := by
 have:∀ l:List Nat,(∀ k∈l,k < es.size)->∀ i:Nat,(l.filterMap fun k=>es[k]?)[i]? = (l[i]?).bind fun k=>es[k]? := by
  intro l
  induction l with
  | nil=>intro _ i;simp
  | cons k r ih =>
   intro hk i
   have rl:=hk k Nh
   rw[Zt]
   rw[X8 rl]
   dsimp only
   cases i with
   | zero=>simp[X8 rl]
   | succ i=>simpa using ih (fun k' gr=>hk k' (Nk _ gr)) i
 have e:=this order.toList h i
 rw[<-Yh,ZK,e,Yh]
section
variable {hk:Nat->Int} {ad:Nat->Addr} {t:SetTable} {es:Array (Int × Value)} {js:List Nat}
theorem mf.found (T:mf hk ad t es js) {h:Int} (hm:h∈js.map hk):∃ j i nx,t.probe (fun i=>(es[i]?.map (·.1)).getD 0) h (t.probeStart h)=some (.candidate j i nx)/\∃ e,es[i]? = some e/\e.1=h:=by
 obtain⟨j,hj,rfl⟩:=Yd.mp hm
 obtain⟨e,he,e1⟩:=T.all j hj
 obtain⟨i,hi,ei⟩:=YX.mp he
 have b8:i < es.size:=by rw[<-My];exact hi
 have ee:es[i]? = some e:=by rw[X8 b8];exact congrArg some (by simpa using ei)
 have hp:i < t.place.size:=by rw[T.P.mJ];exact b8
 have r:=T.rh i e _ ee (X8 hp)
 rw[e1] at r
 obtain⟨k,k1,k2,k3⟩:=r
 have sl:=GV T.up hp
 obtain⟨j',i',nx,h1,h2,h3⟩:=GX (t:=t) (f:=fun i=>(es[i]?.map (·.1)).getD 0) (h:=hk j) T.P.rP T.up k (10 * turns t.mask) (startM t.mask (hk j)) i k1 (by rw[k2];exact sl) (by rw[ee];exact e1) k3
 refine⟨j',i',nx,h1,?_⟩
 have cA:i' < es.size:=by rw[<-T.P.mJ];exact h3
 exact⟨es[i'],X8 cA,by have:=h2;rw[X8 cA] at this;exact this⟩
end
section
variable {prog:Program} {w:World} {A:Around} {E:Value->Shared->Prop} {s:Shared} {ad:Nat->Addr} {ks:Nat->List Int} {js:List Nat} {S:Addr}
noncomputable abbrev aG (prog:Program) (w:World) (ks:Nat->List Int) (j:Nat):Int:=hT prog w (ks j)
theorem G5 {k:List Int} {a:Addr} {Q:Bool->Shared->Prop} (hk:IsTupleKey (intKind prog w) s.heap k a) (h:Q false s):wpAny (model prog w) A (ofAClassStatement 8 (.ref a)) Q E s:=by
 have hT:=hk.typeIs
 obtain⟨o,ai,n,ho,_,hd,hi⟩:=hk
 show wpAny _ _ (ofAClassStatement (7 + 1) (.ref a)) _ _ _
 unfold ofAClassStatement
 refine lJ (q0R hT ?_)
 dsimp only
 refine lJ ?_
 refine vK ?_
 simp only[Zu,Ye,YY]
 refine lJ (Z1 ho hd ?_)
 dsimp only
 refine lJ ?_
 show wpAny _ _ (forIn ai _ _) _ _ s
 rw[<-q0e]
 refine Z5 _ (fun rest r s'=>s'=s/\r=(none,PUnit.unit)/\∀ v∈rest,∃ i t,v=Value.int i t) _ ?_ ?_ _ _ ⟨rfl,rfl,Dt hi⟩
 ·rintro v rest r s' ⟨rfl,rfl,eY⟩
  obtain⟨i,t,rfl⟩:=eY v Nh
  have e:ofAClassStatement 7 (.int i t)=pure false:=by unfold ofAClassStatement;rfl
  rw[e]
  refine lJ (vK ?_)
  simp only[Ye,YY]
  exact vK ⟨rfl,rfl,fun u hu=>eY u (Nk _ hu)⟩
 ·rintro r s' ⟨rfl,rfl,_⟩
  exact vK h
theorem QM {k:List Int} {a:Addr} {Q:Bool->Shared->Prop} {stored:List Value} (hx:IsTupleKey (intKind prog w) s.heap k a) (hy:∀ y∈stored,∃ k' b,y=Value.ref b/\IsTupleKey (intKind prog w) s.heap k' b) (h:Q false s):wpAny (model prog w) A (searchCouldBeSeen (.ref a) stored) Q E s:=by
 unfold searchCouldBeSeen
 refine lJ ?_
 refine Z5 _ (fun rest r s'=>s'=s/\r=(none,PUnit.unit)/\∀ y∈rest,∃ k' b,y=Value.ref b/\IsTupleKey (intKind prog w) s.heap k' b) _ ?_ ?_ _ _ ⟨rfl,rfl,hy⟩
 ·rintro v rest r s' ⟨rfl,rfl,eY⟩
  obtain⟨k',b,rfl,hb⟩:=eY v Nh
  have nD:∀ y∈rest,∃ k' b,y=Value.ref b/\IsTupleKey (intKind prog w) s'.heap k' b:=fun u hu=>eY u (Nk _ hu)
  dsimp only
  refine wpAny_ite_split (fun _=>vK ⟨rfl,rfl,nD⟩) (fun _ => ?_)
  refine lJ (wpAny_eqIsQuiet_tuple hx ?_)
  simp only[Zu,Ye,YY]
  refine lJ (wpAny_eqIsQuiet_tuple hb ?_)
  simp only[Zu,Ye,YY]
  refine lJ (G5 hx ?_)
  simp only[Ye,YY]
  refine lJ (G5 hb ?_)
  simp only[Ye,YY]
  exact vK ⟨rfl,rfl,nD⟩
 ·rintro r s' ⟨rfl,rfl,_⟩
  exact vK h
theorem QN {i:Nat} {o:Obj} {es:Array (Int × Value)} {ep:Nat} {t:SetTable} {Q:SetFound->Shared->Prop} (ho:s.heap.get? S=some o) (hd:o.data = .set es ep t) (T:mf (aG prog w ks) ad t es js) (hu:A.units < cLine)
  (keys:∀ j∈i :: js,IsTupleKey (intKind prog w) s.heap (ks j) (ad j)) (inj:∀ j∈js,aG prog w ks j=aG prog w ks i->ks j=ks i) (hm:aG prog w ks i∈js.map (aG prog w ks))
  (k:Q (.there none) s):wpAny (model prog w) A (setSearch S (.ref (ad i)) (aG prog w ks i) true) Q E s:=by
 unfold setSearch
 show wpAny _ _ (setSearchFrom S (.ref (ad i)) (aG prog w ks i) true (99999 + 1) none) _ _ _
 unfold setSearchFrom
 refine lJ (ZD ho hd T.P.fits ?_)
 dsimp only
 rw[T.P.rR]
 simp only[Ye,↓reduceIte]
 obtain⟨j',i',nx,ej,e,ee,eh⟩:=T.found hm
 simp only[q0A]
 generalize hP:t.probe _ (aG prog w ks i) (t.probeStart (aG prog w ks i))=P
 have eP:P=some (.candidate j' i' nx):=hP.symm.trans ej
 rw[eP]
 dsimp only
 have em:e∈es.toList:=Yn (by rw[Yh];exact ee)
 obtain⟨j,hj,rfl⟩:=T.el e em
 have ek:=inj j hj eh
 have kx:=keys i Nh
 have ky:=keys j (Nk _ hj)
 have tail:wpAny (model prog w) A (do
   let some (_,y):=es[i']? | unsupported "internal:set-entry"
   let equal <- holding [y] (eqBool y (.ref (ad i)))
   let (rW,_,t') <- setState S
   if true && equal then return SetFound.there none
   let some same:=t'.sameMemory t.moves t.mask | unsupported "set.changed-during-lookup:is-the-new-block-at-the-old-address"
   let uk <- match (if same then t'.slot j' else .empty) with
    | .live i'=>match rW[i']? with
     | some (_,y')=>do pure (if <- isSame y' y then some i' else none)
     | none=>pure none
    | _=>pure none
   match uk with
   | none=>rule "set.search.anew";setSearchFrom S (.ref (ad i)) (aG prog w ks i) true 99999 none
   | some i'=>if equal then return SetFound.there (some i') else setSearchFrom S (.ref (ad i)) (aG prog w ks i) true 99999 (some nx)) Q E s:=by
  rw[ee]
  dsimp only
  refine lJ (Yl (wpAny_eqBool_tuple hu ky kx ?_))
  refine lJ (ZD ho hd T.P.fits ?_)
  dsimp only
  rw[Ya ek]
  exact vK k
 refine wpAny_ite_split (fun _ => ?_) (fun _=>tail)
 refine lJ (QM kx (fun y hy => ?_) ?_)
 ·obtain⟨z,hz,rfl⟩:=Yd.mp hy
  have QO:z∈es.toList:=by
   have:=q0E.mp hz
   exact q0E.mpr (Array.mem_filter.mp this).1
  obtain⟨q,hq,rfl⟩:=T.el z QO
  exact⟨_,_,rfl,keys q (Nk _ hq)⟩
 ·exact tail
theorem QP {i:Nat} {Q:Bool->Shared->Prop} (hS:gf (aG prog w ks) ad s.heap S js) (hl:js.length < 60) (hu:A.units < cLine)
  (keys:∀ j∈i :: js,IsTupleKey (intKind prog w) s.heap (ks j) (ad j)) (inj:∀ j∈js,aG prog w ks j=aG prog w ks i->ks j=ks i)
  (k:∀ (b:Bool) h',Heap.SameBut S s.heap h'->gf (aG prog w ks) ad h' S (if aG prog w ks i∈js.map (aG prog w ks) then js else js ++ [i])->Q b { s with heap:=h' }) :
  wpAny (model prog w) A (setAddHashed S (.ref (ad i)) (aG prog w ks i)) Q E s:=by
 obtain⟨o,es,ep,t,ho,hex,hd,T⟩:=hS
 unfold setAddHashed
 refine Yl ?_
 show wpAny _ _ (setAddHashedIn S (.ref (ad i)) (aG prog w ks i) (99999 + 1)) _ _ _
 unfold setAddHashedIn
 refine lJ (ZD ho hd T.P.fits ?_)
 have hb:byScan (.ref (ad i)) es=false:=by unfold byScan;rfl
 dsimp only
 rw[hb]
 simp only[Ye,↓reduceIte]
 by_cases hm:aG prog w ks i∈js.map (aG prog w ks)
 ·refine lJ (QN ho hd T hu keys inj hm ?_)
  dsimp only
  refine vK ?_
  have e:s={ s with heap:=s.heap }:=by cases s;rfl
  rw[e]
  exact k false s.heap (Heap.SameBut.refl S s.heap) (by rw[Xp hm];exact⟨o,es,ep,t,ho,hex,hd,T⟩)
 rw[Xm hm] at k
 have kx:=keys i Nh
 have hz:t.place.size <= t.mask:=by have:=T.P.lt;rw[T.P.mJ];omega
 obtain⟨j0,Af⟩:=KH (t:=t) (f:=fun i=>(es[i]?.map (·.1)).getD 0) (h:=aG prog w ks i) T.P.rP T.P.rQ hz (fun i' b8 z=>by
  rw[T.P.mJ] at b8
  rw[X8 b8] at z
  exact hm (by rw[<-show es[i'].1=aG prog w ks i from z];exact T.P.ins _ (q1b b8)))
 have nj:j0∉t.place.toList:=KZ T.up (xK Af)
 have rj:nB t.mask (· ∈ t.place.toList) (aG prog w ks i) j0:=GW T.P.rP _ _ _ _ Af
 have sf:wpAny (model prog w) A (setSearch S (.ref (ad i)) (aG prog w ks i) true) (fun r s'=>r = .free j0 false/\s'=s) E s:=by
  unfold setSearch
  show wpAny _ _ (setSearchFrom S (.ref (ad i)) (aG prog w ks i) true (99999 + 1) none) _ _ _
  unfold setSearchFrom
  refine lJ (ZD ho hd T.P.fits ?_)
  dsimp only
  rw[T.P.rR]
  simp only[Ye,↓reduceIte]
  simp only[q0A]
  generalize hP:t.probe _ (aG prog w ks i) (t.probeStart (aG prog w ks i))=P
  have eP:P=some (.empty j0 none):=hP.symm.trans Af
  rw[eP]
  exact vK ⟨rfl,rfl⟩
 refine lJ (YK sf ?_ fun _ _ e=>e)
 rintro r s' ⟨rfl,rfl⟩
 dsimp only
 refine lJ (ZD ho hd T.P.fits ?_)
 dsimp only
 obtain⟨p1,p2,p3,p4,p5,p6,p7⟩:=KN t T.P.rP j0
 have up1:=KU T.up nj
 have pz:(t.put j0).2 <= t.place.size:=(vx T.up j0).1
 have fin:∀ b:Bool,wpAny (model prog w) A (do
   storeSet S (SetTable.insertAt es (t.put j0).2 (aG prog w ks i,.ref (ad i))) (if b=true then (t.put j0).1 else { (t.put j0).1 with plain:=false })
   if (!false && (if b=true then (t.put j0).1 else { (t.put j0).1 with plain:=false }:SetTable).tooFull)=true then do
       setRelay S (SetTable.grown (es.size + 1))
       pure true
    else pure true) Q E s':=by
  intro b
  generalize jd:(if b=true then (t.put j0).1 else { (t.put j0).1 with plain:=false }:SetTable)=t2
  have q1:t2.dummies = #[]:=by rw[<-jd];cases b<;>exact p1
  have q2:t2.mask=t.mask:=by rw[<-jd];cases b<;>exact p2
  have q3:t2.place.size=es.size + 1:=by rw[<-jd,<-T.P.mJ];cases b<;>exact p3
  have q4:t2.place=insertAt t.place (t.put j0).2 j0:=by rw[<-jd];cases b<;>rfl
  have q5:Up t2.place:=by rw[<-jd];cases b<;>exact up1
  have mi:=KO es (t.put j0).2 (aG prog w ks i,Value.ref (ad i))
  have wO:(insertAt es (t.put j0).2 (aG prog w ks i,Value.ref (ad i))).toList.Perm (es.toList ++ [(aG prog w ks i,Value.ref (ad i))]):=by
   have:=SetTable.insertAt_perm es (t.put j0).2 (aG prog w ks i,Value.ref (ad i))
   rw[q0m] at this
   exact this
  have QQ:t2.place.toList.Perm (t.place.toList ++ [j0]):=by
   rw[q4]
   have:=SetTable.insertAt_perm t.place (t.put j0).2 j0
   rw[q0m] at this
   exact this
  have um:∀ (x:Nat) (e:Int × Value) (j:Nat),(insertAt es (t.put j0).2 (aG prog w ks i,Value.ref (ad i)))[x]? = some e->t2.place[x]? = some j->nB t2.mask (· ∈ t2.place.toList) e.1 j:=by
   intro x e j h1 h2
   rw[q4,G4 pz] at h2
   rw[G4 (by rw[<-T.P.mJ];exact pz)] at h1
   rw[q2]
   have more:∀ y,y <= t.mask->y∈t.place.toList->y∈t2.place.toList:=fun y _ hy=>QQ.mem_iff.mpr (Yv _ hy)
   by_cases c:x < (t.put j0).2
   ·rw[Xp c] at h1 h2
    exact (T.rh x e j h1 h2).mono more
   ·rw[Xm c] at h1 h2
    by_cases c2:x=(t.put j0).2
    ·rw[Xp c2] at h1 h2
     cases h1;cases h2
     exact rj.mono more
    ·rw[Xm c2] at h1 h2
     exact (T.rh _ e j h1 h2).mono more
  generalize insertAt es (t.put j0).2 (aG prog w ks i,Value.ref (ad i))=eN at mi wO um
  have Ag:∀ e∈eN.toList,∃ j∈js ++ [i],e=(aG prog w ks j,Value.ref (ad j)):=fun e he=>by
   rcases YM.mp (wO.mem_iff.mp he) with q | q
   ·obtain⟨j,hj,e1⟩:=T.el e q
    exact⟨j,Yv _ hj,e1⟩
   ·exact⟨i,Nj _ Nh,YZ.mp q⟩
  have all2:∀ j∈js ++ [i],∃ e∈eN.toList,e.1=aG prog w ks j:=fun j hj=>by
   rcases YM.mp hj with q | q
   ·obtain⟨e,he,e1⟩:=T.all j q
    exact⟨e,wO.mem_iff.mpr (Yv _ he),e1⟩
   ·rw[YZ.mp q]
    exact⟨_,wO.mem_iff.mpr (Nj _ Nh),rfl⟩
  have uo:((js ++ [i]).map (aG prog w ks)).Nodup:=by
   rw[YH]
   exact Zq.mpr ⟨T.pQ,by simp,fun a ha b hb z=>hm (by rw[<-YZ.mp hb,<-z];exact ha)⟩
  have uq:∀ e∈eN.toList,e.1∈(js ++ [i]).map (aG prog w ks):=fun e he=>by
   obtain⟨j,hj,rfl⟩:=Ag e he
   exact Yd.mpr ⟨j,hj,rfl⟩
  have ur:eN.size=((js ++ [i]).map (aG prog w ks)).length:=by rw[mi,T.P.num,qy,qy,Ew];rfl
  have XB:es.size < 60:=by rw[T.P.num,qy];exact hl
  refine lJ (wpAny_storeSet_of ho hd ?_ (by rw[mi,Zh];omega))
  have nE:(s'.heap.update S (Obj.putSet eN t2)).get? S=some { o with data := .set eN (ep + 1) t2 }:=by
   have:=YU (Obj.putSet eN t2) ho (by rw[putSet_of eN t2 hd];rfl)
   rw[putSet_of eN t2 hd] at this;exact this
  have fl:t2.fill=es.size + 1:=by unfold SetTable.fill;rw[q1,q3];rfl
  have lt:=T.P.lt
  have uu:t2.fits eN.size=true:=by
   unfold SetTable.fits
   rw[fl,q3,mi,q2]
   simp
   rcases T.P.rQ with e | e | e<;>rw[e] at lt ⊢ <;> omega
  by_cases tf:t2.tooFull=true
  ·rw[Xp (by rw[tf];rfl)]
   have Ah:t.mask * 3 <= (es.size + 1) * 5:=by
    unfold tooFull at tf
    rw[fl,q2] at tf
    have:=Zf tf
    omega
   obtain⟨m,sZ,hw,eJ⟩:∃ m,Mk m/\sizeAbove (grown (es.size + 1)) - 1=m/\(es.size + 1) * 5 < m * 3:=by
    rcases T.P.rQ with e | e | e
    ·rw[e] at lt Ah
     have:es.size + 1=5:=by omega
     rw[this]
     exact⟨31,.inr (.inl rfl),KP,by omega⟩
    ·rw[e] at lt Ah
     have:es.size + 1=19:=by omega
     rw[this]
     exact⟨127,.inr (.inr rfl),KQ,by omega⟩
    ·rw[e] at Ah;omega
   refine lJ ?_
   unfold setRelay
   refine lJ (ZD nE rfl uu ?_)
   dsimp only
   have QR:¬ SetTable.sizeAbove (SetTable.grown (es.size + 1)) > sizeLine:=by
    rw[Zh]
    rcases sZ with e | e | e<;>omega
   rw[Xm QR]
   obtain⟨t3,order,er,r1,r2,r3,r4,r5,r6,r7⟩:=QI sZ t2 (eN.map (·.1)) (grown (es.size + 1)) hw (by rw[q1J,mi];omega)
   rw[er]
   rw[q1J,mi] at r3 r5
   rw[q1J] at r6
   have G6:∀ k∈order.toList,k < eN.size:=fun k hk=>Ym.mp (r6.mem_iff.mp hk)
   obtain⟨o1,o2⟩:=KJ (es:=eN) (order:=order) G6
   have og:=QL (es:=eN) (order:=order) G6
   refine lJ ?_
   show wpAny _ _ (do
    if (order.filterMap (eN[·]?)).size != eN.size then
     unsupported "internal:set-table-lost-an-element"
    pure (order.filterMap (eN[·]?),t3)) _ _ _
   rw[Xm (by rw[o1,r5,mi];simp)]
   refine vK ?_
   dsimp only
   refine wpAny_storeSet_of nE rfl ?_ (by rw[o1,r5,Zh];omega)
   have f9:((s'.heap.update S (Obj.putSet eN t2)).update S (Obj.putSet (order.filterMap (eN[·]?)) t3)).get? S=some { o with data := .set (order.filterMap (eN[·]?)) (ep + 1 + 1) t3 }:=by
    have:=YU (Obj.putSet (order.filterMap (eN[·]?)) t3) nE (by rw[putSet_of _ t3 rfl];rfl)
    rw[putSet_of _ t3 rfl] at this;exact this
   refine vK (k true _ ((Yy ..).trans (Yy ..)) ⟨_,_,_,_,f9,hex,rfl,⟨r2,by rw[r1];exact sZ,by rw[r3,o1,r5],by rw[o1,r5,<-mi];exact ur,?_,fun e he=>uq e (o2 e he)⟩,r4,uo,fun e he=>Ag e (o2 e he),fun j hj => ?_,fun x e j h1 h2 => ?_⟩)
   ·unfold tooFull SetTable.fill
    rw[r2,r3,r1]
    simp
    omega
   ·obtain⟨e,he,e1⟩:=all2 j hj
    obtain⟨x,hx,ex⟩:=YX.mp he
    have iQ:x < eN.size:=by rw[<-My];exact hx
    have:x∈order.toList:=r6.mem_iff.mpr (Ym.mpr iQ)
    refine⟨e,?_,e1⟩
    rw[ZK]
    exact Zw.mpr ⟨x,this,by rw[X8 iQ];exact congrArg some (by simpa using ex)⟩
   ·rw[og] at h1
    cases q:order[x]? with
    | none=>rw[q] at h1;cases h1
    | some G7 =>
     rw[q] at h1
     have h1:eN[G7]? = some e:=h1
     obtain⟨hh,g1,g2⟩:=r7 x j G7 h2 q
     rw[Array.getElem?_map,h1] at g1
     cases g1
     rw[r1]
     exact g2
  ·have G8:t2.tooFull=false:=by cases q:t2.tooFull<;>simp_all
   rw[Xm (by rw[G8];decide)]
   exact vK (k true _ (Yy ..) ⟨_,_,_,_,nE,hex,rfl,⟨q1,by rw[q2];exact T.P.rQ,by rw[q3,mi],ur,G8,uq⟩,q5,uo,Ag,all2,um⟩)
 by_cases hp:(t.put j0).1.plain=true
 ·rw[Xp hp]
  refine lJ (K9 kx fun b => ?_)
  exact fin b
 ·rw[Xm hp]
  refine lJ (vK ?_)
  exact fin true
end
noncomputable def gw (hk:Nat->Int):Nat->List Nat
 | 0=>[]
 | i + 1=>if hk i∈(gw hk i).map hk then gw hk i else gw hk i ++ [i]
theorem G9 (hk:Nat->Int):∀ i,(gw hk i).length <= i
 | 0=>sG _
 | i + 1=>by
  have:=G9 hk i
  unfold gw
  split
  ·omega
  ·rw[Ew,Yk];omega
theorem wQ (hk:Nat->Int):∀ i,∀ j∈gw hk i,j < i
 | 0,j,h=>nomatch h
 | i + 1,j,h=>by
  unfold gw at h
  split at h
  ·have:=wQ hk i j h;omega
  ·rcases YM.mp h with h | h
   ·have:=wQ hk i j h;omega
   ·rw[YZ.mp h];omega
theorem QS {hk:Nat->Int} {ad:Nat->Addr} {h:Heap} {S:Addr} {led:Bool} (e:h.get? S=some (fZ led)):gf hk ad h S [] :=
 ⟨_,#[],0,_,e,⟨rfl,rfl,rfl⟩,rfl,⟨rfl,.inl rfl,rfl,rfl,by cases led<;>decide,fun _ h=>nomatch h⟩,List.Pairwise.nil,q1I,(fun _ h=>nomatch h),(fun _ h=>nomatch h),fun i e j h=>by simp at h⟩
section
variable {prog:Program} {w:World} {A:Around} {R:Result->Shared->Prop} {I S:Addr} {fp wr:List Addr} {G:Array GenState->Array GenState->Prop} {n:Nat} {P:Nat->Value->Prop} {St:Nat->Shared->Prop}
theorem QT (W:WalksS prog w A.in1 I fp wr G n P St) (out:S∉fp) (ad:Nat->Addr) (ks:Nat->List Int) (pR:∀ i v,P i v->v = .ref (ad i)) (apart:∀ i,i < n->ad i∉S :: wr) (room:A.in1.units < cLine)
  (inj:∀ i j,i < n->j < i->hT prog w (ks j)=hT prog w (ks i)->ks j=ks i) (jX:n <= 30) :
  ∀ (left i:Nat) (s:Shared),i + left=n->St i s->(∀ j,j < n->IsTupleKey (intKind prog w) s.heap (ks j) (ad j))->gf (aG prog w ks) ad s.heap S (gw (aG prog w ks) i) →
   (∀ s',Moved (S :: wr) G s s'->gf (aG prog w ks) ad s'.heap S (gw (aG prog w ks) n)->R (.ok (.ret .none)) s') →
   codeAny (model prog w) A (.builtin "set.update.loop" ⟨[.ref S,.ref I],[]⟩) R s:=by
 have uv:S∉wr:=fun z=>out (W.sub _ z)
 have more:∀ b,b∈wr->b∈S :: wr:=fun b hb=>Nk _ hb
 intro left
 induction left with
 | zero =>
  intro i s hi st tk se fin
  obtain rfl:i=n:=by omega
  refine Zz F.entry_set_update_loop ?_
  rw[Zo q0k _]
  show wpAny _ A.in1 (pyNext (.ref I) >>= _) _ _ s
  refine lJ (W.done s _ _ st fun s' mv => ?_)
  show wpAny _ A.in1 (ret Value.none) _ _ s'
  exact vK (fin s' (mv.mono more) (G3 se fun o e=>mv.heap S o uv e))
 | succ left ih =>
  intro i s hi st tk se fin
  have cA:i < n:=by omega
  refine Zz F.entry_set_update_loop ?_
  rw[Zo q0k _]
  show wpAny _ A.in1 (pyNext (.ref I) >>= _) _ _ s
  refine lJ (W.item i s _ _ cA st fun v s1 hP kW mv => ?_)
  obtain rfl:=pR i v hP
  have jC:∀ j,j < n->IsTupleKey (intKind prog w) s1.heap (ks j) (ad j):=fun j hj=>xO (tk j hj) fun o e=>mv.heap _ o (fun z=>apart j hj (more _ z)) e
  show wpAny _ A.in1 (holding [Value.ref (ad i)] (setAdd S (.ref (ad i))) >>= _) _ _ s1
  refine lJ (Yl ?_)
  unfold setAdd
  refine Yl (lJ (wpAny_pyHash_tuple room (jC i cA) ?_))
  have fl:=wQ (aG prog w ks) i
  refine QP (s:={ s1 with toks:=s1.toks + ((ks i).length + 1) }) (i:=i) (js:=gw (aG prog w ks) i) (G3 se fun o e=>mv.heap S o uv e) (by have:=G9 (aG prog w ks) i;omega) room (fun j hj => ?_) (fun j hj e=>inj i j cA (fl j hj) e) fun bb h2 sb QU => ?_
  ·rcases X7.mp hj with rfl | hj
   ·exact jC _ cA
   ·exact jC j (by have:=fl j hj;omega)
  ·have nS:∀ b,b∈fp->b≠S:=fun b hb z=>out (by rw[<-z];exact hb)
   refine vK ⟨q0a q0k _,ih (i + 1) _ (by omega) (W.frame _ s1 _ _ kW (Nat.le_add_right _ _) fun b hb o e=>by rw[sb.2 b (nS b hb)];exact e) (fun j hj=>xO (jC j hj) fun o e => ?_) QU fun s3 QV QW => ?_⟩
   ·rw[sb.2 _ (fun z=>apart j hj (by rw[z];exact Nh))];exact e
   ·refine fin s3 (Moved.trans W.gtrans ((mv.mono more).then_heap (Nat.le_add_right _ _) fun b o hb e => ?_) QV) QW
    rw[sb.2 b (fun z=>hb (by rw[z];exact Nh))];exact e
end
section
variable {prog:Program} {w:World} {A:Around} {E:Value->Shared->Prop} {s:Shared}
set_option maxHeartbeats 3200000 in
theorem QX {l:Addr} {items:Array Value} {Q:Value->Shared->Prop} (ad:Nat->Addr) (ks:Nat->List Int) (hh:A.handled=none) (room:A.units + 8 < cLine) (QY:s.heap.IsList l items) (pR:∀ (i:Nat) (v:Value),items[i]? = some v->v = .ref (ad i))
  (tk:∀ i,i < items.size->IsTupleKey (intKind prog w) s.heap (ks i) (ad i)) (inj:∀ i j,i < items.size->j < i->hT prog w (ks j)=hT prog w (ks i)->ks j=ks i) (jX:items.size <= 30)
  (fin:∀ (h':Heap) (tk:Nat),gf (aG prog w ks) ad h' s.heap.objs.size (gw (aG prog w ks) items.size)->(∀ b o,b < s.heap.objs.size->s.heap.get? b=some o->h'.get? b=some o)->Q (.ref s.heap.objs.size) { s with heap:=h',toks:=tk }) :
  wpAny (model prog w) A (call (.type "set") [.ref l]) Q E s:=by
 obtain⟨c,tl,QZ⟩:=ZP.mro
 have m1:=ZP.made
 have m2:=ZP.sub
 have m3:=ZP.notType
 have m4:=ZP.canCreate
 have m5:=F.typeCall_set_1 (.ref l)
 refine q0y (codeAny_of_tree ?_)
 show wpAny _ _ (callAny (.type "set") _) _ _ _
 refine vK ⟨q01 _ (by decide +kernel),Zz F.entry_type_call ?_⟩
 rw[Around.under_plain (weight_type_call_type "set" [.ref l] []) rfl]
 repeat (any_goals (first | assumption | wp_step))
 refine q0o (code_set_new_1 (.ref l) (E:=E) (Q₁ := fun r s1=>∃ led:Bool,r = .ref s.heap.objs.size/\s1={ s with heap:=s.heap.push (fZ led) }) fun led=>⟨led,rfl,rfl⟩) fun r s1 hr => ?_
 cases r with
 | error e=>exact hr
 | ok fl =>
  cases fl with
  | ret obj =>
   obtain⟨led,rfl,rfl⟩:=hr
   have gS:(s.heap.push (fZ led)).get? s.heap.objs.size=some (fZ led):=X1 _ rfl
   have tS:Shared.TypeIs { s with heap:=s.heap.push (fZ led) } (.ref s.heap.objs.size) "set" := ⟨_,gS,rfl⟩
   have m6:=ZP.init.lookup
   have m7:=ZP.init.bind (.ref s.heap.objs.size)
   repeat (any_goals (first | assumption | wp_step))
   refine q0o (q0G (R:=wants (fun r s2=>r = .none/\∃ h' tk,s2={ s with heap:=h',toks:=tk }/\gf (aG prog w ks) ad h' s.heap.objs.size (gw (aG prog w ks) items.size) ∧
     ∀ b o,b < s.heap.objs.size->s.heap.get? b=some o->h'.get? b=some o) E) ZP.init.plain F.entry_set_init (check_set_init_1 tS ?_)) fun r2 s2 uw => ?_
   ·obtain⟨ol,gl,cl,nl,dl⟩:=QY
    obtain⟨c0,d0,XC,Q0⟩:=ol
    simp only at cl dl
    subst cl
    subst dl
    have Q1:(s.heap.push (fZ led)).get? l=some { cls := .type "list",dict:=d0,data := .seq items nl,slots:=Q0 }:=oQ _ gl
    have x1:=F.sub_list_set
    have x2:=F.sub_list_frozenset
    have x3:(Value.type "list" == Value.type "dict")=false:=by decide
    have ux:(s.heap.push (fZ led)).IsList l items:=⟨_,Q1,rfl,nl,rfl⟩
    have ll:l < s.heap.objs.size:=Ng gl
    unfold Builtin.«set.__init__» noKeywords Builtin.Frozenset.updateFrom
    generalize Q2:pyIter=PI
    wp_walk
    subst Q2
    refine ZZ ux (lJ (wpAny_runValue ?_))
    have h3:A.in1.in1.in1.handled=none:=by simp[hh]
    have ez:(s.heap.push (fZ led)).objs.size=s.heap.objs.size + 1:=Z3 ..
    have nI:l≠(s.heap.push (fZ led)).objs.size:=by rw[ez];exact X_ (Za ll)
    have lt:∀ i,i < items.size->ad i < s.heap.objs.size:=fun i hi=>by
     obtain⟨o,_,_,e,_⟩:=tk i hi
     exact Ng e
    refine QT ((q1u h3 _ l nI items).toS) (S:=s.heap.objs.size) ?out ad ks (fun i v hv=>pR i v hv) ?apart ?room inj jX items.size 0 _ (Yx _)
     ⟨⟨_,X1 _ rfl,rfl,rfl⟩,ux.push _⟩ ?tk ?fresh ?fin
    case out =>
     simp only[X7,Yu,q03,not_or,ez]
     exact⟨X_ (Zj _),ZM ll⟩
    case apart =>
     intro i hi
     have:=lt i hi
     simp only[X7,Yu,q03,not_or,ez]
     exact⟨X_ this,X_ (Za this)⟩
    case room =>
     show A.units + 1 + 1 + 1 < cLine
     exact q0d (Nat.add_le_add_left (by decide:3 <= 8) _) room
    case tk =>
     intro j hj
     exact xO (tk j hj) fun o e=>oQ _ (oQ _ e)
    case fresh =>
     exact QS (led:=led) (oQ _ gS)
    case fin =>
     intro s' mv se
     obtain⟨h',g',d',kU,ye⟩:=s'
     obtain rfl:g'=s.gens:=mv.gens
     obtain rfl:d'=s.drawn:=mv.drawn
     obtain rfl:ye=s.os:=mv.os
     show wpAny _ _ _ _ _ _
     refine vK ?_
     show wpAny _ _ (ret Value.none) _ _ _
     refine vK ⟨rfl,h',kU,rfl,se,fun b o hb e => ?_⟩
     refine mv.heap b o ?_ (oQ _ (oQ _ e))
     simp only[X7,Yu,q03,not_or,ez]
     exact⟨X_ hb,X_ (Za hb)⟩
   ·cases r2 with
    | error e=>exact uw
    | ok Q3 =>
     cases Q3 with
     | ret r =>
      obtain⟨rfl,h',kU,rfl,se,kp⟩:=uw
      repeat (any_goals (first | assumption | wp_step))
      exact fin _ _ se kp
     | next=>exact uw
     | brk=>exact uw
     | cont=>exact uw
  | next=>exact hr
  | brk=>exact hr
  | cont=>exact hr
end
end LJS
namespace L2
open PySem PySem.Spec PyProof.Rows
variable [aE]
noncomputable def nG:List D->Option (List (Int × Int))
 | []=>some []
 | .tup [.int i,.int j] :: r=>match nG r with
  | some ps=>some ((i,j) :: ps)
  | none=>none
 | _=>none
theorem G_:∀ {ds:List D} {ps:List (Int × Int)},nG ds=some ps->ds=ps.map fun p => .tup [.int p.1,.int p.2]
 | [],ps,h=>by cases h;rfl
 | .tup [.int i,.int j] :: r,ps,h=>by
  unfold nG at h
  split at h
  ·rename_i qs e
   cases h
   rw[G_ e];rfl
  ·cases h
theorem Ha:∀ ps:List (Int × Int),nG (ps.map fun p=>D.tup [.int p.1,.int p.2])=some ps
 | []=>rfl
 | p :: r=>by
  show nG (.tup [.int p.1,.int p.2] :: r.map _)=_
  unfold nG
  rw[Ha r]
noncomputable def fO (ps:List (Int × Int)):Nat->List (Int × Int)
 | 0=>[]
 | i + 1=>if ps.getD i (0,0)∈fO ps i then fO ps i else fO ps i ++ [ps.getD i (0,0)]
theorem Ai (ps:List (Int × Int)):∀ i,(fO ps i).length <= i
 | 0=>sG _
 | i + 1=>by
  have:=Ai ps i
  unfold fO
  split
  ·omega
  ·rw[Ew,Yk];omega
theorem Hb {ps:List (Int × Int)} (hn:ps.Nodup):∀ i,i <= ps.length->fO ps i=ps.take i
 | 0,_=>rfl
 | i + 1,h=>by
  have hi:i < ps.length:=by omega
  have e:ps.getD i (0,0)=ps[i]:=by rw[Et,oO hi];rfl
  unfold fO
  rw[Hb hn i (by omega),e,Xm ?_,Z4,oO hi]
  ·rfl
  ·intro hm
   obtain⟨j,hj,ej⟩:=YX.mp hm
   rw[Yp] at hj
   rw[List.getElem_take] at ej
   have:=(q0x (h₀ := by omega) (h₁ := hi) hn).mp ej
   omega
theorem Q4 {ps:List (Int × Int)} (hl:(fO ps ps.length).length=ps.length):ps.Nodup:=by
 have key:∀ i,i <= ps.length->(fO ps i).length=i->(ps.take i).Nodup/\fO ps i=ps.take i:=by
  intro i
  induction i with
  | zero=>intro _ _;exact⟨q1I,rfl⟩
  | succ i ih =>
   intro hi hlen
   have b8:i < ps.length:=by omega
   have le:=Ai ps i
   have e:ps.getD i (0,0)=ps[i]:=by rw[Et,oO b8];rfl
   unfold fO at hlen ⊢
   split at hlen
   ·omega
   ·rename_i hn
    rw[Ew,Yk] at hlen
    obtain⟨h1,h2⟩:=ih (by omega) (by omega)
    rw[Xm hn,h2,Z4,oO b8,e]
    refine⟨?_,rfl⟩
    rw[h2,e] at hn
    exact Zq.mpr ⟨h1,by simp,fun a ha b hb z=>hn (by
     have hb:b=ps[i]:=by simpa using hb
     rw[<-hb,<-z];exact ha)⟩
 have:=(key ps.length (sG _) hl).1
 rwa [Yz (sG _)] at this
section
variable {X:Cx} {fa:WA}
theorem Hc {F:Hp}:∀ {ps:List (Int × Int)} {vs:List V},ae F (ps.map fun p=>D.tup [.int p.1,.int p.2]) vs->∃ as:List Addr,vs=as.map V.ref/\as.length=ps.length/\∀ (i:Nat) (a:Addr) (k:Int × Int),as[i]? = some a->ps[i]? = some k->F a=some (.tup [.int k.1,.int k.2])
 | [],vs,h=>by
  have h:vs=[]:=by simpa only [Z6,ae] using h
  subst h
  exact⟨[],rfl,rfl,fun i a k e=>by simp at e⟩
 | p :: r,vs,h=>by
  rw[YC] at h
  simp only[ae] at h
  obtain⟨v,r',rfl,h1,h2⟩:=h
  obtain⟨as,rfl,hl,g⟩:=Hc h2
  simp only[Is] at h1
  obtain⟨a,us,rfl,e1,e2⟩:=h1
  simp only[ae,Is] at e2
  obtain⟨_,_,rfl,rfl,_,_,rfl,rfl,rfl⟩:=e2
  refine⟨a :: as,rfl,by rw[Ex,Ex,hl],fun i b k eb ek => ?_⟩
  cases i with
  | zero =>
   cases (show some a=some b by simpa using eb)
   cases (show some p=some k by simpa using ek)
   exact e1
  | succ i=>exact g i b k (by simpa using eb) (by simpa using ek)
theorem Q5 (hc:X.calm=true) (hu:X.A.units + 64 < cLine):fJ X (.type "set") (fun xs H Q=>∃ (l:Addr) (ps:List Addr) (ks:List (Int × Int)),xs=[.ref l]/\bc X.K H l (ps.map V.ref)/\ps.length=ks.length ∧
  (∀ (i:Nat) (a:Addr) (k:Int × Int),ps[i]? = some a->ks[i]? = some k->H a=some (.tup [.int k.1,.int k.2]))/\(∀ k∈ks,0 <= k.1/\k.1 < k.2/\k.2 < 12)/\ks.length <= 30/\∀ p,H p=none->Q (.ref p) (upd H p (jW p (fO ks ks.length).length))):=by
 intro pins s σ H xs us Q I r h
 obtain⟨l,ps,ks,rfl,hq,hl,cF,bd,jX,q⟩:=h
 obtain⟨u,rfl,rx⟩:=vals1 r
 cases rx
 obtain⟨ai,r',pl,_⟩:=I.list hq
 obtain rfl:=Fg r'
 have sz:(ps.map Value.ref).toArray.size=ks.length:=by rw[yG,qy,hl]
 have pT:∀ i,i < ks.length->∃ k,ks[i]? = some k/\ks.getD i (0,0)=k:=fun i hi=>⟨ks[i],oO hi,by rw[Et,oO hi];rfl⟩
 have Aj:∀ i,i < ks.length->∃ a,ps[i]? = some a/\ps.getD i 0=a:=fun i hi=>⟨ps[i]'(by rw[hl];exact hi),oO (by rw[hl];exact hi),by rw[Et,oO (by rw[hl];exact hi)];rfl⟩
 have same:∀ i j,i < ks.length->j < ks.length->LJS.hT X.prog X.w [(ks.getD j (0,0)).1,(ks.getD j (0,0)).2]=LJS.hT X.prog X.w [(ks.getD i (0,0)).1,(ks.getD i (0,0)).2]->ks.getD j (0,0)=ks.getD i (0,0):=fun i j hi hj z=>by
  obtain⟨k,ek,dk⟩:=pT i hi
  obtain⟨k',wN,Hd⟩:=pT j hj
  rw[dk,Hd,LJS.Fe,LJS.Fe] at z
  rw[dk,Hd]
  have b1:=bd k (Xq.mpr ⟨i,ek⟩)
  have b2:=bd k' (Xq.mpr ⟨j,wN⟩)
  exact LJS.O6 (k'.1,k'.2) (LJS.Ff b2.1 b2.2.1 b2.2.2) (k.1,k.2) (LJS.Ff b1.1 b1.2.1 b1.2.2) z
 refine LJS.QX (fun i=>ps.getD i 0) (fun i=>[(ks.getD i (0,0)).1,(ks.getD i (0,0)).2]) (I.ok.hd hc) (by omega) pl.isList (fun i v hv => ?_) (fun i hi => ?_) (fun i j hi hj z => ?_) (by rw[sz];exact jX) fun h' tk se kp => ?_
 ·rw[q0u,Ni] at hv
  obtain⟨a,ea,rfl⟩:=Xo.mp hv
  rw[Et,ea];rfl
 ·rw[sz] at hi
  obtain⟨k,ek,dk⟩:=pT i hi
  obtain⟨a,ea,da⟩:=Aj i hi
  show IsTupleKey _ _ [(ks.getD i (0,0)).1,(ks.getD i (0,0)).2] (ps.getD i 0)
  rw[dk,da]
  obtain⟨_,bg,r2,o,ho,k8,n,hd⟩:=I.aM a _ (cF i a k ea ek)
  cases r2 with
  | cons ra rr =>
   cases rr with
   | cons rb rn =>
    cases rn
    obtain⟨t1,rfl⟩:=ra
    obtain⟨t2,rfl⟩:=rb
    exact⟨o,_,n,ho,k8,hd,.cons (intKind_is ..) (.cons (intKind_is ..) .nil)⟩
 ·rw[sz] at hi
  have:=same i j hi (by omega) z
  show [(ks.getD j (0,0)).1,(ks.getD j (0,0)).2]=[(ks.getD i (0,0)).1,(ks.getD i (0,0)).2]
  rw[this]
 ·have key:∀ n,n <= ks.length->(LJS.gw (LJS.aG X.prog X.w fun i=>[(ks.getD i (0,0)).1,(ks.getD i (0,0)).2]) n).map (fun i=>ks.getD i (0,0))=fO ks n:=by
   intro n
   induction n with
   | zero=>intro _;rfl
   | succ n ih =>
    intro hn
    have ih:=ih (by omega)
    unfold LJS.gw fO
    rw[<-ih]
    by_cases c:ks.getD n (0,0)∈(LJS.gw (LJS.aG X.prog X.w fun i=>[(ks.getD i (0,0)).1,(ks.getD i (0,0)).2]) n).map (fun i=>ks.getD i (0,0))
    ·obtain⟨j,hj,ej⟩:=Yd.mp c
     have:LJS.aG X.prog X.w (fun i=>[(ks.getD i (0,0)).1,(ks.getD i (0,0)).2]) n∈(LJS.gw (LJS.aG X.prog X.w fun i=>[(ks.getD i (0,0)).1,(ks.getD i (0,0)).2]) n).map (LJS.aG X.prog X.w fun i=>[(ks.getD i (0,0)).1,(ks.getD i (0,0)).2]):=by
      refine Yd.mpr ⟨j,hj,?_⟩
      have ej:ks.getD j (0,0)=ks.getD n (0,0):=ej
      show LJS.hT _ _ [(ks.getD j (0,0)).1,(ks.getD j (0,0)).2]=LJS.hT _ _ [(ks.getD n (0,0)).1,(ks.getD n (0,0)).2]
      rw[ej]
     rw[Xp c,Xp this]
    ·have:LJS.aG X.prog X.w (fun i=>[(ks.getD i (0,0)).1,(ks.getD i (0,0)).2]) n∉(LJS.gw (LJS.aG X.prog X.w fun i=>[(ks.getD i (0,0)).1,(ks.getD i (0,0)).2]) n).map (LJS.aG X.prog X.w fun i=>[(ks.getD i (0,0)).1,(ks.getD i (0,0)).2]):=fun z=>by
      obtain⟨j,hj,ej⟩:=Yd.mp z
      have Q6:=LJS.wQ _ n j hj
      exact c (Yd.mpr ⟨j,hj,same n j (by omega) (by omega) ej⟩)
     rw[Xm c,Xm this,YH];rfl
  obtain⟨o,es,ep,t,ho,hex,hd,T⟩:=se
  have hlen:((LJS.gw (LJS.aG X.prog X.w fun i=>[(ks.getD i (0,0)).1,(ks.getD i (0,0)).2]) ks.length).map (LJS.aG X.prog X.w fun i=>[(ks.getD i (0,0)).1,(ks.getD i (0,0)).2])).length=(fO ks ks.length).length:=by
   rw[<-key ks.length (sG _),qy,qy]
  have T':=T.P
  rw[sz] at T'
  have Q7:LJS.jG h' s.heap.objs.size _:=⟨o,es,ep,t,ho,hex,hd,T'⟩
  exact⟨.ref s.heap.objs.size,upd H s.heap.objs.size (jW s.heap.objs.size (fO ks ks.length).length),I.laid (t':=tk) (fun b o e=>kp b o (Ng e) e) (sG _) (O7 Q7 hlen),rfl,q _ (I.aM.fresh (sG _))⟩
end
end L2
namespace HT
open PySem PySem.Spec PyProof.Rows
section
variable {prog:Program} {w:World} {A:Around} {E:Value->Shared->Prop} {s:Shared}
theorem Q8 {t b:Addr} {ws:List Value} {Q:Value->Shared->Prop} (ht:IsTup s.heap t #[]) (hb:IsTup s.heap b ws.toArray) (h:Q (.ref b) s):wpAny (model prog w) A (binaryOp .Add (.ref t) (.ref b)) Q E s:=by
 obtain⟨⟨cls,dd,data,sl⟩,ho,hc,n,hd⟩:=id ht
 obtain⟨⟨oG,jw,data2,jx⟩,f9,gD,n2,hd2⟩:=id hb
 simp only at hc hd gD hd2
 subst hc hd gD hd2
 exact concat_meets ⟨_,ho,rfl⟩ ⟨_,f9,rfl⟩ noFill_tuple_add seq_tuple_add q0r q0i (Z_ _ _)
  (tuple_addW0 t b #[] ws.toArray n n2 dd jw sl jx rfl) ⟨ho,f9,h⟩
theorem Q9 {t sl:Addr} {items:Array Value} {vl vu:Value} {lo hi:Option Int} {Q:Value->Shared->Prop} (ht:IsTup s.heap t items) (hs:s.heap.IsSliceOf sl vl vu .none) (pl:IsPart vl lo) (pu:IsPart vu hi)
  (hw:aX items.size 0 lo=0/\aX items.size items.size hi=items.size) (h:Q (.ref t) s):wpAny (model prog w) A (getItem (.ref t) (.ref sl)) Q E s:=by
 obtain⟨os,oH,qw,sD⟩:=id hs
 have yj:s.TypeIs (.ref sl) "slice" := ⟨os,oH,qw⟩
 unfold getItem
 try with_reducible refine Yl ?_
 first | refine lJ (vK ?_) | skip
 refine lJ (wpAny_sequenceKey ht.typeIs (by decide) ?_)
 refine lJ (ZH (name:=Str.ofString "__getitem__") ht.typeIs YE
  (q0z YE ht.typeIs entry_tuple_getitem ?_ (args_tuple_getitem _ _)))
 show wpAny _ _ (Builtin.Tuple.tupleItemsOf (.ref t) >>= _) _ _ s
 refine lJ (tupleItemsOf_ ht ?_)
 refine lJ (q0R yj ?_)
 rw[Xp (by decide)]
 refine lJ (Ed hs pl pu ?_)
 show wpAny _ _ (if (((aX items.size 0 lo:Nat):Int) == 0 && (1:Int) == 1 && (aX items.size items.size hi - aX items.size 0 lo) == items.size)=true then _ else _) _ _ s
 rw[Xp (by rw[hw.1,hw.2];simp)]
 unfold Builtin.Tuple.tupleIsExact
 refine lJ (lJ (q0R ht.typeIs (vK ?_)))
 rw[Xp (by decide)]
 refine lJ (wpAny_rule ?_)
 exact vK ⟨_,rfl,vK h⟩
end
end HT
namespace L2
open PySem PySem.Spec PyProof.Rows
variable [aE]
section
variable {X:Cx} {e:Expr} {te:TE} {pos p2 p3 p4:Pos}
noncomputable def Q_ (K:PySem.W.Frag):V->Option Int->Option Int->Hp->VK->Prop:=fun x lo hi H Q=>∃ a xs,x = .ref a/\bC K H a xs ∧
 (HT.aX xs.length 0 lo=0/\HT.aX xs.length xs.length hi=xs.length->Q (.ref a) H)/\(¬ (HT.aX xs.length 0 lo=0/\HT.aX xs.length xs.length hi=xs.length)->∀ p,H p=none->Q (.ref p) (upd H p (.tup (cI xs lo hi))))
theorem Ra:lF X (Q_ X.K):=by
 intro pins s σ H x v vl vu lo hi sl Q I rx hs pl pu h
 obtain⟨a,xs,rfl,hx,q1,q2⟩:=h
 by_cases hw:HT.aX xs.length 0 lo=0/\HT.aX xs.length xs.length hi=xs.length
 ·cases rx
  obtain⟨ai,r,ht,hz⟩:=I.tuple hx
  have hlen:ai.toArray.size=xs.length:=by rw[yG];exact r.length.symm
  refine⟨"tuple",_,YE.lookup,ht.typeIs,?_⟩
  exact HT.Q9 ht hs pl pu (by rw[hlen];exact hw) ⟨.ref a,H,I,rfl,q1 hw⟩
 ·exact MS pins s σ H _ v vl vu lo hi sl Q I rx hs pl pu ⟨a,xs,rfl,hx,hw,q2 hw⟩
theorem Rb:cB X (binaryOp .Add) (fun x y H Q=>∃ a b ys,x = .ref a/\y = .ref b/\bC X.K H a []/\bC X.K H b ys/\Q (.ref b) H):=by
 intro pins s σ H x y v u Q I rx ry h
 obtain⟨a,b,ys,rfl,rfl,ha,hb,q⟩:=h
 cases rx
 cases ry
 obtain⟨ai,r1,p1,_⟩:=I.tuple ha
 obtain⟨bg,r2,p2,_⟩:=I.tuple hb
 have:ai=[]:=r1.eG.mpr rfl
 subst this
 exact HT.Q8 p1 p2 ⟨.ref b,H,I,rfl,q⟩
theorem Rc:cB X (compareOp .Is) (fun x y H Q=>∃ a b,x = .bl a/\y = .bl b/\Q (.bl (a == b)) H):=by
 intro pins s σ H x y v u Q I rx ry h
 obtain⟨a,b,rfl,rfl,q⟩:=h
 cases rx
 cases ry
 exact vK ⟨.bl (a == b),H,I,by cases a<;>cases b<;>rfl,q⟩
theorem Rf:cB X (compareOp .IsNot) (fun x y H Q=>∃ a b,x = .bl a/\y = .bl b/\Q (.bl (!(a == b))) H):=by
 intro pins s σ H x y v u Q I rx ry h
 obtain⟨a,b,rfl,rfl,q⟩:=h
 cases rx
 cases ry
 exact vK ⟨.bl (!(a == b)),H,I,by cases a<;>cases b<;>rfl,q⟩
noncomputable def d6:D->D->(D->Prop)->Prop
 | .int i,.int j,K=>K (.int (i + j))
 | .lst a,.lst b,K=>a.length + b.length <= 1000/\K (.lst (a ++ b))
 | .tup a,.tup b,K=>a.length + b.length <= 1000/\K (.tup (a ++ b))
 | .str a,.str b,K=>a.length + b.length <= 1000/\K (.str (a ++ b))
 | _,_,_=>False
theorem eO:d5 X (binaryOp .Add) d6:=by
 rintro pins s σ H x y v u Q I rx ry ⟨F,d,e,K,sub,rd,re,q,md⟩
 unfold d6 at q
 split at q
 ·exact wx pins s σ H x y v u Q I rx ry ⟨F,_,_,K,sub,rd,re,q,md⟩
 ·exact wx pins s σ H x y v u Q I rx ry ⟨F,_,_,K,sub,rd,re,q,md⟩
 ·rename_i as bs
  by_cases c:as=[]
  ·subst c
   have dF:Is F (.tup []) x:=rd
   have gN:Is F (.tup bs) y:=re
   have Rg:=gN
   simp only[Is] at dF gN
   obtain⟨a,us,rfl,h1,h2⟩:=dF
   obtain⟨b,ws,rfl,h3,h4⟩:=gN
   have:us=[]:=by simpa only [ae] using h2
   subst this
   exact Rb pins s σ H _ _ v u Q I rx ry ⟨a,b,ws,rfl,rfl,bC.of (sub _ _ h1),bC.of (sub _ _ h3),md _ _ _ q.2 (fun _ _ e=>e) (t9 sub Rg)⟩
  ·exact wx pins s σ H x y v u Q I rx ry ⟨F,_,_,K,sub,rd,re,⟨⟨c,q.1⟩,q.2⟩,md⟩
 ·exact wx pins s σ H x y v u Q I rx ry ⟨F,_,_,K,sub,rd,re,q,md⟩
 ·exact q.elim
noncomputable def pU:D->Option Int->Option Int->(D->Prop)->Prop
 | .lst ds,lo,hi,K=>K (.lst (cutD ds lo hi))
 | .tup ds,lo,hi,K=>K (.tup (cutD ds lo hi))
 | _,_,_,_=>False
noncomputable def pV (f:WE) (l h:WO):WE:=fun δ K=>f δ fun x δ1=>l δ1 fun lo δ2=>h δ2 fun hi δ3=>iy x δ3 fun d=>pU d lo hi fun z=>K (.p z) δ3
theorem Rh {ds:List D} {lo hi:Option Int} (h:HT.aX ds.length 0 lo=0/\HT.aX ds.length ds.length hi=ds.length):cutD ds lo hi=ds:=by
 unfold cutD
 rw[h.1,h.2,q0T,Nat.sub_zero,Yz (sG _)]
theorem Ri {e:Expr} {f:WE} {lo hi:Option Expr} {l h:WO} {pos p2:Pos} (he:JE X e (tD f)) (hl:PO X lo (wB l)) (hh:PO X hi (wB h)):JE X (.Subscript e (.Slice lo hi none p2) pos) (tD (pV f l h)) :=
 (zg (f_.or Ra) he hl hh).weak fun σ H Q h0_ => el7 h0_ fun F ad δ K S q k =>⟨F,ad,δ,_,S,q,fun x δ1 h1 v F1 aQ H1 E1 S1 V1=>⟨F1,aQ,δ1,_,S1,h1,fun lo δ2 h2 F2 cy H2 E2 S2=>⟨F2,cy,δ2,_,S2,h2,fun hi δ3 h3 F3 tU H3 E3 S3=>by
  obtain⟨d,h4,rd⟩:=jg S3 ((V1.ext E2).ext E3) h3
  have Ak:=(E1.trans E2).trans E3
  unfold pU at h4
  split at h4
  ·rename_i ds
   obtain⟨a,vs,rfl,g1,g2⟩:=rd
   refine .inl ⟨a,vs,rfl,bc.of g1,fun p hp => ?_⟩
   exact k _ _ h4 _ _ _ _ (Ak.trans (Ext.al S3 (cZ hp))) (S3.al (cZ hp)) (wt S3.sub hp (Gi g2 _ _))
  ·rename_i ds
   have dF:Is F3 (.tup ds) v:=rd
   have Rj:=dF
   simp only[Is] at dF
   obtain⟨a,vs,rfl,g1,g2⟩:=dF
   refine .inr ⟨a,vs,rfl,bC.of (S3.sub _ _ g1),fun hw => ?_,fun _ p hp => ?_⟩
   ·rw[g2.length] at hw
    rw[Rh hw] at h4
    exact k _ _ h4 _ _ _ _ Ak S3 Rj
   ·exact k _ _ h4 _ _ _ _ (Ak.trans (Ext.al S3 (cZ hp))) (S3.al (cZ hp)) (zS S3.sub hp (Gi g2 _ _))
  ·exact h4.elim⟩⟩⟩
noncomputable def mj:D->D->(D->Prop)->Prop
 | .bl a,.bl b,K=>K (.bl (a == b))
 | d,e,K=>jk d e K
noncomputable def wR:D->D->(D->Prop)->Prop
 | .bl a,.bl b,K=>K (.bl (!(a == b)))
 | d,e,K=>zU d e K
theorem Rk:d5 X (compareOp .Is) mj:=by
 rintro pins s σ H x y v u Q I rx ry ⟨F,d,e,K,sub,rd,re,q,md⟩
 unfold mj at q
 split at q
 ·rename_i a b
  exact Rc pins s σ H x y v u Q I rx ry ⟨a,b,rd,re,md _ _ _ q (fun _ _ e=>e) rfl⟩
 ·exact P_ pins s σ H x y v u Q I rx ry ⟨F,_,_,K,sub,rd,re,q,md⟩
theorem Rl:d5 X (compareOp .IsNot) wR:=by
 rintro pins s σ H x y v u Q I rx ry ⟨F,d,e,K,sub,rd,re,q,md⟩
 unfold wR at q
 split at q
 ·rename_i a b
  exact Rf pins s σ H x y v u Q I rx ry ⟨a,b,rd,re,md _ _ _ q (fun _ _ e=>e) rfl⟩
 ·exact Qa pins s σ H x y v u Q I rx ry ⟨F,_,_,K,sub,rd,re,q,md⟩
end
end L2
open L2
open Lean in
local macro_rules
 | `(tactic| simp? only [$ls,*] $[$loc:location]?) => do
  let a ← ("List.take_length dep bO YW Nat.max_self Nat.max_zero Nat.zero_max Nat.reduceLeDiff au aO dN wJ af ag d1 d2 dC aa jY iy nh ji ay.fix FD eM cm tQ dT qJ j2 ni df zw j3 v7 dW jE aN bx cf qL lS tT pb eC iA ph gM cJ tY nr zL lY zM cR aj tW passes j7 eT lX px a6 pD d6 pU pV mj wR zx l8 fh oI dj oEq nv oLt jk zU k7 eD wC uc wD jl gc zZ Ac pF zW pN fm l_ pM z7 ub bP ug ay.trim fg wb Option.join_some Option.join_none YC Z6 List.cons_append q0M YS List.replicate_zero List.getElem?_cons_zero q0j List.getElem?_nil YA YB Ex Zs List.take_succ_cons q04 List.take_nil List.any_nil List.any_cons q1K Zu Bool.and_true Bool.and_self Bool.or_false Ye Bool.true_eq_false ZL YY true_and and_true and_self reduceCtorEq q1m Yx Nat.reduceAdd Nat.reduceLT Nat.reduceEqDiff Nat.reduceSub qy Ew".splitOn " ").toArray.mapM fun s => `(Parser.Tactic.simpLemma| $(mkIdent s.toName):ident)
  let r ← `(Parser.Tactic.simpLemma| ↓reduceIte)
  let a : Syntax.TSepArray [`Lean.Parser.Tactic.simpStar, `Lean.Parser.Tactic.simpErase, `Lean.Parser.Tactic.simpLemma] "," := ⟨(Syntax.SepArray.ofElems (sep := ",") ((a.push r).map (·.raw) ++ ls.getElems.map (·.raw))).elemsAndSeps⟩
  `(tactic| simp only [$a,*] $[$loc]?)
set_option maxHeartbeats 8000000
namespace LJ
open PySem L2
variable [aE]
theorem He {ns:List Int} {k:Int} (h0:0 <= k) (h1:k < (ns.length:Int)):∃ n,d_ (ns.map D.int) k=some (.int n):=by
 obtain⟨i,rfl⟩:∃ i:Nat,k=i:=⟨k.toNat,by omega⟩
 have hi:i < ns.length:=by omega
 refine⟨ns[i],jO ?_⟩
 rw[Ni,oO hi];rfl
theorem eU {α : Type} {x : α} {r:List α}:d_ (x :: r) 0=some x:=jO (j:=0) rfl
theorem iC {α : Type} {x y : α} {r:List α}:d_ (x :: y :: r) 1=some y:=jO (j:=1) rfl
theorem at2 {α : Type} {x y z : α} {r:List α}:d_ (x :: y :: z :: r) 2=some z:=jO (j:=2) rfl
theorem uy {a b A B:Int} (h0:0 <= a) (h1:a <= A) (h2:0 <= b) (h3:b <= B):0 <= a * b/\a * b <= A * B :=
 ⟨Int.mul_nonneg h0 h2,Int.mul_le_mul h1 h3 h2 (Int.le_trans h0 h1)⟩
noncomputable def gO:List Int:=[2147483629,2147483587,2147483579,2147483563,2147483549,2147483543,2147483497,2147483489,2147483477,2147483423,2147483399,2147483353,2147483323]
theorem Al (n:Int):∃ q:Int,d_ (gO.map D.int) (n % 13)=some (.int q)/\0 < q/\q < 2147483648:=by
 have h0:0 <= n % 13:=Y4 _ (by decide)
 have h1:n % 13 < 13:=YJ _ (by decide)
 generalize n % 13=j at h0 h1
 obtain⟨i,rfl⟩:∃ i:Nat,j=i:=⟨j.toNat,by omega⟩
 have hi:i < 13:=by omega
 have hl:(gO.map D.int)[i]? = some (.int (gO[i]'(by show i < 13;exact hi))):=by
  rw[Ni,oO (by show i < 13;exact hi)];rfl
 refine⟨_,jO hl,?_⟩
 have all:∀ q∈gO,0 < q/\q < 2147483648:=by decide
 exact all _ (Y6 _)
theorem Rm:i9 3 1=some 1:=rfl
theorem Hf:i9 3 2=some 2:=rfl
theorem bw {A B:WS} {K:KS} {δ : ay} (h:∀ N:ay->Prop,N=B K->A { K with nx:=N } δ):au A B K δ := h _ rfl
theorem iX {t:WT} {G G':WS} {K:KS} {δ : ay} (h:∀ A B:ay->Prop,A=G K->B=G' K->t δ fun b δ1=>if b=true then A δ1 else B δ1):bx t G G' K δ := h _ _ rfl rfl
theorem pW {w:WI} {g:WG} {b:WS} {K:KS} {δ : ay} (h:∀ g' b' K',g'=g->b'=b->K'=K->w δ fun it δ1=>j5 δ1 it.bA g' b' K' it.items δ1):eC w g b K δ := h _ _ _ rfl rfl rfl
theorem wU {f:WE} {g:WA} {δ : ay} {K:List DV->ay->Prop} (h:∀ K',K'=(fun x δ1=>g δ1 fun xs δ2=>K (x :: xs) δ2)->f δ K'):af f g δ K:=h _ rfl
noncomputable def Am:GD:=fun ys ovs K=>∃ cell at_:Int,ys=[.p (.int cell),.p (.int at_)]/\ovs=[]/\0 <= at_/\at_ < 2 ^ 30/\∀ z:Int,K (.p (.int z)) []
noncomputable def An:WS:=(au (bx (dT (d2 (aa 0) (d2 (dC (.int 10)) (dC (.int 18)) (dj dS fun i j => .int (i ^ j.toNat))) (oI fun i j => .bl (decide (j <= i))))) (aN (aa 0)) dW) (au (aO 2 (cm (af (dC (.int 2147483629)) (af (dC (.int 2147483587)) (af (dC (.int 2147483579)) (af (dC (.int 2147483563)) (af (dC (.int 2147483549)) (af (dC (.int 2147483543)) (af (dC (.int 2147483497)) (af (dC (.int 2147483489)) ag)))))))))) (au (aO 2 (d2 (aa 2) (cm (af (dC (.int 2147483477)) (af (dC (.int 2147483423)) (af (dC (.int 2147483399)) (af (dC (.int 2147483353)) (af (dC (.int 2147483323)) ag)))))) d6)) (au (aO 3 (d2 (d2 (d2 (d2 (d2 (d2 (aa 0) (dC (.int 1000000007)) (dj (fun _ j=>0 < j) fun i j => .int (i % j))) (d2 (d2 (dC (.int 2)) (aa 1) fh) (dC (.int 69069)) d6) fh) (d2 (aa 1) (dC (.int 40503)) fh) d6) (dC (.int 977)) d6) (dC (.int 3)) (dj dS fun i j => .int (i ^ j.toNat))) (d2 (aa 2) (d2 (aa 1) (dC (.int 13)) (dj (fun _ j=>0 < j) fun i j => .int (i % j))) a6) (dj (fun _ j=>0 < j) fun i j => .int (i % j)))) (au (aO 4 (d2 (d2 (d2 (d2 (d2 (aa 3) (d2 (aa 1) (dC (.int 3)) d6) fh) (d2 (aa 0) (dC (.int 65537)) (dj (fun _ j=>0 < j) fun i j => .int (i % j))) d6) (dC (.int 5)) d6) (dC (.int 5)) (dj dS fun i j => .int (i ^ j.toNat))) (d2 (aa 2) (d2 (d2 (aa 1) (dC (.int 5)) d6) (dC (.int 13)) (dj (fun _ j=>0 < j) fun i j => .int (i % j))) a6) (dj (fun _ j=>0 < j) fun i j => .int (i % j)))) (au (aO 5 (d2 (d2 (d2 (d2 (aa 4) (d2 (aa 3) (dC (.int 1009)) (dj (fun _ j=>0 < j) fun i j => .int (i % j))) d6) (aa 1) d6) (dC (.int 3)) (dj dS fun i j => .int (i ^ j.toNat))) (d2 (aa 2) (d2 (d2 (aa 1) (dC (.int 7)) d6) (dC (.int 13)) (dj (fun _ j=>0 < j) fun i j => .int (i % j))) a6) (dj (fun _ j=>0 < j) fun i j => .int (i % j)))) (aN (d2 (d2 (d2 (d2 (aa 3) (dC (.int 2147483647)) fh) (aa 4) d6) (dC (.int 2147483647)) fh) (aa 5) d6))))))))
theorem Rn:∀ ys ovs K',ys.length=2->Am ys ovs K'->An (bP ovs.length K') ⟨ys.map some ++ List.replicate 4 none,ovs.map some⟩:=by
 rintro ys ovs K' - ⟨cell,k,rfl,rfl,h0,h1,fin⟩
 unfold An
 have uz:∀ (z:Int) (sl:List (Option DV)),gb 0 K' (.p (.int z)) ⟨sl,[]⟩:=fun z sl=>⟨[],rfl,rfl,fin z⟩
 simp? only []
 refine⟨⟨by decide,by decide,by decide⟩,?_⟩
 split
 ·exact uz _ _
 obtain⟨q1,e1,p1,b1⟩:=Al k
 obtain⟨q2,e2,p2,b2⟩:=Al (k + 5)
 obtain⟨q3,e3,p3,b3⟩:=Al (k + 7)
 simp only[gO,YC,Z6] at e1 e2 e3
 simp only[e1,e2,e3]
 have c0:0 <= cell % 1000000007:=Y4 _ (by decide)
 have c1:cell % 1000000007 < 1000000007:=YJ _ (by decide)
 have m1:=uy c0 (Int.le_of_lt c1) (show (0:Int) <= 2 * k + 69069 by omega) (show 2 * k + 69069 <= 2147552717 by omega)
 refine⟨by decide,.inl ⟨by decide,by decide⟩,.inl ⟨by omega,by omega⟩,.inr ⟨by decide,by decide⟩,⟨by decide,by decide,?cp1⟩,by decide,p1,?_⟩
 case cp1 =>
  generalize cell % 1000000007 * (2 * k + 69069)=m at m1 ⊢
  omega
 generalize (cell % 1000000007 * (2 * k + 69069) + k * 40503 + 977) ^ (3:Int).toNat=x1
 have o0:0 <= x1 % q1:=Y4 _ (by omega)
 have o1:x1 % q1 < q1:=YJ _ p1
 have d0:0 <= cell % 65537:=Y4 _ (by decide)
 have d1:cell % 65537 < 65537:=YJ _ (by decide)
 have m2:=uy o0 (show x1 % q1 <= 2147483648 by omega) (show (0:Int) <= k + 3 by omega) (show k + 3 <= 1073741827 by omega)
 refine⟨.inl ⟨by omega,by omega⟩,by decide,⟨by decide,by decide,?cp2⟩,by decide,p2,?_⟩
 case cp2 =>
  generalize x1 % q1 * (k + 3)=m at m2 ⊢
  omega
 have t0:0 <= (x1 % q1 * (k + 3) + cell % 65537 + 5) ^ (5:Int).toNat % q2:=Y4 _ (by omega)
 have t1:(x1 % q1 * (k + 3) + cell % 65537 + 5) ^ (5:Int).toNat % q2 < q2:=YJ _ p2
 have u0:0 <= x1 % q1 % 1009:=Y4 _ (by decide)
 have u1:x1 % q1 % 1009 < 1009:=YJ _ (by decide)
 generalize (x1 % q1 * (k + 3) + cell % 65537 + 5) ^ (5:Int).toNat % q2=m at t0 t1 ⊢
 exact⟨by decide,⟨by decide,by decide,by omega⟩,by decide,p3,.inr ⟨by decide,by decide⟩,.inr ⟨by decide,by decide⟩,uz _ _⟩
noncomputable def iD (ns:List Int) (k z:Int):OV := .lst [.lst (ns.map D.int),.int k,.int z]
structure bt (n:Int) (o:OV):Prop where
 out:∃ ns k z,o=iD ns k z/\ns.length <= 63/\0 <= k/\k <= n
theorem bt.mono {n m:Int} {o:OV} (h:bt n o) (l:n <= m):bt m o:=by
 obtain⟨ns,k,z,e,h1,h2,h3⟩:=h.out
 exact⟨ns,k,z,e,h1,h2,by omega⟩
noncomputable def Ao:GD:=fun ys ovs K=>∃ n o,ys=[.o 0]/\ovs=[o]/\bt n o/\∀ o',bt n o'->K (.a 0) [o']
noncomputable def Ap:WS:=(au (pN (dC (.int 0)) (aa 0) (dC (.int 2))) (aN (aa 0)))
theorem Ro:∀ ys ovs K',ys.length=1->Ao ys ovs K'->Ap (bP ovs.length K') ⟨ys.map some ++ List.replicate 0 none,ovs.map some⟩:=by
 rintro ys ovs K' - ⟨n,o,rfl,rfl,P,fin⟩
 obtain⟨ns,k,z,rfl,h1,h2,h3⟩:=P.out
 unfold Ap iD
 simp? only []
 exact⟨[iD ns k 0],rfl,rfl,fin _ ⟨ns,k,0,rfl,h1,h2,h3⟩⟩
noncomputable def gg:GD:=fun ys ovs K=>∃ (n m:Int) (o:OV),ys=[.o 0,.p (.int m)]/\ovs=[o]/\bt n o/\n < 2 ^ 30/\0 < m/\m < 1073741824/\∀ r o',0 <= r->r < m->bt (n + 1) o'->K (.p (.int r)) [o']
noncomputable def Aq:WS:=(au (bx (dT (d2 (d2 (aa 0) (dC (.int 2)) a6) (aa 1) oLt)) (au (aO 2 (d2 (aa 0) (dC (.int 1)) a6)) (au (aO 3 (dC (.int 0))) (au (bx (dT (d2 (aa 2) (dN (af (d2 (aa 0) (dC (.int 0)) a6) ag) eD) oLt)) (aO 3 (d2 (d2 (aa 0) (dC (.int 0)) a6) (aa 2) a6)) (bx (dT (d2 (dN (af (d2 (aa 0) (dC (.int 0)) a6) ag) eD) (dC (.int 0)) (oI fun i j => .bl (decide (j < i))))) (aO 3 (d2 (d2 (d2 (aa 0) (dC (.int 0)) a6) (d2 (d2 (d2 (aa 2) (dC (.int 5)) fh) (dC (.int 3)) d6) (dN (af (d2 (aa 0) (dC (.int 0)) a6) ag) eD) (dj (fun _ j=>0 < j) fun i j => .int (i % j))) a6) (d2 (d2 (dC (.int 10)) (dC (.int 17)) (dj dS fun i j => .int (i ^ j.toNat))) (aa 2) d6) (dj (fun _ j=>0 < j) fun i j => .int (i % j)))) dW)) (au (pN (d2 (aa 2) (dC (.int 1)) d6) (aa 0) (dC (.int 1))) (pN (aj 2 Am (af (aa 3) (af (aa 2) ag))) (aa 0) (dC (.int 2))))))) dW) (au (aO 4 (d2 (d2 (aa 0) (dC (.int 2)) a6) (aa 1) (dj (fun _ j=>0 < j) fun i j => .int (i % j)))) (au (pN (d2 (d2 (aa 0) (dC (.int 2)) a6) (aa 1) (dj sv fun i j => .int (i.fdiv j))) (aa 0) (dC (.int 2))) (aN (aa 4)))))
theorem Rp:∀ ys ovs K',ys.length=2->gg ys ovs K'->Aq (bP ovs.length K') ⟨ys.map some ++ List.replicate 3 none,ovs.map some⟩:=by
 rintro ys ovs K' - ⟨n,m,o,rfl,rfl,P,hn,Hg,XD,fin⟩
 obtain⟨ns,k,z,rfl,h1,h2,h3⟩:=P.out
 unfold Aq iD
 have last:∀ (k' z':Int) (sl:List (Option DV)),0 <= k'->k' <= n + 1->gb 1 K' (.p (.int (z' % m))) ⟨sl,[some (.lst [.lst (ns.map D.int),.int k',.int (z'.fdiv m)])]⟩:=fun k' z' sl a b =>
  ⟨[iD ns k' (z'.fdiv m)],rfl,rfl,fin _ _ (Y4 _ (by omega)) (YJ _ Hg) ⟨ns,k',_,rfl,h1,a,b⟩⟩
 have Rq:∀ z,sv z m:=fun z=>⟨by omega,by omega⟩
 have rest:∀ (k' z':Int) (s2 s3 s4:Option DV),0 <= k'->k' <= n + 1->(au (aO 4 (d2 (d2 (aa 0) (dC (.int 2)) a6) (aa 1) (dj (fun _ j=>0 < j) fun i j => .int (i % j)))) (au (pN (d2 (d2 (aa 0) (dC (.int 2)) a6) (aa 1) (dj sv fun i j => .int (i.fdiv j))) (aa 0) (dC (.int 2))) (aN (aa 4)))) (bP 1 K') ⟨[some (.o 0),some (.p (.int m)),s2,s3,s4],[some (.lst [.lst (ns.map D.int),.int k',.int z'])]⟩:=fun k' z' s2 s3 s4 a b=>by
  simp? only [at2,Hf]
  exact⟨Hg,Rq _,last _ _ _ a b⟩
 refine bw fun N hN => ?_
 refine iX fun A B hA hB => ?_
 simp? only [at2]
 split
 ·subst hA
  refine bw fun N2 eQ => ?_
  simp? only [iC]
  subst eQ
  refine bw fun N2 eQ => ?_
  simp? only []
  subst eQ
  refine bw fun N2 eQ => ?_
  have go:∀ (c:Int) (s4:Option DV),N2 ⟨[some (.o 0),some (.p (.int m)),some (.p (.int k)),some (.p (.int c)),s4],[some (.lst [.lst (ns.map D.int),.int k,.int z])]⟩:=fun c s4=>by
   subst eQ
   simp? only [Rm]
   refine⟨c,k,rfl,rfl,h2,by omega,fun z' => ?_⟩
   simp? only [Hf]
   subst hN
   exact rest _ _ _ _ _ (by omega) (by omega)
  refine iX fun A B hA hB => ?_
  simp? only [eU]
  split
  ·rename_i cA
   obtain⟨c,ec⟩:=He h2 (Zf cA)
   subst hA
   simp? only [eU]
   rw[ec]
   exact go _ _
  ·subst hB
   refine iX fun A B hA hB => ?_
   simp? only [eU]
   split
   ·rename_i ml
    have ml:=Zf ml
    obtain⟨c,ec⟩:=He (ns:=ns) (k:=(k * 5 + 3) % (ns.length:Int)) (Y4 _ (by omega)) (YJ _ ml)
    subst hA
    simp? only [eU]
    refine⟨.inr ⟨by decide,by decide⟩,ml,?_⟩
    rw[ec]
    exact⟨⟨by decide,by decide,by decide⟩,by show (0:Int) < 10 ^ 17 + k;omega,go _ _⟩
   ·subst hB
    exact go _ _
 ·subst hB hN
  exact rest _ _ _ _ _ (by omega) (by omega)
noncomputable def cz (p:Int × Int):D := .tup [.int p.1,.int p.2]
structure cX (many:Int) (ps:List (Int × Int)):Prop where
 ends:∀ p∈ps,0 <= p.1/\p.1 < p.2/\p.2 < many
 pQ:ps.Nodup
 h9:ps.length <= 66
theorem cX.sub {many:Int} {ps qs:List (Int × Int)} (h:cX many ps) (s:qs.Sublist ps):cX many qs :=
 ⟨fun p hp=>h.ends p (s.subset hp),h.pQ.sublist s,YF s.length_le h.h9⟩
noncomputable def Ar:GD:=fun ys ovs K=>∃ (n kind many:Int) (o:OV),ys=[.o 0,.p (.int kind),.p (.int many)]/\ovs=[o]/\bt n o/\n + 100 < 2 ^ 30/\1 <= many/\many <= 12/\∀ ps o',cX many ps->bt (n + 67) o'->K (.n (ps.map cz)) [o']
noncomputable def As:WS:=(au (aO 3 (tQ ag)) (au (eC (nr (af (aa 2) ag)) (cf 4) (jE (pM (aa 3) (af (iA (nr (af (aa 4) ag)) [none,some 4] (cf 0) gM (eM (af (aa 0) (af (aa 1) ag)))) ag)))) (au (bx (dT (d2 (aa 1) (dC (.int 1)) oEq)) (aN (ph (zL (af (dC (.int 1)) (af (aa 2) ag))) [none,some 0] (cf 0) gM (eM (af (aj 2 gg (af (aa 1) (af (aa 0) ag))) (af (aa 0) ag))))) dW) (au (bx (dT (d2 (aa 1) (dC (.int 2)) oEq)) (au (aO 5 (iA (nr (af (d2 (aa 2) (dC (.int 1)) (oI fun i j => .int (i - j))) ag)) [none] (cf 0) gM (eM (af (aa 0) (af (d2 (aa 0) (dC (.int 1)) d6) ag))))) (aN (Ac (aa 5) (iA (cJ (aa 3)) [none,some 2] (cf 0) (j2 (dT (d2 (aa 0) (eM (af (dC (.int 0)) (af (d2 (aa 1) (dC (.int 1)) (oI fun i j => .int (i - j))) ag))) oEq)) (dT (d2 (aa 1) (dC (.int 2)) (oI fun i j => .bl (decide (j < i)))))) (aa 0))))) dW) (au (bx (dT (d2 (aa 1) (dC (.int 3)) oEq)) (aN (aa 3)) dW) (au (bx (dT (d2 (aa 1) (dC (.int 4)) oEq)) (aN (ph (cJ (aa 3)) [none,some 0] (cf 0) (dT (d2 (aj 2 gg (af (aa 1) (af (dC (.int 4)) ag))) (dC (.int 0)) oEq)) (aa 0))) dW) (au (bx (dT (d2 (aa 1) (dC (.int 5)) oEq)) (au (aO 6 (aj 2 gg (af (aa 0) (af (d2 (aa 2) (dC (.int 1)) d6) ag)))) (aN (ph (cJ (aa 3)) [none,some 6,some 0] (cf 0) (j2 (dT (d2 (d2 (d2 (aa 0) (dC (.int 0)) a6) (aa 1) oLt) (d2 (d2 (aa 0) (dC (.int 1)) a6) (aa 1) oLt) oEq)) (dT (d2 (aj 2 gg (af (aa 2) (af (dC (.int 3)) ag))) (dC (.int 0)) (oI fun i j => .bl (decide (j < i)))))) (aa 0)))) dW) (aN (ph (cJ (aa 3)) [none,some 0] (cf 0) (dT (d2 (aj 2 gg (af (aa 1) (af (dC (.int 2)) ag))) (dC (.int 0)) oEq)) (aa 0))))))))))
theorem sub_snoc {α : Type} {zs ps:List α} {i:Nat} {x : α} (h:zs.Sublist (ps.take i)) (e:ps[i]? = some x):(zs ++ [x]).Sublist (ps.take (i + 1))/\zs.Sublist (ps.take (i + 1)):=by
 have:ps.take (i + 1)=ps.take i ++ [x]:=by rw[Z4,e];rfl
 rw[this]
 exact⟨h.append (List.Sublist.refl _),h.trans (List.sublist_append_left _ _)⟩
theorem Rr {α : Type} {l:List α} {c : α} (h:l.Nodup) (hc:∀ x∈l,x=c):l.length <= 1:=by
 match l,h,hc with
 | [],_,_=>exact YW _
 | [_],_,_=>exact sG _
 | x :: y :: r,h,hc =>
  have:=(Zl.mp h).1 y (Nh)
  exact absurd ((hc x Nh).trans (hc y (Nk _ Nh)).symm) this
theorem Au {n:Int} {o:OV} {ps:List (Int × Int)} {t:WT} {K:List D->ay->Prop} {rest:List (Option DV)} {ev:Option OV} {bA:ay->Prop} (hc:∀ sl o',bA ⟨sl,[some o',ev]⟩) (hw:ps.length <= 66) (P:bt n o) (hn:n + 70 < 2 ^ 30)
  (ht:∀ (p:Int × Int) (i:Nat) (o':OV) (Q:Bool->ay->Prop),p∈ps->i <= 66->bt (n + i) o'->(∀ b ka,bt (n + i + 1) ka->Q b ⟨some (.p (cz p)) :: rest,[some ka,ev]⟩)->t ⟨some (.p (cz p)) :: rest,[some o',ev]⟩ Q)
  (hr:fg 2 rest rest=rest)
  (fin:∀ (zs:List (Int × Int)) o',zs.Sublist ps->bt (n + ps.length) o'->K (zs.map cz) ⟨none :: rest,[some o',ev]⟩) :
  iW ⟨none :: rest,[some o,ev]⟩ bA (cf 0) t (aa 0) K (ps.map cz) [] ⟨none :: rest,[some o,ev]⟩:=by
 refine z_ (fun i acc δ => ∃ (zs:List (Int × Int)) (o':OV),zs.Sublist (ps.take i)/\acc=zs.map cz/\bt (n + i) o' /\ δ = ⟨none :: rest,[some o',ev]⟩) ⟨[],o,List.Sublist.refl _,rfl,P.mono (by omega),rfl⟩ ?_ ?_
 ·rintro j d acc δ L hj ⟨zs,o',hz,rfl,P',rfl⟩ hL
  rw[Ni] at hj
  obtain⟨p,hp,rfl⟩:=Xo.mp hj
  have Q6:j < ps.length:=(oP.mp hp).1
  refine⟨hc _ _,?_⟩
  show t ⟨some (.p (cz p)) :: rest,[some o',ev]⟩ _
  refine ht p j o' _ (Yn hp) (by omega) P' fun b ka mn => ?_
  have hlen:(zs.map cz).length < 1000:=by
   rw[qy]
   have:=hz.length_le
   rw[Yp] at this;omega
  have P3:bt (n + ((j + 1:Nat):Int)) ka:=mn.mono (by omega)
  cases b with
  | true =>
   rw[Xp rfl]
   refine⟨hlen,hL _ _ ⟨zs ++ [p],ka,(sub_snoc hz hp).1,by rw[YH];rfl,P3,?_⟩⟩
   show (⟨none :: fg 2 rest rest,_⟩:ay)=_
   rw[hr];rfl
  | false =>
   rw[Xm (by decide)]
   refine hL _ _ ⟨zs,ka,(sub_snoc hz hp).2,rfl,P3,?_⟩
   show (⟨none :: fg 2 rest rest,_⟩:ay)=_
   rw[hr];rfl
 ·rintro acc δ ⟨zs,o',hz,rfl,P',rfl⟩
  rw[qy] at P' hz
  rw[Yz (sG _)] at hz
  exact⟨hc _ _,fin zs o' hz P'⟩
theorem Rt:∀ ys ovs K',ys.length=3->Ar ys ovs K'->As (bP ovs.length K') ⟨ys.map some ++ List.replicate 4 none,ovs.map some⟩:=by
 rintro ys ovs K' - ⟨n,kind,many,o,rfl,rfl,P,hn,m1,jB,fin⟩
 obtain⟨mm,rfl⟩:∃ mm:Nat,many=mm:=⟨many.toNat,by omega⟩
 have Av:mm <= 12:=by omega
 unfold As
 have bR:cX mm (iU mm):=⟨fun p hp=>zo hp,Fm mm,Fp mm Av⟩
 refine bw fun N hN => ?_
 simp? only []
 subst hN
 refine bw fun N hN => ?_
 simp? only []
 refine⟨by omega,?_⟩
 refine me (fun i δ => δ = ⟨[some (.o 0),some (.p (.int kind)),some (.p (.int mm)),some (.o 1),none,none,none],[some o,some (.lst ((iU i).map cz))]⟩) rfl ?_ ?_
 ·rintro j d δ L hj rfl hL
  obtain⟨hj,rfl⟩:=lZ hj
  simp? only []
  have e:(0 + (j:Int))=j:=by omega
  rw[e]
  refine⟨by omega,?_⟩
  refine uh (fun d=>match d with
   | .int a=>cz (a,j)
   | _ => .non) (by rw[l6];omega) trivial ?_ ?_
  ·intro d hd acc L' ha h
   obtain⟨i,hi⟩:=Xq.mp hd
   obtain⟨hi,rfl⟩:=lZ hi
   simp? only []
   exact⟨ha,h⟩
  ·have e2:(iU j).map cz ++ (cn 0 (j:Int).toNat).map (fun d=>match d with
    | .int a=>cz (a,j)
    | _ => .non)=(iU (j + 1)).map cz:=by
    show _=(iU j ++ _).map cz
    unfold cn
    rw[YH,YL,YL]
    congr 1
    refine ZE fun a _ => ?_
    simp[Function.comp]
   simp? only []
   have XE:=Fp j (by omega)
   refine⟨by rw[l6];omega,?_⟩
   rw[e2]
   exact hL _ rfl
 ·rintro δ rfl
  refine⟨trivial,?_⟩
  subst hN
  have eL:((mm:Int)).toNat=mm:=by omega
  rw[l6,eL]
  dsimp only
  have back:∀ (ps:List (Int × Int)) (o':OV) (sl:List (Option DV)) (m:List (Option OV)),cX mm ps->bt (n + 67) o'->gb 1 K' (.o (m.length + 1)) ⟨sl,some o' :: (m ++ [some (.lst (ps.map cz))])⟩:=fun ps o' sl m h1 h2=>by
   refine⟨[o'],rfl,rfl,?_⟩
   show if m.length + 1 < 1 then _ else _
   rw[Xm (by omega)]
   have:(some o' :: (m ++ [some (OV.lst (ps.map cz))]))[m.length + 1]? = some (some (.lst (ps.map cz))):=by
    rw[q0j,Xr (sG _),YG];rfl
   dsimp only
   rw[this]
   exact .inl (fin ps o' h1 h2)
  refine bw fun N hN => ?_
  simp? only [aC]
  split
  ·refine⟨by omega,?_⟩
   refine z_ (fun i acc δ => ∃ (zs:List (Int × Int)) (o':OV),zs.length=i/\(∀ (q:Nat) (p:Int × Int),zs[q]? = some p->p.2=q + 1/\0 <= p.1/\p.1 < p.2)/\acc=zs.map cz/\bt (n + i) o' /\ δ = ⟨[none,some (.o 0)],[some o',some (.lst ((iU mm).map cz))]⟩) ⟨[],o,rfl,fun q p e=>by simp at e,rfl,P.mono (by omega),rfl⟩ ?_ ?_
   ·rintro j d acc δ L hj ⟨zs,o',hz,hq,rfl,P',rfl⟩ hL
    obtain⟨hj,rfl⟩:=lZ hj
    simp? only []
    refine⟨n + j,1 + j,o',rfl,rfl,P',by omega,by omega,by omega,fun r ka r0 r1 mn => ?_⟩
    simp? only []
    refine⟨by omega,hL _ _ ⟨zs ++ [(r,1 + (j:Int))],ka,by rw[Ew,hz];rfl,fun q p e => ?_,by rw[YH];rfl,mn.mono (by omega),rfl⟩⟩
    by_cases c:q < zs.length
    ·rw[Xn c] at e
     exact hq q p e
    ·have hl:=(oP.mp e).1
     rw[Ew,Yk] at hl
     have:q=zs.length:=by omega
     subst this
     rw[Xr (sG _),YG] at e
     cases (show some (r,1 + (j:Int))=some p by simpa using e)
     exact⟨by show 1 + (j:Int)=_;omega,r0,r1⟩
   ·rintro acc δ ⟨zs,o',hz,hq,rfl,P',rfl⟩
    rw[l6] at hz P'
    refine⟨trivial,?_⟩
    refine back zs o' _ [_] ⟨fun p hp => ?_,?_,by omega⟩ (P'.mono (by omega))
    ·obtain⟨q,mX⟩:=Xq.mp hp
     have:=hq q p mX
     have hl:=(oP.mp mX).1
     omega
    ·refine Z7.mpr fun i j hi hj jm e => ?_
     have q1:=hq i _ (oO hi)
     have q2:=hq j _ (oO hj)
     rw[e] at q1
     omega
  subst hN
  refine bw fun N hN => ?_
  simp? only [aC]
  split
  ·clear hN
   refine⟨by omega,?_⟩
   refine uh (fun d=>match d with
    | .int a=>cz (a,a + 1)
    | _ => .non) (by rw[l6];omega) trivial ?_ ?_
   ·intro d hd acc L' ha h
    obtain⟨i,hi⟩:=Xq.mp hd
    obtain⟨hi,rfl⟩:=lZ hi
    simp? only []
    exact⟨ha,h⟩
   ·simp? only []
    refine pO (fun d=>aC d (cz (0,mm - 1)) && decide ((2:Int) < mm)) id (by rw[qy];have:=bR.h9;omega) rfl ?_ ?_
    ·intro d hd acc L' ha h h'
     obtain⟨p,hp,rfl⟩:=Yd.mp hd
     simp only[cz] at h h'
     simp? only [cz]
     split
     ·rename_i q1
      split
      ·rename_i q2
       exact⟨ha,h (by rw[q1,q2];rfl)⟩
      ·rename_i q2
       exact h' (by rw[q1,Bool.not_eq_true _ |>.mp q2];rfl)
     ·rename_i q1
      exact h' (by rw[Bool.not_eq_true _ |>.mp q1];rfl)
    ·simp? only []
     have er:(cn 0 ((mm:Int) - 1).toNat).map (fun d=>match d with
       | D.int a=>cz (a,a + 1)
       | x=>D.non)=((List.range (mm - 1)).map fun i:Nat=>((i:Int),(i:Int) + 1)).map cz:=by
      unfold cn
      rw[YL,YL]
      have:((mm:Int) - 1).toNat=mm - 1:=by omega
      rw[this]
      refine ZE fun a _ => ?_
      simp[Function.comp]
     have ef:(((iU mm).map cz).filter fun d=>aC d (cz (0,mm - 1)) && decide ((2:Int) < mm))=((iU mm).filter fun p=>aC (cz p) (cz (0,mm - 1)) && decide ((2:Int) < mm)).map cz:=by
      rw[ZT];rfl
     rw[er,q0H,ef,<-YH]
     have hf:∀ p∈(iU mm).filter (fun p=>aC (cz p) (cz (0,mm - 1)) && decide ((2:Int) < mm)),p=(0,(mm:Int) - 1)/\(2:Int) < mm:=fun p hp=>by
      have:=(Y0.mp hp).2
      simp[cz,aC,dE] at this
      obtain⟨a,b⟩:=p
      simp at this ⊢
      omega
     have h1:((iU mm).filter (fun p=>aC (cz p) (cz (0,mm - 1)) && decide ((2:Int) < mm))).length <= 1:=Rr (bR.pQ.sublist List.filter_sublist) fun p hp=>(hf p hp).1
     refine⟨by rw[l6,qy];omega,back _ o _ [_] ⟨fun p hp => ?_,?_,?_⟩ (P.mono (by omega))⟩
     ·rcases YM.mp hp with hp | hp
      ·obtain⟨i,hi,rfl⟩:=Yd.mp hp
       have:=Ym.mp hi
       exact⟨by omega,by omega,by show (i:Int) + 1 < mm;omega⟩
      ·exact bR.ends p (Y0.mp hp).1
     ·refine Zq.mpr ⟨?_,bR.pQ.sublist List.filter_sublist,fun a ha b hb e => ?_⟩
      ·refine ZX.mpr (q0w.imp fun {a b} ne e=>ne ?_)
       have:=congrArg Prod.fst e
       exact q1g this
      ·subst e
       obtain⟨i,hi,rfl⟩:=Yd.mp ha
       have:=hf _ hb
       have h2:=congrArg Prod.fst this.1
       have h3:=congrArg Prod.snd this.1
       simp at h2 h3
       omega
     ·rw[Ew,qy,YV];omega
  subst hN
  refine bw fun N hN => ?_
  simp? only [aC]
  split
  ·exact⟨[o],rfl,rfl,.inl (fin _ _ bR (P.mono (by omega)))⟩
  subst hN
  refine bw fun N hN => ?_
  simp? only [aC]
  split
  ·refine Au (fun _ _=>rfl) bR.h9 P (by omega) (fun p i o' Q hp hi P' hQ => ?_) rfl fun zs o' hz P' => ?_
   ·simp? only [aC]
    refine⟨n + i,4,o',rfl,rfl,P',by omega,by omega,by omega,fun r ka r0 r1 mn => ?_⟩
    simp? only []
    exact hQ _ _ mn
   ·exact back zs o' _ [_] (bR.sub hz) (P'.mono (by have:=bR.h9;omega))
  subst hN
  refine bw fun N hN => ?_
  simp? only [aC]
  split
  ·refine⟨n,mm + 1,o,rfl,rfl,P,by omega,by omega,by omega,fun half o1 r0 r1 P1 => ?_⟩
   simp? only []
   refine Au (n:=n + 1) (fun _ _=>rfl) bR.h9 P1 (by omega) (fun p i o' Q hp hi P' hQ => ?_) rfl fun zs o' hz P' => ?_
   ·simp? only [aC,cz,eU,iC]
    split
    ·refine⟨n + 1 + i,3,o',rfl,rfl,P',by omega,by omega,by omega,fun r ka r0 r1 mn => ?_⟩
     simp? only []
     exact hQ _ _ mn
    ·exact hQ _ _ (P'.mono (by omega))
   ·exact back zs o' _ [_] (bR.sub hz) (P'.mono (by have:=bR.h9;omega))
  subst hN
  simp? only [aC]
  refine Au (fun _ _=>rfl) bR.h9 P (by omega) (fun p i o' Q hp hi P' hQ => ?_) rfl fun zs o' hz P' => ?_
  ·simp? only [aC]
   refine⟨n + i,2,o',rfl,rfl,P',by omega,by omega,by omega,fun r ka r0 r1 mn => ?_⟩
   simp? only []
   exact hQ _ _ mn
  ·exact back zs o' _ [_] (bR.sub hz) (P'.mono (by have:=bR.h9;omega))
theorem Hh {α : Type}:∀ {l:List α} {j:Nat} (h:j < l.length),List.Perm (l[j] :: l.eraseIdx j) l
 | x :: r,0,h=>q1G _
 | x :: r,j + 1,h=>by
  have hj:j < r.length:=by simpa using h
  show List.Perm (r[j] :: x :: r.eraseIdx j) (x :: r)
  exact (List.Perm.swap x r[j] _).trans ((Hh hj).cons x)
theorem Hi {α β : Type} (f : α -> β):∀ (l:List α) (j:Nat),(l.map f).eraseIdx j=(l.eraseIdx j).map f
 | [],_=>rfl
 | _ :: _,0=>rfl
 | x :: r,j + 1=>by
  show f x :: (r.map f).eraseIdx j=f x :: (r.eraseIdx j).map f
  rw[Hi f r j]
noncomputable def bQ (y:Int × Int × Int):D := .tup [.int y.1,.int y.2.1,.int y.2.2]
noncomputable def aV (m:Int) (ys:List (Int × Int × Int)):D := .tup [.int m,.tup (ys.map bQ)]
noncomputable def pX (y:Int × Int × Int):Int × Int:=(y.1,y.2.1)
theorem cX.perm {many:Int} {ps qs:List (Int × Int)} (h:cX many ps) (p:qs.Perm ps):cX many qs :=
 ⟨fun x hx=>h.ends x (p.mem_iff.mp hx),p.nodup_iff.mpr h.pQ,by rw[p.length_eq];exact h.h9⟩
noncomputable def Aw:GD:=fun ys ovs K=>∃ (n dg most:Int) (o:OV),ys=[.o 0,.p (.int dg),.p (.int most)]/\ovs=[o]/\bt n o/\n + 400 < 2 ^ 30/\1 <= dg/\dg <= 12/\0 <= most/\most <= 30 ∧
 ∀ m ws o',cb m ws->m <= dg->(ws.length:Int) <= most->bt (n + 300) o'->K (.p (aV m ws)) [o']
noncomputable def Ax:WS:=(au (aO 3 (aj 2 gg (af (aa 0) (af (dC (.int 8)) ag)))) (au (aO 4 (aj 2 gg (af (aa 0) (af (dC (.int 4)) ag)))) (au (aO 5 (d2 (dC (.int 1)) (aj 2 gg (af (aa 0) (af (aa 1) ag))) d6)) (au (aO 6 (tW 3 Ar (af (aa 0) (af (aa 3) (af (aa 5) ag))))) (au (aO 7 (tQ ag)) (au (eC (nr (af (dN (af (aa 2) (af (dN (af (aa 6) ag) eD) ag)) uc) ag)) (cf 8) (au (pb (z7 (aa 6) (af (aj 2 gg (af (aa 0) (af (dN (af (aa 6) ag) eD) ag))) ag)) (tT 2 (lS (cf 9) (lS (cf 10) qL)))) (au (aO 11 (d2 (cm (af (dC (.int 7)) (af (aj 2 gg (af (aa 0) (af (dC (.int 3)) ag))) (af (d2 (d2 (dC (.int 10)) (dC (.int 9)) (dj dS fun i j => .int (i ^ j.toNat))) (aj 2 gg (af (aa 0) (af (dC (.int 2)) ag))) (oI fun i j => .int (i - j))) (af (aj 2 gg (af (aa 0) (af (d2 (d2 (dC (.int 10)) (dC (.int 9)) (dj dS fun i j => .int (i ^ j.toNat))) (dC (.int 1)) d6) ag))) ag))))) (aa 4) a6)) (jE (l_ (aa 7) (af (eM (af (aa 9) (af (aa 10) (af (aa 11) ag)))) ag)))))) (aN (eM (af (aa 5) (af (dN (af (aa 7) ag) wC) ag))))))))))
theorem Ru:∀ ys ovs K',ys.length=3->Aw ys ovs K'->Ax (bP ovs.length K') ⟨ys.map some ++ List.replicate 9 none,ovs.map some⟩:=by
 rintro ys ovs K' - ⟨n,dg,most,o,rfl,rfl,P,hn,h1,Rv,s0,XF,fin⟩
 unfold Ax
 refine bw fun N hN => ?_
 simp? only []
 refine⟨n,8,o,rfl,rfl,P,by omega,by omega,by omega,fun kind o1 _ _ P1 => ?_⟩
 simp? only []
 subst hN
 refine bw fun N hN => ?_
 simp? only []
 refine⟨n + 1,4,o1,rfl,rfl,P1,by omega,by omega,by omega,fun dY o2 p0 p4 P2 => ?_⟩
 simp? only []
 subst hN
 refine bw fun N hN => ?_
 simp? only []
 refine⟨n + 1 + 1,dg,o2,rfl,rfl,P2,by omega,by omega,by omega,fun mm o3 m0 mh P3 => ?_⟩
 simp? only []
 subst hN
 refine bw fun N hN => ?_
 simp? only []
 refine⟨n + 1 + 1 + 1,kind,1 + mm,o3,rfl,rfl,P3,by omega,by omega,by omega,fun ps o4 Hj P4 => ?_⟩
 simp? only []
 subst hN
 refine bw fun N hN => ?_
 simp? only []
 subst hN
 refine bw fun N hN => ?_
 have XG:=Hj.h9
 simp? only []
 refine⟨by omega,?_⟩
 have ek:(min most (ps.length:Int)).toNat=min most.toNat ps.length:=by omega
 rw[ek]
 generalize hk:min most.toNat ps.length=k
 refine me (fun i δ => ∃ (qs:List (Int × Int)) (ws:List (Int × Int × Int)) (o':OV),qs.length + i=ps.length/\ws.length=i/\cX (1 + mm) (ws.map pX ++ qs)/\(∀ y∈ws,0 <= y.2.2/\y.2.2 <= 1000000000)/\bt (n + 70 + 4 * i) o' ∧
  δ = ⟨[some (.o 0),some (.p (.int dg)),some (.p (.int most)),some (.p (.int kind)),some (.p (.int dY)),some (.p (.int (1 + mm))),some (.o 1),some (.o 2),none,none,none,none],[some o',some (.lst (qs.map cz)),some (.lst (ws.map bQ))]⟩)
  ⟨ps,[],o4,by omega,rfl,Hj,fun y hy=>absurd hy Yu,P4.mono (by omega),rfl⟩ ?_ ?_
 ·rintro j d δ L hj ⟨qs,ws,o',hq,hw,hp,hy,P',rfl⟩ hL
  obtain⟨hj,rfl⟩:=lZ hj
  have q0:0 < qs.length:=by omega
  have Rw:=hp.h9
  rw[Ew,qy] at Rw
  refine⟨trivial,?_⟩
  simp only[cf,YA,YB]
  refine bw fun N2 eQ => ?_
  simp? only []
  refine⟨n + 70 + 4 * j,qs.length,o',rfl,rfl,P',by omega,by omega,by omega,fun r o1 r0 r1 P1 => ?_⟩
  obtain⟨rn,rfl⟩:∃ rn:Nat,r=rn:=⟨r.toNat,by omega⟩
  have hr:rn < qs.length:=by omega
  have ix:seqIndex? (rn:Int) qs.length=some rn:=Pb hr
  have eq:(qs.map cz)[rn]? = some (.tup [.int qs[rn].1,.int qs[rn].2]):=by rw[Ni,oO hr];rfl
  simp? only [ix,eq]
  refine⟨⟨by omega,by omega⟩,?_⟩
  subst eQ
  refine bw fun N2 eQ => ?_
  simp only[aO,d2,cm]
  refine wU fun K3 pY => ?_
  simp? only []
  subst pY
  refine wU fun K3 pY => ?_
  simp? only []
  refine⟨n + 70 + 4 * j + 1,3,o1,rfl,rfl,P1,by omega,by omega,by omega,fun a1 o2 XH XI P2 => ?_⟩
  simp? only []
  subst pY
  refine wU fun K3 pY => ?_
  simp? only []
  refine⟨⟨by decide,by decide,by decide⟩,n + 70 + 4 * j + 1 + 1,2,o2,rfl,rfl,P2,by omega,by omega,by omega,fun a2 o3 XJ XM P3 => ?_⟩
  simp? only []
  subst pY
  refine wU fun K3 pY => ?_
  simp? only []
  refine⟨⟨by decide,by decide,by decide⟩,n + 70 + 4 * j + 1 + 1 + 1,10 ^ Int.toNat 9 + 1,o3,rfl,rfl,P3,by omega,by decide,by decide,fun a3 o4 XN Rx P4 => ?_⟩
  simp? only []
  subst pY
  simp? only []
  have e9:(10:Int) ^ Int.toNat 9=1000000000:=by decide
  rw[e9] at Rx ⊢
  obtain⟨pr,Ry,Rz,RA⟩:∃ pr:Int,d_ [D.int 7,D.int a1,D.int (1000000000 - a2),D.int a3] dY=some (.int pr)/\0 <= pr/\pr <= 1000000000:=by
   have:dY=0\/dY=1\/dY=2\/dY=3:=by omega
   rcases this with rfl | rfl | rfl | rfl
   ·exact⟨7,rfl,by omega,by omega⟩
   ·exact⟨a1,rfl,by omega,by omega⟩
   ·exact⟨1000000000 - a2,rfl,by omega,by omega⟩
   ·exact⟨a3,rfl,by omega,by omega⟩
  rw[Ry]
  show N2 _
  subst eQ
  simp? only []
  refine⟨by omega,hL _ ⟨qs.eraseIdx rn,ws ++ [(qs[rn].1,qs[rn].2,pr)],o4,?_,?_,?_,?_,P4.mono (by omega),?_⟩⟩
  ·rw[List.length_eraseIdx_of_lt hr];omega
  ·rw[Ew,hw];rfl
  ·refine hp.perm ?_
   rw[YH,ZA]
   refine List.Perm.append_left _ ?_
   exact Hh hr
  ·intro y wV
   rcases YM.mp wV with h | h
   ·exact hy y h
   ·rw[YZ.mp h];exact⟨Rz,RA⟩
  ·rw[YH,Hi];rfl
 ·rintro δ ⟨qs,ws,o',hq,hw,hp,hy,P',rfl⟩
  refine⟨trivial,?_⟩
  subst hN
  simp? only []
  rw[l6] at hw P'
  refine⟨[o'],rfl,rfl,?_⟩
  refine fin (1 + mm) ws o' ⟨by omega,by omega,by omega,fun y wV => ?_,?_⟩ (by omega) (by omega) (P'.mono (by omega))
  ·have:=hp.ends (pX y) (Yv _ (Yd.mpr ⟨y,wV,rfl⟩))
   have h2:=hy y wV
   simp only[pX] at this
   omega
  ·exact (Zq.mp hp.pQ).1
end LJ
namespace L2
open PySem PySem.Spec PyProof.Rows
variable [aE]
noncomputable def wW:List D->(D->Prop)->Prop
 | [.lst ds],K=>match nG ds with
  | some ps=>(ps.length <= 30/\∀ p∈ps,0 <= p.1/\p.1 < p.2/\p.2 < 12)/\K (.int (fO ps ps.length).length)
  | none=>False
 | _,_=>False
section
variable {X:Cx} {fa:WA}
theorem RB {a:Expr} {p1 p2 q1 q2:Pos} (hc:X.calm=true) (hu:X.A.units + 64 < cLine) (z0:Gl X "len") (hl:X.mg "len" = none) (z4:bootBuiltins "len" = some (.builtin "len")) (pH:Gl X "set") (hr:X.mg "set" = none) (pJ:bootBuiltins "set" = some (.type "set")) (ha:JA X [a] (bL fa))
  (he:starEach [a] X.env=[(false,eval a X.env)]:=by rfl) (z5:starEach [.Call (.Name "set" p2) [a] [] q2] X.env=[(false,eval (.Call (.Name "set" p2) [a] [] q2) X.env)]:=by rfl):JE X (.Call (.Name "len" p1) [.Call (.Name "set" p2) [a] [] q2] [] q1) (tD (dN fa wW)) :=
 (tJ (O8) z0 hl z4 (jV (qD (Q5 hc hu) pH hr pJ ha (he:=he)) aY) (he:=z5)).weak fun σ H Q h0_ => el7 h0_ fun F ad δ K S q k =>⟨F,ad,δ,_,S,q,fun xs δ1 h1 vs F1 aQ H1 E1 S1 V1=>by
  obtain⟨ds,h2,o8⟩:=vY S1 V1 h1
  unfold wW at h2
  split at h2
  ·split at h2
   ·rename_i es ps e
    obtain⟨v,rfl,a,vs,rfl,g1,g2⟩:=dF o8
    rw[G_ e] at g2
    obtain⟨as,rfl,hl,g⟩:=Hc g2
    refine⟨a,as,ps,rfl,bc.of g1,hl,fun i b k' e1 e2=>S1.sub _ _ (g i b k' e1 e2),h2.1.2,h2.1.1,fun p hp=>⟨p,(fO ps ps.length).length,rfl,a9,by have:=h2.1.1;have:=Ai ps ps.length;omega,?_⟩⟩
    have s1:av H1 (upd H1 p (jW p (fO ps ps.length).length)):=cZ hp
    exact k _ _ h2.2 _ _ _ _ (E1.trans (Ext.al S1 s1)) (S1.al s1) rfl
   ·exact h2.elim
  ·exact h2.elim⟩
end
end L2
namespace LJ
open PySem L2
variable [aE]
noncomputable def Hk:D->Bool
 | .int _=>true
 | _=>false
noncomputable def fP:D->Int->Int->Bool
 | .int i,lo,hi=>decide (lo <= i) && decide (i <= hi)
 | _,_,_=>false
noncomputable def mq:D->Int->Bool
 | .tup ds,n=>(ds.length:Int) == n
 | _,_=>false
theorem cK {K:RV->List OV->Prop} {d:D} {sl:List (Option DV)} (h:K (.p d) []):gb 0 K (.p d) ⟨sl,[]⟩:=⟨[],rfl,rfl,h⟩
noncomputable def wX:GD:=fun ys ovs K=>∃ d,ys=[.p d]/\ovs=[]/\K (.p (.bl (Hk d))) []
noncomputable def Az:WS:=(aN (j3 (d1 (aa 0) (gc "int")) (v7 (d1 (aa 0) (gc "bool")))))
theorem Hl:∀ ys ovs K',ys.length=1->wX ys ovs K'->Az (bP ovs.length K') ⟨ys.map some ++ List.replicate 0 none,ovs.map some⟩:=by
 rintro ys ovs K' - ⟨d,rfl,rfl,k⟩
 unfold Az
 simp? only []
 cases d<;>simp only[fL,dz]<;>exact cK k
noncomputable def k9:GD:=fun ys ovs K=>∃ d lo hi,ys=[.p d,.p (.int lo),.p (.int hi)]/\ovs=[]/\K (.p (.bl (fP d lo hi))) []
noncomputable def AA:WS:=(aN (j3 (aj 1 wX (af (aa 0) ag)) (ub (aa 1) (aa 0) (aa 2) (oI fun i j => .bl (decide (i <= j))) (oI fun i j => .bl (decide (i <= j))))))
theorem Hm:∀ ys ovs K',ys.length=3->k9 ys ovs K'->AA (bP ovs.length K') ⟨ys.map some ++ List.replicate 0 none,ovs.map some⟩:=by
 rintro ys ovs K' - ⟨d,lo,hi,rfl,rfl,k⟩
 unfold AA
 simp? only []
 refine⟨d,rfl,rfl,?_⟩
 cases d<;>simp? only [Hk,fP] at k ⊢ <;> first | exact cK k | skip
 rename_i i
 by_cases c:lo <= i
 ·rw[Ya c] at k ⊢
  simp only[q0D] at k
  exact cK k
 ·rw[Yc c] at k ⊢
  simp only[q1H] at k
  exact cK k
noncomputable def wY:GD:=fun ys ovs K=>∃ d n,ys=[.p d,.p (.int n)]/\ovs=[]/\K (.p (.bl (mq d n))) []
noncomputable def AB:WS:=(aN (j3 (d1 (aa 0) (gc "tuple")) (d2 (dN (af (aa 0) ag) eD) (aa 1) oEq)))
theorem RC:∀ ys ovs K',ys.length=2->wY ys ovs K'->AB (bP ovs.length K') ⟨ys.map some ++ List.replicate 0 none,ovs.map some⟩:=by
 rintro ys ovs K' - ⟨d,n,rfl,rfl,k⟩
 unfold AB
 simp? only []
 cases d<;>simp? only [fL,dz,mq,aC] at k ⊢ <;> exact cK k
noncomputable def Hn (m:Int):D->D->Bool
 | .int i,b=>fP b (i + 1) (m - 1)
 | _,_=>false
noncomputable def uA (m:Int) (a b:D):Bool:=fP a 0 (m - 1) && Hn m a b
theorem uB {d:D} {lo hi:Int} (h:fP d lo hi=true):∃ i,d = .int i/\lo <= i/\i <= hi:=by
 cases d with
 | int i =>
  have h:(decide (lo <= i) && decide (i <= hi))=true:=h
  rw[Yg,Ze,Ze] at h
  exact⟨i,rfl,h⟩
 | _=>cases h
noncomputable def AD:GD:=fun ys ovs K=>∃ m a b,ys=[.p (.int m),.p a,.p b]/\ovs=[]/\K (.p (.bl (uA m a b))) []
noncomputable def AE:WS:=(aN (j3 (aj 3 k9 (af (aa 1) (af (dC (.int 0)) (af (d2 (aa 0) (dC (.int 1)) (oI fun i j => .int (i - j))) ag)))) (aj 3 k9 (af (aa 2) (af (d2 (aa 1) (dC (.int 1)) d6) (af (d2 (aa 0) (dC (.int 1)) (oI fun i j => .int (i - j))) ag))))))
theorem RD:∀ ys ovs K',ys.length=3->AD ys ovs K'->AE (bP ovs.length K') ⟨ys.map some ++ List.replicate 0 none,ovs.map some⟩:=by
 rintro ys ovs K' - ⟨m,a,b,rfl,rfl,k⟩
 unfold AE
 simp? only []
 refine⟨a,0,m - 1,rfl,rfl,?_⟩
 simp? only []
 unfold uA at k
 cases q:fP a 0 (m - 1)
 ·rw[q] at k
  exact cK k
 ·rw[q] at k
  obtain⟨i,rfl,_,_⟩:=uB q
  simp? only [q0D,Hn] at k ⊢
  refine⟨b,i + 1,m - 1,rfl,rfl,?_⟩
  simp? only []
  exact cK k
noncomputable def cu (m:Int):D->Bool
 | .tup [a,b,p]=>uA m a b && fP p 0 1000000000
 | _=>false
noncomputable def AF:GD:=fun ys ovs K=>∃ m d,ys=[.p (.int m),.p d]/\ovs=[]/\K (.p (.bl (cu m d))) []
noncomputable def AG:WS:=(au (bx (df (dT (aj 2 wY (af (aa 1) (af (dC (.int 3)) ag))))) (aN (dC (.bl false))) dW) (aN (j3 (aj 3 AD (af (aa 0) (af (d2 (aa 1) (dC (.int 0)) a6) (af (d2 (aa 1) (dC (.int 1)) a6) ag)))) (aj 3 k9 (af (d2 (aa 1) (dC (.int 2)) a6) (af (dC (.int 0)) (af (dC (.int 1000000000)) ag)))))))
theorem RE {m:Int} {d:D} (h:mq d 3=false):cu m d=false:=by
 unfold cu
 split
 ·exact absurd h (by simp[mq])
 ·rfl
theorem AH {d:D} (h:mq d 3=true):∃ a b c,d = .tup [a,b,c]:=by
 cases d with
 | tup ds =>
  have h:((ds.length:Int) == 3)=true:=h
  have h:=Yb h
  match ds,h with
  | [a,b,c],_=>exact⟨a,b,c,rfl⟩
  | [],h=>simp at h
  | [_],h=>simp at h
  | [_,_],h=>simp at h
  | _ :: _ :: _ :: _ :: r,h=>simp at h;omega
 | _=>cases h
theorem AI {d:D} (h:mq d 2=true):∃ a b,d = .tup [a,b]:=by
 cases d with
 | tup ds =>
  have h:((ds.length:Int) == 2)=true:=h
  have h:=Yb h
  match ds,h with
  | [a,b],_=>exact⟨a,b,rfl⟩
  | [],h=>simp at h
  | [_],h=>simp at h
  | _ :: _ :: _ :: r,h=>simp at h;omega
 | _=>cases h
theorem RF:∀ ys ovs K',ys.length=2->AF ys ovs K'->AG (bP ovs.length K') ⟨ys.map some ++ List.replicate 0 none,ovs.map some⟩:=by
 rintro ys ovs K' - ⟨m,d,rfl,rfl,k⟩
 unfold AG
 refine bw fun N hN => ?_
 simp? only []
 refine⟨d,3,rfl,rfl,?_⟩
 simp? only []
 cases q:mq d 3
 ·rw[RE q] at k
  simp only[q1K,ZL]
  exact cK k
 ·simp only[Zu,Ye,YY]
  subst hN
  obtain⟨a,b,c,rfl⟩:=AH q
  simp? only [eU,iC,at2]
  refine⟨m,a,b,rfl,rfl,?_⟩
  simp? only [cu] at k ⊢
  cases q2:uA m a b
  ·rw[q2] at k
   exact cK k
  ·rw[q2] at k
   refine⟨c,0,1000000000,rfl,rfl,?_⟩
   simp? only [q0D] at k ⊢
   exact cK k
noncomputable def pairOf:D->Int × Int
 | .tup [.int i,.int j,_]=>(i,j)
 | _=>(0,0)
theorem Ho {m:Int} {d:D} (h:cu m d=true):∃ i j p,d = .tup [.int i,.int j,.int p]/\0 <= i/\i < j/\j < m/\0 <= p/\p <= 1000000000:=by
 unfold cu at h
 split at h
 ·rename_i a b p
  rw[Yg] at h
  obtain⟨h1,h2⟩:=h
  unfold uA at h1
  rw[Yg] at h1
  obtain⟨i,rfl,i0,i1⟩:=uB h1.1
  have h3:fP b (i + 1) (m - 1)=true:=h1.2
  obtain⟨j,rfl,j0,j1⟩:=uB h3
  obtain⟨p',rfl,p0,p1⟩:=uB h2
  exact⟨i,j,p',rfl,i0,by omega,by omega,p0,p1⟩
 ·cases h
noncomputable def pZ (m:Int):D->Bool
 | .tup ws=>decide (ws.length <= 30) && (ws.all (cu m) && decide ((ws.map pairOf).Nodup))
 | _=>false
noncomputable def AJ:GD:=fun ys ovs K=>∃ m d,ys=[.p (.int m),.p d]/\ovs=[]/\m <= 12/\K (.p (.bl (pZ m d))) []
noncomputable def AK:WS:=(au (bx (ni (df (dT (d1 (aa 1) (gc "tuple")))) (dT (d2 (dN (af (aa 1) ag) eD) (dC (.int 30)) (oI fun i j => .bl (decide (j < i)))))) (aN (dC (.bl false))) dW) (au (bx (df (dT (dN (af (iA (cJ (aa 1)) [none,some 0] (cf 0) gM (aj 2 AF (af (aa 1) (af (aa 0) ag)))) ag) l8))) (aN (dC (.bl false))) dW) (aN (d2 (dN (af (iA (cJ (aa 1)) [none] (cf 0) gM (pV (aa 0) pF (zW (dC (.int 2))))) ag) wW) (dN (af (aa 1) ag) eD) oEq))))
theorem RG:∀ ys ovs K',ys.length=2->AJ ys ovs K'->AK (bP ovs.length K') ⟨ys.map some ++ List.replicate 0 none,ovs.map some⟩:=by
 rintro ys ovs K' - ⟨m,d,rfl,rfl,hm,k⟩
 unfold AK
 refine bw fun N hN => ?_
 by_cases ht:∃ ws,d = .tup ws
 ·obtain⟨ws,rfl⟩:=ht
  simp? only [fL,show dz "tuple" "tuple" = true from rfl]
  by_cases Hq:(30:Int) < ws.length
  ·rw[Xp (Ya Hq)]
   have:pZ m (.tup ws)=false:=by
    show (decide (ws.length <= 30) && _)=false
    rw[Yc (by omega)];rfl
   rw[this] at k
   exact cK k
  ·rw[Xm (by rw[Yc Hq];decide)]
   subst hN
   have uC:ws.length <= 30:=by omega
   refine bw fun N hN => ?_
   simp? only []
   refine uh (fun d => .bl (cu m d)) (by omega) trivial ?_ ?_
   ·intro d hd acc L ha h
    simp? only []
    refine⟨m,d,rfl,rfl,?_⟩
    simp? only []
    exact⟨ha,h⟩
   ·have e:pG (ws.map fun d=>D.bl (cu m d))=some (ws.map (cu m)):=by
     have:=Gk (ws.map (cu m))
     rw[YL] at this
     exact this
    simp? only [e]
    have ea:(ws.map (cu m)).all id=ws.all (cu m):=by rw[List.all_map];rfl
    rw[ea]
    cases q:ws.all (cu m)
    ·have:pZ m (.tup ws)=false:=by
      show (decide (ws.length <= 30) && (ws.all (cu m) && _))=false
      rw[q];simp
     rw[this] at k
     exact cK k
    ·simp only[Zu,Ye,YY]
     subst hN
     have hw:∀ w∈ws,cu m w=true:=Yr.mp q
     simp? only []
     refine uh (fun d => .tup [.int (pairOf d).1,.int (pairOf d).2]) (by omega) trivial ?_ ?_
     ·intro d hd acc L ha h
      obtain⟨i,j,p,rfl,_⟩:=Ho (hw d hd)
      have ec:cutD [D.int i,D.int j,D.int p] none (some 2)=[D.int i,D.int j]:=by
       unfold cutD;rfl
      simp? only [ec]
      exact⟨ha,h⟩
     ·have ep:nG (ws.map fun d=>D.tup [.int (pairOf d).1,.int (pairOf d).2])=some (ws.map pairOf):=by
       have:=Ha (ws.map pairOf)
       rw[YL] at this
       exact this
      have kk:pZ m (.tup ws)=decide ((ws.map pairOf).Nodup):=by
       show (decide (ws.length <= 30) && (ws.all (cu m) && _))=_
       rw[q,Ya uC];rfl
      rw[kk] at k
      simp? only [wW,ep,aC]
      refine⟨⟨uC,fun p hp => ?_⟩,cK ?_⟩
      ·obtain⟨w,RH,rfl⟩:=Yd.mp hp
       obtain⟨i,j,p,rfl,a1,a2,a3,_⟩:=Ho (hw w RH)
       exact⟨a1,a2,by show j < 12;omega⟩
      ·have:(((fO (ws.map pairOf) ws.length).length:Int) == (ws.length:Int))=decide ((ws.map pairOf).Nodup):=by
        by_cases c:(ws.map pairOf).Nodup
        ·have e2:=Hb c (ws.map pairOf).length (sG _)
         rw[qy] at e2
         rw[Ya c,e2,Yp,qy,Nat.min_self]
         simp
        ·rw[Yc c]
         refine beq_false_of_ne fun z=>c (Q4 ?_)
         rw[qy];omega
       rw[this];exact k
 ·have:pZ m d=false:=by
   cases d with
   | tup ws=>exact absurd ⟨ws,rfl⟩ ht
   | _=>rfl
  rw[this] at k
  cases d with
  | tup ws=>exact absurd ⟨ws,rfl⟩ ht
  | _=>simp? only [fL];exact cK k
noncomputable def gP:D->Bool
 | .tup [m,ws]=>fP m 1 12 && (match m with
  | .int i=>pZ i ws
  | _=>false)
 | _=>false
noncomputable def wZ:GD:=fun ys ovs K=>∃ d,ys=[.p d]/\ovs=[]/\K (.p (.bl (gP d))) []
noncomputable def AL:WS:=(au (bx (df (dT (aj 2 wY (af (aa 0) (af (dC (.int 2)) ag))))) (aN (dC (.bl false))) dW) (aN (j3 (aj 3 k9 (af (d2 (aa 0) (dC (.int 0)) a6) (af (dC (.int 1)) (af (dC (.int 12)) ag)))) (aj 2 AJ (af (d2 (aa 0) (dC (.int 0)) a6) (af (d2 (aa 0) (dC (.int 1)) a6) ag))))))
theorem RI:∀ ys ovs K',ys.length=1->wZ ys ovs K'->AL (bP ovs.length K') ⟨ys.map some ++ List.replicate 0 none,ovs.map some⟩:=by
 rintro ys ovs K' - ⟨d,rfl,rfl,k⟩
 unfold AL
 refine bw fun N hN => ?_
 simp? only []
 refine⟨d,2,rfl,rfl,?_⟩
 simp? only []
 cases q:mq d 2
 ·have:gP d=false:=by
   unfold gP
   split
   ·exact absurd q (by simp[mq])
   ·rfl
  rw[this] at k
  simp only[q1K,ZL]
  exact cK k
 ·simp only[Zu,Ye,YY]
  subst hN
  obtain⟨a,b,rfl⟩:=AI q
  simp? only [eU,iC]
  refine⟨a,1,12,rfl,rfl,?_⟩
  simp? only [gP] at k ⊢
  cases q2:fP a 1 12
  ·rw[q2] at k
   exact cK k
  ·rw[q2] at k
   obtain⟨i,rfl,_,hi⟩:=uB q2
   refine⟨i,b,rfl,rfl,hi,?_⟩
   simp? only [q0D] at k ⊢
   exact cK k
noncomputable def AM:GD:=wX
noncomputable def Hr:WS:=(aN (j3 (d1 (aa 0) (gc "int")) (v7 (d1 (aa 0) (gc "bool")))))
theorem RJ:∀ ys ovs K',ys.length=1->AM ys ovs K'->Hr (bP ovs.length K') ⟨ys.map some ++ List.replicate 0 none,ovs.map some⟩:=Hl
noncomputable def w4:GD:=k9
noncomputable def Hs:WS:=(aN (j3 (aj 1 AM (af (aa 0) ag)) (ub (aa 1) (aa 0) (aa 2) (oI fun i j => .bl (decide (i <= j))) (oI fun i j => .bl (decide (i <= j))))))
theorem RK:∀ ys ovs K',ys.length=3->w4 ys ovs K'->Hs (bP ovs.length K') ⟨ys.map some ++ List.replicate 0 none,ovs.map some⟩:=Hm
noncomputable def b7 (ns:List Int):D := .lst (ns.map D.int)
noncomputable def jn (fs:List Int) (i j:Nat):List Int:=fs.map fun x=>if x=max (fs.getD i 0) (fs.getD j 0) then min (fs.getD i 0) (fs.getD j 0) else x
theorem Ht (fs:List Int) (i j:Nat):(jn fs i j).length=fs.length:=by unfold jn;rw[qy]
theorem p8 {ns:List Int} {i:Nat} (h:i < ns.length):d_ (ns.map D.int) (i:Int)=some (.int (ns.getD i 0)):=by
 refine jO ?_
 rw[Ni,oO h,Et,oO h];rfl
theorem bq {K:RV->List OV->Prop} {d:D} {sl:List (Option DV)} {mu:List (Option OV)} (h:K (.p d) []):gb 0 K (.p d) ⟨sl,mu⟩:=⟨[],rfl,rfl,h⟩
noncomputable def uD:GD:=fun ys ovs K=>∃ (fs:List Int) (i j:Nat),ys=[.p (b7 fs),.p (.int i),.p (.int j)]/\ovs=[]/\i < fs.length/\j < fs.length/\fs.length <= 12/\K (.p (b7 (jn fs i j))) []
noncomputable def AN:WS:=(au (aO 3 (dN (af (d2 (aa 0) (aa 1) a6) (af (d2 (aa 0) (aa 2) a6) ag)) wD)) (au (aO 4 (dN (af (d2 (aa 0) (aa 1) a6) (af (d2 (aa 0) (aa 2) a6) ag)) uc)) (aN (iA (cJ (aa 0)) [none,some 4,some 3] (cf 0) gM (zw (dT (d2 (aa 0) (aa 2) oEq)) (aa 1) (aa 0))))))
theorem RL:∀ ys ovs K',ys.length=3->uD ys ovs K'->AN (bP ovs.length K') ⟨ys.map some ++ List.replicate 2 none,ovs.map some⟩:=by
 rintro ys ovs K' - ⟨fs,i,j,rfl,rfl,hi,hj,Rv,k⟩
 have a1:=p8 hi
 have a2:=p8 hj
 unfold AN b7
 refine bw fun N hN => ?_
 simp? only [a1,a2]
 subst hN
 refine bw fun N hN => ?_
 simp? only [a1,a2]
 subst hN
 simp? only []
 refine uh (fun d=>match d with
  | .int x => .int (if x=max (fs.getD i 0) (fs.getD j 0) then min (fs.getD i 0) (fs.getD j 0) else x)
  | _ => .non) (by rw[qy];omega) trivial ?_ ?_
 ·intro d hd acc L ha h
  obtain⟨x,_,rfl⟩:=Yd.mp hd
  simp? only []
  cases q:aC (.int x) (.int (max (fs.getD i 0) (fs.getD j 0)))
  ·have:¬ x=max (fs.getD i 0) (fs.getD j 0):=fun z=>by rw[z,nu] at q;cases q
   simp only[this,YY] at h
   exact⟨ha,h⟩
  ·have:x=max (fs.getD i 0) (fs.getD j 0):=by simp only[aC] at q;exact Yb q
   simp only[this,ZL] at h
   exact⟨ha,h⟩
 ·refine bq ?_
  have e:(fs.map D.int).map (fun d=>match d with
   | .int x=>D.int (if x=max (fs.getD i 0) (fs.getD j 0) then min (fs.getD i 0) (fs.getD j 0) else x)
   | _ => .non)=(jn fs i j).map D.int:=by
   unfold jn
   rw[YL,YL];rfl
  rw[e]
  exact k
noncomputable def cC (ws:List (Int × Int × Int)) (n:Int):Nat × Nat:=((ws.getD n.toNat (0,0,0)).1.toNat,(ws.getD n.toNat (0,0,0)).2.1.toNat)
noncomputable def jo (ws:List (Int × Int × Int)) (fs:List Int) (ns:List Int):List Int:=ns.foldl (fun fs n=>jn fs (cC ws n).1 (cC ws n).2) fs
theorem Hu (ws:List (Int × Int × Int)):∀ (ns:List Int) (fs:List Int),(jo ws fs ns).length=fs.length
 | [],fs=>rfl
 | n :: r,fs=>by
  show (jo ws (jn fs _ _) r).length=_
  rw[Hu ws r,Ht]
noncomputable def rm (m:Int) (ws:List (Int × Int × Int)) (ns:List Int):List Int:=jo ws (a_ m.toNat) ns
noncomputable def Nums (ws:List (Int × Int × Int)) (ns:List Int):Prop:=∀ n∈ns,0 <= n/\n < (ws.length:Int)
theorem p9 {m:Int} {ws:List (Int × Int × Int)} (W:cb m ws) {n:Int} (h0:0 <= n) (h1:n < (ws.length:Int)):∃ y,ws.getD n.toNat (0,0,0)=y/\y∈ws/\d_ (ws.map bQ) n=some (bQ y)/\∃ i j:Nat,y.1=i/\y.2.1=j/\i < m.toNat/\j < m.toNat/\i < j:=by
 obtain⟨k,rfl⟩:∃ k:Nat,n=k:=⟨n.toNat,by omega⟩
 have hk:k < ws.length:=by omega
 refine⟨ws[k],?_,Y6 hk,jO ?_,?_⟩
 ·rw[Yj,Et,oO hk];rfl
 ·rw[Ni,oO hk];rfl
 ·obtain⟨a,b,c,_,_⟩:=W.ends _ (Y6 hk)
  exact⟨ws[k].1.toNat,ws[k].2.1.toNat,by omega,by omega,by omega,by omega,by omega⟩
noncomputable def uE:GD:=fun ys ovs K=>∃ (m:Int) (ws:List (Int × Int × Int)) (ns:List Int),cb m ws/\Nums ws ns/\((ys=[.p (aV m ws),.p (b7 ns)]/\ovs=[]/\K (.p (b7 (rm m ws ns))) [])\/(ys=[.p (aV m ws),.o 0]/\ovs=[.lst (ns.map D.int)]/\K (.p (b7 (rm m ws ns))) [.lst (ns.map D.int)]))
noncomputable def w5:WS:=(au (aO 2 (zZ (af (d2 (aa 0) (dC (.int 0)) a6) ag))) (au (eC (cJ (aa 1)) (cf 3) (au (aO 4 (d2 (d2 (aa 0) (dC (.int 1)) a6) (aa 3) a6)) (aO 2 (aj 3 uD (af (aa 2) (af (d2 (aa 4) (dC (.int 0)) a6) (af (d2 (aa 4) (dC (.int 1)) a6) ag))))))) (aN (aa 2))))
theorem RM:∀ ys ovs K',ys.length=2->uE ys ovs K'->w5 (bP ovs.length K') ⟨ys.map some ++ List.replicate 3 none,ovs.map some⟩:=by
 rintro ys ovs K' - ⟨m,ws,ns,W,hn,h⟩
 have m1:=W.m1
 have jB:=W.jB
 have il:(a_ m.toNat).length=m.toNat:=by unfold a_;simp
 have core:∀ (x:DV) (mu:List (Option OV)) (bA:ay->Prop) (K:KS),(∀ sl,bA ⟨sl,mu⟩)->(∀ fs,fs=rm m ws ns->K.nx ⟨[some (.p (aV m ws)),some x,some (.p (b7 fs)),none,none],mu⟩)->(∀ k,x = .o k->k < mu.length) →
   j5 ⟨[some (.p (aV m ws)),some x,some (.p (b7 (a_ m.toNat))),none,none],mu⟩ bA (cf 3) (au (aO 4 (d2 (d2 (aa 0) (dC (.int 1)) a6) (aa 3) a6)) (aO 2 (aj 3 uD (af (aa 2) (af (d2 (aa 4) (dC (.int 0)) a6) (af (d2 (aa 4) (dC (.int 1)) a6) ag)))))) K (ns.map D.int) ⟨[some (.p (aV m ws)),some x,some (.p (b7 (a_ m.toNat))),none,none],mu⟩:=by
  intro x mu bA K hc hK hx
  refine me (fun i δ => δ = ⟨[some (.p (aV m ws)),some x,some (.p (b7 (jo ws (a_ m.toNat) (ns.take i)))),none,none],mu⟩) rfl ?_ ?_
  ·rintro j d δ L hj rfl hL
   rw[Ni] at hj
   obtain⟨n,Hv,rfl⟩:=Xo.mp hj
   obtain⟨n0,n1⟩:=hn n (Yn Hv)
   obtain⟨y,ey,hy,ea,i,k,e1,e2,h1,h2,_⟩:=p9 W n0 n1
   refine⟨hc _,?_⟩
   simp only[cf,YA,YB]
   refine bw fun N hN => ?_
   simp? only [iC,aV,ea]
   subst hN
   simp? only [eU,iC,bQ]
   have hlen:(jo ws (a_ m.toNat) (ns.take j)).length=m.toNat:=by rw[Hu,il]
   refine⟨jo ws (a_ m.toNat) (ns.take j),i,k,by rw[e1,e2],rfl,by omega,by omega,by omega,?_⟩
   have ej:jn (jo ws (a_ m.toNat) (ns.take j)) i k=jo ws (a_ m.toNat) (ns.take (j + 1)):=by
    have:ns.take (j + 1)=ns.take j ++ [n]:=by rw[Z4,Hv];rfl
    rw[this]
    unfold jo
    rw[q0_]
    show _=jn _ (cC ws n).1 (cC ws n).2
    have:cC ws n=(i,k):=by
     unfold cC
     rw[ey,e1,e2,Yj,Yj]
    rw[this]
   rw[ej]
   have eq:(ay.trim ⟨[some (.p (aV m ws)),some x,some (.p (b7 (a_ m.toNat))),none,none],mu⟩ ⟨[some (.p (aV m ws)),some x,some (.p (b7 (jo ws (a_ m.toNat) (ns.take (j + 1))))),some (.p (.int n)),some (.p (bQ y))],mu⟩)=⟨[some (.p (aV m ws)),some x,some (.p (b7 (jo ws (a_ m.toNat) (ns.take (j + 1))))),none,none],mu⟩:=by
    unfold ay.trim
    rw[List.take_length]
    cases x with
    | p d=>rfl
    | o q =>
     have:=hx q rfl
     simp only[fg,wb,this,ZL]
   have:=hL _ rfl
   rw[<-eq] at this
   exact this
  ·rintro δ rfl
   rw[qy,Yz (sG _)]
   exact⟨hc _,hK _ rfl⟩
 have rg:cn 0 m.toNat=(a_ m.toNat).map D.int:=wF m.toNat
 rcases h with⟨rfl,rfl,k⟩ | ⟨rfl,rfl,k⟩
 ·unfold w5
  refine bw fun N hN => ?_
  simp? only [eU,aV]
  refine⟨⟨by omega,by omega⟩,?_⟩
  subst hN
  rw[rg]
  refine bw fun N hN=>pW fun g' b' K2 hg hb' hK => ?_
  simp? only [b7]
  subst hg hb' hK
  refine core (.p (b7 ns)) [] _ _ (fun _=>trivial) (fun fs e => ?_) (fun k z=>by cases z)
  subst e
  show N _
  subst hN
  simp? only []
  exact bq k
 ·unfold w5
  refine bw fun N hN => ?_
  simp? only [eU,aV]
  refine⟨⟨by omega,by omega⟩,?_⟩
  subst hN
  rw[rg]
  refine bw fun N hN=>pW fun g' b' K2 hg hb' hK => ?_
  simp? only []
  subst hg hb' hK
  refine core (.o 0) [some (.lst (ns.map D.int))] _ _ (fun _=>rfl) (fun fs e => ?_) (fun k z=>by cases z;exact Nat.zero_lt_one)
  subst e
  show N _
  subst hN
  simp? only []
  exact⟨[.lst (ns.map D.int)],rfl,rfl,k⟩
theorem Hw {n:Nat} {z:Int} (h:z∈a_ n):0 <= z/\z < (n:Int):=by
 unfold a_ at h
 obtain⟨i,hi,rfl⟩:=Yd.mp h
 have:=Ym.mp hi
 simp;omega
theorem Hx (n:Nat):(a_ n).Nodup:=by
 unfold a_
 refine ZX.mpr (q0w.imp fun {a b} ne e=>ne ?_)
 exact q1g e
theorem rp {H:Hp} {a:Addr} {o:HO} (h:H a=none):av H (upd H a o):=fun b u e=>by rw[aA (bK e h)];exact e
structure w6 (H:Hp) (p c:Addr) (at_ z:Int):Prop where
 lst:H p=some (.lst [.ref c,.int at_,.int z])
 cells:∃ ns:List Int,H c=some (.lst (ns.map V.int))/\ns.length <= 63
 pos:0 <= at_
theorem w6.ne {H:Hp} {p c:Addr} {k z:Int} (P:w6 H p c k z):c≠p:=by
 obtain⟨ns,h,_⟩:=P.cells
 intro e
 subst e
 rw[P.lst] at h
 have h':=Yi h
 injection h' with qG
 cases ns with
 | nil=>cases qG
 | cons n r=>injection qG with h1 _;cases h1
theorem RN {ns:List Int} {k:Int} (h0:0 <= k) (h1:k < (ns.length:Int)):∃ n,d_ (ns.map V.int) k=some (.int n):=by
 obtain⟨i,rfl⟩:∃ i:Nat,k=i:=⟨k.toNat,by omega⟩
 have hi:i < ns.length:=by omega
 refine⟨ns[i],jO ?_⟩
 rw[Ni,oO hi];rfl
noncomputable def Hy (K:PySem.W.Frag):Sp:=fun vs H Q _=>∃ (a:Addr) (ns:List Int),vs=[.ref a]/\bc K H a (ns.map V.int)/\ns.length <= 63/\∀ (p c:Addr) (H':Hp),av H H'->H p=none->w6 H' p c 0 0->Q (.ref p) H'
noncomputable def w9 (K:PySem.W.Frag):Sp:=fun vs H Q _=>∃ (a:Addr) (ns:List Int),vs=[.ref a]/\bc K H a (ns.map V.int)/\ns.length <= 63/\aE.ok H/\∀ H',Q (.bl true) H'
theorem AO (ns:List Int) (lo hi:Option Int):cI (ns.map V.int) lo hi=((ns.drop (HT.aX ns.length 0 lo)).take (HT.aX ns.length ns.length hi - HT.aX ns.length 0 lo)).map V.int:=by
 unfold cI
 rw[qy,List.map_take,List.map_drop]
theorem RO {H:Hp} {p c a:Addr} {n:Nat} (hT:aE.ok H) (N:w6 H p c 0 0):∃ (F:Hp) (ns:List Int),ns.length <= 63/\SR F [p] ⟨none :: some (.o 0) :: List.replicate n none,[some (.lst [.lst (ns.map D.int),.int 0,.int 0])]⟩ (some (.ref a) :: some (.ref p) :: List.replicate n none) H:=by
 obtain⟨ns,hc,hn⟩:=N.cells
 have ne:=N.ne
 refine⟨upd (fun _=>none) c (.lst (ns.map V.int)),ns,hn,⟨fun b o e => ?_,fun b ⟨k,ov,e1,e2⟩ => ?_,rfl,fun k l a ov ow e1 e2 _ _ => ?_,fun k ov e => ?_,fun i x e => ?_,by simp,hT,fun b hb=>by
  obtain⟨ps,q⟩:=aE.tb hT hb
  rw[aA fun z=>by subst z;rw[hc] at q;cases q]⟩⟩
 ·by_cases z:b=c
  ·subst z;rw[a9] at e;cases e;exact hc
  ·rw[aA z] at e;cases e
 ·cases k with
  | zero=>cases (show some p=some b by simpa using e1);rw[aA (Zn ne)]
  | succ k=>simp at e1
 ·cases k with
  | zero =>
   cases l with
   | zero=>rfl
   | succ l=>simp at e2
  | succ k=>simp at e1
 ·cases k with
  | zero =>
   cases (show OV.lst [.lst (ns.map D.int),.int 0,.int 0]=ov by simpa using e)
   refine⟨p,_,rfl,N.lst,_,rfl,?_⟩
   refine .cons ?_ (.cons rfl (.cons rfl .nil))
   simp only[Is]
   exact⟨c,_,rfl,a9,t8⟩
  | succ k=>simp at e
 ·cases i with
  | zero=>simp at e
  | succ i =>
   cases i with
   | zero =>
    cases (show DV.o 0=x by simpa using e)
    exact⟨_,rfl,p,rfl,rfl⟩
   | succ i =>
    exfalso
    have e:(List.replicate n (none:Option DV))[i]? = some (some x):=by simpa using e
    rw[ZG] at e
    split at e<;>cases e
theorem RP {B:WS} {F:Hp} {ad:List Addr} {δ : ay} {σ : St} {H:Hp} {Q:VK} (S:SR F ad δ σ H) (h:B ⟨fun _=>False,fun x _=>x = .p (.bl true),fun _=>False,fun _=>False⟩ δ) (q:∀ H',Q (.bl true) H'):cM B { nx:=fun _ H'=>Q .non H',rt:=Q } σ H :=
 ⟨F,ad,δ,_,S,h,⟨fun δ' h=>h.elim,fun δ' h=>h.elim,fun δ' h=>h.elim,fun x δ' h v F' az σ' H' E' S' V=>by
  have h:x = .p (.bl true):=h
  subst h
  have V:v = .bl true:=V
  subst V
  exact q H',trivial⟩⟩
end LJ
namespace L2
open PySem PySem.Spec PyProof.Rows
noncomputable def AQ (Ts:List (Addr × Array Value)) (H:Hp):Prop:=∀ b,(∃ ps,Ts.lookup b=some ps/\H b=some (.tbl ps))\/(Ts.lookup b=none/\(H b=none\/∃ o xs,H b=some (.frz o (.lst xs))))
theorem RQ {P:Program} {w:World} {K:PySem.W.Frag} {mg mb:Str->Option Value} {CX:iO} {k:Nat} {fa a:Addr} {fd:FuncData} {x:Str} {sp:Sp} {s₁ : Shared} {vs:List Value} {ns:List Int} (Ts:List (Addr × Array Value))
  (hT:∀ b ps,Ts.lookup b=some ps->s₁.heap.get? b=some { cls := .none,data := .fields ps }/\isCodeTable s₁.heap b/\K.lookup b=none)
  (KX:K.In s₁.heap) (uF:s₁.heap.Ns mainGlobals mg) (hb:s₁.heap.Ns builtinsNs mb) (RR:∀ x:Str,x ≠ "__name__" -> mb x=bootBuiltins x) (AR:s₁.heap.NoLimit) (hg:s₁.gens = #[])
  (ha:s₁.heap.get? a=some { cls := .type "list",data := .seq vs.toArray }) (hi:IntsAre vs ns) (hl:ns.length <= sizeLine) (hr:aS k callerA)
  (hB:∃ bm ob,mg "__builtins__" = some (.ref bm)/\bm≠builtinsNs/\s₁.heap.get? bm=some ob/\ob.cls = .type "module" /\ ob.dict=some builtinsNs/\ob.data = .plain)
  (F:∀ base:Heap,K.In base->base.Ns mainGlobals mg->(∀ b ps,Ts.lookup b=some ps->base.BuiltinsAt mg b)->bE P w K mg base CX k fa fd [x] sp) (uG:∀ (s:Shared) (u:Value),BindsTo s fd ⟨[u],[]⟩ [(x,u)])
  (kP:∀ H:Hp,AQ Ts H->bc K H a (ns.map V.int)->sp [.ref a] H (fun v _=>v = .bl true) fun _ _ _=>False)
  (AS:∀ H e s',CX [] H s₁ (fun _ _ _=>False) e s'->False) :
  codeAny (model P w) callerA (.call (.ref fa) ⟨[.ref a],[]⟩) (fun r s'=>r = .ok (.ret (.bool true))/\OldK s₁.heap s'.heap/\s'.os=s₁.os/\AllBare s'.gens) s₁ := by
 have rv:=Es hi
 have AU:=hi.length
 have aT:Ts.lookup a=none:=by
  cases q:Ts.lookup a with
  | none=>rfl
  | some ps =>
   have:=(hT a ps q).1
   rw[ha] at this
   have z:=congrArg Obj.cls (Yi this)
   cases (show Value.type "list" = Value.none from z)
 have core:∀ H:Hp,AQ Ts H->bc K H a (ns.map V.int)->cV P w H s₁.heap->(∀ b,Ts.lookup b=none->H b≠none->b=a)->(H a≠none->K.lookup a=none) →
   codeAny (model P w) callerA (.call (.ref fa) ⟨[.ref a],[]⟩) (fun r s'=>r = .ok (.ret (.bool true))/\OldK s₁.heap s'.heap/\s'.os=s₁.os/\AllBare s'.gens) s₁ := by
  intro H hO hS aM hA hK
  have gi:∀ {b:Addr} {o:Obj},s₁.heap.get? b=some o->H b=none->(eZ s₁.heap H).get? b=some o:=fun e n=>Lg e n
  have lD:∀ {b:Addr} {o:Obj} {es:Array DictEntry} {ep:Nat},s₁.heap.get? b=some o->o.data = .dict es ep->H b=none:=fun {b o es ep} e d=>by
   cases q:H b with
   | none=>rfl
   | some u =>
    cases t:Ts.lookup b with
    | some ps =>
     have:=(hT b ps t).1
     rw[e] at this;cases this
     cases d
    | none =>
     have e':b=a:=hA b t (by rw[q];simp)
     subst e'
     rw[ha] at e;cases e
     have d':Data.seq vs.toArray _=Data.dict es ep:=d
     cases d'
  have w_:∀ {b:Addr} {m:Str->Option Value},s₁.heap.Ns b m->(eZ s₁.heap H).Ns b m:=fun {b m} ⟨o,es,ep,e,d,r⟩=>⟨o,es,ep,gi e (lD e d),d,r⟩
  have Hz:K.In (eZ s₁.heap H):=fun b o e=>gi (KX b o e) (by
   cases q:H b with
   | none=>rfl
   | some u =>
    cases t:Ts.lookup b with
    | some ps=>rw[(hT b ps t).2.2] at e;cases e
    | none =>
     have e':b=a:=hA b t (by rw[q];simp)
     subst e'
     rw[hK (by rw[q];simp)] at e;cases e)
  have RS:∀ b ps,Ts.lookup b=some ps->(eZ s₁.heap H).BuiltinsAt mg b:=fun b ps t=>by
   obtain⟨bm,ob,b1,b2,b3,b4,b5,b6⟩:=hB
   refine⟨bm,ob,b1,b2,fun z => ?_,fun z => ?_,gi b3 ?_,b4,b5,b6⟩
   ·obtain⟨o,es,ep,e1,e2,_⟩:=uF
    rw[z,e1] at b3;cases b3
    rw[e2] at b6;cases b6
   ·have:=(hT b ps t).1
    rw[z,this] at b3;cases b3
    cases b6
   ·cases q:H bm with
    | none=>rfl
    | some u =>
     cases t':Ts.lookup bm with
     | some RT =>
      have:=(hT bm RT t').1
      rw[b3] at this;cases this
      cases b6
     | none =>
      have e':bm=a:=hA bm t' (by rw[q];simp)
      rw[e',ha] at b3;cases b3
      cases b6
  have hM:Mod K mg (eZ s₁.heap H):=⟨Hz,w_ uF,⟨mb,w_ hb,RR⟩,let ⟨mc,h1,h2⟩:=AR; ⟨mc,w_ h1,h2⟩⟩
  have e0:ip P w K mg (eZ s₁.heap H) callerA [] s₁ H:=⟨rfl,hM,fun b o e=>Lh e,Nat.le_of_eq (Lf _ _),trivial,fun b hb=>absurd (show b∈([]:List Addr) from hb) (by simp),aM,.of_eq hg⟩
  refine q0o ((F _ Hz (w_ uF) RS).run callerA [] s₁ H ⟨[.ref a],[]⟩ [.ref a] [.ref a] _ _ hr e0 (uG s₁ (.ref a)) (.cons rfl .nil) (kP H hO hS)) fun r s' h => ?_
  cases r with
  | error e=>exact (AS H e s' h).elim
  | ok fl =>
   cases fl with
   | next=>exact False.elim h
   | brk=>exact False.elim h
   | cont=>exact False.elim h
   | ret u =>
    obtain⟨v,H',os,bare,un,uH,r',q⟩:=h
    have q':v = .bl true:=q
    subst q'
    obtain rfl:u=Value.bool true:=r'
    have all:∀ b o,s₁.heap.get? b=some o->asItWas s₁.heap s'.heap b o/\∃ o',s'.heap.get? b=some o':=fun b o e=>by
     rcases hO b with⟨ps,t,z⟩ | ⟨t,z | ⟨ob,xs,z⟩⟩
     ·obtain⟨more,z2⟩:=un.cY b ps z
      have e2:s'.heap.get? b=some { cls := .none,data := .fields (ps ++ more) }:=uH b _ z2
      have e1:=(hT b ps t).1
      rw[e] at e1;cases e1
      exact⟨.inr (.inl ⟨(hT b ps t).2.1,rfl,ps,more,rfl,e2⟩),_,e2⟩
     ·have e2:=un.keep b o e z (by intro z;exact absurd (show b∈([]:List Addr) from z) (by simp)) (by simp)
      exact⟨.inl e2,_,e2⟩
     ·have z2:=un.cO b ob _ z
      obtain⟨e1,_⟩:=aM b _ z
      obtain⟨e2,_⟩:=uH b _ z2
      rw[e] at e1;cases e1
      exact⟨.inl e2,_,e2⟩
    exact⟨rfl,⟨fun b o e=>(all b o e).1,fun b o e=>(all b o e).2⟩,os,bare⟩
 have nH:∀ (H:Hp) b ps,Ts.lookup b=some ps->aK P w H s₁.heap b (.tbl ps):=fun H b ps t=>(hT b ps t).1
 cases hk:K.lookup a with
 | some o =>
  have e:=KX a o hk
  rw[ha] at e
  cases e
  have hv:∀ b,(fun b=>(Ts.lookup b).map HO.tbl:Hp) b=(Ts.lookup b).map HO.tbl:=fun _=>rfl
  refine core (fun b=>(Ts.lookup b).map HO.tbl) (fun b => ?_) (.inr ⟨_,vs.toArray,_,hk,rfl,rfl,rfl,by rw[yG,AU];exact hl,by simpa using rv⟩) (fun b u z => ?_) (fun b t z => ?_) fun z => ?_
  ·cases t:Ts.lookup b with
   | some ps=>exact .inl ⟨ps,rfl,by show (Ts.lookup b).map HO.tbl=_;rw[t];rfl⟩
   | none=>exact .inr ⟨rfl,.inl (by show (Ts.lookup b).map HO.tbl=_;rw[t];rfl)⟩
  ·obtain⟨ps,t,rfl⟩:=Xo.mp (show (Ts.lookup b).map HO.tbl=some u from z)
   exact nH _ b ps t
  ·exact absurd (show (Ts.lookup b).map HO.tbl=none by rw[t];rfl) z
  ·exact absurd (show (Ts.lookup a).map HO.tbl=none by rw[aT];rfl) z
 | none =>
  refine core (fun b=>if b=a then some (.frz { cls := .type "list",data := .seq vs.toArray } (.lst (ns.map V.int))) else (Ts.lookup b).map HO.tbl) (fun b => ?_) (.inl (.inr ⟨{ cls := .type "list",data := .seq vs.toArray },Xp rfl⟩)) (fun b u z => ?_) (fun b t z => ?_) fun _=>hk
  ·by_cases hb:b=a
   ·subst hb
    exact .inr ⟨aT,.inr ⟨_,_,Xp rfl⟩⟩
   ·cases t:Ts.lookup b with
    | some ps=>exact .inl ⟨ps,rfl,(Xm hb).trans (by rw[t];rfl)⟩
    | none=>exact .inr ⟨rfl,.inl ((Xm hb).trans (by rw[t];rfl))⟩
  ·by_cases hb:b=a
   ·have z':=(Xp hb).symm.trans z
    cases z'
    subst hb
    exact⟨ha,by rw[qy];exact hl,vs,_,rv,ha⟩
   ·have z':=(Xm hb).symm.trans z
    obtain⟨ps,t,rfl⟩:=Xo.mp z'
    exact nH _ b ps t
  ·by_cases hb:b=a
   ·exact hb
   ·exact absurd ((Xm hb).trans (by rw[t];rfl)) z
theorem RU {l:PySem.W.OpenLaw} {n k:Nat} {q:Program} {loose:List Str} {XP:(Str->Option Value)->Heap->Prop} {YP:World->Heap->Prop} {d:DefRec} {K:World->PySem.W.Frag} {CX:World->iO} {sp:World->Sp} {x:Str} {Ts:World->List (Addr × Array Value)}
  (hn:l.most=some n) (AV:n <= sizeLine) (sL:d.params.defaults=[]) (hr:aS k callerA)
  (hY:∀ (w:World) (h:Heap),YP w h->(K w).In h)
  (hT:∀ (w:World) (h:Heap),YP w h->∀ b ps,(Ts w).lookup b=some ps->h.get? b=some { cls := .none,data := .fields ps }/\isCodeTable h b/\(K w).lookup b=none)
  (F:∀ (w:World) (mg:Str->Option Value) (fa:Addr) (h:Heap),(K w).In h->h.Ns mainGlobals mg->mg d.name=some (.ref fa) →
   ∃ fd:FuncData,(∀ (s:Shared) (u:Value),BindsTo s fd ⟨[u],[]⟩ [(x,u)]) ∧
    ∀ base:Heap,(K w).In base->base.Ns mainGlobals mg->(∀ b ps,(Ts w).lookup b=some ps->base.BuiltinsAt mg b)->bE l.prog w (K w) mg base (CX w) k fa fd [x] (sp w))
  (kP:∀ (w:World) (H:Hp) (a:Addr) (ns:List Int),ns.length <= n->AQ (Ts w) H->bc (K w) H a (ns.map V.int)->sp w [.ref a] H (fun v _=>v = .bl true) fun _ _ _=>False)
  (AS:∀ (w:World) (H:Hp) (s:Shared) (e:Value) (s':Shared),CX w [] H s (fun _ _ _=>False) e s'->False) :
  PySem.W.WalkO q loose XP YP l.row.toRowW d [] (fun f vs=>PySem.call f vs):=by
 refine Att.gE hn sL fun w s₀ s₁ mg mb fa o pm cd doc a vs ns G Y ho hd di lH oN hints hlen hg => ?_
 have KX:=hY w _ Y
 obtain⟨fd,hb,hF⟩:=F w mg fa _ KX G.T.g lH
 exact RQ (Ts w) (hT w _ Y) KX G.T.g G.T.b G.T.builtins G.T.nolimit hg oN hints (YF hlen AV) hr G.T.bmain hF hb (fun H hO hS=>kP w H a ns hlen hO hS) fun H e s'=>AS w H s₁ e s'
section
variable {X:Cx} {pins:List (Addr × Obj)} {σ : St} {H:Hp} {s:Shared} {h':Heap}
theorem Inv.grow {T c f:Addr} {ps more:Array Value} {oc of:HO} {t':Nat} (I:Inv X pins σ H s) (hT:H T=some (.tbl ps)) (k:∀ b u,b≠T->s.heap.get? b=some u->h'.get? b=some u) (HA:h'.get? T=some { cls := .none,data := .fields (ps ++ more) })
  (hc:s.heap.objs.size <= c) (hf:s.heap.objs.size <= f) (AW:c≠f) (RW:∀ H2,aK X.prog X.w H2 h' c oc) (RX:∀ H2,aK X.prog X.w H2 h' f of) :
  Inv X pins σ (upd (upd (upd H T (.tbl (ps ++ more))) c oc) f of) { s with heap:=h',toks:=t' }:=by
 have tl:T < s.heap.objs.size:=(I.aM T _ hT).lt
 have cT:c≠T:=ZM (X9 tl hc)
 have fT:f≠T:=ZM (X9 tl hf)
 have XO:H c=none:=I.aM.fresh hc
 have HB:H f=none:=I.aM.fresh hf
 have old:∀ b,b < s.heap.objs.size->b≠T->upd (upd (upd H T (.tbl (ps ++ more))) c oc) f of b=H b:=fun b hb nT=>by
  rw[aA (X_ (X9 hb hf)),aA (X_ (X9 hb hc)),aA nT]
 have atT:upd (upd (upd H T (.tbl (ps ++ more))) c oc) f of T=some (.tbl (ps ++ more)):=by
  rw[aA (Zn fT),aA (Zn cT),a9]
 have lt:∀ b u,H b=some u->b < s.heap.objs.size:=fun b u e=>(I.aM b u e).lt
 have dG:∀ b u,H b=some u->(∀ qs,u ≠ .tbl qs)->upd (upd (upd H T (.tbl (ps ++ more))) c oc) f of b=some u:=fun b u e n=>by
  rw[old b (lt b u e) (fun z=>by subst z;rw[hT] at e;cases e;exact n _ rfl)];exact e
 refine I.un (t':=t') ⟨fun b o e n _ _=>k b o (fun z=>by subst z;rw[hT] at n;cases n) e,fun b o e n _ _=>⟨o.slots,k b o (fun z=>by subst z;rw[hT] at n;cases n) e⟩,fun b o e n _ => ?_,fun b o e _ => ?_,fun b xs e=>dG b _ e (fun _ z=>by cases z),fun b o u e=>dG b _ e (fun _ z=>by cases z),fun b qs e => ?_⟩ fun b u e => ?_
 ·rw[old b (Ng e) (fun z=>by subst z;rw[hT] at n;cases n)];exact n
 ·by_cases z:b=T
  ·subst z;exact⟨_,HA⟩
  ·exact⟨o,k b o z e⟩
 ·by_cases z:b=T
  ·subst z;rw[hT] at e;cases e;exact⟨more,atT⟩
  ·exact⟨#[],by rw[old b (lt b _ e) z,e];simp⟩
 ·by_cases z1:b=f
  ·subst z1;rw[a9] at e;cases e;exact RX _
  ·rw[aA z1] at e
   by_cases z2:b=c
   ·subst z2;rw[a9] at e;cases e;exact RW _
   ·rw[aA z2] at e
    by_cases z3:b=T
    ·subst z3;rw[a9] at e;cases e;exact HA
    ·rw[aA z3] at e
     refine aK.cN (I.aM b u e) (fun d v hd q => ?_) (fun d q=>dG d _ q (fun _ z=>by cases z)) (fun d xs q=>dG d _ q (fun _ z=>by cases z))
     ·refine k d v (fun y => ?_) q
      subst y
      rcases hd with y | y
      ·exact z3 y.symm
      ·rw[hT] at y;cases y
noncomputable def kc (c:Addr) (q:Str):HO := .ext fun h=>∃ o vs tq,h.get? c=some o/\o.data = .fields vs/\vs[1]? = some (.str q tq)
theorem RY {P:Program} {w:World} {H:Hp} {h:Heap} {c:Addr} {q:Str} (e:h.CodeRec (.ref c) q):aK P w H h c (kc c q):=by
 obtain⟨c',o,vs,tq,z,ho,hd,hq⟩:=e
 cases z
 exact⟨⟨o,vs,tq,ho,hd,hq⟩,⟨o,ho⟩,fun h1 h2 ⟨o,vs,tq,e1,e2,e3⟩ k=>⟨o,vs,tq,k o e1,e2,e3⟩⟩
theorem RZ {P:Program} {w:World} {H:Hp} {h:Heap} {c:Addr} {q:Str} (x:aK P w H h c (kc c q)):h.CodeRec (.ref c) q:=by
 obtain⟨⟨o,vs,tq,ho,hd,hq⟩,_⟩:=x
 exact⟨c,o,vs,tq,rfl,ho,hd,hq⟩
end
end L2
namespace L2
open PySem PySem.Spec PyProof.Rows PySem.W
section
variable {X:Cx} {pins:List (Addr × Obj)} {σ : St} {H:Hp} {s:Shared} {params:Arguments} {body:Expr} {scope:Scope} {pos:Pos} {gQ:List (Str × Addr)} {cc T:Addr} {ps:Array Value} {E:Value->Shared->Prop} {Q:Value->Shared->Prop}
noncomputable def gR (f:Addr) (name qual:Str) (params:Arguments) (body:Expr) (scope:Scope) (gQ:List (Str × Addr)) (pm cd:Value):HO := .ext fun h=>∃ uI,h.get? f=some { cls := .type "function",data := .func (kla_fn name qual params body scope gQ pm cd uI) }
noncomputable def dH (H:Hp) (T:Addr) (pos:Pos) (qual:Str):Prop:=∃ ps,H T=some (.tbl ps)/\TriplesOk ps.toList/\(codeAmong pos ps.toList=none\/∃ c,codeAmong pos ps.toList=some (.ref c)/\H c=some (kc c qual))
theorem HC (I:Inv X pins σ H s) (hT:dH H T pos (X.env.qual ++ "<lambda>")) (AX:defaultsOf params X.env=([],[])) (k8:closureFor scope X.env=pure gQ) (fQ:X.env.code = .ref cc) (C:CodeHd s.heap cc T) (R0:mainGlobals≠T) (hg:s.heap.Ns mainGlobals X.mg) (hb:s.heap.BuiltinsAt X.mg T)
  (h:∀ f H' s' c,Inv X pins σ H' s'->dH H' T pos (X.env.qual ++ "<lambda>")->(∀ b o,H b=some o->b≠T->H' b=some o)->H f=none->H' f=some (gR f "<lambda>" (X.env.qual ++ "<lambda>") params body scope gQ ((X.mg "__name__").getD .none) (.ref c))->H' c=some (kc c (X.env.qual ++ "<lambda>"))->Q (.ref f) s') :
  wpAny (model X.prog X.w) X.A (eval (.Lambda params body scope pos) X.env) Q E s:=by
 obtain⟨ps,hP,ht,hf⟩:=hT
 have AY:s.heap.get? T=some { cls := .none,data := .fields ps }:=I.aM T _ hP
 refine kla_eval AX ?_
 rcases hf with HD | ⟨c,hf,xa⟩
 ·refine kla_makeFunction k8 I.ok.glob hg fQ C AY ht HD R0 hb fun c' uI h' tk hx rq cA AZ R1 => ?_
  have eJ:s.heap.objs.size <= h'.objs.size:=Zb (q0d rq cA)
  have tl:T < s.heap.objs.size:=Ng AY
  have R3:T≠h'.objs.size:=X_ (X9 tl eJ)
  have R4:T≠c':=X_ (X9 tl rq)
  have AW:c'≠h'.objs.size:=X_ cA
  have HE:(ps ++ #[rawInt pos.line,rawInt pos.col,Value.ref c']).toList=ps.toList ++ [rawInt pos.line,rawInt pos.col,Value.ref c']:=by simp
  have atT:upd (upd (upd H T (.tbl (ps ++ #[rawInt pos.line,rawInt pos.col,.ref c']))) c' (kc c' (X.env.qual ++ "<lambda>"))) h'.objs.size (gR h'.objs.size "<lambda>" (X.env.qual ++ "<lambda>") params body scope gQ ((X.mg "__name__").getD .none) (.ref c')) T=some (.tbl (ps ++ #[rawInt pos.line,rawInt pos.col,.ref c'])):=by
   rw[aA R3,aA R4,a9]
  have atC:upd (upd (upd H T (.tbl (ps ++ #[rawInt pos.line,rawInt pos.col,.ref c']))) c' (kc c' (X.env.qual ++ "<lambda>"))) h'.objs.size (gR h'.objs.size "<lambda>" (X.env.qual ++ "<lambda>") params body scope gQ ((X.mg "__name__").getD .none) (.ref c')) c'=some (kc c' (X.env.qual ++ "<lambda>")):=by
   rw[aA AW,a9]
  refine h h'.objs.size _ _ c' (I.grow (t':=tk) (oc:=kc c' (X.env.qual ++ "<lambda>")) (of:=gR h'.objs.size "<lambda>" (X.env.qual ++ "<lambda>") params body scope gQ ((X.mg "__name__").getD .none) (.ref c')) hP (fun b u nb e=>oQ _ (hx b u nb e)) (oQ _ R1) rq eJ AW (fun _=>RY (AZ.push _)) fun _ => ?_) ⟨_,atT,?_,.inr ⟨c',?_,atC⟩⟩ (fun b o e nb => ?_) (I.aM.fresh eJ) a9 atC
  ·exact⟨⟨uI,X1 _ rfl⟩,⟨_,X1 _ rfl⟩,fun h1 h2 ⟨v,e⟩ k=>⟨v,k _ e⟩⟩
  ·rw[HE];exact TriplesOk_snoc _ _ _ _ ht
  ·rw[HE];exact codeAmong_snoc _ ht HD
  ·have bl:b < s.heap.objs.size:=(I.aM b o e).lt
   rw[aA (X_ (X9 bl eJ)),aA (X_ (X9 bl rq)),aA nb];exact e
 ·refine kla_makeFunctionHit k8 I.ok.glob hg fQ C AY ht hf hb fun uI h' tk hk eJ => ?_
  have hn:H h'.objs.size=none:=I.aM.fresh eJ
  refine h h'.objs.size _ _ c (I.laid (a:=h'.objs.size) (o:=gR h'.objs.size "<lambda>" (X.env.qual ++ "<lambda>") params body scope gQ ((X.mg "__name__").getD .none) (.ref c)) (t':=tk) (fun b u e=>oQ _ (hk b u e)) eJ ?_) ⟨ps,?_,ht,.inr ⟨c,hf,?_⟩⟩ (fun b o e _ => ?_) hn a9 ?_
  ·exact⟨⟨uI,X1 _ rfl⟩,⟨_,X1 _ rfl⟩,fun h1 h2 ⟨v,e⟩ k=>⟨v,k _ e⟩⟩
  ·rw[aA (bK hP hn)];exact hP
  ·rw[aA (bK xa hn)];exact xa
  ·rw[aA (bK e hn)];exact e
  ·rw[aA (bK xa hn)];exact xa
end
structure LD where
 A:Around
 cl:List (Str × Addr)
 f:Addr
 cd:Value
 s:Shared
 H:Hp
@[reducible] noncomputable def mw (X:Cx) (qual:Str) (scope:Scope) (Nb:List Str) (d:LD):Cx where
 prog:=X.prog
 w:=X.w
 K:=X.K
 mg:=X.mg
 base:=X.base
 A:=d.A.deeper (envX qual scope d.s.heap.objs.size d.f d.cd d.cl)
 N:=Nb
 s₀ := d.s
 H₀ := d.H
 env:=envX qual scope d.s.heap.objs.size d.f d.cd d.cl
 outer:=X.stack
 stack:=envX qual scope d.s.heap.objs.size d.f d.cd d.cl :: X.stack
 ex:=[]
 fn:=fun _=>false
 calm:=true
 pn:=[]
 xe:=fun _ _=>False
noncomputable def uJ (N:List Str) (vL scope:Scope) (x:Str) (Nb:List Str) (cp:List (Option Nat)):Bool :=
 kQ N vL scope (x :: Nb) (none :: cp) && (scope.names.all fun y=>decide (y.2 ≠ .cell)) && decide (scope.names.lookup x=some .local) && cp.all (·.isSome)
section
variable {X:Cx} {pins:List (Addr × Obj)} {σ : St} {H:Hp} {s:Shared} {params:Arguments} {body:Expr} {scope:Scope} {cl:List (Str × Addr)} {E:Value->Shared->Prop} {Q:VK} {name qual x:Str} {f c:Addr} {pm:Value} {A:Around} {v:V} {u:Value} {Nb:List Str} {cp:List (Option Nat)} {t:TE}
theorem HF (I:Inv X pins σ H s) (hf:H f=some (gR f name qual params body scope cl pm (.ref c))) (hc:H c=some (kc c qual)) (hA:A.frames=some X.stack) (hh:A.handled=none) (hd:A.depth < recursionLimit)
  (hk:scope.kind = .function) (ho:uJ X.N X.env.scope scope x Nb cp=true) (R5:scope.isCoroutine=false) (A0:scope.isGenerator=false)
  (my:∀ y c,cl.lookup y=some c->X.env.cells.lookup y=some c) (rz:∀ y∈scope.names,y.2 = .free->∃ c,cl.lookup y.1=some c)
  (hb:∀ (ct:Value),bindArgs (kla_fn name qual params body scope cl pm (.ref c) ct) ⟨[u],[]⟩=pure [(x,u)]) (r:RelV v u)
  (J:JE (mw X qual scope (x :: Nb) ⟨A,cl,f,.ref c,s,H⟩) body t) (h:t (some v :: gY cp σ) H Q):wpAny (model X.prog X.w) A (call (.ref f) [u]) (EP X pins σ Q) E s:=by
 unfold uJ at ho
 simp only[Yg,Yr,Ze] at ho
 obtain⟨⟨⟨ho,HG⟩,hx⟩,cps⟩:=ho
 have S:=q8P hk ho
 obtain⟨⟨ct,R6⟩,_⟩:=I.aM f _ hf
 have di:=RZ (I.aM c _ hc)
 refine q0y (kla_callFunE hd R6 rfl R5 A0 rfl di ?_)
 rw[hb ct]
 refine vK (wpAny_newFunctionEnv (fun y hy=>HG y hy) (fun y hy=>by rw[YZ.mp hy];exact hx) (fun h₁ uF sR => ?_) hk)
 have uK:∀ b o,s.heap.get? b=some o->h₁.get? b=some o:=fun b o e=>sR.extBut b o (X_ (Ng e)) (oQ _ e)
 refine⟨I.nolimit.keeps uK,?_⟩
 have e0:=I.ou
 show codeAny _ _ (.expr body (envX qual scope s.heap.objs.size f (.ref c) cl)) _ _
 have lD:∀ b:Addr,b∉(mw X qual scope (x :: Nb) ⟨A,cl,f,.ref c,s,H⟩).ex:=fun b z=>absurd (show b∈([]:List Addr) from z) (by simp)
 have mem:∀ {y:Str} {k:NameKind},scope.names.lookup y=some k->(y,k)∈scope.names:=fun e=>YR e
 have I1:Inv (mw X qual scope (x :: Nb) ⟨A,cl,f,.ref c,s,H⟩) [] (some v :: gY cp σ) H { s with heap:=h₁,toks:=s.toks + [(x,u)].length }:=by
  refine⟨⟨e0.mod,hk,rfl,rfl,sG _,fun y z d h1 h2=>I.ok.inj y z d (my y d h1) (my z d h2),fun y hy => ?_,fun y d z _=>(by cases z),fun _=>hh,Around.frames_deeper hA,.inr ⟨rfl,rfl⟩,fun b z=>absurd z (lD b),e0.bs,e0.ju,fun b _ _=>lD b,fun b z=>absurd z (lD b),e0.cP,e0.jH⟩,
   rfl,e0.bare,Un.kept uK,⟨_,uF,fun i y w h1 h2 h3 => ?_⟩,fun y d hy => ?_,e0.aM.fresh (sG _),fun y d hy=>I.bB y d (my y d hy),fun p hp=>absurd (show p∈([]:List (Addr × Obj)) from hp) (by simp),e0.aM.kept uK,?_⟩
  ·have hy:scope.names.lookup y=some .cell\/scope.names.lookup y=some .free:=hy
   rcases hy with hy | hy
   ·exact absurd rfl (HG _ (mem hy))
   ·exact rz _ (mem hy) rfl
  ·cases i with
   | zero =>
    cases (show some x=some y by simpa using h1)
    cases (show v=w by simpa using h2)
    exact⟨u,r,.inl ⟨hx,by simp⟩⟩
   | succ j =>
    have h1:Nb[j]? = some y:=by simpa using h1
    have h2:(gY cp σ)[j]? = some (some w):=by simpa using h2
    unfold gY at h2
    rw[Ni] at h2
    obtain⟨o,q1,q2⟩:=Xo.mp h2
    match o,q2 with
    | none,q2=>cases q2
    | some i',q2 =>
     have q2:(σ[i']?).join=some w:=q2
     obtain⟨n1,n2⟩:=S.sN (j + 1) i' y (by simpa using q1) (by simpa using h1)
     have hs : σ[i']? = some (some w):=by
      cases q : σ[i']? with
      | none=>rw[q] at q2;cases q2
      | some z=>rw[q] at q2;cases (show z=some w from q2);rfl
     have kd:=S.free _ (mem n2) rfl
     obtain⟨m,hn,hl⟩:=I.loc
     obtain⟨u',rv,lk⟩:=hl i' y w n1 hs (by rcases kd with z | z;exact .inr (.inl z);exact .inr (.inr z))
     refine⟨u',rv,?_⟩
     rcases lk with⟨z,_⟩ | ⟨_,d,e1,o,e2,e3⟩
     ·rcases kd with k | k<;>(rw[show X.env.kindOf y=some .local from z] at k;cases k)
     ·obtain⟨d',e4⟩:=rz _ (mem n2) rfl
      have:=my _ _ e4
      rw[e1] at this;cases this
      exact .inr ⟨.inr n2,d,e4,o,uK _ _ e2,e3⟩
  ·obtain⟨z,o,e2,e3⟩:=I.cell y d (my y d hy)
   exact⟨z,o,uK _ _ e2,e3⟩
  ·have:=S.len
   show (some v :: gY cp σ).length=(x :: Nb).length
   unfold gY
   rw[Ex,qy]
   simpa using this
 refine kla_codeExpr (YK (J.out [] _ _ H Q I1 h) (fun u' s' hs => ?_) fun e s' hs=>hs.elim)
 obtain⟨w,H',J',rv,q⟩:=hs
 exact I.after ⟨w,H',J'.os,J'.bare,J'.base,J'.aM,rv,q⟩
end
noncomputable def ke (h:Heap) (k:LK) (v:Value):Prop:=∃ a o xs n,v = .ref a/\h.get? a=some o/\o.cls = .type "tuple" /\ o.data = .seq xs n/\IntsAre xs.toList k
section
variable {prog:Program} {w:World} {A:Around} {E:Value->Shared->Prop} {s:Shared} {Q:Bool->Shared->Prop}
theorem HH {fin:Bool}:∀ {us ws:List Value} {ks ls:LK} (i:Nat),IntsAre us ks->IntsAre ws ls->fin=decide (us.length < ws.length)->Q (HT.lexLt ks ls) s->KatLex prog w A true fin Q (us.zip ws) i s
 | _,_,_,_,i,.nil,.nil,hf,h=>by
  rw[q0q]
  subst hf
  exact h
 | _,_,_,_,i,.nil,.cons m u r,hf,h=>by
  rw[q0q]
  have:fin=true:=by rw[hf];simp
  subst this
  exact h
 | _,_,_,_,i,.cons n t r,.nil,hf,h=>by
  rw[q0Z]
  have:fin=false:=by rw[hf];simp
  subst this
  exact h
 | _,_,_,_,i,.cons n t r,.cons m u r',hf,h=>by
  rw[ZN]
  refine kat_cons (wpAny_eqBool_int (kat_go (fun e => ?_) fun e => ?_))
  ·have e:n=m:=Yb e
   subst e
   rw[HT.oB,Xp rfl] at h
   exact kat_yes (HH (i + 1) r r' (by rw[hf];simp) h)
  ·have e:¬ n=m:=fun z=>by subst z;simp at e
   rw[HT.oB,Xm e] at h
   refine kat_no ?_
   cases q:(true && i == 0) with
   | true=>exact oneLt_int h
   | false=>exact kat_one _ _ (PyProof.Rows.lt_int h)
theorem R7 {k l:LK} {x y:Value} (hx:ke s.heap k x) (hy:ke s.heap l y) (h:Q (HT.lexLt k l) s):wpAny (model prog w) A (keyLt' (tuples' true) x y) Q E s:=by
 obtain⟨a,o,xs,n,rfl,h1,_,h2,h3⟩:=hx
 obtain⟨b,o',ys,n',rfl,g1,_,g2,g3⟩:=hy
 exact kat_lt h1 h2 g1 g2 (HH 0 h3 g3 (by rw[My,My]) h)
theorem HI {h:Heap}:∀ {keys:List Value} {ks:List LK},(∀ k∈ks,k≠[])->keys.length=ks.length->(∀ (i:Nat) (k:LK) (v:Value),ks[i]? = some k->keys[i]? = some v->ke h k v)->∃ fs,KatTups h keys fs/\fs.length=keys.length/\∀ v∈fs,∃ n t,v=Value.int n t
 | [],[],_,_,_=>⟨[],.nil,rfl,fun v hv=>nomatch hv⟩
 | [],_ :: _,_,hl,_=>by simp at hl
 | _ :: _,[],_,hl,_=>by simp at hl
 | v :: keys,k :: ks,gJ,hl,ht=>by
  obtain⟨fs,t,hf,hi⟩:=HI (h:=h) (keys:=keys) (ks:=ks) (fun k hk=>gJ k (Nk _ hk)) (by simpa using hl) fun i k v e1 e2=>ht (i + 1) k v (by simpa using e1) (by simpa using e2)
  obtain⟨a,o,xs,n,rfl,h1,hc,h2,h3⟩:=ht 0 k v rfl rfl
  have hk:=gJ k Nh
  generalize hx:xs.toList=xl at h3
  cases h3 with
  | nil=>exact absurd rfl hk
  | cons m t' r =>
   have h0:xs[0]? = some (.int m t'):=by rw[<-Yh,hx];rfl
   refine⟨.int m t' :: fs,.cons h1 hc h2 h0 t,by rw[Ex,Ex,hf],fun v hv => ?_⟩
   rcases X7.mp hv with rfl | hv
   ·exact⟨m,t',rfl⟩
   ·exact hi v hv
theorem R8 {M:Model} {keys:List Value} {ks:List LK} {Q:SortKind->Shared->Prop} (h0:0 < keys.length) (gJ:∀ k∈ks,k≠[]) (hl:keys.length=ks.length) (ht:∀ (i:Nat) (k:LK) (v:Value),ks[i]? = some k->keys[i]? = some v->ke s.heap k v) (h:Q (tuples' true) s) :
  wpAny M A (keyKind' keys.toArray) Q E s:=by
 obtain⟨fs,t,hf,hi⟩:=HI gJ hl ht
 refine kat_kind (T := .type "int") t (by omega) (fun v hv => ?_) (by decide) ?_
 ·obtain⟨n,t',rfl⟩:=hi v hv
  exact .now
 ·exact h
theorem getD_some {α : Type} {l:List α} {i:Nat} {d : α} (h:i < l.length):l[i]? = some (l.getD i d):=by
 rw[oO h,Et,oO h];rfl
theorem R9 {a kS:Addr} {e1:Nat} {vs keys:List Value} {ks:List LK} {P:PySem.Fin->Shared->Prop} (hv:keys.length=vs.length) (m_:vs.length < 64) (gJ:∀ k∈ks,k≠[]) (hl:keys.length=ks.length) (ht:∀ (i:Nat) (k:LK) (v:Value),ks[i]? = some k->keys[i]? = some v->ke s.heap k v)
  (fin:∀ st (p:Array Nat),(arrOf st).map (·.2)=List.toArray (p.toList.map fun i=>vs.getD i Value.none)->failedOf st=none->dm vs.length p->Up (fun i=>ks.getD i []) p vs.length->wpAny (model prog w) A (ksk_tail a false e1 (.ref kS) st) P E s) :
  wpAny (model prog w) A (ksk_end a false vs.toArray e1 (.ref kS) (List.toArray keys)) P E s:=by
 unfold ksk_end
 try dsimp only
 simp only[Ye,YY]
 by_cases h2:vs.toArray.size < 2
 ·rw[Xp h2,Xp h2]
  refine lJ (vK ?_)
  rw[StateT.run_pure]
  refine lJ (vK ?_)
  try dsimp only
  rw[yG] at h2
  refine fin _ (List.range vs.length).toArray ?_ rfl ⟨Array.Perm.refl _⟩ fun i j jm hj => ?_
  ·have R_:arrOf (SortSt.mk' general' (keys.toArray.zip vs.toArray) #[] 7 none)=(List.toArray (List.range vs.length)).map (kas_item (keys.toArray.zip vs.toArray)):=by
    have e:=kas_range (keys.toArray.zip vs.toArray)
    rw[show (keys.toArray.zip vs.toArray).size=vs.length by simp[hv]] at e
    rw[e]
   exact kat_snds hv R_
  ·have:i=j:=by omega
   subst this
   exact kle_refl _
 ·rw[Xm h2,Xm h2]
  rw[yG] at h2
  refine lJ (R8 (by omega) gJ hl ht ?_)
  refine lJ (YK (kat_run (κ := tuples' true) (E:=E) (Q:=fun iN s'=>s'=s/\∃ p:Array Nat,arrOf iN=p.map (kas_item (keys.toArray.zip vs.toArray))/\failedOf iN=none/\dm vs.length p/\Up (fun i=>ks.getD i []) p vs.length)
   (G:=fun p s'=>s'=s/\dm vs.length p/\Up (fun i=>ks.getD i []) p vs.length) hv (by omega) m_ (fun p iN s' a1 a2 a3 a4=>⟨a4.1,p,a2,a3,a4.2.1,a4.2.2⟩) ?_) ?_ fun _ _ x=>x)
  ·refine Qu (k:=fun i=>ks.getD i []) (I:=fun s'=>s'=s) (fun i j C s' hi hj e hC => ?_) (by omega) rfl fun p s' a1 a2 a3=>⟨a3,a1,a2⟩
   subst e
   exact R7 (ht i _ _ (getD_some (by omega)) (getD_some (by omega))) (ht j _ _ (getD_some (by omega)) (getD_some (by omega))) (hC _ rfl)
  ·rintro ⟨⟨⟩,iN⟩ s' ⟨rfl,p,a1,a2,a3,a4⟩
   try dsimp only
   exact fin iN p (kat_snds hv a1) a2 a3 a4
end
theorem bf.at {X:Cx} {pins:List (Addr × Obj)} {H H':Hp} {b:Addr} (f:bf X pins H b) (h:H' b=none):bf X pins H' b:=⟨h,f.2⟩
section
variable {X:Cx} {pins:List (Addr × Obj)} {σ : St} {H:Hp} {s:Shared} {A:Around} {E:Value->Shared->Prop} {a:Addr} {vs:List Value} {f:Value}
theorem Inv.d7 {h':Heap} {t':Nat} {b:Addr} (I:Inv X pins σ H s) (fb:bf X pins H b) (k:∀ c o,c≠b->s.heap.get? c=some o->h'.get? c=some o):Inv X pins σ H { s with heap:=h',toks:=t' } :=
 I.turned k fb.1 fb.2.1 fb.2.2.2.1 fb.2.2.2.2.1 fb.2.2.2.2.2
theorem Inv.ft {b:Addr} {o:Obj} (I:Inv X pins σ H s) (fb:bf X pins H b) (e:s.heap.get? b=some o) (hc:∀ v,o.data ≠ .cell v):Inv X ((b,o) :: pins) σ H s :=
 I.eE fun p hp=>by
  rcases X7.mp hp with rfl | hp
  ·exact⟨e,fb.1,fb.2.1,fb.2.2.1,hc⟩
  ·exact I.pin p (Nj _ hp)
theorem Inv.bY {p:Addr × Obj} (I:Inv X (p :: pins) σ H s):Inv X pins σ H s:=I.eE fun q hq=>I.pin q (Nj _ (Nk _ hq))
theorem bf.cons {b:Addr} {p:Addr × Obj} (f:bf X pins H b) (n:p.1≠b):bf X (p :: pins) H b :=
 ⟨f.1,f.2.1,f.2.2.1,f.2.2.2.1,f.2.2.2.2.1,fun q hq=>by
  rcases YM.mp hq with z | z
  ·exact f.2.2.2.2.2 q (Yv _ z)
  ·rcases X7.mp z with rfl | z
   ·exact n
   ·exact f.2.2.2.2.2 q (Nj _ z)⟩
theorem p_ {c:String} {xs:Array Value} {n:Nat}:∀ v,(seqObj c xs n).data ≠ .cell v:=fun v z=>by cases z
theorem Sa {P:List V->Hp->Prop} {n0:Nat} {R:PySem.Fin->Shared->Prop} (I:Inv X pins σ H s) (fa:bf X pins H a) (ha:s.heap.get? a=some (seqObj "list" vs.toArray n0)) (m_:vs.length < 64) (p0:P [] H)
  (iE:∀ (br:List (Addr × Obj)) (v:Value) (ax:List V) (H':Hp) (s':Shared),vs[ax.length]? = some v->Inv X br σ H' s'->P ax H'->wpAny (model X.prog X.w) A (call f [v]) (EP X br σ fun k iw=>P (ax ++ [k]) iw) (fun _ _=>False) s')
  (fin:∀ ax H',ax.length=vs.length->P ax H'->∃ ks:List LK,ks.length=vs.length/\(∀ k∈ks,k≠[])/\(∀ (i:Nat) (k:LK),ks[i]? = some k->∃ t,ax[i]? = some (.ref t)/\H' t=some (.tup (k.map V.int))) ∧
   ∀ (p:Array Nat) (s':Shared) (c:Nat),dm vs.length p->Up (fun i=>ks.getD i []) p vs.length->Inv X pins σ H' s'->bf X pins H' a->s'.heap.get? a=some (seqObj "list" (List.toArray (p.toList.map fun i=>vs.getD i Value.none)) c)->R (.done (.ret .none)) s') :
  wpAny (model X.prog X.w) A (ksk_tree a f false) R E s:=by
 unfold ksk_tree
 refine lJ (listItems_at ha rfl ?_)
 refine lJ (listUpdate_at ha rfl ?_ (by rw[yG,Zh];omega) (YW _))
 have sb:=Yy s.heap a (Obj.mapSeq fun _=>(#[]:Array Value))
 obtain⟨e1,nE⟩:∃ e1,(s.heap.update a (Obj.mapSeq fun _=>(#[]:Array Value))).get? a=some (seqObj "list" #[] e1):=⟨_,q0P ha fun _ => #[]⟩
 have I1:Inv X pins σ H { s with heap:=s.heap.update a (Obj.mapSeq fun _=>(#[]:Array Value)) }:=I.d7 (t':=s.toks) fa fun c o n e=>(sb.2 c n).trans e
 refine lJ (seqEpoch_at nE rfl ?_)
 refine lJ (wpAny_newTuple ?_ (by show vs.length <= _;rw[Zh];omega))
 refine lJ (wpAny_newList ?_ (YW _))
 refine Yl ?_
 generalize XQ:s.heap.update a (Obj.mapSeq fun _=>(#[]:Array Value))=g0 at nE I1
 show wpAny _ _ (ksk_rest a f false vs.toArray e1 (.ref (g0.push (seqObj "tuple" vs.toArray 0)).objs.size)) R E { s with heap:=(g0.push (seqObj "tuple" vs.toArray 0)).push (seqObj "list" #[] 0) }
 have I2:Inv X pins σ H { s with heap:=(g0.push (seqObj "tuple" vs.toArray 0)) }:=I1.kept (h':=g0.push (seqObj "tuple" vs.toArray 0)) (t':=s.toks) fun b u e=>oQ _ e
 have f9:(g0.push (seqObj "tuple" vs.toArray 0)).get? a=some (seqObj "list" #[] e1):=oQ _ nE
 generalize g0.push (seqObj "tuple" vs.toArray 0)=g1 at I2 f9
 have fk:bf X pins H g1.objs.size:=I2.f7 (sG _) (I2.aM.fresh (sG _))
 have I3:Inv X pins σ H { s with heap:=g1.push (seqObj "list" #[] 0) }:=I2.kept (h':=g1.push (seqObj "list" #[] 0)) (t':=s.toks) fun b u e=>oQ _ e
 have uL:g1.objs.size≠a:=ZM (Ng f9)
 have I4:=(I3.ft fk (X1 _ rfl) p_).ft (fa.cons (p:=(g1.objs.size,seqObj "list" #[] 0)) uL) (oQ _ f9) p_
 generalize g1.objs.size=kS at I4 uL fk
 unfold ksk_rest
 refine lJ (wpAny_rule ?_)
 first
  | rw[List.forIn_toArray]
  | (rw[<-q0e];simp only[List.toList_toArray])
  | rw[<-q0e]
 refine lJ (ksk_fold (fun i s'=>∃ H' ax ks e,Inv X ((a,seqObj "list" #[] e1) :: (kS,seqObj "list" (List.toArray ks) e) :: pins) σ H' s'/\P ax H'/\Vals ax ks/\ax.length=i) vs 0 _ ⟨H,[],[],0,I4,p0,.nil,rfl⟩ ?step ?done)
 case step =>
  rintro j x s' hx ⟨H',ax,ks,e,J,pk,rv,hl⟩
  rw[Yx] at hl
  have hj:j < vs.length:=(oP.mp hx).1
  refine lJ (wpAny_attempt (YK (iE _ x ax H' s' (by rw[hl];exact hx) J pk) (fun u s2 hs => ?_) fun _ _ z=>z.elim))
  obtain⟨k,H2,J2,r2,p2⟩:=hs
  try dsimp only
  have pa:=J2.pin (a,seqObj "list" #[] e1) (Nj _ (.head _))
  have jq:=J2.pin (kS,seqObj "list" (List.toArray ks) e) (Nj _ (.tail _ (.head _)))
  have lk:ks.length=j:=by rw[<-rv.length];exact hl
  refine lJ (listUpdate_at jq.1 rfl ?_ (by rw[yG,Zh];omega) (YF (Nat.le_of_eq (q1z ..)) (by rw[yG,Zh];omega)))
  have s1:=Yy s2.heap kS (Obj.mapSeq (·.push u))
  have ea:(List.toArray ks).push u=List.toArray (ks ++ [u]):=by simp
  obtain⟨c2,gD⟩:∃ c2,(s2.heap.update kS (Obj.mapSeq (·.push u))).get? kS=some (seqObj "list" (List.toArray (ks ++ [u])) c2):=⟨_,by rw[<-ea];exact q0P jq.1 (·.push u)⟩
  have J3:=J2.bY.bY
  have J4:Inv X pins σ H2 { s2 with heap:=s2.heap.update kS (Obj.mapSeq (·.push u)) }:=J3.d7 (t':=s2.toks) (fk.at jq.2.1) fun c o n e=>(s1.2 c n).trans e
  refine vK ⟨rfl,H2,ax ++ [k],ks ++ [u],c2,?_,p2,rv.append (.cons r2 .nil),by rw[Ew,hl,Yx];rfl⟩
  exact (J4.ft (fk.at jq.2.1) gD p_).ft ((fa.at pa.2.1).cons uL) ((s1.2 a uL.symm).trans pa.1) p_
 case done =>
  rintro s' ⟨H',ax,ks,e,J,pk,rv,hl⟩
  rw[Yx] at hl
  have pa:=J.pin (a,seqObj "list" #[] e1) (Nj _ (.head _))
  have jq:=J.pin (kS,seqObj "list" (List.toArray ks) e) (Nj _ (.tail _ (.head _)))
  have lk:ks.length=vs.length:=by rw[<-rv.length];exact hl
  obtain⟨kk,k1,k2,k3,k4⟩:=fin ax H' hl pk
  try dsimp only
  refine lJ (listItems_at jq.1 rfl ?_)
  refine R9 (ks:=kk) lk m_ k2 (by rw[lk,k1]) (fun i k v e1 e2 => ?_) fun st p A2 hf hp up => ?_
  ·obtain⟨t,e3,e4⟩:=k3 i k e1
   obtain⟨u,e5,e6⟩:=rv.get e3
   rw[e2] at e5;cases e5
   cases e6
   obtain⟨ai,r',it,_⟩:=J.tuple (bC.of e4)
   obtain⟨o,o1,o2,n,o3⟩:=it
   exact⟨t,o,_,n,rfl,o1,o2,o3,by simpa using intsAre_of r'⟩
  ·have hz:(p.toList.map fun i=>vs.getD i Value.none).length=vs.length:=by rw[qy,My,hp.size]
   unfold ksk_tail
   try dsimp only
   rw[A2]
   refine lJ (listUpdate_at jq.1 rfl ?_ (by rw[yG,Zh];omega) (YW _))
   refine lJ (q1a ?_)
   have s1:=Yy s'.heap kS (Obj.mapSeq fun _=>(#[]:Array Value))
   have na:(s'.heap.update kS (Obj.mapSeq fun _=>(#[]:Array Value))).get? a=some (seqObj "list" #[] e1):=(s1.2 a uL.symm).trans pa.1
   refine lJ (seqEpoch_at na rfl ?_)
   simp only[Ye,YY]
   refine lJ (listUpdate_at na rfl ?_ (YW _) (YF (Nat.le_of_eq (by rw[yG,hz])) (by rw[Zh];omega)))
   rw[hf]
   simp only[bne_self_eq_false,Ye,YY]
   have J1:Inv X pins σ H' { s' with heap:=s'.heap.update kS (Obj.mapSeq fun _=>(#[]:Array Value)) }:=J.bY.bY.d7 (t':=s'.toks) (fk.at jq.2.1) fun c o n e=>(s1.2 c n).trans e
   have s2:=Yy (s'.heap.update kS (Obj.mapSeq fun _=>(#[]:Array Value))) a (Obj.mapSeq fun _=>List.toArray (p.toList.map fun i=>vs.getD i Value.none))
   have J2:Inv X pins σ H' { s' with heap:=(s'.heap.update kS (Obj.mapSeq fun _=>(#[]:Array Value))).update a (Obj.mapSeq fun _=>List.toArray (p.toList.map fun i=>vs.getD i Value.none)) }:=J1.d7 (t':=s'.toks) (fa.at pa.2.1) fun c o n e=>(s2.2 c n).trans e
   obtain⟨c2,gD⟩:∃ c2,((s'.heap.update kS (Obj.mapSeq fun _=>(#[]:Array Value))).update a (Obj.mapSeq fun _=>List.toArray (p.toList.map fun i=>vs.getD i Value.none))).get? a=some (seqObj "list" (List.toArray (p.toList.map fun i=>vs.getD i Value.none)) c2):=⟨_,q0P na fun _=>List.toArray (p.toList.map fun i=>vs.getD i Value.none)⟩
   exact vK (k4 p _ c2 hp up J2 (fa.at pa.2.1) gD)
end
section
variable {prog:Program} {w:World} {A:Around} {E:Value->Shared->Prop} {s:Shared}
theorem Sb {Q:List Value->Shared->Prop} {r:Addr} {a b c:Int} {t u v:Tok} {n:Nat} (hh:A.handled=none) (hr:IsRange s.heap r a b c t u v) (qa:Builtin.Range.small a b c=true)
  (hn:Builtin.Range.rangeSize a b c=n) (hlen:n <= 2 ^ 24)
  (hQ:∀ h' tk cq,(∀ b o,s.heap.get? b=some o->h'.get? b=some o)->ItemsOf (fun i v=>∃ t,v = .int (a + i * c) t) cq n->Q cq.toList { s with heap:=h',toks:=tk }):wpAny (model prog w) A (collect (.ref r)) Q E s:=by
 have key:∀ R:Result->Shared->Prop,(∀ h' tk cq c',(∀ b o,s.heap.get? b=some o->h'.get? b=some o)->h'.get? s.heap.objs.size=some { cls := .type "list",dict:=none,data := .seq cq c',slots := #[] }->ItemsOf (fun i v=>∃ t,v = .int (a + i * c) t) cq n->R (.ok (.ret (.ref s.heap.objs.size))) { s with heap:=h',toks:=tk })->codeAny (model prog w) A (.builtin "proto.collect" ⟨[.ref r],[]⟩) R s:=by
  intro R hR
  refine Zz F.entry_proto_collect ?_
  rw[Zo F.plain_proto_collect _]
  show wpAny _ A.in1 (newList [] >>= fun l=>again (.builtin "list.__iadd__" ⟨[l,.ref r],[]⟩)) _ _ s
  refine lJ (Y2 ?_)
  refine vK ⟨q0a F.plain_list_iadd _,Zz F.entry_list_iadd ?_⟩
  rw[Zo F.plain_list_iadd _]
  show wpAny _ A.in1 (Builtin.List.listExtendWith (.ref s.heap.objs.size) (.ref r) (.ref s.heap.objs.size)) _ _ _
  have Sd:(s.heap.push { cls := .type "list",data := .seq ([]:List Value).toArray }).get? s.heap.objs.size=some { cls := .type "list",data := .seq #[] 0 }:=X1 _ rfl
  refine wpAny_extend_range (R:=R) (s:={ s with heap:=s.heap.push { cls := .type "list",data := .seq ([]:List Value).toArray } }) hh (oQ _ hr) qa hn hlen s.heap.objs.size (.ref s.heap.objs.size) 0 Sd fun h' tk cq c' hk qb qc => ?_
  exact hR h' tk cq c' (fun b o e=>hk b o (X_ (Ng e)) (oQ _ e)) qb qc
 unfold collect
 refine lJ (wpAny_runValue (key _ fun h' tk cq c' hk qb qc => ?_))
 show wpAny _ A (load s.heap.objs.size >>= _) _ _ _
 refine lJ (wpAny_load qb ?_)
 exact vK (hQ h' tk cq hk qc)
end
section
variable {X:Cx} {pins:List (Addr × Obj)} {σ : St} {H:Hp} {s:Shared} {E:Value->Shared->Prop}
theorem Inv.uM {a:Addr} {o:HO} (I:Inv X pins σ H s) (fa:bf X pins H a) (ha:X.s₀.heap.objs.size <= a) (new:aK X.prog X.w (upd H a o) s.heap a o):Inv X pins σ (upd H a o) s:=by
 obtain⟨f0,f1,f2,_,f4,f5⟩:=fa
 have ne:∀ {b u},H b=some u->b≠a:=fun e z=>by rw[z,f0] at e;cases e
 refine⟨I.ok,I.os,I.bare,⟨I.base.keep,I.base.slot,fun b u e n hx => ?_,I.base.there,fun b xs e => ?_,fun b u v e => ?_,fun b ps e => ?_⟩,I.loc,I.cell,?_,fun x c e => ?_,fun p hp => ?_,fun b u e => ?_,I.len⟩
 ·rw[aA (X_ (X9 (Ng e) ha))];exact I.base.free b u e n hx
 ·have:=I.base.cF b xs e
  rw[aA (ne this)];exact this
 ·have:=I.base.cO b u v e
  rw[aA (ne this)];exact this
 ·obtain⟨more,this⟩:=I.base.cY b ps e
  exact⟨more,by rw[aA (ne this)];exact this⟩
 ·rw[aA (Zn f1)];exact I.free
 ·rw[aA (f4 x c e)];exact I.bB x c e
 ·obtain⟨e1,e2,e3⟩:=I.pin p hp
  exact⟨e1,by rw[aA (f5 p hp)];exact e2,e3⟩
 ·by_cases z:b=a
  ·subst z;rw[a9] at e;cases e;exact new
  ·rw[aA z] at e
   refine (I.aM b u e).cN (fun c v _ q=>q) (fun c q => ?_) fun c xs q => ?_
   ·rw[aA (ne q)];exact q
   ·rw[aA (ne q)];exact q
theorem Se {xs:List V} {vs:List Value} (r:Vals xs vs) {p:List Nat} (hp:∀ i∈p,i < vs.length):Vals (p.map fun i=>xs.getD i .non) (p.map fun i=>vs.getD i Value.none):=by
 induction p with
 | nil=>exact .nil
 | cons i q ih =>
  refine .cons ?_ (ih fun j hj=>hp j (Nk _ hj))
  have hi:=hp i Nh
  obtain⟨u,e1,e2⟩:=r.get (getD_some (l:=xs) (d:=V.non) (by rw[r.length];exact hi))
  have:=getD_some (l:=vs) (d:=Value.none) hi
  rw[this] at e1;cases e1
  exact e2
theorem dm.mem {n:Nat} {p:Array Nat} (h:dm n p) {i:Nat} (hi:i∈p.toList):i < n:=by
 have:=(q06.mp h.perm).mem_iff.mp hi
 simpa using this
theorem Sf {l q:Addr} {P:List V->Hp->Prop} {xs:List V} {Q:Value->Shared->Prop} (I:Inv X pins σ H s)
  (col:∀ Q':List Value->Shared->Prop,(∀ h' tk vs,(∀ b o,s.heap.get? b=some o->h'.get? b=some o)->Vals xs vs->Q' vs { s with heap:=h',toks:=tk })->wpAny (model X.prog X.w) X.A.in1 (collect (.ref l)) Q' E s)
  (m_:xs.length < 64) (p0:P [] H)
  (iE:∀ (br:List (Addr × Obj)) (x:V) (u:Value) (ax:List V) (H':Hp) (s':Shared),xs[ax.length]? = some x->RelV x u->Inv X br σ H' s'->P ax H'->wpAny (model X.prog X.w) X.A.in1.in1 (call (.ref q) [u]) (EP X br σ fun k iw=>P (ax ++ [k]) iw) (fun _ _=>False) s')
  (fin:∀ ax H',ax.length=xs.length->P ax H'->∃ ks:List LK,ks.length=xs.length/\(∀ k∈ks,k≠[])/\(∀ (i:Nat) (k:LK),ks[i]? = some k->∃ t,ax[i]? = some (.ref t)/\H' t=some (.tup (k.map V.int))) ∧
   ∀ (p:Array Nat) (s':Shared) (a:Addr),dm xs.length p->Up (fun i=>ks.getD i []) p xs.length->H' a=none->Inv X pins σ (upd H' a (.lst (p.toList.map fun i=>xs.getD i .non))) s'->Q (.ref a) s') :
  wpAny (model X.prog X.w) X.A (call (.builtin "sorted") [.ref l] [(Str.ofString "key",.ref q)]) Q E s:=by
 refine call_function_entry_kw kind_sorted plain_sorted entry_sorted (ksk_s1 _ _) ?_
 unfold Builtin.«sorted»
 refine lJ (m:=checkCount "sorted" 1 1 _) (vK ?_)
 refine lJ (col _ fun h' tk vs kp rv => ?_)
 have lv:vs.length=xs.length:=rv.length.symm
 refine lJ (wpAny_newList ?_ (by rw[Zh];omega))
 have I1:Inv X pins σ H { s with heap:=h',toks:=tk }:=I.kept kp
 have fa:bf X pins H h'.objs.size:=I1.f7 (sG _) (I1.aM.fresh (sG _))
 have A3:X.s₀.heap.objs.size <= h'.objs.size:=I1.sz
 have I2:Inv X pins σ H { s with heap:=h'.push (seqObj "list" vs.toArray 0),toks:=tk }:=I1.kept (h':=h'.push (seqObj "list" vs.toArray 0)) (t':=tk) fun b u e=>oQ _ e
 have rX:(h'.push (seqObj "list" vs.toArray 0)).get? h'.objs.size=some (seqObj "list" vs.toArray 0):=X1 _ rfl
 refine lJ (Yl (wpAny_call_entry_kw slot_list_sort ⟨_,rX,rfl⟩ entry_list_sort ?body (ksk_l1 _ _)))
 case body =>
  show wpAny (model X.prog X.w) X.A.in1.in1 (Builtin.«list.sort» ⟨[.ref h'.objs.size],[(Str.ofString "key",.ref q)]⟩) _ _ _
  rw[ksk_t1]
  refine Sa (P:=P) I2 fa rX (by omega) p0 (fun br v ax H' s' hv J pk => ?_) fun ax H' hl pk => ?_
  ·have hi:ax.length < xs.length:=by rw[<-lv];exact (oP.mp hv).1
   obtain⟨u,e1,e2⟩:=rv.get (oO hi)
   rw[hv] at e1;cases e1
   exact iE br _ v ax H' s' (oO hi) e2 J pk
  ·obtain⟨ks,k1,k2,k3,k4⟩:=fin ax H' (by omega) pk
   refine⟨ks,by omega,k2,k3,fun p s' c hp up J fj e=>⟨_,rfl,?_⟩⟩
   rw[lv] at hp up
   refine vK ⟨_,rfl,k4 p s' h'.objs.size hp up fj.1 (J.uM fj A3 ?_)⟩
   have hz:(p.toList.map fun i=>xs.getD i V.non).length=xs.length:=by rw[qy,My,hp.size]
   exact⟨by rw[hz,Zh];omega,_,c,Se rv fun i hi=>by rw[lv];exact hp.mem hi,e⟩
end
theorem ae.at {H:Hp} {ds:List D} {vs:List V} {i:Nat} {d:D} {v:V} (h:ae H ds vs) (e1:ds[i]? = some d) (e2:vs[i]? = some v):Is H d v:=by
 obtain⟨d',e3,h'⟩:=h.get e2
 rw[e1] at e3;cases e3
 exact h'
theorem ae.uN {H:Hp}:∀ {ds:List D} {vs:List V},vs.length=ds.length->(∀ (i:Nat) (d:D),ds[i]? = some d->∃ v,vs[i]? = some v/\Is H d v)->ae H ds vs
 | [],[],_,_ => .nil
 | [],_ :: _,h,_=>by simp at h
 | _ :: _,[],h,_=>by simp at h
 | d :: ds,v :: vs,h,g=>by
  obtain⟨v',e,h1⟩:=g 0 d rfl
  cases (show some v=some v' from e)
  exact .cons h1 (ae.uN (by simpa using h) fun i d e=>by simpa using g (i + 1) d (by simpa using e))
structure kg where
 T:Addr
 pos:Pos
 qual:Str
theorem dH.same {H H':Hp} {T:Addr} {pos:Pos} {q:Str} (h:dH H T pos q) (s:av H H'):dH H' T pos q:=by
 obtain⟨ps,e,t,c⟩:=h
 exact⟨ps,s _ _ e,t,c.imp id fun ⟨c,e1,e2⟩=>⟨c,e1,s _ _ e2⟩⟩
theorem dH.keep {H H':Hp} {T T':Addr} {pos:Pos} {q:Str} (h:dH H T pos q) (ne:T≠T') (hT:∃ ps,H T'=some (.tbl ps)) (s:∀ b o,H b=some o->b≠T'->H' b=some o):dH H' T pos q:=by
 obtain⟨ps,e,t,c⟩:=h
 refine⟨ps,s _ _ e ne,t,c.imp id fun ⟨c,e1,e2⟩=>⟨c,e1,s _ _ e2 fun z => ?_⟩⟩
 obtain⟨qs,hT⟩:=hT
 rw[z,hT] at e2;cases e2
theorem dH.put {H:Hp} {T a:Addr} {pos:Pos} {q:Str} {o o':HO} (h:dH H T pos q) (ha:H a=some o) (hk:(∃ vs,o = .lst vs)\/∃ ws,o = .dK ws):dH (upd H a o') T pos q:=by
 obtain⟨ps,e,t,c⟩:=h
 have ne:∀ {b u},H b=some u->(∀ vs,u ≠ .lst vs)->(∀ ws,u ≠ .dK ws)->b≠a:=fun {b u} e n1 n2 z=>by
  subst z
  rw[ha] at e;cases e
  rcases hk with⟨_,z⟩ | ⟨_,z⟩
  ·exact n1 _ z
  ·exact n2 _ z
 refine⟨ps,by rw[aA (ne e (fun _ z=>by cases z) fun _ z=>by cases z)];exact e,t,c.imp id fun ⟨c,e1,e2⟩=>⟨c,e1,?_⟩⟩
 rw[aA (ne e2 (fun _ z=>by cases z) fun _ z=>by cases z)];exact e2
@[reducible] noncomputable def mz (ls:List kg):aE where
 ad:=ls.map (·.T)
 ok:=fun H=>∀ l∈ls,dH H l.T l.pos l.qual
 same:=fun h s l hl=>(h l hl).same s
 put:=fun h ha hk l hl=>(h l hl).put ha hk
 tb:=fun h ha=>by
  obtain⟨l,hl,rfl⟩:=Yd.mp ha
  obtain⟨ps,e,_⟩:=h l hl
  exact⟨ps,e⟩
variable [aE]
structure A4 (T:Addr) (pos:Pos) (q:Str):Prop where
 mem:T∈aE.ad
 get:∀ H:Hp,aE.ok H->dH H T pos q
 put:∀ H H':Hp,aE.ok H->dH H' T pos q->(∀ b o,H b=some o->b≠T->H' b=some o)->aE.ok H'
omit [aE] in
theorem Sg {ls:List kg} {l:kg} (hl:l∈ls) (nd:∀ a∈ls,∀ b∈ls,a.T=b.T->a=b):@A4 (mz ls) l.T l.pos l.qual:=by
 letI:aE:=mz ls
 refine⟨ZF hl,fun H h=>h l hl,fun H H' h t k l' gu => ?_⟩
 by_cases z:l'.T=l.T
 ·rw[nd _ gu _ hl z];exact t
 ·obtain⟨ps,e,_⟩:=h l hl
  exact (h l' gu).keep z ⟨ps,e⟩ k
structure Sh (X:Cx) (T:Addr):Prop where
 code:∃ cc,X.env.code = .ref cc/\CodeHd X.base cc T
 ng:mainGlobals≠T
 blt:X.base.BuiltinsAt X.mg T
section
variable {F H H':Hp} {ad:List Addr} {δ : ay} {σ : St}
theorem SR.rA (S:SR F ad δ σ H) (k:∀ b o,H b=some o->b∉aE.ad->H' b=some o) (tk:aE.ok H'):SR (Nw F H H') ad δ σ H':=by
 have sm:=Nw.same (H':=H') S.sub
 have nF:∀ {a o},F a=some o->a∉aE.ad:=fun {a o} e t=>by rw[S.nt a t] at e;cases e
 have nO:∀ {i a ov},ad[i]? = some a -> δ.mu[i]? = some (some ov)->a∉aE.ad:=fun {i a ov} e1 e2 t=>by
  obtain⟨a',o,e3,e4,h⟩:=S.mu i ov e2
  rw[e1] at e3;cases e3
  obtain⟨ps,q⟩:=aE.tb S.tab t
  rw[e4] at q;cases q
  rcases h.kind with⟨_,z⟩ | ⟨_,z⟩<;>cases z
 refine⟨fun a o e => ?_,fun a l => ?_,S.cj,S.inj,fun i ov e => ?_,fun i x e => ?_,S.len,tk,fun a ha => ?_⟩
 ·unfold Nw at e
  cases q:H a with
  | none=>rw[q] at e;exact e
  | some u=>rw[q] at e;exact k a o (S.sub a o e) (nF e)
 ·obtain⟨i,ov,e1,e2⟩:=l
  obtain⟨a',o,e3,e4,_⟩:=S.mu i ov e2
  rw[e1] at e3;cases e3
  unfold Nw;rw[e4];exact S.off a ⟨i,ov,e1,e2⟩
 ·obtain⟨a,o,e1,e2,h⟩:=S.mu i ov e
  exact⟨a,o,e1,k a o e2 (nO e1 e),h.same sm⟩
 ·obtain⟨v,e1,h⟩:=S.sl i x e
  refine⟨v,e1,?_⟩
  cases x with
  | p d=>exact Is.same sm h
  | o k=>exact h
 ·obtain⟨ps,q⟩:=aE.tb S.tab ha
  unfold Nw;rw[q];exact S.nt a ha
theorem Ext.rA (S:SR F ad δ σ H) (k:∀ b o,H b=some o->b∉aE.ad->H' b=some o) (tk:aE.ok H'):Ext F ad δ.mu H (Nw F H H') ad δ.mu H' where
 same:=Nw.same S.sub
 new:=fun a o e=>by
  unfold Nw at e
  cases q:H a with
  | none=>exact .inr (.inl rfl)
  | some u=>rw[q] at e;exact .inl e
 keep:=fun a o e _ t=>k a o e t
 pre:=fun _ _ e=>e
 bV:=fun _ l => .inl l
 iV:=fun a o e=>by
  by_cases t:a∈aE.ad
  ·obtain⟨ps,q⟩:=aE.tb tk t
   exact⟨_,q⟩
  ·exact⟨o,k a o e t⟩
theorem SR.nJ {sl:List (Option DV)} {mu:List (Option OV)} {τ : St} {d:D} {v:V} (S:SR F ad ⟨sl,mu⟩ τ H) (h:Is F d v):SR F ad ⟨some (.p d) :: sl,mu⟩ (some v :: τ) H:=by
 refine⟨S.sub,S.off,S.cj,S.inj,S.mu,fun i x e => ?_,by have:=S.len;simp only[Ex];exact congrArg (· + 1) this,S.tab,S.nt⟩
 cases i with
 | zero=>cases (show some (some (DV.p d))=some (some x) from e);exact⟨v,rfl,h⟩
 | succ i=>exact S.sl i x e
theorem Ext.iY {F' H':Hp} {az:List Addr} {cE:List (Option OV)} {a:Addr} {o:HO} (S:SR F ad δ σ H) (e:Ext F ad δ.mu H F' az cE H') (h:H a=some o) (n1:∀ vs,o ≠ .lst vs) (n2:∀ ws,o ≠ .dK ws) (n3:∀ ps,o ≠ .tbl ps):H' a=some o:=by
 refine e.keep a o h (fun ⟨i,ov,e1,e2⟩ => ?_) fun t => ?_
 ·obtain⟨a',u,e3,e4,q⟩:=S.mu i ov e2
  rw[e1] at e3;cases e3
  rw[h] at e4;cases e4
  rcases q.kind with⟨_,z⟩ | ⟨_,z⟩
  ·exact n1 _ z
  ·exact n2 _ z
 ·obtain⟨ps,q⟩:=aE.tb S.tab t
  rw[h] at q;exact n3 _ (Yi q)
end
noncomputable def HJ (cp:List (Option Nat)) (fb:WE) (δ : ay) (ds:List D) (key:D->LK):Prop :=
 ∀ d∈ds,key d≠[]/\fb ⟨some (.p d) :: cR cp δ.sl,δ.mu⟩ fun y δ'=>y = .p (.tup ((key d).map D.int)) /\ δ'.mu = δ.mu
noncomputable def sortBy (cp:List (Option Nat)) (fb:WE) (δ : ay) (ds:List D) (K:List D->Prop):Prop :=
 ds.length < 64/\∃ key:D->LK,HJ cp fb δ ds key/\∀ out:List D,out.Perm ds->(out.map key).Pairwise kle->K out
section
variable {X:Cx} {params:Arguments} {body:Expr} {scope:Scope} {cD:Pos} {x:Str} {Nb:List Str} {cp:List (Option Nat)} {fb:WE} {T:Addr}
structure d8 (X:Cx) (params:Arguments) (body:Expr) (scope:Scope) (cD:Pos) (T:Addr) (x:Str) (Nb:List Str) (cp:List (Option Nat)) (fb:WE):Prop where
 env:Sh X T
 tbl:A4 T cD (X.env.qual ++ "<lambda>")
 HK:defaultsOf params X.env=([],[])
 kind:scope.kind = .function
 names:uJ X.N X.env.scope scope x Nb cp=true
 co:scope.isCoroutine=false
 gen:scope.isGenerator=false
 bind:∀ (cl:List (Str × Addr)) (pm cd ct u:Value),bindArgs (kla_fn "<lambda>" (X.env.qual ++ "<lambda>") params body scope cl pm cd ct) ⟨[u],[]⟩=pure [(x,u)]
 room:∃ k,aS (k + 3) X.A/\∀ d:LD,aS k (d.A.deeper (envX (X.env.qual ++ "<lambda>") scope d.s.heap.objs.size d.f d.cd d.cl))->JE (mw X (X.env.qual ++ "<lambda>") scope (x :: Nb) d) body (tD fb)
theorem Si {pins:List (Addr × Obj)} {σ : St} {H:Hp} {s:Shared} {E:Value->Shared->Prop} {l:Addr} {F:Hp} {ad:List Addr} {δ : ay} {ds:List D} {xs:List V} {eI pos:Pos} {Q:VK} (L:d8 X params body scope cD T x Nb cp fb)
  (I:Inv X pins σ H s) (S:SR F ad δ σ H) (hx:ae F ds xs)
  (col:∀ (s:Shared) (H':Hp),Inv X pins σ H' s->(∀ b o,H b=some o->b∉aE.ad->H' b=some o)->∀ Q':List Value->Shared->Prop,(∀ h' tk vs,(∀ b o,s.heap.get? b=some o->h'.get? b=some o)->Vals xs vs->Q' vs { s with heap:=h',toks:=tk })->wpAny (model X.prog X.w) X.A.in1 (collect (.ref l)) Q' E s)
  (hs:sortBy cp fb δ ds fun out=>∀ a F' H' us,Ext F ad δ.mu H F' ad δ.mu H'->SR F' ad δ σ H'->H' a=none->ae F' out us->Q (.ref a) (upd H' a (.lst us))) :
  wpAny (model X.prog X.w) X.A (evalAll ((backToKw pos (keywordEach [⟨some "key",.Lambda params body scope cD,eI⟩] X.env)).map (·.2))) (fun ax s₂ => wpAny (model X.prog X.w) X.A (call (.builtin "sorted") [.ref l] (((backToKw pos (keywordEach [⟨some "key",.Lambda params body scope cD,eI⟩] X.env)).filterMap (·.1)).zip ax)) (EP X pins σ Q) E s₂) E s:=by
 obtain⟨m_,key,hk,K⟩:=hs
 obtain⟨k,kh,J⟩:=L.room
 obtain⟨cc,fQ,hC⟩:=L.env.code
 show wpAny _ _ (evalAll [do let v <- eval (.Lambda params body scope cD) X.env;standAt pos;pure v]) _ _ _
 refine evalAll_cons (lJ ?_)
 have qd:=L.names
 unfold uJ at qd
 simp only[Yg,Yr,Ze] at qd
 have SC:=q8P L.kind qd.1.1.1
 obtain⟨cl,k8,my,rz⟩:=yL (scope:=scope) (env:=X.env) fun y hy e=>I.ok.has y.1 (SC.free y hy e)
 refine HC I (L.tbl.get H S.tab) L.HK k8 fQ (hC.keeps I.bk) L.env.ng (I.mod.glob.keeps I.bk) (L.env.blt.keeps I.bk) fun f H1 s1 c I1 t1 k1 HB hf hc => ?_
 refine lJ (Zv (vK ?_))
 refine evalAll_nil ?_
 show wpAny _ _ (call (.builtin "sorted") [.ref l] [(Str.ofString "key",.ref f)]) _ _ _
 have kT:∀ b o,H b=some o->b∉aE.ad->H1 b=some o:=fun b o e t=>k1 b o e fun z=>t (by rw[z];exact L.tbl.mem)
 have jC:=L.tbl.put H H1 S.tab t1 k1
 have S1:=S.rA kT jC
 have E1:=Ext.rA S kT jC
 have lx:=hx.length
 refine Sf (xs:=xs) (P:=fun ax H'=>∃ F',Ext F ad δ.mu H F' ad δ.mu H'/\SR F' ad δ σ H'/\H' f=some (gR f "<lambda>" (X.env.qual ++ "<lambda>") params body scope cl ((X.mg "__name__").getD .none) (.ref c))/\H' c=some (kc c (X.env.qual ++ "<lambda>"))/\∀ (i:Nat) (d:D) (kv:V),ds[i]? = some d->ax[i]? = some kv->Is F' (.tup ((key d).map D.int)) kv)
  I1 (col s1 H1 I1 kT) (by omega) ⟨_,E1,S1,hf,hc,fun i d kv _ e=>by simp at e⟩ (fun br v u ax H' s' hv rv I' ⟨F',E',S',nK,gz,nM⟩ => ?_) fun ax H' hl ⟨F',E',S',nK,gz,nM⟩ => ?_
 ·have hi:ax.length < ds.length:=by rw[<-lx];exact (oP.mp hv).1
  have hd:=oO hi
  have A5:Is F' ds[ax.length] v:=ae.at (hx.same E'.same) hd hv
  obtain⟨Sj,A6⟩:=hk _ (Y6 hi)
  have r2:aS (k + 1) X.A.in1.in1:=(aS.in1 (aS.in1 (k:=k + 2) kh))
  refine HF I' nK gz (by rw[show X.A.in1.in1.frames=X.A.frames from rfl];exact I'.ok.frames) r2.hd r2.depth L.kind L.names L.co L.gen my rz (fun ct=>L.bind cl _ _ ct u) rv (J ⟨X.A.in1.in1,cl,f,.ref c,s',H'⟩ (r2.deeper _)) ?_
  refine⟨F',ad,_,_,(S'.pf (cp:=cp)).nJ A5,A6,fun y δ' ⟨ey,em⟩ w F2 cy H2 E2 S2 V2 => ?_⟩
  subst ey
  have ea:cy=ad:=by
   have l2:cy.length=ad.length:=by rw[S2.cj,em,S'.cj]
   refine ZW fun i => ?_
   by_cases hi:i < ad.length
   ·rw[oO hi];exact E2.pre i _ (oO hi)
   ·rw[YT (by omega),YT (by omega)]
  subst ea
  obtain⟨jI,cE⟩ := δ'
  have em:cE = δ.mu:=em
  subst em
  refine⟨F2,E'.trans E2,SR.back S' E2 S2,E2.iY S' nK (fun _ z=>by cases z) (fun _ z=>by cases z) (fun _ z=>by cases z),E2.iY S' gz (fun _ z=>by cases z) (fun _ z=>by cases z) (fun _ z=>by cases z),fun i d kv e1 e2 => ?_⟩
  by_cases ma:i < ax.length
  ·rw[Xn ma] at e2
   exact Is.same E2.same (nM i d kv e1 e2)
  ·have:i=ax.length:=by
    have:=(oP.mp e2).1
    rw[Ew,Yk] at this
    omega
   subst this
   rw[Xr (sG _),YG] at e2
   cases (show some w=some kv from e2)
   rw[hd] at e1;cases e1
   exact V2
 ·refine⟨ds.map key,by rw[qy];omega,fun k gr => ?_,fun i k' e => ?_,fun p s' a hp up ha I' => ?_⟩
  ·obtain⟨d,hd,rfl⟩:=Yd.mp gr
   exact (hk d hd).1
  ·rw[Ni] at e
   obtain⟨d,hd,rfl⟩:=Xo.mp e
   have hi:i < ax.length:=by rw[hl,lx];exact (oP.mp hd).1
   have is:=nM i d _ hd (oO hi)
   simp only[Is] at is
   obtain⟨t,us,e1,e2,e3⟩:=is
   refine⟨t,by rw[oO hi,e1],?_⟩
   rw[<-qT e3];exact S'.sub _ _ e2
  ·have pm:(p.toList.map fun i=>ds.getD i .non).Perm ds:=by
    have h1:=(q06.mp hp.perm).map fun i=>ds.getD i .non
    have h2:(List.range xs.length).map (fun i=>ds.getD i D.non)=ds:=by
     refine ZW fun i => ?_
     rw[Ni]
     by_cases hi:i < ds.length
     ·rw[YQ (by omega),q1y,oO hi,Et,oO hi];rfl
     ·rw[YT (by rw[YV];omega),YT (by omega)];rfl
    rw[show (List.range xs.length).toArray.toList=List.range xs.length from rfl,h2] at h1
    exact h1
   refine⟨.ref a,_,I',rfl,K _ pm ?_ a _ _ _ E' S' ha ?_⟩
   ·rw[YL,Z7]
    intro i j hi hj jm
    rw[qy,My,hp.size] at hi hj
    have:=up i j (Zb jm) hj
    unfold KA at this
    rw[q0C,q0C]
    have gp:∀ {i:Nat} (h:i < p.toList.length),p.getD i 0=p.toList[i]:=fun {i} h=>by
     have h':i < p.size:=by rw[<-My];exact h
     simp[Array.getD,h']
    have gk:∀ {i:Nat},i < ds.length->(ds.map key).getD i []=key (ds.getD i .non):=fun {i} h=>by
     rw[Et,Ni,oO h,Et,oO h];rfl
    have pi:=hp.lt hi
    have pj:=hp.lt hj
    dsimp only at this
    rw[gk (by omega),gk (by omega),gp (by rw[My,hp.size];exact hi),gp (by rw[My,hp.size];exact hj)] at this
    exact this
   ·refine ae.uN ?_ fun i d e => ?_
    ·rw[qy,qy]
    ·rw[Ni] at e ⊢
     obtain⟨z,e1,rfl⟩:=Xo.mp e
     rw[e1]
     have hz:=hp.mem (Yn e1)
     refine⟨_,rfl,ae.at (hx.same E'.same) (getD_some (by omega)) (getD_some (by omega))⟩
end
structure gj (mg:Str->Option Value) (base:Heap) (fd:FuncData) (T:Addr) (pos:Pos) (q:Str):Prop where
 code:∃ cc,fd.code = .ref cc/\CodeHd base cc T
 ng:mainGlobals≠T
 blt:base.BuiltinsAt mg T
 tbl:A4 T pos q
theorem eS.A7 {P:Program} {w:World} {K:PySem.W.Frag} {mg:Str->Option Value} {base:Heap} {x qual:Str} {st:Stmt} {f:Addr} {fd:FuncData} {N ps:List Str} {k:Nat} {G:GD} (F:eS K x qual st f fd) (S:jM N ps (aW st))
  (cH:∀ (aD:Value) (A:Around) (outer:List Env) (s:Shared) (H:Hp) (E:XK),fd.code=aD->aS k (A.deeper (envOfC qual (aW st) s.heap.objs.size f aD)) →
   ∃ B:WS,bZ (ar bz P w K mg base N qual (aW st) f aD A outer s H E).bG (b_ st) (cM B)/\∀ ys ovs K',ys.length=ps.length->G ys ovs K'->B (bP ovs.length K') ⟨ys.map some ++ List.replicate (N.length - ps.length) none,ovs.map some⟩) :
  bE P w K mg base bz (k + 1) f fd ps (kZ G ps.length):=by
 obtain⟨oc,od,kV,doc,pm,an,aD,ct,kO,rfl,lk,di⟩:=F.ex
 refine yf lk di S (fun vs H Q E h=>h.1) fun A outer s H vs Q E hr h => ?_
 obtain⟨hl,Fz,ad,ys,ovs,K',S0,g,kk⟩:=h
 obtain⟨B,jb,hb⟩:=cH aD A outer s H E rfl hr
 have hy:ys.length=ps.length:=by
  have:=S0.len
  rw[qy] at this
  rw[<-hl,this];show _=(ys.map some).length;rw[qy]
 refine⟨_,jb.out.bG,Fz,ad,⟨ys.map some ++ List.replicate (N.length - ps.length) none,ovs.map some⟩,bP ovs.length K',by rw[<-hl];exact S0.start,hb ys ovs K' hy g,⟨fun δ' h F' az σ' H' E' S' => ?_,fun δ' h=>h.elim,fun δ' h=>h.elim,fun y δ' h v F' az σ' H' E' S' V => ?_,trivial⟩⟩
 ·exact qO (σ' := σ') S0 E' S' (x := .p .non) (v := .non) rfl h kk
 ·exact qO (σ' := σ') S0 E' S' V h kk
section
variable {X:Cx} {params:Arguments} {body a e:Expr} {scope:Scope} {cD p1 p2 q1 q2 eI:Pos} {x:Str} {Nb:List Str} {cp:List (Option Nat)} {fb f:WE} {fa:WA} {T:Addr}
noncomputable def A8 (fa:WA) (cp:List (Option Nat)) (fb:WE):WE:=fun δ K=>fa δ fun xs δ1=>match xs with
 | [.p (.int j)]=>(0 <= j/\j <= 60)/\sortBy cp fb δ1 (cn 0 j.toNat) fun out=>K (.o δ1.mu.length) ⟨δ1.sl,δ1.mu ++ [some (.lst out)]⟩
 | _=>False
theorem Sk (L:d8 X params body scope cD T x Nb cp fb) (hc:X.calm=true) (uO:Gl X "sorted") (hs:X.mg "sorted" = none) (uP:bootBuiltins "sorted" = some (.builtin "sorted")) (pH:Gl X "range") (hr:X.mg "range" = none) (pJ:bootBuiltins "range" = some (.type "range")) (ha:JA X [a] (bL fa))
  (he:starEach [a] X.env=[(false,eval a X.env)]) (M:ay->List D->Prop)
  {pins:List (Addr × Obj)} {s:Shared} {σ : St} {H:Hp} {Q:VK} {F:Hp} {ad:List Addr} {δ : ay} (I:Inv X pins σ H s) (S:SR F ad δ σ H)
  (q:fa δ fun xs δ1=>match xs with
   | [.p (.int j)]=>(0 <= j/\j <= 60)/\sortBy cp fb δ1 (cn 0 j.toNat) (M δ1)
   | _=>False)
  (fin:∀ δ1 out,M δ1 out->∀ a F' az H' us,Ext F ad δ.mu H F' az δ1.mu H'->SR F' az δ1 σ H'->H' a=none->ae F' out us->Q (.ref a) (upd H' a (.lst us))) :
  wpAny (model X.prog X.w) X.A (eval (.Call (.Name "sorted" p1) [.Call (.Name "range" p2) [a] [] q2] [⟨some "key",.Lambda params body scope cD,eI⟩] q1) X.env) (EP X pins σ Q) X.xe s:=by
 refine Zm (lq I uO hs uP ?_)
 refine callWith_kw ?_
 refine a5 ((jV (qD Fq pH hr pJ ha (he:=he)) aY).out q1 pins s σ H (fun vs H2=>∃ (r:Addr) (j:Int) (F1:Hp) (aQ:List Addr) (δ1:ay) (H1:Hp),vs=[.ref r]/\H2=upd H1 r (.rng 0 j)/\H1 r=none/\Ext F ad δ.mu H F1 aQ δ1.mu H1/\SR F1 aQ δ1 σ H1/\(0 <= j/\j <= 60)/\sortBy cp fb δ1 (cn 0 j.toNat) (M δ1)) I ?_) fun us s1 A9 => ?_
 ·refine⟨F,ad,δ,_,S,q,fun xs δ1 h1 vs F1 aQ H1 E1 S1 V1 => ?_⟩
  split at h1
  ·rename_i j
   obtain⟨v,r,e,W1,W2⟩:=V1
   have W2:r=[]:=W2
   have W1:v = .int j:=W1
   subst W2 W1 e
   exact⟨j,rfl,fun rr z6=>⟨rr,j,F1,aQ,δ1,H1,rfl,rfl,z6,E1,S1,h1.1,h1.2⟩⟩
  ·exact h1.elim
 ·obtain⟨vs,H2,I2,r2,r,j,F1,aQ,δ1,H1,ev,eH,Sl,E1,S1,hj,xb⟩:=A9
  subst ev eH
  obtain⟨u,rfl,rx⟩:=vals1 r2
  cases rx
  have sm:av H1 (upd H1 r (.rng 0 j)):=cZ Sl
  have S2:=S1.al sm
  have E2:=Ext.al S1 sm
  obtain⟨n,rfl⟩:∃ n:Nat,j=n:=⟨j.toNat,by omega⟩
  rw[Yj,wF] at xb
  refine Si L I2 S2 (ds:=(a_ n).map D.int) (xs:=(a_ n).map V.int) t8 (fun s' H' I' kp Q' hQ => ?_) ?_
  ·have Sm:H' r=some (.rng 0 (n:Int)):=kp r _ a9 fun t=>by
    obtain⟨ps,z⟩:=aE.tb S2.tab t
    rw[a9] at z;cases z
   obtain⟨t,u,v,e⟩:=(show ∃ t u v,s'.heap.get? r=some { cls := .type "range",data := .fields #[.int 0 t,.int (n:Int) u,.int 1 v] } from I'.aM r _ Sm)
   have eJ:Builtin.Range.rangeSize 0 (n:Int) 1=n:=by rw[rangeSize_one];split<;>omega
   refine Sb (n:=n) (by rw[q0g];exact I'.ok.hd hc) e (small_one (by omega) (by omega) (by omega) (by omega)) eJ (by omega) fun h' tk acc Sn it=>hQ h' tk _ Sn ?_
   refine zp ?_ fun i u e => ?_
   ·rw[My,it.1,a_,qy,YV]
   ·rw[Yh] at e
    obtain⟨t',e2⟩:=it.2 i u e
    have hi:i < n:=by rw[<-it.1];exact (Ys.mp e).1
    refine⟨t',e2.trans ?_⟩
    rw[a_,Et,Ni,YQ hi]
    show Value.int (0 + (i:Int) * 1) t'=Value.int (i:Int) t'
    rw[Int.zero_add,Int.mul_one]
  ·obtain⟨m_,key,hk,hK⟩:=xb
   exact⟨m_,key,hk,fun out pm pw a F' H' us E' S' hn is=>fin δ1 out (hK out pm pw) a F' aQ H' us ((E1.trans E2).trans E') S' hn is⟩
theorem So (L:d8 X params body scope cD T x Nb cp fb) (hc:X.calm=true) (uO:Gl X "sorted") (hs:X.mg "sorted" = none) (uP:bootBuiltins "sorted" = some (.builtin "sorted")) (pH:Gl X "range") (hr:X.mg "range" = none) (pJ:bootBuiltins "range" = some (.type "range")) (ha:JA X [a] (bL fa))
  (he:starEach [a] X.env=[(false,eval a X.env)]:=by rfl):JE X (.Call (.Name "sorted" p1) [.Call (.Name "range" p2) [a] [] q2] [⟨some "key",.Lambda params body scope cD,eI⟩] q1) (tD (A8 fa cp fb)) :=
 ⟨fun pins s σ H Q I h0_ => el7 h0_ fun F ad δ K S q k =>Sk L hc uO hs uP pH hr pJ ha he (fun δ1 out=>K (.o δ1.mu.length) ⟨δ1.sl,δ1.mu ++ [some (OV.lst out)]⟩) I S q fun δ1 out hM a F' az H' us E' S' hn is=>by
  have oi:ff F' (.lst out) (.lst us):=⟨us,rfl,is⟩
  exact k _ _ hM _ _ _ _ (E'.trans (Ext.own S' hn)) (S'.own hn oi) (Ab S')⟩
end
end L2
namespace L2
open PySem PySem.Spec PyProof.Rows PySem.W
section
variable {prog:Program} {w:World} {A:Around} {E:Value->Shared->Prop} {s:Shared} {Q:Bool->Shared->Prop}
end
section
variable {X:Cx} {pins:List (Addr × Obj)} {σ : St} {H:Hp} {s:Shared} {A:Around} {E:Value->Shared->Prop} {a:Addr} {vs:List Value} {ks:List LK} {κ : SortKind}
end
section
variable [aE] {X:Cx}
end
end L2
namespace LJ
open PySem L2 PySem.W
theorem Sq {ls:List kg} {b:Addr} {ps:Array Value}:(ls.map fun l=>(l.T,(#[]:Array Value))).lookup b=some ps->(∃ l∈ls,l.T=b)/\ps = #[]:=by
 induction ls with
 | nil=>intro h;cases h
 | cons l ls ih =>
  intro h
  rw[YC,Yf] at h
  cases q:b == l.T with
  | true =>
   rw[q] at h
   exact⟨⟨l,Nh,(Yb q).symm⟩,(Yi h).symm⟩
  | false =>
   rw[q] at h
   obtain⟨⟨l',h1,h2⟩,h3⟩:=ih h
   exact⟨⟨l',Nk _ h1,h2⟩,h3⟩
theorem A_ {ls:List kg} {l:kg} (h:l∈ls):(ls.map fun l=>(l.T,(#[]:Array Value))).lookup l.T=some #[]:=by
 induction ls with
 | nil=>cases h
 | cons l' ls ih =>
  rw[YC,Yf]
  cases q:l.T == l'.T with
  | true=>rfl
  | false =>
   rcases X7.mp h with rfl | h
   ·simp at q
   ·exact ih h
theorem Sr {l:OpenLaw} {q:Program} {loose:List Str} {XP:(Str->Option Value)->Heap->Prop} {d:DefRec} {K:Params->Frag} {as:List Addr} {e:∀ P,as=(K P).map (·.1)} {ts:List Addr} {kk:Nat} (ls:List kg) (Ss:ls.map (·.T)=ts) (hn:l.most=some 63) (sL:d.params.defaults=[]) (hr:aS kk callerA)
  (di:∀ (w:World) (h:Heap),(K w.params).In h->∀ t∈ls,∃ cc,CodeHd h cc t.T) (Su:∀ P,noTabs (K P)=true)
  (F:∀ (w:World) (mg:Str->Option Value) (fa:Addr) (h:Heap),(K w.params).In h->h.Ns mainGlobals mg->mg d.name=some (.ref fa) →
   ∃ fd:FuncData,(∀ (s:Shared) (u:Value),BindsTo s fd ⟨[u],[]⟩ [("script",u)])/\∀ base:Heap,(K w.params).In base->base.Ns mainGlobals mg->(∀ t∈ls,base.BuiltinsAt mg t.T)->bE l.prog w (K w.params) mg base bz kk fa fd ["script"] (@w9 (mz ls) (K w.params))) :
  WalkO q loose XP (kmHook K as e ts).says l.row.toRowW d [] (fun f vs=>PySem.call f vs) :=
 L2.RU (n:=63) (k:=kk) (x := "script") (K:=fun w=>K w.params) (CX:=fun _=>bz) (sp:=fun w=>@w9 (mz ls) (K w.params)) (Ts:=fun _=>ls.map fun l=>(l.T,#[])) hn (by decide) sL hr (fun w h Y=>km_in_of Y)
  (fun w h Y b ps hl=>by
   obtain⟨⟨t,ht,rfl⟩,rfl⟩:=Sq hl
   have e1:h.get? t.T=some (tabObj #[]):=km_tabs_of Y t.T (by rw[<-Ss];exact ZF ht)
   refine⟨e1,?_,?_⟩
   ·obtain⟨cc,o,vs,_,_,_,_,_,_,_,c1,c2,c3,c4,_⟩:=di w h (km_in_of Y) t ht
    exact⟨cc,o,vs,c1,c2,c3,c4⟩
   ·cases z:(K w.params).lookup t.T with
    | none=>rfl
    | some o =>
     have e2:=km_in_of Y t.T o z
     rw[e1] at e2;cases e2
     have h2:=Yr.mp (Su w.params) (t.T,tabObj #[]) (mem_of_lookupK z)
     exact absurd (show false=true from h2) Eu)
  (fun w mg fa h KX G lH=>by
   obtain⟨fd,hb,hF⟩:=F w mg fa h KX G lH
   exact⟨fd,hb,fun base k1 k2 k3=>hF base k1 k2 fun t ht=>k3 t.T #[] (A_ ht)⟩)
  (fun w H a ns hl hO hS=>by
   letI:aE:=mz ls
   refine⟨a,ns,rfl,hS,hl,fun t ht => ?_,fun _=>rfl⟩
   rcases hO t.T with⟨ps,z1,z2⟩ | ⟨z1,_⟩
   ·rw[A_ ht] at z1;cases z1
    exact⟨#[],z2,trivial,.inl rfl⟩
   ·rw[A_ ht] at z1;cases z1)
  fun _ _ _ _ _ z=>z
end LJ
namespace LJ
open PySem L2
variable [aE]
omit [aE] in
theorem HL {m:Int} {ws:List (Int × Int × Int)} (h:cb m ws):gP (aV m ws)=true:=by
 show (fP (.int m) 1 12 && pZ m (.tup (ws.map bQ)))=true
 have h1:fP (.int m) 1 12=true:=by
  show (decide (1 <= m) && decide (m <= 12))=true
  rw[Ya h.m1,Ya h.jB];rfl
 rw[h1,q0D]
 show (decide ((ws.map bQ).length <= 30) && ((ws.map bQ).all (cu m) && decide (((ws.map bQ).map pairOf).Nodup)))=true
 have h2:(ws.map bQ).all (cu m)=true:=by
  refine Yr.mpr fun d hd => ?_
  obtain⟨y,hy,rfl⟩:=Yd.mp hd
  obtain⟨a,b,c,d,e⟩:=h.ends y hy
  show (((decide (0 <= y.1) && decide (y.1 <= m - 1)) && (decide (y.1 + 1 <= y.2.1) && decide (y.2.1 <= m - 1))) && (decide (0 <= y.2.2) && decide (y.2.2 <= 1000000000)))=true
  rw[Ya a,Ya (by omega:y.1 <= m - 1),Ya (by omega:y.1 + 1 <= y.2.1),Ya (by omega:y.2.1 <= m - 1),Ya d,Ya e];rfl
 have h3:(ws.map bQ).map pairOf=ws.map fun y=>(y.1,y.2.1):=by rw[YL];rfl
 rw[h2,h3,Ya h.unlike,qy,Ya h.jX];rfl
noncomputable def Ba:GD:=fun ys ovs K=>∃ (m:Int) (ws:List (Int × Int × Int)),cb m ws/\ys=[.p (aV m ws)]/\ovs=[]/\K (.p .non) []
noncomputable def Bb:WS:=(bx (df (dT (aj 1 wZ (af (aa 0) ag)))) zx dW)
theorem Sv:∀ ys ovs K',ys.length=1->Ba ys ovs K'->Bb (bP ovs.length K') ⟨ys.map some ++ List.replicate 0 none,ovs.map some⟩:=by
 rintro ys ovs K' - ⟨m,ws,W,rfl,rfl,k⟩
 unfold Bb
 simp? only []
 refine⟨aV m ws,rfl,rfl,?_⟩
 rw[HL W]
 simp? only []
 exact bq k
noncomputable def uQ:GD:=fun ys ovs K=>∃ y:Int × Int × Int,ys=[.p (bQ y)]/\ovs=[]/\K (.p (.tup [.int y.2.2,.int y.1,.int y.2.1])) []
noncomputable def Bc:WS:=(aN (eM (af (d2 (aa 0) (dC (.int 2)) a6) (af (d2 (aa 0) (dC (.int 0)) a6) (af (d2 (aa 0) (dC (.int 1)) a6) ag)))))
theorem Sw:∀ ys ovs K',ys.length=1->uQ ys ovs K'->Bc (bP ovs.length K') ⟨ys.map some ++ List.replicate 0 none,ovs.map some⟩:=by
 rintro ys ovs K' - ⟨y,rfl,rfl,k⟩
 unfold Bc
 simp? only [bQ,eU,iC,at2]
 exact bq k
noncomputable def fu (ws:List (Int × Int × Int)) (n:Int):LK:=[(ws.getD n.toNat (0,0,0)).2.2,(ws.getD n.toNat (0,0,0)).1,(ws.getD n.toNat (0,0,0)).2.1]
structure bF (ws:List (Int × Int × Int)) (ns:List Int):Prop where
 perm:ns.Perm (a_ ws.length)
 up:(ns.map (fu ws)).Pairwise kle
theorem bF.nums {ws:List (Int × Int × Int)} {ns:List Int} (h:bF ws ns):Nums ws ns:=fun n hn=>Hw (h.perm.mem_iff.mp hn)
theorem bF.len {ws:List (Int × Int × Int)} {ns:List Int} (h:bF ws ns):ns.length=ws.length:=by rw[h.perm.length_eq];unfold a_;simp
theorem Sx {m:Int} {ws:List (Int × Int × Int)} (W:cb m ws) {a b:Int} (ha:0 <= a/\a < (ws.length:Int)) (hb:0 <= b/\b < (ws.length:Int)) (e:fu ws a=fu ws b):a=b:=by
 obtain⟨i,rfl⟩:∃ i:Nat,a=i:=⟨a.toNat,by omega⟩
 obtain⟨j,rfl⟩:∃ j:Nat,b=j:=⟨b.toNat,by omega⟩
 have hi:i < ws.length:=by omega
 have hj:j < ws.length:=by omega
 unfold fu at e
 rw[Yj,Yj,Et,oO hi,Et,oO hj] at e
 simp only[Option.getD_some,List.cons.injEq,and_true] at e
 have q:(ws.map fun y=>(y.1,y.2.1))[i]'(by rw[qy];exact hi)=(ws.map fun y=>(y.1,y.2.1))[j]'(by rw[qy];exact hj):=by
  rw[q0C,q0C,e.2.1,e.2.2]
 have:=(q0x W.unlike).mp q
 rw[this]
theorem Sy {out:List D} {l:List Int} (h:out.Perm (l.map D.int)):∃ ns:List Int,out=ns.map D.int/\ns.Perm l:=by
 refine⟨out.map fun d=>match d with
  | .int n=>n
  | _=>0,?_,?_⟩
 ·rw[YL]
  refine (q0H out).symm.trans (ZE fun d hd => ?_)
  obtain⟨n,_,rfl⟩:=Yd.mp (h.mem_iff.mp hd)
  rfl
 ·have:=h.map fun d=>match d with
   | .int n=>n
   | _=>0
  rw[YL] at this
  exact this.trans (List.Perm.of_eq ((ZE fun n _=>rfl).trans (q0H l)))
noncomputable def Bd:GD:=fun ys ovs K=>∃ (m:Int) (ws:List (Int × Int × Int)),cb m ws/\ys=[.p (aV m ws)]/\ovs=[]/\∀ ns,bF ws ns->K (.n (ns.map D.int)) []
noncomputable def Be:WS:=(au (jE (aj 1 Ba (af (aa 0) ag))) (au (aO 1 (d2 (aa 0) (dC (.int 1)) a6)) (aN (A8 (af (dN (af (aa 1) ag) eD) ag) [some 1] (aj 1 uQ (af (d2 (aa 1) (aa 0) a6) ag))))))
theorem Sz:∀ ys ovs K',ys.length=1->Bd ys ovs K'->Be (bP ovs.length K') ⟨ys.map some ++ List.replicate 1 none,ovs.map some⟩:=by
 rintro ys ovs K' - ⟨m,ws,W,rfl,rfl,k⟩
 have xc:=W.jX
 unfold Be
 refine bw fun N hN => ?_
 simp? only []
 refine⟨m,ws,W,rfl,rfl,?_⟩
 simp? only []
 subst hN
 refine bw fun N hN => ?_
 simp? only [iC,aV]
 subst hN
 simp? only [A8]
 refine⟨⟨by omega,by omega⟩,by rw[l6];omega,fun d=>match d with
  | .int n=>fu ws n
  | _=>[],fun d hd => ?_,fun out pm pw => ?_⟩
 ·obtain⟨i,hi⟩:=Xq.mp hd
  obtain⟨hi,rfl⟩:=lZ hi
  have e0:(0 + (i:Int))=i:=by omega
  rw[e0]
  obtain⟨y,ey,hy,ea,_⟩:=p9 W (n:=(i:Int)) (by omega) (by omega)
  refine⟨(by intro z;cases z),?_⟩
  simp? only [ea]
  refine⟨y,rfl,rfl,?_⟩
  simp? only []
  unfold fu
  rw[ey]
  rfl
 ·rw[Yj,wF] at pm
  obtain⟨ns,rfl,pn⟩:=Sy pm
  refine⟨[],rfl,rfl,.inl (k ns ⟨pn,?_⟩)⟩
  rw[YL] at pw
  exact pw
end LJ
namespace L2
open PySem PySem.Spec PyProof.Rows
variable [aE]
section
variable {X:Cx} {o i e v:Expr} {fo fi fv fk fe:WE} {pos:Pos}
end
end L2
namespace LJ
open PySem L2
variable [aE]
end LJ
namespace L2
open PySem PySem.Spec PyProof.Rows PySem.W
section
open PySem.SeqAt
open PySem.AutoSeq1 (wpAny_loadPart')
open PySem.MeetsSeq PySem.MeetsSeq2 PySem.MeetsSeq3
end
section
variable {prog:Program} {w:World} {A:Around} {E:Value->Shared->Prop} {s:Shared} {Q:Bool->Shared->Prop}
end
section
variable [aE] {X:Cx}
end
end L2
namespace LJ
open PySem L2
variable [aE]
end LJ
namespace L2
open PySem
variable [aE]
section
variable {F F' H H':Hp} {ad az:List Addr} {δ δ':ay} {σ σ':St}
end
section
variable {X:Cx} {XR kW mQ qv:Stmt} {i n:Nat} {G:GD} {fa:WA} {t:WT} {B:TS} {E:XK}
end
end L2
namespace LJ
open PySem L2
variable [aE]
noncomputable def xf (p q:Int) (fs:List Int):List Int:=fs.map fun x=>if x=p then q else x
theorem SA {p q x y:Int}:(if x=p then q else x)=(if y=p then q else y)↔x=y\/((x=p\/x=q)/\(y=p\/y=q)):=by
 by_cases h1:x=p<;>by_cases h2:y=p
 ·rw[Xp h1,Xp h2];constructor<;>intro h<;>omega
 ·rw[Xp h1,Xm h2];constructor<;>intro h<;>omega
 ·rw[Xm h1,Xp h2];constructor<;>intro h<;>omega
 ·rw[Xm h1,Xm h2];constructor<;>intro h<;>omega
theorem HM {f:Int->Int} {fs:List Int} {i:Nat} (h:i < fs.length):(fs.map f).getD i 0=f (fs.getD i 0):=by
 rw[Et,Ni,oO h,Et,oO h];rfl
theorem SD (fs:List Int) (i j:Nat):jn fs i j=xf (max (fs.getD i 0) (fs.getD j 0)) (min (fs.getD i 0) (fs.getD j 0)) fs:=rfl
theorem SE (a b:Int):(max a b=a/\min a b=b)\/(max a b=b/\min a b=a):=by
 by_cases h:a <= b
 ·exact .inr ⟨Int.max_eq_right h,Int.min_eq_left h⟩
 ·exact .inl ⟨Int.max_eq_left (by omega),Int.min_eq_right (by omega)⟩
noncomputable def ki (ws:List (Int × Int × Int)) (st:List Int × List Int) (n:Int):List Int × List Int :=
 if st.2.getD (cC ws n).1 0=st.2.getD (cC ws n).2 0 then st else (st.1 ++ [n],jn st.2 (cC ws n).1 (cC ws n).2)
noncomputable def fU (ws:List (Int × Int × Int)) (fs ns:List Int):List Int × List Int:=ns.foldl (ki ws) ([],fs)
noncomputable def nN (m:Int) (ws:List (Int × Int × Int)) (ns:List Int):List Int:=sortI (fU ws (a_ m.toNat) ns).1
theorem SG (ws:List (Int × Int × Int)) (st:List Int × List Int) (n:Int):(ki ws st n).2.length=st.2.length:=by
 unfold ki
 split
 ·rfl
 ·exact Ht _ _ _
theorem Bf (ws:List (Int × Int × Int)):∀ (ns:List Int) (st:List Int × List Int),∃ l,(ns.foldl (ki ws) st).1=st.1 ++ l/\l.Sublist ns/\(ns.foldl (ki ws) st).2.length=st.2.length
 | [],st=>⟨[],by simp,.slnil,rfl⟩
 | n :: r,st=>by
  obtain⟨l,h1,h2,h3⟩:=Bf ws r (ki ws st n)
  rw[q0J]
  rw[SG] at h3
  unfold ki at h1 h3 ⊢
  split at h1
  ·rename_i q
   rw[Xp q] at h3 ⊢
   exact⟨l,h1,h2.cons _,h3⟩
  ·rename_i q
   rw[Xm q] at h3 ⊢
   exact⟨n :: l,by rw[h1,ZA];rfl,h2.cons₂ _,h3⟩
theorem qe {a b:Int}:aC (.int a) (.int b)=decide (a=b):=by
 cases q:aC (.int a) (.int b)
 ·exact (Yc fun z=>by rw[z,nu] at q;cases q).symm
 ·simp only[aC] at q
  exact (Ya (Yb q)).symm
noncomputable def xg:GD:=fun ys ovs K=>∃ (m:Int) (ws:List (Int × Int × Int)),cb m ws/\ys=[.p (aV m ws)]/\ovs=[]/\∀ ns,bF ws ns->K (.n ((nN m ws ns).map D.int)) []
noncomputable def Bg:WS:=(au (aO 1 (aj 1 Bd (af (aa 0) ag))) (au (aO 2 (tQ ag)) (au (aO 3 (aj 2 uE (af (aa 0) (af (aa 2) ag)))) (au (eC (cJ (aa 1)) (cf 4) (au (aO 5 (d2 (d2 (aa 0) (dC (.int 1)) a6) (aa 4) a6)) (bx (dT (d2 (d2 (aa 3) (d2 (aa 5) (dC (.int 0)) a6) a6) (d2 (aa 3) (d2 (aa 5) (dC (.int 1)) a6) a6) nv)) (au (jE (l_ (aa 2) (af (aa 4) ag))) (aO 3 (aj 3 uD (af (aa 3) (af (d2 (aa 5) (dC (.int 0)) a6) (af (d2 (aa 5) (dC (.int 1)) a6) ag)))))) dW))) (aN (wJ (af (aa 2) ag) wK))))))
theorem SH:∀ ys ovs K',ys.length=1->xg ys ovs K'->Bg (bP ovs.length K') ⟨ys.map some ++ List.replicate 5 none,ovs.map some⟩:=by
 rintro ys ovs K' - ⟨m,ws,W,rfl,rfl,k⟩
 have xc:=W.jX
 have m1:=W.m1
 have jB:=W.jB
 unfold Bg
 refine bw fun N hN => ?_
 simp? only []
 refine⟨m,ws,W,rfl,rfl,fun ns ho => ?_⟩
 simp? only []
 subst hN
 refine bw fun N hN => ?_
 simp? only []
 subst hN
 refine bw fun N hN => ?_
 simp? only []
 refine⟨m,ws,[],W,fun n hn=>absurd hn Yu,.inr ⟨rfl,rfl,?_⟩⟩
 simp? only []
 subst hN
 refine bw fun N hN=>pW fun g' b' K2 hg hb' hK => ?_
 simp? only []
 subst hg hb' hK
 have il:(a_ m.toNat).length=m.toNat:=by unfold a_;simp
 have hlen:=ho.len
 have inv:∀ i,(fU ws (a_ m.toNat) (ns.take i)).2.length=m.toNat/\(fU ws (a_ m.toNat) (ns.take i)).1.length <= 30:=fun i=>by
  obtain⟨l,h1,h2,h3⟩:=Bf ws (ns.take i) ([],a_ m.toNat)
  refine⟨h3.trans il,?_⟩
  have:(fU ws (a_ m.toNat) (ns.take i)).1=l:=h1
  rw[this]
  have:=h2.length_le
  rw[Yp] at this
  omega
 refine me (fun i δ => δ = ⟨[some (.p (aV m ws)),some (.p (.lst (ns.map D.int))),some (.o 0),some (.p (b7 (fU ws (a_ m.toNat) (ns.take i)).2)),none,none],[some (.lst ((fU ws (a_ m.toNat) (ns.take i)).1.map D.int))]⟩) rfl ?_ ?_
 ·rintro i d δ L hi rfl hL
  rw[Ni] at hi
  obtain⟨n,HN,rfl⟩:=Xo.mp hi
  obtain⟨n0,n1⟩:=ho.nums n (Yn HN)
  obtain⟨y,ey,hy,ea,a,b,e1,e2,h1,h2,_⟩:=p9 W n0 n1
  have en:cC ws n=(a,b):=by unfold cC;rw[ey,e1,e2,Yj,Yj]
  obtain⟨hf,hl⟩:=inv i
  have step:fU ws (a_ m.toNat) (ns.take (i + 1))=ki ws (fU ws (a_ m.toNat) (ns.take i)) n:=by
   have:ns.take (i + 1)=ns.take i ++ [n]:=by rw[Z4,HN];rfl
   rw[this]
   unfold fU
   rw[q0_];rfl
  have kj:=hL _ rfl
  rw[step] at kj
  generalize fU ws (a_ m.toNat) (ns.take i)=st at hf hl kj
  obtain⟨acc,fs⟩:=st
  dsimp only at hf hl kj ⊢
  unfold ki at kj
  rw[en] at kj
  dsimp only at kj
  refine⟨trivial,?_⟩
  simp only[cf,YA,YB]
  refine bw fun N2 eQ => ?_
  simp? only [iC,aV,ea]
  subst eQ
  have a1:=p8 (ns:=fs) (i:=a) (by omega)
  have a2:=p8 (ns:=fs) (i:=b) (by omega)
  refine iX fun Ay Bn hA hB => ?_
  simp? only [eU,iC,bQ,e1,e2,b7,a1,a2,qe]
  by_cases q:fs.getD a 0=fs.getD b 0
  ·rw[Ya q]
   simp? only []
   subst hB
   rw[Xp q] at kj
   simp? only []
   exact kj
  ·rw[Yc q]
   simp? only []
   subst hA
   rw[Xm q] at kj
   refine bw fun N2 eQ => ?_
   simp? only []
   refine⟨by omega,?_⟩
   subst eQ
   simp? only [eU,iC]
   refine⟨fs,a,b,rfl,rfl,by omega,by omega,by omega,?_⟩
   simp? only []
   rw[YH] at kj
   exact kj
 ·rintro δ rfl
  refine⟨trivial,?_⟩
  obtain⟨hf,hl⟩:=inv ns.length
  rw[qy,Yz (sG _)] at *
  show N _
  subst hN
  simp? only [wK,F9]
  exact⟨by omega,[],rfl,rfl,.inl (k ns ho)⟩
end LJ
namespace LJ
open PySem L2
noncomputable abbrev Wy:=Int × Int × Int
noncomputable def xh (S:Wy->Prop) (a b:Int):Prop:=∃ w,S w/\((w.1=a/\w.2.1=b)\/(w.1=b/\w.2.1=a))
inductive ak (S:Wy->Prop) (a:Int):Int->Prop
 | rf:ak S a a
 | st {b c:Int}:ak S a b->xh S b c->ak S a c
section
variable {S S':Wy->Prop} {a b c:Int}
theorem xh.symm (h:xh S a b):xh S b a:=let ⟨w,h1,h2⟩:=h; ⟨w,h1,h2.symm⟩
theorem ak.trans (h:ak S a b) (h':ak S b c):ak S a c:=by
 induction h' with
 | rf=>exact h
 | st _ e ih=>exact .st ih e
theorem ak.symm (h:ak S a b):ak S b a:=by
 induction h with
 | rf=>exact .rf
 | st _ e ih=>exact (ak.st .rf e.symm).trans ih
theorem ak.bind (h:ak S a b) (k:∀ w,S w->ak S' w.1 w.2.1):ak S' a b:=by
 induction h with
 | rf=>exact .rf
 | st _ e ih =>
  obtain⟨w,h1,h2⟩:=e
  rcases h2 with⟨rfl,rfl⟩ | ⟨rfl,rfl⟩
  ·exact ih.trans (k w h1)
  ·exact ih.trans (k w h1).symm
theorem ak.one {w:Wy} (h:S w):ak S w.1 w.2.1 := .st .rf ⟨w,h,.inl ⟨rfl,rfl⟩⟩
theorem ak.mono (h:ak S a b) (k:∀ w,S w->S' w):ak S' a b:=h.bind fun w hw => .one (k w hw)
theorem ak.none (h:ak S a b) (k:∀ w,¬ S w):a=b:=by
 cases h with
 | rf=>rfl
 | st _ e=>obtain⟨w,h1,_⟩:=e;exact absurd h1 (k w)
theorem ak.add {w:Wy} (k:∀ v,S' v↔S v\/v=w):ak S' a b↔ak S a b\/(ak S a w.1/\ak S w.2.1 b)\/(ak S a w.2.1/\ak S w.1 b):=by
 constructor
 ·intro h
  induction h with
  | rf=>exact .inl .rf
  | st _ e ih =>
   rename_i b c _
   obtain⟨v,h1,h2⟩:=e
   rcases (k v).mp h1 with h1 | rfl
   ·have e':ak S b c := .st .rf ⟨v,h1,h2⟩
    rcases ih with i | ⟨i,j⟩ | ⟨i,j⟩
    ·exact .inl (i.trans e')
    ·exact .inr (.inl ⟨i,j.trans e'⟩)
    ·exact .inr (.inr ⟨i,j.trans e'⟩)
   ·rcases h2 with⟨rfl,rfl⟩ | ⟨rfl,rfl⟩
    ·rcases ih with i | ⟨i,j⟩ | ⟨i,j⟩
     ·exact .inr (.inl ⟨i,.rf⟩)
     ·exact .inr (.inl ⟨i,.rf⟩)
     ·exact .inl i
    ·rcases ih with i | ⟨i,j⟩ | ⟨i,j⟩
     ·exact .inr (.inr ⟨i,.rf⟩)
     ·exact .inl i
     ·exact .inr (.inr ⟨i,.rf⟩)
 ·have up:∀ {x y},ak S x y->ak S' x y:=fun h=>h.mono fun v hv=>(k v).mpr (.inl hv)
  have o:ak S' w.1 w.2.1 := .one ((k w).mpr (.inr rfl))
  rintro (h | ⟨h,h'⟩ | ⟨h,h'⟩)
  ·exact up h
  ·exact ((up h).trans o).trans (up h')
  ·exact ((up h).trans o.symm).trans (up h')
end
variable [aE]
noncomputable def aZ (n:Nat) (fs:List Int) (S:Wy->Prop):Prop:=fs.length=n/\∀ i j:Nat,i < n->j < n->(fs.getD i 0=fs.getD j 0↔ak S i j)
theorem HP {n i:Nat} (h:i < n):(a_ n).getD i 0=i:=by
 unfold a_
 rw[Et,Ni,YQ h];rfl
theorem aZ.start (n:Nat):aZ n (a_ n) (fun _=>False):=by
 refine⟨by unfold a_;simp,fun i j hi hj => ?_⟩
 rw[HP hi,HP hj]
 exact⟨fun e=>by rw[e];exact .rf,fun h=>h.none fun _ z=>z⟩
theorem aZ.join {n i j:Nat} {fs:List Int} {S S':Wy->Prop} {w:Wy} {p q:Int} (h:aZ n fs S) (hi:i < n) (hj:j < n) (e1:w.1=i) (e2:w.2.1=j) (k:∀ v,S' v↔S v\/v=w) (pq:(p=fs.getD i 0/\q=fs.getD j 0)\/(p=fs.getD j 0/\q=fs.getD i 0)):aZ n (xf p q fs) S':=by
 refine⟨by unfold xf;rw[qy,h.1],fun x y hx hy => ?_⟩
 unfold xf
 rw[HM (by rw[h.1];exact hx),HM (by rw[h.1];exact hy),SA,ak.add k,e1,e2,<-h.2 x y hx hy,<-h.2 x i hx hi,<-h.2 x j hx hj,<-h.2 j y hj hy,<-h.2 i y hi hy]
 rcases pq with⟨rfl,rfl⟩ | ⟨rfl,rfl⟩
 ·constructor
  ·rintro (h | ⟨h1 | h1,h2 | h2⟩)
   ·exact .inl h
   ·exact .inl (h1.trans h2.symm)
   ·exact .inr (.inl ⟨h1,h2.symm⟩)
   ·exact .inr (.inr ⟨h1,h2.symm⟩)
   ·exact .inl (h1.trans h2.symm)
  ·rintro (h | ⟨h1,h2⟩ | ⟨h1,h2⟩)
   ·exact .inl h
   ·exact .inr ⟨.inl h1,.inr h2.symm⟩
   ·exact .inr ⟨.inr h1,.inl h2.symm⟩
 ·constructor
  ·rintro (h | ⟨h1 | h1,h2 | h2⟩)
   ·exact .inl h
   ·exact .inl (h1.trans h2.symm)
   ·exact .inr (.inr ⟨h1,h2.symm⟩)
   ·exact .inr (.inl ⟨h1,h2.symm⟩)
   ·exact .inl (h1.trans h2.symm)
  ·rintro (h | ⟨h1,h2⟩ | ⟨h1,h2⟩)
   ·exact .inl h
   ·exact .inr ⟨.inr h1,.inl h2.symm⟩
   ·exact .inr ⟨.inl h1,.inr h2.symm⟩
theorem aZ.cN {n i j:Nat} {fs:List Int} {S S':Wy->Prop} {w:Wy} (h:aZ n fs S) (hi:i < n) (hj:j < n) (e1:w.1=i) (e2:w.2.1=j) (k:∀ v,S' v↔S v\/v=w) (e:fs.getD i 0=fs.getD j 0):aZ n fs S':=by
 refine⟨h.1,fun x y hx hy=>(h.2 x y hx hy).trans ?_⟩
 have ij:=(h.2 i j hi hj).mp e
 rw[ak.add k,e1,e2]
 exact⟨.inl,fun z=>z.elim id fun z=>z.elim (fun ⟨a,b⟩=>(a.trans ij).trans b) fun ⟨a,b⟩=>(a.trans ij.symm).trans b⟩
noncomputable def aH (ws:List Wy) (n:Int):Wy:=ws.getD n.toNat (0,0,0)
theorem SI {m:Int} {ws:List Wy} (W:cb m ws):∀ (ns:List Int),Nums ws ns->ns.Nodup->aZ m.toNat (fU ws (a_ m.toNat) ns).2 (fun v=>∃ k∈ns,v=aH ws k) ∧
  ∀ n,n∈(fU ws (a_ m.toNat) ns).1↔∃ as bs,ns=as ++ n :: bs/\¬ ak (fun v=>∃ k∈as,v=aH ws k) (aH ws n).1 (aH ws n).2.1:=by
 intro ns
 have rev:∀ (rs:List Int),Nums ws rs.reverse->rs.reverse.Nodup->aZ m.toNat (fU ws (a_ m.toNat) rs.reverse).2 (fun v=>∃ k∈rs.reverse,v=aH ws k) ∧
  ∀ n,n∈(fU ws (a_ m.toNat) rs.reverse).1↔∃ as bs,rs.reverse=as ++ n :: bs/\¬ ak (fun v=>∃ k∈as,v=aH ws k) (aH ws n).1 (aH ws n).2.1:=by
  intro rs
  induction rs with
  | nil =>
   intro _ _
   refine⟨?_,fun n=>⟨fun h=>absurd h Yu,fun ⟨as,bs,e,_⟩ => ?_⟩⟩
   ·refine⟨(aZ.start _).1,fun i j hi hj=>((aZ.start _).2 i j hi hj).trans ⟨fun h=>h.mono fun _ z=>z.elim,fun h=>h.mono fun v ⟨k,hk,_⟩=>absurd hk Yu⟩⟩
   ·exact absurd e (by simp)
  | cons r rs ih =>
   intro hn nd
   rw[List.reverse_cons] at hn nd ⊢
   have hZ:Nums ws rs.reverse:=fun x hx=>hn x (Yv _ hx)
   have SJ:=(Zq.mp nd).1
   obtain⟨mk,mem⟩:=ih hZ SJ
   obtain⟨r0,r1⟩:=hn r (Nj _ Nh)
   obtain⟨y,ey,hy,_,i,j,e1,e2,h1,h2,_⟩:=p9 W r0 r1
   have ew:aH ws r=y:=ey
   have en:cC ws r=(i,j):=by unfold cC;rw[ey,e1,e2,Yj,Yj]
   have step:fU ws (a_ m.toNat) (rs.reverse ++ [r])=ki ws (fU ws (a_ m.toNat) rs.reverse) r:=by unfold fU;rw[q0_];rfl
   have kS:∀ v,(∃ k∈rs.reverse ++ [r],v=aH ws k)↔(∃ k∈rs.reverse,v=aH ws k)\/v=aH ws r:=fun v=>by
    constructor
    ·rintro ⟨k,hk,rfl⟩
     rcases YM.mp hk with hk | hk
     ·exact .inl ⟨k,hk,rfl⟩
     ·rw[YZ.mp hk];exact .inr rfl
    ·rintro (⟨k,hk,rfl⟩ | rfl)
     ·exact⟨k,Yv _ hk,rfl⟩
     ·exact⟨r,Nj _ Nh,rfl⟩
   have split:∀ n (P:List Int->Prop),(∃ as bs,rs.reverse ++ [r]=as ++ n :: bs/\P as)↔(∃ as bs,rs.reverse=as ++ n :: bs/\P as)\/(n=r/\P rs.reverse):=fun n P=>by
    constructor
    ·rintro ⟨as,bs,e,hp⟩
     rcases List.eq_nil_or_concat bs with rfl | ⟨HQ,z,rfl⟩
     ·have:=List.append_inj' e rfl
      obtain⟨rfl,e3⟩:=this
      cases e3
      exact .inr ⟨rfl,hp⟩
     ·have e':rs.reverse ++ [r]=(as ++ n :: HQ) ++ [z]:=by rw[e];simp
      obtain⟨e3,_⟩:=List.append_inj' e' rfl
      exact .inl ⟨as,HQ,e3,hp⟩
    ·rintro (⟨as,bs,e,hp⟩ | ⟨rfl,hp⟩)
     ·exact⟨as,bs ++ [r],by rw[e];simp,hp⟩
     ·exact⟨rs.reverse,[],rfl,hp⟩
   rw[step]
   unfold ki
   rw[en]
   dsimp only
   have HR:=mk.2 i j h1 h2
   by_cases q:(fU ws (a_ m.toNat) rs.reverse).2.getD i 0=(fU ws (a_ m.toNat) rs.reverse).2.getD j 0
   ·rw[Xp q]
    refine⟨mk.cN (w:=aH ws r) h1 h2 (by rw[ew];exact e1) (by rw[ew];exact e2) kS q,fun n => ?_⟩
    rw[split n (fun as=>¬ ak (fun v=>∃ k∈as,v=aH ws k) (aH ws n).1 (aH ws n).2.1),mem n]
    refine⟨.inl,fun z=>z.elim id fun ⟨e,hc⟩ => ?_⟩
    subst e
    rw[ew,e1,e2] at hc
    exact absurd (HR.mp q) hc
   ·rw[Xm q]
    refine⟨?_,fun n => ?_⟩
    ·dsimp only
     rw[SD]
     exact mk.join (w:=aH ws r) h1 h2 (by rw[ew];exact e1) (by rw[ew];exact e2) kS (SE _ _)
    ·rw[split n (fun as=>¬ ak (fun v=>∃ k∈as,v=aH ws k) (aH ws n).1 (aH ws n).2.1)]
     dsimp only
     rw[YM,mem n,YZ]
     refine or_congr Iff.rfl ⟨fun e=>⟨e,?_⟩,fun h=>h.1⟩
     subst e
     rw[ew,e1,e2]
     exact fun z=>q (HR.mpr z)
 intro hn nd
 have:=rev ns.reverse (by rw[q0I];exact hn) (by rw[q0I];exact nd)
 rw[q0I] at this
 exact this
noncomputable def g_ (w:Wy):LK:=[w.2.2,w.1,w.2.1]
noncomputable def fw (v w:Wy):Prop:=HT.lexLt (g_ v) (g_ w)=true
noncomputable def gx (ws:List Wy) (w:Wy):Prop:=w∈ws/\¬ ak (fun v=>v∈ws/\fw v w) w.1 w.2.1
theorem HS (ws:List Wy) (n:Int):fu ws n=g_ (aH ws n):=rfl
theorem HU {ws:List Wy} {n:Int} (h0:0 <= n) (h1:n < (ws.length:Int)):aH ws n∈ws:=by
 unfold aH
 exact Yn (getD_some (by omega))
theorem uR {ws:List Wy} {w:Wy} (h:w∈ws):∃ n:Int,(0 <= n/\n < (ws.length:Int))/\aH ws n=w:=by
 obtain⟨i,hi⟩:=Xq.mp h
 have hl:=(oP.mp hi).1
 refine⟨i,⟨by omega,by omega⟩,?_⟩
 unfold aH
 rw[Yj,Et,hi];rfl
theorem HV {a b:LK} (h:kle a b) (n:a≠b):HT.lexLt a b=true:=by
 cases q:HT.lexLt a b with
 | true=>rfl
 | false=>exact absurd (ue q h) n
theorem SK {m:Int} {ws:List Wy} (W:cb m ws) {ns:List Int} (ho:bF ws ns) {n:Int}:n∈nN m ws ns↔(0 <= n/\n < (ws.length:Int))/\gx ws (aH ws n):=by
 have nd:ns.Nodup:=ho.perm.nodup_iff.mpr (Hx _)
 unfold nN
 rw[(sortI_perm _).mem_iff,(SI W ns ho.nums nd).2 n]
 have before:∀ as bs,ns=as ++ n :: bs->∀ v,(∃ k∈as,v=aH ws k)↔(v∈ws/\fw v (aH ws n)):=fun as bs e v=>by
  have up:=ho.up
  rw[e,YH,YC,List.pairwise_append,Zl] at up
  obtain⟨_,⟨u2,_⟩,u3⟩:=up
  have hn:n∈ns:=by rw[e];exact Nj _ Nh
  have nn:=ho.nums n hn
  rw[e] at nd
  have SM:=Zq.mp nd
  constructor
  ·rintro ⟨k,hk,rfl⟩
   have gr:k∈ns:=by rw[e];exact Yv _ hk
   have kn:=ho.nums k gr
   refine⟨HU kn.1 kn.2,HV (u3 _ (ZF hk) _ Nh) fun z => ?_⟩
   have:=Sx W kn nn z
   subst this
   exact SM.2.2 k hk k Nh rfl
  ·rintro ⟨hv,cA⟩
   obtain⟨k,kn,rfl⟩:=uR hv
   have hk:k∈ns:=ho.perm.mem_iff.mpr (by
    unfold a_
    exact Yd.mpr ⟨k.toNat,Ym.mpr (by omega),by simp;omega⟩)
   rw[e] at hk
   rcases YM.mp hk with hk | hk
   ·exact⟨k,hk,rfl⟩
   ·exfalso
    rcases X7.mp hk with rfl | hk
    ·have:HT.lexLt (g_ (aH ws k)) (g_ (aH ws k))=true:=cA
     rw[qW] at this;cases this
    ·have:=u2 _ (ZF hk)
     have h2:HT.lexLt (fu ws k) (fu ws n)=true:=cA
     unfold kle at this
     rw[this] at h2;cases h2
 constructor
 ·rintro ⟨as,bs,e,hc⟩
  have nn:=ho.nums n (by rw[e];exact Nj _ Nh)
  exact⟨nn,HU nn.1 nn.2,fun z=>hc (z.mono fun v hv=>(before as bs e v).mpr hv)⟩
 ·rintro ⟨nn,_,hc⟩
  have hn:n∈ns:=ho.perm.mem_iff.mpr (by
   unfold a_
   exact Yd.mpr ⟨n.toNat,Ym.mpr (by omega),by simp;omega⟩)
  obtain⟨as,bs,e⟩:=List.append_of_mem hn
  exact⟨as,bs,e,fun z=>hc (z.mono fun v hv=>(before as bs e v).mp hv)⟩
theorem SN {m:Int} {ws:List Wy} {ns:List Int} (ho:bF ws ns):(nN m ws ns).Nodup:=by
 unfold nN
 refine (sortI_perm _).nodup_iff.mpr ?_
 obtain⟨l,h1,h2,_⟩:=Bf ws ns ([],a_ m.toNat)
 have:(fU ws (a_ m.toNat) ns).1=l:=h1
 rw[this]
 exact (ho.perm.nodup_iff.mpr (Hx _)).sublist h2
theorem SO {m:Int} {ws:List Wy} (W:cb m ws):ws.Nodup:=by
 have:=W.unlike
 unfold List.Nodup at this ⊢
 rw[ZX] at this
 exact this.imp fun {a b} h e=>h (by rw[e])
noncomputable def fA (ws:List Wy) (w:Wy):Nat:=ws.countP fun v=>HT.lexLt (g_ v) (g_ w)
theorem HW {α : Type} {p q : α -> Bool} {x : α}:∀ {l:List α},(∀ y∈l,p y=true->q y=true)->x∈l->q x=true->p x=false->l.countP p < l.countP q
 | y :: l,h,hx,h1,h2=>by
  have le:l.countP p <= l.countP q:=List.countP_mono_left fun z hz=>h z (Nk _ hz)
  rw[Zi,Zi]
  rcases X7.mp hx with rfl | hx
  ·rw[h1,h2];simp;omega
  ·have:=HW (fun z hz=>h z (Nk _ hz)) hx h1 h2
   have hy:=h y Nh
   cases q1:p y with
   | false=>simp;split<;>omega
   | true=>rw[hy q1];simp;omega
theorem nP {ws:List Wy} {u v:Wy} (hu:u∈ws) (h:fw u v):fA ws u < fA ws v :=
 HW (fun y _ hy=>qX hy h) hu h (qW _)
theorem Bh {ws:List Wy}:∀ (k:Nat) (v:Wy),v∈ws->fA ws v <= k->ak (fun u=>gx ws u/\(fw u v\/u=v)) v.1 v.2.1
 | k,v,hv,hk=>by
  by_cases t:gx ws v
  ·exact .one ⟨t,.inr rfl⟩
  ·have c:ak (fun u=>u∈ws/\fw u v) v.1 v.2.1:=Zy fun z=>t ⟨hv,z⟩
   refine c.bind fun u hu => ?_
   have lt:=nP hu.1 hu.2
   match k,hk with
   | 0,hk=>omega
   | k + 1,hk =>
    refine (Bh k u hu.1 (by omega)).mono fun x hx=>⟨hx.1,.inl ?_⟩
    rcases hx.2 with h | rfl
    ·exact qX h hu.2
    ·exact hu.2
theorem SQ (n:Nat):(a_ n).length=n:=by unfold a_;simp
theorem SS {m:Int} {ws:List Wy} (W:cb m ws) {n:Int} (h0:0 <= n) (h1:n < (ws.length:Int)):∃ i k:Nat,cC ws n=(i,k)/\(aH ws n).1=i/\(aH ws n).2.1=k/\i < m.toNat/\k < m.toNat:=by
 obtain⟨y,ey,hy,_,i,k,e1,e2,h1,h2,_⟩:=p9 W h0 h1
 refine⟨i,k,?_,by unfold aH;rw[ey];exact e1,by unfold aH;rw[ey];exact e2,h1,h2⟩
 unfold cC
 rw[ey,e1,e2,Yj,Yj]
theorem HX {m:Int} {ws:List Wy} (W:cb m ws):∀ (ns fs:List Int) (S:Wy->Prop),Nums ws ns->aZ m.toNat fs S->aZ m.toNat (jo ws fs ns) (fun v=>S v\/∃ k∈ns,v=aH ws k)
 | [],fs,S,_,h=>by
  have:(fun v=>S v\/∃ k∈([]:List Int),v=aH ws k)=S:=funext fun v=>propext (by simp)
  rw[this];exact h
 | n :: ns,fs,S,hn,h=>by
  have b:=hn n (Nh ..)
  obtain⟨i,k,e,e1,e2,h1,h2⟩:=SS W b.1 b.2
  have step:aZ m.toNat (jn fs i k) (fun v=>S v\/v=aH ws n):=by
   refine aZ.join (w:=aH ws n) (p:=max (fs.getD i 0) (fs.getD k 0)) (q:=min (fs.getD i 0) (fs.getD k 0)) h h1 h2 e1 e2 (fun v=>Iff.rfl) ?_
   omega
  have:=HX W ns _ _ (fun x hx=>hn x (Nk _ hx)) step
  have eq:(fun v=>(S v\/v=aH ws n)\/∃ k∈ns,v=aH ws k)=(fun v=>S v\/∃ k∈n :: ns,v=aH ws k):=funext fun v=>propext (by
   constructor
   ·rintro ((h | h) | ⟨k,hk,h⟩)
    ·exact .inl h
    ·exact .inr ⟨n,Nh,h⟩
    ·exact .inr ⟨k,Nk _ hk,h⟩
   ·rintro (h | ⟨k,hk,h⟩)
    ·exact .inl (.inl h)
    ·rcases X7.mp hk with rfl | hk
     ·exact .inl (.inr h)
     ·exact .inr ⟨k,hk,h⟩)
  rw[eq] at this
  show aZ _ (jo ws (jn fs (cC ws n).1 (cC ws n).2) ns) _
  rw[e]
  exact this
noncomputable def hJ (ws:List Wy) (ns:List Int):Wy->Prop:=fun v=>∃ k∈ns,v=aH ws k
theorem HY {m:Int} {ws:List Wy} (W:cb m ws) {ns:List Int} (hn:Nums ws ns):aZ m.toNat (rm m ws ns) (hJ ws ns):=by
 have:=HX W ns _ _ hn (aZ.start m.toNat)
 have eq:(fun v=>False\/∃ k∈ns,v=aH ws k)=hJ ws ns:=funext fun v=>propext (by unfold hJ;simp)
 rw[eq] at this
 exact this
open Classical in
noncomputable def cls (n:Nat) (S:Wy->Prop) (h:Int):List Int:=(a_ n).filter fun x=>decide (ak S h x)
theorem fV {n:Nat} {x:Int}:x∈a_ n↔0 <= x/\x < n:=by
 unfold a_
 constructor
 ·intro h
  obtain⟨k,hk,rfl⟩:=Yd.mp h
  have:=Ym.mp hk
  omega
 ·intro h
  exact Yd.mpr ⟨x.toNat,Ym.mpr (by omega),by omega⟩
open Classical in
theorem mB {n:Nat} {S:Wy->Prop} {h x:Int}:x∈cls n S h↔(0 <= x/\x < n)/\ak S h x:=by
 unfold cls
 rw[Y0,fV,Ze]
theorem xi:∀ us:List Int,bO (us.map D.int)=0
 | []=>by simp[bO]
 | u :: r=>by rw[YC];simp only[bO,dep];rw[xi r];rfl
theorem Bi (l:List Int) (x:Int):((l.map D.int).any fun e=>aC e (.int x))=decide (x∈l):=by
 rw[List.any_map]
 cases q:decide (x∈l) with
 | true=>exact List.any_eq_true.mpr ⟨x,Zf q,nu _⟩
 | false =>
  refine q0n.mpr fun y hy => ?_
  show ¬ aC (.int y) (.int x)=true
  rw[qe]
  intro z
  have:=Zf z
  subst this
  exact of_decide_eq_false q hy
end LJ
namespace HT
open PySem PySem.Spec PyProof.Rows
theorem SU (A:Around) (s:Shared) (a:Int) (t:Tok) (c:Int) (u:Tok) (prog:Program) (w:World) (E:Value->Shared->Prop) (Q:Value->Shared->Prop) (h:Q (.bool (decide (c < a))) s) :
  wpAny (model prog w) A (richCompare .Gt (.int a t) (.int c u)) Q E s :=
 (PyProof.Rows.gt_int h:wpAny (model prog w) A (compareOp .Gt (.int a t) (.int c u)) Q E s)
section
open PySem.SeqAt
open PySem.AutoSeq1 (wpAny_loadPart')
open PySem.MeetsSeq PySem.MeetsSeq2 PySem.MeetsSeq3
theorem SV (l b:Addr) (items aP:Array Value) (n n2:Nat) (dd jw:Option Addr) (sl jx:Array (Option Value)) (ns ms:List Int) (hi:IntsAre items.toList ns) (hj:IntsAre aP.toList ms) :
  Meets (Builtin.«tuple.__gt__» ⟨[.ref l,.ref b],[]⟩)
   (fun _ R s=>s.heap.get? l=some { cls := .type "tuple",dict:=dd,data := .seq items n,slots:=sl }/\s.heap.get? b=some { cls := .type "tuple",dict:=jw,data := .seq aP n2,slots:=jx } ∧
    R (.ok (.ret (.bool (lexLt ms ns)))) s) :=
 .of_wp fun prog w A R s h=>by
  obtain⟨hp,g,d,tk,os⟩:=s;obtain⟨hl,hb,h⟩:=h
  have f2:=AutoSeq1.sub_tuple_tuple
  have z1:items.size=ns.length:=by rw[<-hi.length];simp
  have z2:aP.size=ms.length:=by rw[<-hj.length];simp
  wp_walk using YO hl,YO hb,Z5 _ (fun rest b s'=>b.1=none/\s'=⟨hp,g,d,tk,os⟩/\∃ (vs ws:List Value) (fc i8:List Int),rest=vs.zip ws ∧
   IntsAre vs fc/\IntsAre ws i8/\fc.length + aP.size=i8.length + items.size/\R (.ok (.ret (.bool (lexLt i8 fc)))) ⟨hp,g,d,tk,os⟩) _
  case turn =>
   rintro ⟨y,x⟩ rest b s' ⟨hb',rfl,vs,ws,fc,i8,hz,oC,lE,hlen,hR⟩
   cases oC with
   | nil=>rw[q0q] at hz;cases hz
   | cons a t oE =>
    cases lE with
    | nil=>rw[q0Z] at hz;cases hz
    | cons c u oF =>
     rw[ZN] at hz
     injection hz with yg hrest
     injection yg with hy hx
     subst hy hx
     rw[oB] at hR
     simp only[Ex] at hlen
     obtain⟨e,he,jN⟩:=D_ A.in1 ⟨hp,g,d,tk,os⟩ a t c u
     refine lJ (he prog w _ _ ?_)
     cases e with
     | true =>
      rw[Xp (jN.mp rfl).symm] at hR
      wp_walk
      exact⟨rfl,rfl,_,_,_,_,hrest,oE,oF,by omega,hR⟩
     | false =>
      rw[Xm (fun q=>absurd (jN.mpr q.symm) Eu)] at hR
      have yh:=SU A.in1 ⟨hp,g,d,tk,os⟩ a t c u prog w
      wp_walk using yh
      exact⟨_,rfl,by simpa using hR⟩
  case fin =>
   rintro ⟨b1,b2⟩ s' ⟨hb',rfl,vs,ws,fc,i8,hz,oC,lE,hlen,hR⟩
   simp only at hb'
   subst hb'
   have hv:lexLt i8 fc=decide (aP.size < items.size):=by
    cases oC with
    | nil =>
     cases lE with
     | nil =>
      simp only[Zs] at hlen
      rw[D7]
      exact (Yc (by omega)).symm
     | cons c u hw =>
      simp only[Zs,Ex] at hlen
      rw[D9]
      exact (Yc (by omega)).symm
    | cons a t hv =>
     cases lE with
     | nil =>
      simp only[Zs,Ex] at hlen
      rw[D8]
      exact (Ya (by omega)).symm
     | cons c u hw =>
      rw[ZN] at hz
      cases hz
   rw[hv] at hR
   wp_walk
   exact⟨_,rfl,by simpa [Builtin.Tuple.tupleCompareSizes] using hR⟩
  case h =>
   exact⟨rfl,rfl,items.toList,aP.toList,ns,ms,rfl,hi,hj,by omega,h⟩
end
section
variable {prog:Program} {w:World} {A:Around} {E:Value->Shared->Prop} {s:Shared}
theorem SW {l b:Addr} {items aP:Array Value} {ns ms:List Int} {Q:Value->Shared->Prop} (hl:IsTup s.heap l items) (hb:IsTup s.heap b aP) (hi:IntsAre items.toList ns) (hj:IntsAre aP.toList ms)
  (hu:A.units < cLine) (h:Q (.bool (lexLt ms ns)) s):wpAny (model prog w) A (compareOp .Gt (.ref l) (.ref b)) Q E s:=by
 obtain⟨⟨cls,dd,data,sl⟩,ho,hc,n,hd⟩:=id hl
 obtain⟨⟨oG,jw,data2,jx⟩,f9,gD,n2,hd2⟩:=id hb
 simp only at hc hd gD hd2
 subst hc hd gD hd2
 exact richCompare_meets_room (op := .Gt) ⟨_,ho,rfl⟩ ⟨_,f9,rfl⟩ PySem.F.slot_tuple_gt PySem.F.entry_tuple_gt (PySem.F.args_tuple_gt_2 _ _) (SV l b items aP n n2 dd jw sl jx ns ms hi hj)
  ⟨ho,f9,show Value.bool (lexLt ms ns)≠Value.notImplemented/\Q (.bool (lexLt ms ns)) s from ⟨(fun x=>nomatch x),h⟩⟩ hu
end
end HT
namespace L2
open PySem PySem.Spec PyProof.Rows PySem.W
noncomputable def iF:Bool->String
 | false => "min"
 | true => "max"
noncomputable def rB:Bool->String
 | false => "min.loop"
 | true => "max.loop"
noncomputable def HZ:Bool->CmpOp
 | false => .Lt
 | true => .Gt
noncomputable def SX:String->CmpOp->Builtin:=(fun (f:String->CmpOp->Builtin) (_:f "min" .Lt=Builtin.«min.loop»)=>f) _ rfl
noncomputable def SY:String->Builtin:=(fun (f:String->Builtin) (_:f "min" = Builtin.«min»)=>f) _ rfl
theorem H_ (mx:Bool):entryFor table (rB mx)=some (SX (iF mx) (HZ mx)):=by cases mx;exact PySem.F.entry_min_loop;exact PySem.F.entry_max_loop
theorem S7 (mx:Bool):entryFor table (iF mx)=some (SY (iF mx)):=by cases mx;exact PySem.F.entry_min;exact PySem.F.entry_max
theorem S8 (mx:Bool):builtinKind (iF mx)=none:=by cases mx;exact PySem.F.kind_min;exact PySem.F.kind_max
theorem S9 (mx:Bool):plainId (iF mx)=true:=by cases mx;exact PySem.F.plain_min;exact PySem.F.plain_max
theorem rC (mx:Bool):plainId (rB mx)=true:=by cases mx;exact PySem.F.plain_min_loop;exact PySem.F.plain_max_loop
noncomputable def mC:Bool->LK->LK->Prop
 | false,a,b=>kle a b
 | true,a,b=>kle b a
noncomputable def Bj:Bool->LK->LK->Bool
 | false,a,b=>HT.lexLt a b
 | true,a,b=>HT.lexLt b a
theorem Ia (mx:Bool) (a:LK):mC mx a a:=by cases mx<;>exact kle_refl _
theorem S_ {mx:Bool} {a b c:LK} (h:Bj mx a b=true) (k:mC mx b c):mC mx a c:=by
 cases mx
 ·exact kle_trans (qY h) k
 ·exact kle_trans k (qY h)
theorem Ta {mx:Bool} {a b:LK} (h:¬ Bj mx a b=true):mC mx b a:=by cases mx<;>exact Bool.eq_false_iff.mpr h
theorem Tb {prog:Program} {w:World} {A:Around} {E:Value->Shared->Prop} {s:Shared} {mx:Bool} {l b:Addr} {items aP:Array Value} {ns ms:List Int} {Q:Value->Shared->Prop} (hl:IsTup s.heap l items) (hb:IsTup s.heap b aP) (hi:IntsAre items.toList ns) (hj:IntsAre aP.toList ms)
  (hu:A.units < cLine) (h:Q (.bool (Bj mx ns ms)) s):wpAny (model prog w) A (richCompare (HZ mx) (.ref l) (.ref b)) Q E s:=by
 cases mx
 ·exact HT.Ea hl hb hi hj hu h
 ·exact HT.SW hl hb hi hj hu h
theorem Tc (mx:Bool) (a v d:Value):argsOk (iF mx) ⟨[a],[(Str.ofString "key",v),(Str.ofString "default",d)]⟩:=by cases mx<;>(unfold argsOk;kernel_rfl)
section
variable {X:Cx} {pins:List (Addr × Obj)} {σ : St} {H:Hp} {s:Shared} {E:Value->Shared->Prop} {l q I S:Addr} {P:List V->Hp->Prop} {xs:List V} {d:Value} {R:Result->Shared->Prop}
noncomputable def Td (mx:Bool) (kf:Nat->LK) (xs ax:List V) (k_:Array Value):Prop :=
 (ax=[]/\k_ = #[])\/∃ (b:Nat) (x:V) (vb:Value) (t:Addr),b < ax.length/\xs[b]? = some x/\RelV x vb/\ax[b]? = some (.ref t)/\k_ = #[vb,.ref t]/\∀ j,j < ax.length->mC mx (kf b) (kf j)
theorem Te (mx:Bool) (kf:Nat->LK) (hh:X.A.handled=none) (hu:X.A.units + 1 < cLine) (uS:l≠I) (uT:S≠I) (fI:∀ H',H' I=none->bf X pins H' I) (fS:∀ H',H' S=none->bf X pins H' S)
  (hl:∀ ax H',P ax H'->H' l=some (.lst xs)) (hP:∀ ax H',P ax H'->∀ i,i < ax.length->∃ t,ax[i]? = some (.ref t)/\H' t=some (.tup ((kf i).map V.int)))
  (iE:∀ (br:List (Addr × Obj)) (x:V) (u:Value) (ax:List V) (H':Hp) (s':Shared),xs[ax.length]? = some x->RelV x u->Inv X br σ H' s'->P ax H'->wpAny (model X.prog X.w) X.A.in1 (call (.ref q) [u]) (EP X br σ fun k iw=>P (ax ++ [k]) iw) (fun _ _=>False) s')
  (fin:∀ ax H' s',ax.length=xs.length->P ax H'->Inv X pins σ H' s'->(xs=[]->R (.ok (.ret d)) s')/\∀ (b:Nat) (x:V) (u:Value),xs[b]? = some x->RelV x u->(∀ j,j < xs.length->mC mx (kf b) (kf j))->R (.ok (.ret u)) s') :
  ∀ (r:Nat) (ax:List V) (H':Hp) (s':Shared) (k_:Array Value) (c:Nat) (oI:Obj),ax.length + r=xs.length->Inv X ((S,seqObj "list" k_ c) :: (I,oI) :: pins) σ H' s'->P ax H'->oI.cls = .type "list_iterator" -> oI.data = .fields #[.ref l,.int ax.length 0]->Td mx kf xs ax k_ →
   codeAny (model X.prog X.w) X.A (.builtin (rB mx) ⟨[.ref I,.ref q,.ref S],[(Str.ofString "default",d)]⟩) R s':=by
 have gT:(toString (iF mx) ++ toString ".loop" : String)=rB mx:=by cases mx<;>decide
 intro r
 induction r with
 | zero =>
  intro ax H' s' k_ c oI hr J pk qt Bk hb
  have pS:=J.pin (S,seqObj "list" k_ c) (Nj _ (.head _))
  have pI:=J.pin (I,oI) (Nj _ (.tail _ (.head _)))
  have Jn:=J.bY.bY
  obtain⟨ai,rv,pl,_⟩:=Jn.list (bc.of (hl ax H' pk))
  have lv:ai.length=xs.length:=rv.length.symm
  have Tf:ax.length=ai.length:=by omega
  refine Zz (H_ mx) ?_
  rw[Zo (rC mx) _]
  show wpAny _ X.A.in1 (seqItems? (.ref S) >>= _) _ _ _
  refine lJ (Z1 pS.1 rfl ?_)
  show wpAny _ X.A.in1 (tryCatch (pyNext (.ref I)) _ >>= _) _ _ _
  have W:=q1u (prog:=X.prog) (w:=X.w) (A:=X.A.in1) hh I l uS ai.toArray
  refine lJ (q07 (W.done _ _ _ ⟨⟨oI,pI.1,qt,by rw[Bk,yG,<-Tf]⟩,PlainL.isList pl⟩ fun h' kU gr => ?_))
  have J1:Inv X pins σ H' { s' with heap:=h',toks:=kU }:=Jn.d7 (fI H' pI.2.1) fun c o n e=>gr c o (by simpa using n) e
  have qb:=gr S _ (by simpa using uT) pS.1
  rcases hb with⟨rl,rfl⟩ | ⟨b,x,vb,t,hb,hx,rx,ht,rfl,best⟩
  ·refine lJ (wpAny_rule (vK ?_))
   refine (fin ax H' _ (by omega) pk J1).1 ?_
   cases xs with
   | nil=>rfl
   | cons _ _=>rw[rl] at hr;simp at hr
  ·have s1:=Yy h' S (Obj.mapSeq fun _=>(#[]:Array Value))
   show wpAny _ X.A.in1 (updateSeq S (fun _ => #[]) >>= _) _ _ _
   refine lJ (wpAny_updateSeq qb rfl (lJ (q1a (vK ?_))))
   exact (fin ax H' _ (by omega) pk (J1.d7 (fS H' pS.2.1) fun c o n e=>(s1.2 c n).trans e)).2 b x vb hx rx fun j hj=>best j (by omega)
 | succ r ih =>
  intro ax H' s' k_ c oI hr J pk qt Bk hb
  have pS:=J.pin (S,seqObj "list" k_ c) (Nj _ (.head _))
  have pI:=J.pin (I,oI) (Nj _ (.tail _ (.head _)))
  have Jn:=J.bY.bY
  obtain⟨ai,rv,pl,_⟩:=Jn.list (bc.of (hl ax H' pk))
  have lv:ai.length=xs.length:=rv.length.symm
  have cA:ax.length < ai.length:=by omega
  refine Zz (H_ mx) ?_
  rw[Zo (rC mx) _]
  show wpAny _ X.A.in1 (seqItems? (.ref S) >>= _) _ _ _
  refine lJ (Z1 pS.1 rfl ?_)
  show wpAny _ X.A.in1 (tryCatch (pyNext (.ref I)) _ >>= _) _ _ _
  have W:=q1u (prog:=X.prog) (w:=X.w) (A:=X.A.in1) hh I l uS ai.toArray
  refine lJ (q07 (W.item ax.length _ _ _ (by rw[yG];exact cA) ⟨⟨oI,pI.1,qt,Bk⟩,PlainL.isList pl⟩ fun v h' kU hv Bl gr => ?_))
  have hv:ai[ax.length]? = some v:=by simpa using hv
  obtain⟨qf,Bm,uU,uV⟩:=id Bl.1
  have hi:ax.length < xs.length:=by omega
  obtain⟨u,e1,rx⟩:=rv.get (oO hi)
  rw[hv] at e1
  cases e1
  have hx:=oO hi
  generalize xs[ax.length]=x at hx rx
  have qb:=gr S _ (by simpa using uT) pS.1
  have nI:∀ z,qf.data ≠ .cell z:=fun z e=>by rw[uV] at e;cases e
  have J1:Inv X pins σ H' { s' with heap:=h',toks:=kU }:=Jn.d7 (fI H' pI.2.1) fun c o n e=>gr c o (by simpa using n) e
  have J2:=(J1.ft (fI H' pI.2.1) Bm nI).ft ((fS H' pS.2.1).cons (p:=(I,qf)) uT.symm) qb p_
  show wpAny _ X.A.in1 (tryCatch (holding [v] (call (.ref q) [v])) _ >>= _) _ _ _
  refine lJ (q07 (Yl (YK (iE _ x v ax H' _ hx rx J2 pk) (fun kv s2 he => ?_) fun _ _ hF=>hF.elim)))
  obtain⟨kx,H2,J3,rk,jq⟩:=he
  obtain⟨t2,et,jd⟩:=hP _ H2 jq ax.length (by rw[Ew];exact Zj _)
  have ek:kx = .ref t2:=by
   rw[Xr (sG _),YG] at et
   simpa using et
  subst ek
  cases rk
  have qS:=J3.pin (S,seqObj "list" k_ c) (Nj _ (.head _))
  have qI:=J3.pin (I,qf) (Nj _ (.tail _ (.head _)))
  have Jm:=J3.bY.bY
  have Ib:(ax ++ [V.ref t2]).length + r=xs.length:=by rw[Ew,Yk];omega
  have uW:qf.data = .fields #[.ref l,.int ((ax ++ [V.ref t2]).length:Nat) 0]:=by rw[uV,Ew];rfl
  have put:∀ (b:Nat),b < ax.length + 1->b=ax.length->(∀ j,j < ax.length + 1->mC mx (kf b) (kf j))->codeAny (model X.prog X.w) X.A (.builtin (rB mx) ⟨[.ref I,.ref q,.ref S],[(Str.ofString "default",d)]⟩) R { s2 with heap:=s2.heap.update S (Obj.mapSeq fun _ => #[v,.ref t2]) }:=fun b hb eb best=>by
   subst eb
   have s1:=Yy s2.heap S (Obj.mapSeq fun _ => #[v,Value.ref t2])
   obtain⟨c2,gD⟩:∃ c2,(s2.heap.update S (Obj.mapSeq fun _ => #[v,Value.ref t2])).get? S=some (seqObj "list" #[v,.ref t2] c2):=⟨_,q0P qS.1 fun _ => #[v,Value.ref t2]⟩
   have J4:Inv X pins σ H2 { s2 with heap:=s2.heap.update S (Obj.mapSeq fun _ => #[v,Value.ref t2]) }:=Jm.d7 (t':=s2.toks) (fS H2 qS.2.1) fun c o n e=>(s1.2 c n).trans e
   have J5:=(J4.ft (fI H2 qI.2.1) ((s1.2 I uT.symm).trans qI.1) nI).ft ((fS H2 qS.2.1).cons (p:=(I,qf)) uT.symm) gD p_
   refine ih _ H2 _ _ c2 qf Ib J5 jq uU uW (.inr ⟨ax.length,x,v,t2,by rw[Ew];exact Zj _,hx,rx,et,rfl,fun j hj=>best j (by rw[Ew] at hj;exact hj)⟩)
  rcases hb with⟨rl,rfl⟩ | ⟨b,y,vb,t,hb,hy,ry,ht,rfl,best⟩
  ·show wpAny _ X.A.in1 (updateSeq S (fun _ => #[v,.ref t2]) >>= _) _ _ _
   refine lJ (wpAny_updateSeq qS.1 rfl ?_)
   rw[gT]
   refine vK ⟨q0a (rC mx) _,put ax.length (Zj _) rfl fun j hj => ?_⟩
   rw[rl] at hj ⊢
   have:j=0:=by simp at hj;omega
   subst this
   exact Ia _ _
  ·obtain⟨t',Ic,Tg⟩:=hP _ H2 jq b (by rw[Ew];omega)
   rw[Xn hb,ht] at Ic
   cases Ic
   obtain⟨i1,r1,Th,_⟩:=Jm.tuple (bC.of jd)
   obtain⟨i2,r2,Ti,_⟩:=Jm.tuple (bC.of Tg)
   show wpAny _ X.A.in1 (tryCatch (holding [v,.ref t2] (richCompare _ (.ref t2) (.ref t) >>= _)) _ >>= _) _ _ _
   refine lJ (q07 (Yl (lJ ?_)))
   refine Tb (A:=X.A.in1) (mx:=mx) (ns:=kf ax.length) (ms:=kf b) Th Ti (by simpa using intsAre_of r1) (by simpa using intsAre_of r2) hu ?_
   refine lJ (Yl (Zc ?_))
   refine lJ (q1a (vK ?_))
   split
   ·rename_i hq
    refine lJ (wpAny_updateSeq qS.1 rfl (lJ (q1a ?_)))
    rw[gT]
    refine vK ⟨q0a (rC mx) _,put ax.length (Zj _) rfl fun j hj => ?_⟩
    by_cases e:j=ax.length
    ·subst e;exact Ia _ _
    ·exact S_ hq (best j (by omega))
   ·rename_i hq
    refine lJ (q1a ?_)
    rw[gT]
    refine vK ⟨q0a (rC mx) _,ih _ H2 _ _ c qf Ib J3 jq uU uW (.inr ⟨b,y,vb,t,by rw[Ew];omega,hy,ry,by rw[Xn hb];exact ht,rfl,fun j hj => ?_⟩)⟩
    by_cases e:j=ax.length
    ·subst e;exact Ta hq
    ·exact best j (by rw[Ew,Yk] at hj;omega)
theorem Tj (mx:Bool) {Q:Value->Shared->Prop} (kf:Nat->LK) (J:Inv X pins σ H s) (hh:X.A.handled=none) (hu:X.A.units + 1 < cLine) (p0:P [] H)
  (hl:∀ ax H',P ax H'->H' l=some (.lst xs)) (hP:∀ ax H',P ax H'->∀ i,i < ax.length->∃ t,ax[i]? = some (.ref t)/\H' t=some (.tup ((kf i).map V.int)))
  (iE:∀ (br:List (Addr × Obj)) (x:V) (u:Value) (ax:List V) (H':Hp) (s':Shared),xs[ax.length]? = some x->RelV x u->Inv X br σ H' s'->P ax H'->wpAny (model X.prog X.w) X.A.in1 (call (.ref q) [u]) (EP X br σ fun k iw=>P (ax ++ [k]) iw) (fun _ _=>False) s')
  (fin:∀ ax H' s',ax.length=xs.length->P ax H'->Inv X pins σ H' s'->(xs=[]->Q d s')/\∀ (b:Nat) (x:V) (u:Value),xs[b]? = some x->RelV x u->(∀ j,j < xs.length->mC mx (kf b) (kf j))->Q u s') :
  wpAny (model X.prog X.w) X.A (call (.builtin (iF mx)) [.ref l] [(Str.ofString "key",.ref q),(Str.ofString "default",d)]) Q E s:=by
 have gT:(toString (iF mx) ++ toString ".loop" : String)=rB mx:=by cases mx<;>decide
 obtain⟨ai,rv,pl,_⟩:=J.list (bc.of (hl _ _ p0))
 have wm:=PlainL.lt pl
 refine kmk_tree (S8 mx) (S9 mx) (S7 mx) (Tc _ _ _ _) ?_
 show wpAny _ X.A.in1 (Builtin.Builtins.bindParams (iF mx) ["key", "default"] 0 ⟨[],[(Str.ofString "key",.ref q),(Str.ofString "default",d)]⟩ >>= _) _ _ s
 refine lJ (wpAny_of_eq (show Builtin.Builtins.bindParams (iF mx) ["key", "default"] 0 ⟨[],[(Str.ofString "key",.ref q),(Str.ofString "default",d)]⟩=pure [some (.ref q),some d] from rfl) ?_)
 refine lJ (vK ?_)
 refine lJ (ZZ (PlainL.isList pl) ?_)
 refine lJ (wpAny_newList ?_ (YW _))
 rw[gT]
 refine vK ⟨q0a (rC mx) _,?_⟩
 have J1:Inv X pins σ H { s with heap:=s.heap.push { cls := .type "list_iterator",data := .fields #[.ref l,.int 0 0] } }:=J.kept (h':=s.heap.push { cls := .type "list_iterator",data := .fields #[.ref l,.int 0 0] }) (t':=s.toks) fun b u e=>oQ _ e
 have gI:(s.heap.push { cls := .type "list_iterator",data := .fields #[.ref l,.int 0 0] }).get? s.heap.objs.size=some { cls := .type "list_iterator",data := .fields #[.ref l,.int 0 0] }:=X1 _ rfl
 have hS:(s.heap.push { cls := .type "list_iterator",data := .fields #[.ref l,.int 0 0] }).objs.size≠s.heap.objs.size:=fun z=>Y9 _ (Nat.lt_of_lt_of_eq (Ng gI) z)
 have fI:∀ H',H' s.heap.objs.size=none->bf X pins H' s.heap.objs.size:=fun H' e=>J.f7 (sG _) e
 have Ie:H s.heap.objs.size=none:=J.aM.fresh (sG _)
 have uS:l≠s.heap.objs.size:=X_ wm
 generalize s.heap.objs.size=I at gI hS fI Ie uS
 generalize s.heap.push { cls := .type "list_iterator",data := .fields #[.ref l,.int 0 0] }=g1 at J1 gI hS
 have fS:∀ H',H' g1.objs.size=none->bf X pins H' g1.objs.size:=fun H' e=>J1.f7 (sG _) e
 have Tn:H g1.objs.size=none:=J1.aM.fresh (sG _)
 have J2:Inv X pins σ H { s with heap:=g1.push (seqObj "list" #[] 0) }:=J1.kept (h':=g1.push (seqObj "list" #[] 0)) (t':=s.toks) fun b u e=>oQ _ e
 have J3:=(J2.ft (fI H Ie) (oQ _ gI) (fun z e=>by cases e)).ft ((fS H Tn).cons (p:=(I,_)) hS.symm) (X1 _ rfl) p_
 exact Te mx kf hh hu uS hS fI fS hl hP iE fin xs.length [] H _ #[] 0 _ (by simp) J3 p0 rfl rfl (.inl ⟨rfl,rfl⟩)
end
variable [aE]
noncomputable def mD (mx:Bool) (cp:List (Option Nat)) (fb:WE) (δ : ay) (ds:List D) (K:D->Prop):Prop :=
 ∃ key:D->LK,HJ cp fb δ ds key/\(ds=[]->K .non)/\∀ d∈ds,(∀ e∈ds,mC mx (key d) (key e))->K d
noncomputable def km (mx:Bool) (cp:List (Option Nat)) (fb:WE) (x:DV) (δ : ay) (K:D->Prop):Prop:=∃ ds,x = .p (.lst ds)/\mD mx cp fb δ ds K
theorem To {mx:Bool} {cp:List (Option Nat)} {fb:WE} {x:DV} {δ : ay} {K:D->Prop} (h:km mx cp fb x δ K):∃ ds,x = .p (.lst ds)/\mD mx cp fb δ ds K:=h
noncomputable def uX (mx:Bool) (f:WE) (cp:List (Option Nat)) (fb:WE):WE:=fun δ K=>f δ fun x δ1=>km mx cp fb x δ1 fun d=>K (.p d) δ1
noncomputable def xj (mx:Bool):Str:=Str.ofString (iF mx)
section
variable {X:Cx} {params:Arguments} {body:Expr} {scope:Scope} {cD:Pos} {x:Str} {Nb:List Str} {cp:List (Option Nat)} {fb:WE} {T:Addr}
theorem Tp {mx:Bool} {pins:List (Addr × Obj)} {σ : St} {H:Hp} {s:Shared} {E:Value->Shared->Prop} {l:Addr} {F:Hp} {ad:List Addr} {δ : ay} {ds:List D} {xs:List V} {eI kq pos j p2} {Q:VK} (L:d8 X params body scope cD T x Nb cp fb) (hu:X.A.units + 64 < cLine)
  (I:Inv X pins σ H s) (S:SR F ad δ σ H) (hl:F l=some (.lst xs)) (hx:ae F ds xs)
  (hs:mD mx cp fb δ ds fun d=>∀ v F' H',Ext F ad δ.mu H F' ad δ.mu H'->SR F' ad δ σ H'->Is F' d v->Q v H') :
  wpAny (model X.prog X.w) X.A (evalAll ((backToKw pos (keywordEach [⟨some "key",.Lambda params body scope cD,eI⟩,⟨some "default",.Constant .none j p2,kq⟩] X.env)).map (·.2))) (fun ax s₂ => wpAny (model X.prog X.w) X.A (call (.builtin (iF mx)) [.ref l] (((backToKw pos (keywordEach [⟨some "key",.Lambda params body scope cD,eI⟩,⟨some "default",.Constant .none j p2,kq⟩] X.env)).filterMap (·.1)).zip ax)) (EP X pins σ Q) E s₂) E s:=by
 obtain⟨key,hk,K0,K⟩:=hs
 obtain⟨k,kh,J⟩:=L.room
 obtain⟨cc,fQ,hC⟩:=L.env.code
 show wpAny _ _ (evalAll [do let v <- eval (.Lambda params body scope cD) X.env;standAt pos;pure v,do let v <- eval (.Constant .none j p2) X.env;standAt pos;pure v]) _ _ _
 refine evalAll_cons (lJ ?_)
 have qd:=L.names
 unfold uJ at qd
 simp only[Yg,Yr,Ze] at qd
 have SC:=q8P L.kind qd.1.1.1
 obtain⟨cl,k8,my,rz⟩:=yL (scope:=scope) (env:=X.env) fun y hy e=>I.ok.has y.1 (SC.free y hy e)
 refine HC I (L.tbl.get H S.tab) L.HK k8 fQ (hC.keeps I.bk) L.env.ng (I.mod.glob.keeps I.bk) (L.env.blt.keeps I.bk) fun f H1 s1 c I1 t1 k1 HB hf hc => ?_
 refine lJ (Zv (vK ?_))
 refine evalAll_cons (lJ (vK ?_))
 refine lJ (Zv (vK ?_))
 refine evalAll_nil ?_
 show wpAny _ _ (call (.builtin (iF mx)) [.ref l] [(Str.ofString "key",.ref f),(Str.ofString "default",.none)]) _ _ _
 have kT:∀ b o,H b=some o->b∉aE.ad->H1 b=some o:=fun b o e t=>k1 b o e fun z=>t (by rw[z];exact L.tbl.mem)
 have jC:=L.tbl.put H H1 S.tab t1 k1
 have S1:=S.rA kT jC
 have E1:=Ext.rA S kT jC
 have lx:=hx.length
 have r1:aS (k + 2) X.A.in1:=aS.in1 (k:=k + 2) kh
 have gd:∀ {i:Nat} {d:D},ds[i]? = some d->ds.getD i .non=d:=fun {i d} e=>by rw[Et,e];rfl
 refine Tj mx (l:=l) (xs:=xs) (d := .none) (fun i=>key (ds.getD i .non)) (P:=fun ax H'=>∃ F',Ext F ad δ.mu H F' ad δ.mu H'/\SR F' ad δ σ H'/\H' f=some (gR f "<lambda>" (X.env.qual ++ "<lambda>") params body scope cl ((X.mg "__name__").getD .none) (.ref c))/\H' c=some (kc c (X.env.qual ++ "<lambda>"))/\ax.length <= ds.length/\∀ (i:Nat) (d:D) (kv:V),ds[i]? = some d->ax[i]? = some kv->Is F' (.tup ((key d).map D.int)) kv)
  I1 r1.hd (by omega) ⟨_,E1,S1,hf,hc,YW _,fun i d kv _ e=>by simp at e⟩ (fun ax H' ⟨F',E',S',_⟩=>S'.sub _ _ (E'.same _ _ hl)) (fun ax H' ⟨F',E',S',nK,gz,hle,nM⟩ i hi => ?_) (fun br v u ax H' s' hv rv I' ⟨F',E',S',nK,gz,hle,nM⟩ => ?_) fun ax H' s' gu ⟨F',E',S',nK,gz,hle,nM⟩ I'=>⟨fun h0 => ?_,fun b y u hy ry best => ?_⟩
 ·have hd:=oO (show i < ds.length by omega)
  have is:=nM i _ _ hd (oO hi)
  simp only[Is] at is
  obtain⟨t,us,e1,e2,e3⟩:=is
  refine⟨t,by rw[oO hi,e1],?_⟩
  rw[gd hd,<-qT e3];exact S'.sub _ _ e2
 ·have hi:ax.length < ds.length:=by rw[<-lx];exact (oP.mp hv).1
  have hd:=oO hi
  have A5:Is F' ds[ax.length] v:=ae.at (hx.same E'.same) hd hv
  obtain⟨Sj,A6⟩:=hk _ (Y6 hi)
  refine HF I' nK gz (by rw[show X.A.in1.frames=X.A.frames from rfl];exact I'.ok.frames) r1.hd (aS.depth (r1.mono (by omega:k + 1 <= k + 2))) L.kind L.names L.co L.gen my rz (fun ct=>L.bind cl _ _ ct u) rv (J ⟨X.A.in1,cl,f,.ref c,s',H'⟩ ((r1.mono (by omega:k + 1 <= k + 2)).deeper _)) ?_
  refine⟨F',ad,_,_,(S'.pf (cp:=cp)).nJ A5,A6,fun y δ' ⟨ey,em⟩ w F2 cy H2 E2 S2 V2 => ?_⟩
  subst ey
  have ea:cy=ad:=by
   have l2:cy.length=ad.length:=by rw[S2.cj,em,S'.cj]
   refine ZW fun i => ?_
   by_cases hi:i < ad.length
   ·rw[oO hi];exact E2.pre i _ (oO hi)
   ·rw[YT (by omega),YT (by omega)]
  subst ea
  obtain⟨jI,cE⟩ := δ'
  have em:cE = δ.mu:=em
  subst em
  refine⟨F2,E'.trans E2,SR.back S' E2 S2,E2.iY S' nK (fun _ z=>by cases z) (fun _ z=>by cases z) (fun _ z=>by cases z),E2.iY S' gz (fun _ z=>by cases z) (fun _ z=>by cases z) (fun _ z=>by cases z),by rw[Ew,Yk];exact hi,fun i d kv e1 e2 => ?_⟩
  by_cases ma:i < ax.length
  ·rw[Xn ma] at e2
   exact Is.same E2.same (nM i d kv e1 e2)
  ·have:i=ax.length:=by
    have:=(oP.mp e2).1
    rw[Ew,Yk] at this
    omega
   subst this
   rw[Xr (sG _),YG] at e2
   cases (show some w=some kv from e2)
   rw[hd] at e1;cases e1
   exact V2
 ·have Tq:ds=[]:=Zr.mp (by rw[<-lx,h0];rfl)
  exact⟨.non,H',I',rfl,K0 Tq _ F' H' E' S' (by simp only[Is])⟩
 ·have hb:b < ds.length:=by rw[<-lx];exact (oP.mp hy).1
  have hd:=oO hb
  refine⟨y,H',I',ry,K ds[b] (Y6 hb) (fun e he => ?_) _ F' H' E' S' (ae.at (hx.same E'.same) hd hy)⟩
  obtain⟨j,hj,rfl⟩:=YX.mp he
  have:=best j (by omega)
  rw[gd hd,gd (oO hj)] at this
  exact this
variable {e:Expr} {f:WE} {p1 q1 eI kq:Pos}
theorem Ig {j p2} (mx:Bool) (L:d8 X params body scope cD T x Nb cp fb) (hu:X.A.units + 64 < cLine) (uO:Gl X (xj mx)) (hs:X.mg (xj mx)=none) (uP:bootBuiltins (xj mx)=some (.builtin (iF mx))) (ha:JA X [e] (bL (af f ag)))
  (he:starEach [e] X.env=[(false,eval e X.env)]:=by rfl):JE X (.Call (.Name (xj mx) p1) [e] [⟨some "key",.Lambda params body scope cD,eI⟩,⟨some "default",.Constant .none j p2,kq⟩] q1) (tD (uX mx f cp fb)) :=
 ⟨fun pins s σ H Q I h0_ => el7 h0_ fun F ad δ K S q k =>by
  refine Zm (lq I uO hs uP ?_ (hn:=by cases mx<;>decide) (hd:=by cases mx<;>decide))
  refine callWith_kw ?_ (he:=by rw[he];rfl) (hplain:=by rw[he];rfl)
  refine a5 (ha.out q1 pins s σ H (fun vs H1=>∃ (l:Addr) (F1:Hp) (aQ:List Addr) (δ1:ay) (ds:List D) (us:List V),vs=[.ref l]/\F1 l=some (.lst us)/\ae F1 ds us/\Ext F ad δ.mu H F1 aQ δ1.mu H1/\SR F1 aQ δ1 σ H1/\mD mx cp fb δ1 ds fun d=>K (.p d) δ1) I ?_) fun us s1 A9 => ?_
  ·refine⟨F,ad,δ,fun xs δ1=>match xs with
    | [x]=>km mx cp fb x δ1 fun d=>K (.p d) δ1
    | _=>False,S,q,fun xs δ1 h1 vs F1 aQ H1 E1 S1 V1 => ?_⟩
   cases xs with
   | nil=>exact h1.elim
   | cons x xs =>
    cases xs with
    | cons _ _=>exact h1.elim
    | nil =>
     obtain⟨v,r,rfl,W1,W2⟩:=V1
     have W2:r=[]:=W2
     subst W2
     obtain⟨ds,rfl,h2⟩:=To h1
     have W1:Is F1 (.lst ds) v:=W1
     simp only[Is] at W1
     obtain⟨a,us,rfl,g1,g2⟩:=W1
     exact⟨a,F1,aQ,δ1,ds,us,rfl,g1,g2,E1,S1,h2⟩
  ·obtain⟨vs,H1,I1,r1,l,F1,aQ,δ1,ds,ws,ev,hl,hi,E1,S1,xb⟩:=A9
   subst ev
   obtain⟨u,rfl,rx⟩:=vals1 r1
   cases rx
   refine Tp L hu I1 S1 hl hi ?_
   obtain⟨key,hk,K0,hK⟩:=xb
   exact⟨key,hk,fun h0 v F' H' E' S' is=>k _ _ (K0 h0) _ _ _ _ (E1.trans E') S' is,fun d hd hb v F' H' E' S' is=>k _ _ (hK d hd hb) _ _ _ _ (E1.trans E') S' is⟩⟩
end
end L2
namespace LJ
open PySem L2
variable [aE]
noncomputable def uY:D->D
 | .tup [.int i,_] => .int i
 | _ => .non
noncomputable def uZ (p:Int->Bool):D->Bool
 | .tup [.int i,_]=>p i
 | _=>false
theorem Bo (p:Int->Bool):∀ (ds:List D) (i:Nat),((k6 i ds).filter (uZ p)).map uY=((List.range' i ds.length).filter fun k:Nat=>p k).map fun k:Nat=>D.int k
 | [],_=>rfl
 | d :: r,i=>by
  have ih:=Bo p r (i + 1)
  show (((D.tup [.int i,d]) :: k6 (i + 1) r).filter _).map _=_
  rw[Ex,List.range'_succ,List.filter_cons,List.filter_cons]
  show (if p i=true then _ else _:List D).map _=_
  cases q:p i with
  | true=>simp only[ZL,YC,ih];rfl
  | false=>simp only[Ye,YY,ih]
noncomputable def qg (l:List Int) (y:Wy):Bool:=decide (y.1∈l) != decide (y.2.1∈l)
noncomputable def u4 (ws:List Wy) (l:List Int):List Int:=(a_ ws.length).filter fun n=>qg l (aH ws n)
noncomputable def Bp:GD:=fun ys ovs K=>∃ (y:Wy) (l:List Int),ys=[.p (bQ y),.p (b7 l)]/\ovs=[]/\K (.p (.bl (qg l y))) []
noncomputable def Bq:WS:=(aN (d2 (d2 (d2 (aa 0) (dC (.int 0)) a6) (aa 1) (k7 false)) (d2 (d2 (aa 0) (dC (.int 1)) a6) (aa 1) (k7 false)) nv))
theorem Tr:∀ ys ovs K',ys.length=2->Bp ys ovs K'->Bq (bP ovs.length K') ⟨ys.map some ++ List.replicate 0 none,ovs.map some⟩:=by
 rintro ys ovs K' - ⟨y,l,rfl,rfl,k⟩
 unfold Bq
 simp? only [bQ,b7,eU,iC]
 have d0:=xi l
 refine⟨by omega,by omega,?_⟩
 rw[Bi,Bi]
 unfold qg at k
 generalize decide (y.1∈l)=p at k
 generalize decide (y.2.1∈l)=q at k
 cases p<;>cases q<;>exact bq k
noncomputable def Br:GD:=fun ys ovs K=>∃ (m:Int) (ws:List Wy) (l:List Int),cb m ws/\ys=[.p (aV m ws),.p (b7 l)]/\ovs=[]/\K (.p (b7 (u4 ws l))) []
noncomputable def Bs:WS:=(aN (iA (lY (af (d2 (aa 0) (dC (.int 1)) a6) ag)) [none,none,some 1] (tT 2 (lS (cf 0) (lS (cf 1) qL))) (dT (aj 2 Bp (af (aa 1) (af (aa 2) ag)))) (aa 0)))
theorem Tt:∀ ys ovs K',ys.length=2->Br ys ovs K'->Bs (bP ovs.length K') ⟨ys.map some ++ List.replicate 0 none,ovs.map some⟩:=by
 rintro ys ovs K' - ⟨m,ws,l,W,rfl,rfl,k⟩
 have xc:=W.jX
 unfold Bs
 simp? only [aV,iC]
 refine pO (uZ fun i=>qg l (aH ws i)) uY (by rw[tZ,qy];omega) trivial ?_ ?_
 ·intro d hd acc L' ha h1 h2
  obtain⟨z,hz⟩:=Xq.mp hd
  obtain⟨e,z1,z2⟩:=t5 hz
  rw[Ni] at z1
  obtain⟨y,z3,rfl⟩:=Xo.mp z1
  rw[Yx] at z2
  subst z2
  have ew:aH ws (z:Int)=y:=by unfold aH;rw[Yj,Et,z3];rfl
  simp only[uZ,uY] at h1 h2
  rw[ew] at h1 h2
  simp? only []
  refine⟨y,l,rfl,rfl,?_⟩
  simp? only []
  cases q:qg l y with
  | true=>simp? only [];exact⟨ha,h1 q⟩
  | false=>simp? only [];exact h2 q
 ·have e:=Bo (fun i=>qg l (aH ws i)) (ws.map bQ) 0
  have e2:(u4 ws l).map D.int=((List.range' 0 (ws.map bQ).length).filter fun k:Nat=>qg l (aH ws k)).map fun k:Nat=>D.int k:=by
   unfold u4 a_
   rw[ZT,YL,qy,<-List.range_eq_range']
   rfl
  rw[<-e2] at e
  rw[e]
  exact bq k
noncomputable def Bt:GD:=fun ys ovs K=>∃ (m:Int) (ws:List Wy) (ns:List Int),cb m ws/\Nums ws ns/\ys=[.p (aV m ws),.p (b7 ns)]/\ovs=[]/\(ns=[]->K (.p .non) [])/\∀ n∈ns,(∀ e∈ns,kle (fu ws n) (fu ws e))->K (.p (.int n)) []
noncomputable def Bu:WS:=(aN (uX false (aa 1) [some 0] (aj 1 uQ (af (d2 (d2 (aa 1) (dC (.int 1)) a6) (aa 0) a6) ag))))
theorem Tu:∀ ys ovs K',ys.length=2->Bt ys ovs K'->Bu (bP ovs.length K') ⟨ys.map some ++ List.replicate 0 none,ovs.map some⟩:=by
 rintro ys ovs K' - ⟨m,ws,ns,W,hn,rfl,rfl,k0,k⟩
 unfold Bu
 simp? only [uX,km,aV,b7]
 refine⟨ns.map D.int,rfl,fun d=>match d with
  | .int n=>fu ws n
  | _=>[],fun d hd => ?_,fun h0 => ?_,fun d hd best => ?_⟩
 ·obtain⟨n,h,rfl⟩:=Yd.mp hd
  obtain⟨n0,n1⟩:=hn n h
  obtain⟨y,ey,hy,ea,_⟩:=p9 W n0 n1
  refine⟨(by intro z;cases z),?_⟩
  simp? only [iC,ea]
  refine⟨y,rfl,rfl,?_⟩
  simp? only []
  unfold fu
  rw[ey]
  rfl
 ·exact bq (k0 (List.map_eq_nil_iff.mp h0))
 ·obtain⟨n,h,rfl⟩:=Yd.mp hd
  exact bq (k n h fun e he=>best _ (Yd.mpr ⟨e,he,rfl⟩))
theorem Tv {ws:List Wy} {l:List Int}:Nums ws (u4 ws l):=fun n h=>Hw (Y0.mp h).1
theorem Tw {ws:List Wy} {us:List Int} (hu:Nums ws us) (nd:us.Nodup):us.length <= ws.length:=by
 have h:us.Subset (a_ ws.length):=fun n h=>by
  have:=hu n h
  exact fV.mpr this
 have:=List.Nodup.length_le_of_subset nd h
 rw[SQ] at this
 exact this
end LJ
namespace L2
open PySem PySem.Spec PyProof.Rows PySem.W
section
variable {X:Cx}
end
variable [aE] {X:Cx}
end L2
namespace LJ
open PySem L2
variable [aE]
noncomputable def Indep (A:Wy->Prop):Prop:=∀ a,A a->¬ ak (fun v=>A v/\v≠a) a.1 a.2.1
omit [aE] in
theorem Indep.add {A B:Wy->Prop} {w:Wy} (h:Indep A) (k:∀ v,B v↔A v\/v=w) (n:¬ ak A w.1 w.2.1):Indep B:=by
 intro a ha c
 rcases (k a).mp ha with ha | rfl
 ·have aw:a≠w:=fun e=>n (by rw[<-e];exact .one ha)
  have c':ak (fun v=>(A v/\v≠a)\/v=w) a.1 a.2.1:=c.mono fun v hv=>by
   rcases (k v).mp hv.1 with z | z
   ·exact .inl ⟨z,hv.2⟩
   ·exact .inr z
  have m:∀ {x y:Int},ak (fun v=>A v/\v≠a) x y->ak A x y:=fun z=>z.mono fun v hv=>hv.1
  rcases (ak.add fun v=>Iff.rfl).mp c' with z | ⟨z1,z2⟩ | ⟨z1,z2⟩
  ·exact h a ha z
  ·exact n (((m z1).symm.trans (.one ha)).trans (m z2).symm)
  ·exact n (((m z2).trans (ak.one ha).symm).trans (m z1))
 ·exact n (c.mono fun v hv=>by
   rcases (k v).mp hv.1 with z | z
   ·exact z
   ·exact absurd z hv.2)
theorem u5 {m:Int} {ws:List Wy} (W:cb m ws) {u v:Wy} (hu:u∈ws) (hv:v∈ws) (ne:u≠v):fw u v\/fw v u:=by
 by_cases c:fw u v
 ·exact .inl c
 ·refine .inr ?_
  have c:kle (g_ v) (g_ u):=by
   unfold kle
   cases q:HT.lexLt (g_ u) (g_ v) with
   | false=>rfl
   | true=>exact absurd q c
  refine HV c fun e=>ne ?_
  obtain⟨a1,a2,a3⟩:=u
  obtain⟨b1,b2,b3⟩:=v
  unfold g_ at e
  simp only[List.cons.injEq,and_true] at e
  obtain⟨e1,e2,e3⟩:=e
  subst e1 e2 e3
  rfl
theorem Tx {m:Int} {ws:List Wy} (W:cb m ws):Indep (gx ws):=by
 have key:∀ k,Indep fun u=>gx ws u/\fA ws u < k:=by
  intro k
  induction k with
  | zero=>intro a ha;omega
  | succ k ih =>
   by_cases e:∃ w,gx ws w/\fA ws w=k
   ·obtain⟨w,tw,cw⟩:=e
    refine ih.add (w:=w) (fun v => ?_) fun c => ?_
    ·constructor
     ·rintro ⟨tv,cv⟩
      by_cases z:v=w
      ·exact .inr z
      ·refine .inl ⟨tv,?_⟩
       rcases u5 W tv.1 tw.1 z with y | y
       ·have:=nP tv.1 y;omega
       ·have:=nP tw.1 y;omega
     ·rintro (⟨tv,cv⟩ | rfl)
      ·exact⟨tv,by omega⟩
      ·exact⟨tw,by omega⟩
    ·refine tw.2 (c.mono fun v hv=>⟨hv.1.1,?_⟩)
     by_cases z:v=w
     ·subst z;omega
     ·rcases u5 W hv.1.1 tw.1 z with y | y
      ·exact y
      ·have:=nP tw.1 y;omega
   ·have eq:(fun u=>gx ws u/\fA ws u < k + 1)=fun u=>gx ws u/\fA ws u < k:=funext fun u=>propext ⟨fun ⟨a,b⟩=>⟨a,by
     by_cases z:fA ws u=k
     ·exact absurd ⟨u,a,z⟩ e
     ·omega⟩,fun ⟨a,b⟩=>⟨a,by omega⟩⟩
    rw[eq];exact ih
 have eq:(fun u=>gx ws u/\fA ws u < ws.length + 1)=gx ws:=funext fun u=>propext ⟨fun h=>h.1,fun h=>⟨h,by
  have:=List.countP_le_length (p:=fun v=>HT.lexLt (g_ v) (g_ u)) (l:=ws)
  unfold fA;omega⟩⟩
 have:=key (ws.length + 1)
 rw[eq] at this
 exact this
theorem Tz {m:Int} {ws:List Wy} (W:cb m ws) {a b:Int} (ha:0 <= a/\a < (ws.length:Int)) (hb:0 <= b/\b < (ws.length:Int)) (e:aH ws a=aH ws b):a=b:=by
 have nd:=SO W
 unfold aH at e
 have h1:a.toNat < ws.length:=by omega
 have h2:b.toNat < ws.length:=by omega
 rw[Et,Et,oO h1,oO h2] at e
 have:=(q0x (h₀ := h1) (h₁ := h2) nd).mp (by simpa using e)
 omega
noncomputable def below (ws:List Wy) (g:Wy):Wy->Prop:=fun v=>v∈ws/\fw v g
noncomputable def u7 (ws:List Wy) (g:Wy):Wy->Prop:=fun v=>gx ws v/\v≠g
structure dI (ws:List Wy) (g:Wy) (a b:Int):Prop where
 mem:g∈ws
 up:ak (fun v=>below ws g v\/v=g) a b
 dn:¬ ak (below ws g) a b
theorem Ih {v:Wy} (h:fw v v):False:=by
 unfold fw at h
 rw[qW] at h
 cases h
theorem Ii {u v w:Wy} (h:fw u v) (h':fw v w):fw u w:=qX h h'
theorem TB {u v:Wy} (h:fw u v) (h':fw v u):False:=Ih (Ii h h')
theorem Ij {m:Int} {ws:List Wy} (W:cb m ws) {u v:Wy} (hu:u∈ws) (hv:v∈ws):fw u v↔fA ws u < fA ws v:=by
 refine⟨nP hu,fun h => ?_⟩
 by_cases e:u=v
 ·subst e;omega
 ·rcases u5 W hu hv e with z | z
  ·exact z
  ·have:=nP hv z;omega
theorem TC {m:Int} {ws:List Wy} (W:cb m ws) {u v:Wy} (hu:u∈ws) (hv:v∈ws) (h:fA ws u=fA ws v):u=v:=by
 by_cases e:u=v
 ·exact e
 ·rcases u5 W hu hv e with z | z
  ·have:=nP hu z;omega
  ·have:=nP hv z;omega
theorem Ik {m:Int} {ws:List Wy} (W:cb m ws) {a b:Int} (ne:a≠b):∀ k,ak (fun v=>v∈ws/\fA ws v < k) a b->∃ g,dI ws g a b
 | 0,c=>absurd (c.none fun v hv=>by omega) ne
 | k + 1,c=>by
  by_cases d:ak (fun v=>v∈ws/\fA ws v < k) a b
  ·exact Ik W ne k d
  ·by_cases e:∃ w,w∈ws/\fA ws w=k
   ·obtain⟨w,hw,cw⟩:=e
    refine⟨w,hw,c.mono fun v hv => ?_,fun z=>d (z.mono fun v hv=>⟨hv.1,by have:=(Ij W hv.1 hw).mp hv.2;omega⟩)⟩
    by_cases q:fA ws v < k
    ·exact .inl ⟨hv.1,(Ij W hv.1 hw).mpr (by omega)⟩
    ·exact .inr (TC W hv.1 hw (by omega))
   ·exact absurd (c.mono fun v hv=>⟨hv.1,by
     by_cases q:fA ws v=k
     ·exact absurd ⟨v,hv.1,q⟩ e
     ·omega⟩) d
theorem TF (ws:List Wy) (w:Wy):fA ws w < ws.length + 1:=by
 have:=List.countP_le_length (p:=fun v=>HT.lexLt (g_ v) (g_ w)) (l:=ws)
 unfold fA;omega
theorem Il {m:Int} {ws:List Wy} (W:cb m ws) {a b:Int} (ne:a≠b) (c:ak (fun v=>v∈ws) a b):∃ g,dI ws g a b :=
 Ik W ne (ws.length + 1) (c.mono fun v hv=>⟨hv,TF ws v⟩)
theorem dI.nQ {ws:List Wy} {g:Wy} {a b:Int} (h:dI ws g a b):(ak (below ws g) a g.1/\ak (below ws g) g.2.1 b)\/(ak (below ws g) a g.2.1/\ak (below ws g) g.1 b):=by
 rcases (ak.add fun v=>Iff.rfl).mp h.up with z | z
 ·exact absurd z h.dn
 ·exact z
theorem dI.tree {ws:List Wy} {g:Wy} {a b:Int} (h:dI ws g a b):gx ws g:=by
 refine⟨h.mem,fun c=>h.dn ?_⟩
 rcases h.nQ with⟨p,q⟩ | ⟨p,q⟩
 ·exact (p.trans c).trans q
 ·exact (p.trans c.symm).trans q
theorem Im {ws:List Wy} {g:Wy} {a b:Int} (h:ak (below ws g) a b):ak (fun v=>gx ws v/\fw v g) a b :=
 h.bind fun u hu=>(Bh _ u hu.1 (sG _)).mono fun x hx=>⟨hx.1,hx.2.elim (fun z=>Ii z hu.2) fun z=>z ▸ hu.2⟩
theorem xk {ws:List Wy} {g:Wy} {a b:Int} (h:ak (below ws g) a b):ak (u7 ws g) a b :=
 (Im h).mono fun v hv=>⟨hv.1,fun e=>Ih (e ▸ hv.2)⟩
theorem TH {ws:List Wy} {a b:Int} (h:ak (fun v=>v∈ws) a b):ak (gx ws) a b :=
 h.bind fun u hu=>(Bh _ u hu (sG _)).mono fun x hx=>hx.1
theorem dI.parts {m:Int} {ws:List Wy} (W:cb m ws) {g:Wy} {a b:Int} (h:dI ws g a b):¬ ak (u7 ws g) a b:=fun c=>by
 refine Tx W g h.tree ?_
 rcases h.nQ with⟨p,q⟩ | ⟨p,q⟩
 ·exact ((xk p).symm.trans c).trans (xk q).symm
 ·exact ((xk q).trans c.symm).trans (xk p)
theorem dI.top {m:Int} {ws:List Wy} (W:cb m ws) {g t:Wy} {a b:Int} (h:dI ws g a b) (ht:gx ws t) (p:¬ ak (u7 ws t) a b):fw t g\/t=g:=by
 by_cases e:t=g
 ·exact .inr e
 ·rcases u5 W ht.1 h.mem e with z | z
  ·exact .inl z
  ·refine absurd (h.up.bind fun u hu => ?_) p
   rcases hu with hu | rfl
   ·exact (ak.mono (Im (ak.one hu))) fun v hv=>⟨hv.1,fun e=>by subst e;exact TB hv.2 z⟩
   ·exact .one ⟨h.tree,fun x=>e x.symm⟩
noncomputable def Bv:GD:=fun ys ovs K=>∃ (m:Int) (ws:List Wy) (ns:List Int),cb m ws/\Nums ws ns/\ys=[.p (aV m ws),.p (b7 ns)]/\ovs=[]/\(ns=[]->K (.p .non) [])/\∀ n∈ns,(∀ e∈ns,kle (fu ws e) (fu ws n))->K (.p (.int n)) []
noncomputable def Bw:WS:=(aN (uX true (aa 1) [some 0] (aj 1 uQ (af (d2 (d2 (aa 1) (dC (.int 1)) a6) (aa 0) a6) ag))))
theorem TJ:∀ ys ovs K',ys.length=2->Bv ys ovs K'->Bw (bP ovs.length K') ⟨ys.map some ++ List.replicate 0 none,ovs.map some⟩:=by
 rintro ys ovs K' - ⟨m,ws,ns,W,hn,rfl,rfl,k0,k⟩
 unfold Bw
 simp? only [uX,km,aV,b7]
 refine⟨ns.map D.int,rfl,fun d=>match d with
  | .int n=>fu ws n
  | _=>[],fun d hd => ?_,fun h0 => ?_,fun d hd best => ?_⟩
 ·obtain⟨n,h,rfl⟩:=Yd.mp hd
  obtain⟨n0,n1⟩:=hn n h
  obtain⟨y,ey,hy,ea,_⟩:=p9 W n0 n1
  refine⟨(by intro z;cases z),?_⟩
  simp? only [iC,ea]
  refine⟨y,rfl,rfl,?_⟩
  simp? only []
  unfold fu
  rw[ey]
  rfl
 ·exact bq (k0 (List.map_eq_nil_iff.mp h0))
 ·obtain⟨n,h,rfl⟩:=Yd.mp hd
  exact bq (k n h fun e he=>best _ (Yd.mpr ⟨e,he,rfl⟩))
noncomputable def mE (us:List Int) (g:Int):List Int:=us.filter fun n=>decide (n≠g)
open Classical in
noncomputable def qh (ws:List Wy) (us:List Int) (g one other:Int):Bool := !decide (ak (hJ ws (mE us g)) one other)
noncomputable def nR (ws:List Wy) (us:List Int) (one other:Int):List Int:=us.filter fun n=>qh ws us n one other
noncomputable def Bx:GD:=fun ys ovs K=>∃ (m:Int) (ws:List Wy) (us:List Int) (g:Int) (i j:Nat),cb m ws/\Nums ws us/\us.length <= 900/\i < m.toNat/\j < m.toNat/\ys=[.p (aV m ws),.p (b7 us),.p (.int g),.p (.int i),.p (.int j)]/\ovs=[]/\K (.p (.bl (qh ws us g i j))) []
noncomputable def By:WS:=(au (aO 5 (aj 2 uE (af (aa 0) (af (iA (cJ (aa 1)) [none,some 2] (cf 0) (dT (d2 (aa 0) (aa 1) nv)) (aa 0)) ag)))) (aN (d2 (d2 (aa 5) (aa 3) a6) (d2 (aa 5) (aa 4) a6) nv)))
open Classical in
theorem TK:∀ ys ovs K',ys.length=5->Bx ys ovs K'->By (bP ovs.length K') ⟨ys.map some ++ List.replicate 1 none,ovs.map some⟩:=by
 rintro ys ovs K' - ⟨m,ws,us,g,i,j,W,hu,ul,hi,hj,rfl,rfl,k⟩
 unfold By
 refine bw fun N hN => ?_
 rw[show b7 us = .lst (us.map D.int) from rfl]
 simp? only []
 refine L2.pO (fun d=>match d with
  | .int n=>decide (n≠g)
  | _=>false) id (by rw[qy];omega) trivial ?_ ?_
 ·intro d hd acc L' ha h1 h2
  obtain⟨n,hZ,rfl⟩:=Yd.mp hd
  dsimp only at h1 h2
  simp? only []
  rw[qe]
  by_cases c:n=g
  ·rw[Ya c]
   simp? only []
   exact h2 (Yc fun z=>z c)
  ·rw[Yc c]
   simp? only []
   exact⟨ha,h1 (Ya c)⟩
 have e:((us.map D.int).filter fun d=>match d with
  | .int n=>decide (n≠g)
  | _=>false).map id=(mE us g).map D.int:=by
  rw[q0H,ZT];rfl
 rw[e]
 have su:Nums ws (mE us g):=fun n h=>hu n (Y0.mp h).1
 simp? only []
 refine⟨m,ws,mE us g,W,su,.inl ⟨rfl,rfl,?_⟩⟩
 have mo:=HY W su
 unfold qh at k
 generalize rm m ws (mE us g)=fs at mo
 have a1:=p8 (ns:=fs) (i:=i) (by rw[mo.1];exact hi)
 have a2:=p8 (ns:=fs) (i:=j) (by rw[mo.1];exact hj)
 simp? only []
 subst hN
 simp? only [b7,a1,a2]
 rw[qe]
 have:decide (fs.getD i 0=fs.getD j 0)=@decide (ak (hJ ws (mE us g)) i j) (Classical.propDecidable _):=by
  by_cases c:fs.getD i 0=fs.getD j 0
  ·rw[Ya c,Ya ((mo.2 i j hi hj).mp c)]
  ·rw[Yc c,Yc fun z=>c ((mo.2 i j hi hj).mpr z)]
 rw[this]
 exact bq k
end LJ
namespace L2
open PySem PySem.Spec PyProof.Rows PySem.W
section
variable {X:Cx} {pins:List (Addr × Obj)} {σ : St} {H:Hp} {s:Shared} {E:Value->Shared->Prop} {l I S:Addr} {ts:List Addr} {d:Value} {R:Result->Shared->Prop}
end
variable [aE]
section
variable {X:Cx} {e:Expr} {f:WE} {p1 q1 kq:Pos}
end
end L2
namespace LJ
open PySem L2
variable [aE]
structure bJ (ws:List Wy) (fo:List Int):Prop where
 nd:fo.Nodup
 mem:∀ n,n∈fo↔(0 <= n/\n < (ws.length:Int))/\gx ws (aH ws n)
theorem Io {m:Int} {ws:List Wy} (W:cb m ws) {os:List Int} (ho:bF ws os):bJ ws (nN m ws os):=⟨SN ho,fun n=>SK W ho⟩
theorem bJ.nums {ws:List Wy} {fo:List Int} (F:bJ ws fo):Nums ws fo:=fun n h=>((F.mem n).mp h).1
theorem bJ.len {ws:List Wy} {fo:List Int} (F:bJ ws fo):fo.length <= ws.length:=Tw F.nums F.nd
theorem Ip {S S':Wy->Prop} {a b:Int} (h:∀ v,S v↔S' v):ak S a b↔ak S' a b:=⟨fun c=>c.mono fun v hv=>(h v).mp hv,fun c=>c.mono fun v hv=>(h v).mpr hv⟩
theorem bJ.Bz {ws:List Wy} {fo:List Int} (F:bJ ws fo) (v:Wy):hJ ws fo v↔gx ws v :=
 ⟨by rintro ⟨k,hk,rfl⟩;exact ((F.mem k).mp hk).2,fun h=>by obtain⟨n,hn,rfl⟩:=uR h.1;exact⟨n,(F.mem n).mpr ⟨hn,h⟩,rfl⟩⟩
theorem bJ.conn {ws:List Wy} {fo:List Int} (F:bJ ws fo) {a b:Int}:ak (hJ ws fo) a b↔ak (fun v=>v∈ws) a b :=
 (Ip F.Bz).trans ⟨fun c=>c.mono fun v hv=>hv.1,TH⟩
theorem bJ.BA {m:Int} {ws:List Wy} (W:cb m ws) {fo:List Int} (F:bJ ws fo) {g:Int} (hg:0 <= g/\g < (ws.length:Int)) (v:Wy):hJ ws (mE fo g) v↔u7 ws (aH ws g) v:=by
 constructor
 ·rintro ⟨k,hk,rfl⟩
  obtain⟨h1,h2⟩:=Y0.mp hk
  exact⟨((F.mem k).mp h1).2,fun e=>Zf h2 (Tz W ((F.mem k).mp h1).1 hg e)⟩
 ·rintro ⟨h1,h2⟩
  obtain⟨n,hn,rfl⟩:=uR h1.1
  exact⟨n,Y0.mpr ⟨(F.mem n).mpr ⟨hn,h1⟩,Ya fun e=>h2 (by rw[e])⟩,rfl⟩
theorem xm {m:Int} {ws:List Wy} (W:cb m ws) {fo:List Int} (F:bJ ws fo) {n a b:Int}:n∈nR ws fo a b↔((0 <= n/\n < (ws.length:Int))/\gx ws (aH ws n))/\¬ ak (u7 ws (aH ws n)) a b:=by
 unfold nR
 rw[Y0,F.mem]
 refine and_congr_right fun h => ?_
 unfold qh
 rw[Z0,decide_eq_false_iff_not,Ip (F.BA W h.1)]
theorem TM {ws:List Wy} {a b:Int} (h:kle (fu ws a) (fu ws b)):¬ fw (aH ws b) (aH ws a):=fun z=>by
 unfold kle at h
 rw[HS,HS] at h
 unfold fw at z
 rw[h] at z
 cases z
theorem dI.kr {m:Int} {ws:List Wy} (W:cb m ws) {fo:List Int} (F:bJ ws fo) {n a b:Int} (hn:0 <= n/\n < (ws.length:Int)) (h:dI ws (aH ws n) a b):n∈nR ws fo a b:=(xm W F).mpr ⟨⟨hn,h.tree⟩,h.parts W⟩
theorem TN {m:Int} {ws:List Wy} (W:cb m ws) {fo:List Int} (F:bJ ws fo) {n a b:Int} (ne:a≠b) (c:ak (fun v=>v∈ws) a b) (h:n∈nR ws fo a b) (best:∀ e∈nR ws fo a b,kle (fu ws e) (fu ws n)):dI ws (aH ws n) a b:=by
 obtain⟨g,hg⟩:=Il W ne c
 obtain⟨k,hk,rfl⟩:=uR hg.mem
 obtain⟨h1,h2⟩:=(xm W F).mp h
 rcases hg.top W h1.2 h2 with z | z
 ·exact absurd z (TM (best k (hg.kr W F hk)))
 ·rw[z];exact hg
noncomputable def qi (many:Int):Int->List Int->Bool
 | _,[]=>true
 | lo,x :: r=>(decide (lo <= x) && decide (x <= many - 1)) && qi many (x + 1) r
noncomputable def BB:GD:=fun ys ovs K=>∃ (l:List Int) (m:Int),ys=[.p (b7 l),.p (.int m)]/\ovs=[]/\K (.p (.bl (qi m 0 l))) []
noncomputable def BC:WS:=(au (bx (df (dT (d1 (aa 0) (gc "list")))) (aN (dC (.bl false))) dW) (au (aO 2 (dC (.int 0))) (au (eC (cJ (aa 0)) (cf 3) (au (bx (df (dT (aj 3 k9 (af (aa 3) (af (aa 2) (af (d2 (aa 1) (dC (.int 1)) (oI fun i j => .int (i - j))) ag)))))) (aN (dC (.bl false))) dW) (aO 2 (d2 (aa 3) (dC (.int 1)) d6)))) (aN (dC (.bl true))))))
theorem TQ:∀ ys ovs K',ys.length=2->BB ys ovs K'->BC (bP ovs.length K') ⟨ys.map some ++ List.replicate 2 none,ovs.map some⟩:=by
 rintro ys ovs K' - ⟨l,m,rfl,rfl,k⟩
 unfold BC
 rw[show b7 l = .lst (l.map D.int) from rfl]
 refine bw fun N hN => ?_
 simp? only [fL,dz,Bool.true_or]
 subst hN
 refine bw fun N hN => ?_
 simp? only []
 subst hN
 refine bw fun N hN => ?_
 refine pW fun g' b' K2 hg hb' hK => ?_
 simp? only []
 subst hg hb' hK
 refine me (fun i δ => ∃ lo:Int,qi m 0 l=qi m lo (l.drop i) /\ δ = ⟨[some (.p (.lst (l.map D.int))),some (.p (.int m)),some (.p (.int lo)),none],[]⟩) ⟨0,rfl,rfl⟩ ?_ ?_
 ·rintro j d δ L hj ⟨lo,e,rfl⟩ hL
  rw[Ni] at hj
  obtain⟨x,hx,rfl⟩:=Xo.mp hj
  obtain⟨Ae,ex⟩:=oP.mp hx
  rw[YI Ae,ex,show qi m lo (x :: l.drop (j + 1))=((decide (lo <= x) && decide (x <= m - 1)) && qi m (x + 1) (l.drop (j + 1))) from rfl] at e
  refine⟨trivial,?_⟩
  simp only[cf,YA,YB]
  refine bw fun N2 eQ => ?_
  refine iX fun A1 B1 hA hB => ?_
  simp? only []
  refine⟨.int x,lo,m - 1,rfl,rfl,?_⟩
  rw[show fP (.int x) lo (m - 1)=(decide (lo <= x) && decide (x <= m - 1)) from rfl]
  cases q:(decide (lo <= x) && decide (x <= m - 1)) with
  | true =>
   simp? only []
   subst hB
   show N2 _
   subst eQ
   simp? only []
   exact hL _ ⟨x + 1,by rw[e,q];rfl,rfl⟩
  | false =>
   simp? only []
   subst hA
   simp? only []
   rw[e,q] at k
   exact bq k
 ·rintro δ ⟨lo,e,rfl⟩
  rw[qy,List.drop_length] at e
  refine⟨trivial,?_⟩
  subst hN
  simp? only []
  rw[e] at k
  exact bq k
noncomputable def xn:GD:=fun ys ovs K=>∃ (m:Int) (ws:List Wy) (us:List Int) (i:Nat),cb m ws/\Nums ws us/\i < m.toNat/\ys=[.p (aV m ws),.p (b7 us),.p (.int i)]/\ovs=[]/\K (.p (b7 (cls m.toNat (hJ ws us) i))) []
noncomputable def BE:WS:=(au (aO 3 (aj 2 uE (af (aa 0) (af (aa 1) ag)))) (aN (iA (lY (af (aa 3) ag)) [none,none,some 3,some 2] (tT 2 (lS (cf 0) (lS (cf 1) qL))) (dT (d2 (aa 1) (d2 (aa 2) (aa 3) a6) oEq)) (aa 0))))
open Classical in
theorem TR:∀ ys ovs K',ys.length=3->xn ys ovs K'->BE (bP ovs.length K') ⟨ys.map some ++ List.replicate 1 none,ovs.map some⟩:=by
 rintro ys ovs K' - ⟨m,ws,us,i,W,hu,hi,rfl,rfl,k⟩
 have jB:=W.jB
 unfold BE
 refine bw fun N hN => ?_
 simp? only []
 refine⟨m,ws,us,W,hu,.inl ⟨rfl,rfl,?_⟩⟩
 have mo:=HY W hu
 generalize rm m ws us=fs at mo
 have a1:=p8 (ns:=fs) (i:=i) (by rw[mo.1];exact hi)
 rw[show b7 fs = .lst (fs.map D.int) from rfl]
 simp? only []
 subst hN
 simp? only []
 refine L2.pO (uZ fun x=>decide (ak (hJ ws us) i x)) uY (by rw[tZ,qy,mo.1];omega) trivial ?_ ?_
 ·intro d hd acc L' ha h1 h2
  obtain⟨z,hz⟩:=Xq.mp hd
  obtain⟨e,z1,z2⟩:=t5 hz
  rw[Ni] at z1
  obtain⟨y,z3,rfl⟩:=Xo.mp z1
  rw[Yx] at z2
  subst z2
  have zl:z < m.toNat:=by rw[<-mo.1];exact (oP.mp z3).1
  have ez:fs.getD z 0=y:=by rw[Et,z3];rfl
  simp only[uZ,uY] at h1 h2
  simp? only [a1]
  rw[qe]
  by_cases c:ak (hJ ws us) i z
  ·rw[Ya (show y=fs.getD i 0 by rw[<-ez];exact ((mo.2 i z hi zl).mpr c).symm)]
   simp? only []
   exact⟨ha,h1 (Ya c)⟩
  ·rw[Yc (show ¬ y=fs.getD i 0 from fun e=>c ((mo.2 i z hi zl).mp (by rw[<-e,ez])))]
   simp? only []
   exact h2 (Yc c)
 ·have e:=Bo (fun x=>decide (ak (hJ ws us) i x)) (fs.map D.int) 0
  have e2:(cls m.toNat (hJ ws us) i).map D.int=((List.range' 0 (fs.map D.int).length).filter fun k:Nat=>decide (ak (hJ ws us) i k)).map fun k:Nat=>D.int k:=by
   unfold cls a_
   rw[ZT,YL,qy,<-List.range_eq_range',mo.1]
   rfl
  rw[<-e2] at e
  rw[e]
  exact bq k
noncomputable def BF:GD:=fun ys ovs K=>∃ (m:Int) (ws:List Wy) (us:List Int) (i j:Nat),cb m ws/\Nums ws us/\us.length <= 900/\i < m.toNat/\j < m.toNat/\ys=[.p (aV m ws),.p (b7 us),.p (.int i),.p (.int j)]/\ovs=[]/\K (.p (b7 (nR ws us i j))) []
noncomputable def BG:WS:=(aN (iA (cJ (aa 1)) [none,some 0,some 1,some 2,some 3] (cf 0) (dT (aj 5 Bx (af (aa 1) (af (aa 2) (af (aa 0) (af (aa 3) (af (aa 4) ag))))))) (aa 0)))
theorem TU:∀ ys ovs K',ys.length=4->BF ys ovs K'->BG (bP ovs.length K') ⟨ys.map some ++ List.replicate 0 none,ovs.map some⟩:=by
 rintro ys ovs K' - ⟨m,ws,us,i,j,W,hu,ul,hi,hj,rfl,rfl,k⟩
 unfold BG
 rw[show b7 us = .lst (us.map D.int) from rfl]
 simp? only []
 refine L2.pO (fun d=>match d with
  | .int n=>qh ws us n i j
  | _=>false) id (by rw[qy];omega) trivial ?_ ?_
 ·intro d hd acc L' ha h1 h2
  obtain⟨n,hZ,rfl⟩:=Yd.mp hd
  dsimp only at h1 h2
  simp? only []
  refine⟨m,ws,us,n,i,j,W,hu,ul,hi,hj,rfl,rfl,?_⟩
  simp? only []
  cases q:qh ws us n i j with
  | true=>simp? only [];exact⟨ha,h1 q⟩
  | false=>simp? only [];exact h2 q
 ·have e:((us.map D.int).filter fun d=>match d with
   | .int n=>qh ws us n i j
   | _=>false).map id=(nR ws us i j).map D.int:=by
   rw[q0H,ZT];rfl
  rw[e]
  exact bq k
noncomputable def xo:GD:=fun ys ovs K=>∃ (m:Int) (ws:List Wy) (fo:List Int) (i j:Nat),cb m ws/\bJ ws fo/\i < m.toNat/\j < m.toNat/\i≠j/\ys=[.p (aV m ws),.p (b7 fo),.p (.int i),.p (.int j)]/\ovs=[] ∧
 (¬ ak (fun v=>v∈ws) i j->K (.p .non) [])/\∀ n:Int,0 <= n/\n < (ws.length:Int)->dI ws (aH ws n) i j->K (.p (.int n)) []
noncomputable def BH:WS:=(au (bx (dT (d2 (aa 3) (aj 3 xn (af (aa 0) (af (aa 1) (af (aa 2) ag)))) (k7 true))) (aN (dC .non)) dW) (aN (aj 2 Bv (af (aa 0) (af (aj 4 BF (af (aa 0) (af (aa 1) (af (aa 2) (af (aa 3) ag))))) ag)))))
theorem TV:∀ ys ovs K',ys.length=4->xo ys ovs K'->BH (bP ovs.length K') ⟨ys.map some ++ List.replicate 0 none,ovs.map some⟩:=by
 rintro ys ovs K' - ⟨m,ws,fo,i,j,W,F,hi,hj,ne,rfl,rfl,k0,k⟩
 have fl:=F.len
 have xc:=W.jX
 unfold BH
 refine bw fun N hN => ?_
 refine iX fun A1 B1 hA hB => ?_
 simp? only []
 refine⟨m,ws,fo,i,W,F.nums,hi,rfl,rfl,?_⟩
 have hm:(j:Int)∈cls m.toNat (hJ ws fo) i↔ak (fun v=>v∈ws) i j:=mB.trans ((and_iff_right ⟨by omega,by omega⟩).trans F.conn)
 generalize cls m.toNat (hJ ws fo) i=l at hm
 rw[show b7 l = .lst (l.map D.int) from rfl]
 simp? only []
 have d0:=xi l
 refine⟨by omega,?_⟩
 rw[Bi]
 by_cases c:ak (fun v=>v∈ws) i j
 ·rw[Ya (hm.mpr c)]
  simp? only []
  subst hB
  show N _
  subst hN
  simp? only []
  refine⟨m,ws,fo,i,j,W,F.nums,by omega,hi,hj,rfl,rfl,?_⟩
  simp? only []
  refine⟨m,ws,nR ws fo i j,W,fun n h=>((xm W F).mp h).1.1,rfl,rfl,fun h0 => ?_,fun n hn best => ?_⟩
  ·obtain⟨g,hg⟩:=Il W (show (i:Int)≠j by omega) c
   obtain⟨x,hx,rfl⟩:=uR hg.mem
   have:=hg.kr W F hx
   rw[h0] at this
   exact nomatch this
  ·exact bq (k n ((xm W F).mp hn).1.1 (TN W F (show (i:Int)≠j by omega) c hn best))
 ·rw[Yc fun z=>c (hm.mp z)]
  simp? only []
  subst hA
  simp? only []
  exact bq (k0 c)
end LJ
namespace LJ
open PySem L2 PySem.Spec PySem.W PyProof.Rows
structure Ev where
 P:Program
 w:World
 K:PySem.W.Frag
 mg:Str->Option Value
 base:Heap
section
variable [aE]
structure Fx (V:Ev) (k:Nat) (x:Str) (ps:List Str) (n:Nat) (G:GD):Prop where
 ex:∃ f fd,Fn V.P V.w V.K V.mg V.base k x ps (kZ G n) f fd
noncomputable def Dx (V:Ev) (x:Str) (st:Stmt):Prop:=∃ f fd,V.mg x=some (.ref f)/\eS V.K x x st f fd
noncomputable def rD (V:Ev) (x:Str) (st:Stmt) (T:Addr) (pos:Pos) (q:Str):Prop:=∃ f fd,(V.mg x=some (.ref f)/\eS V.K x x st f fd)/\gj V.mg V.base fd T pos q
noncomputable def Ct (V:Ev) (x:Str) (i:Int):Prop:=∃ u,V.mg x=some u/\RelV (.int i) u
section
variable {X:Cx} {x:Str} {ps:List Str} {G:GD} {e:Expr} {es:List Expr} {fa:WA} {p pos:Pos} {j k n:Nat}
theorem aF (F:Fx ⟨X.prog,X.w,X.K,X.mg,X.base⟩ j x ps n G) (hr:aS k X.A) (ha:JA X (e :: es) (bL fa)) (hj:Nat.ble j k=true:=by rfl) (hg:Gl X x:=by rfl) (bT:(x == ("__debug__" : Str))=false:=by decide) (he:starEach (e :: es) X.env=(false,eval e X.env) :: starEach es X.env:=by rfl) (bU:(backTo pos (starEach es X.env)).any (·.1)=false:=by rfl) :
  JE X (.Call (.Name x p) (e :: es) [] pos) (tD (aj n G fa)):=let ⟨_,_,F⟩:=F.ex; PH F.ok (hr.mono (ZU hj)) hg F.vX F.kp F.bd ha bT he bU
theorem TX (F:Fx ⟨X.prog,X.w,X.K,X.mg,X.base⟩ j x ps n G) (hr:aS k X.A) (ha:JA X (e :: es) (bL fa)) (hj:Nat.ble j k=true:=by rfl) (hg:Gl X x:=by rfl) (bT:(x == ("__debug__" : Str))=false:=by decide) (he:starEach (e :: es) X.env=(false,eval e X.env) :: starEach es X.env:=by rfl) (bU:(backTo pos (starEach es X.env)).any (·.1)=false:=by rfl) :
  JE X (.Call (.Name x p) (e :: es) [] pos) (tD (tW n G fa)):=let ⟨_,_,F⟩:=F.ex; PJ F.ok (hr.mono (ZU hj)) hg F.vX F.kp F.bd ha bT he bU
theorem BI {i:Int} (C:Ct ⟨X.prog,X.w,X.K,X.mg,X.base⟩ x i) (hg:Gl X x:=by rfl) (hd:(x == ("__debug__" : Str))=false:=by decide):JE X (.Name x pos) (tD (dC (.int i))):=let ⟨_,a,b⟩:=C; Ph hg a b hd
end
theorem _root_.L2.gj.env {mg:Str->Option Value} {base:Heap} {fd:FuncData} {T:Addr} {lp:Pos} {q:Str} {aD:Value} (L:gj mg base fd T lp q) (h:fd.code=aD):∃ cc,aD = .ref cc/\CodeHd base cc T:=let ⟨cc,e1,e2⟩:=L.code; ⟨cc,h.symm.trans e1,e2⟩
noncomputable def TY:NameKind->Bool
 | .local=>true
 | .cell=>true
 | _=>false
noncomputable def TZ:NameKind->Bool
 | .free=>false
 | _=>true
noncomputable def T1:ScopeKind->Bool
 | .function=>true
 | _=>false
noncomputable def u9 (N P:List Str) (sc:Scope):Bool:=T1 sc.kind && !sc.isCoroutine && !sc.isGenerator && decide N.Nodup && decide (N.take P.length=P) && (P.all fun x=>match sc.names.lookup x with
 | some k=>TY k
 | none=>false) && sc.names.all fun y=>TZ y.2
theorem fB {N P:List Str} {sc:Scope} (h:u9 N P sc=true):jM N P sc:=by
 unfold u9 at h
 simp only[Yg,Z0,Ze,Yr] at h
 obtain⟨⟨⟨⟨⟨⟨h1,h2⟩,h3⟩,h4⟩,h5⟩,h6⟩,h7⟩:=h
 refine⟨?_,h2,h3,h4,h5,fun x hx => ?_,fun y hy z => ?_⟩
 ·cases q:sc.kind<;>rw[q] at h1<;>first | rfl | cases h1
 ·have:=h6 x hx
  split at this
  ·rename_i k e
   rw[e]
   cases k<;>first | exact .inl rfl | exact .inr rfl | cases this
  ·cases this
 ·have:=h7 y hy
  rw[z] at this
  cases this
noncomputable def gU (x:Str) (st:Stmt) (ps:List Str):Prop:=∀ (kV doc pm:Value) (an:Option Addr) (aD ct:Value) (us:List Value),us.length=ps.length->bindArgs (PySem.W.fnOf x x (jc st) (b_ st) (aW st) .none kV doc pm an aD ct) ⟨us,[]⟩=pure (ps.zip us)
section
theorem Iq {us:List Value} (h:us.length=1):∃ a,us=[a]:=List.length_eq_one_iff.mp h
theorem BJ {us:List Value} (h:us.length=2):∃ a b,us=[a,b]:=by
 cases us with
 | nil=>cases h
 | cons a r=>obtain⟨b,rfl⟩:=Iq (q1w h);exact⟨a,b,rfl⟩
theorem Ir {us:List Value} (h:us.length=3):∃ a b c,us=[a,b,c]:=by
 cases us with
 | nil=>cases h
 | cons a r=>obtain⟨b,c,rfl⟩:=BJ (q1w h);exact⟨a,b,c,rfl⟩
theorem Iu {us:List Value} (h:us.length=4):∃ a b c d,us=[a,b,c,d]:=by
 cases us with
 | nil=>cases h
 | cons a r=>obtain⟨b,c,d,rfl⟩:=Ir (q1w h);exact⟨a,b,c,d,rfl⟩
theorem T2 {us:List Value} (h:us.length=5):∃ a b c d e,us=[a,b,c,d,e]:=by
 cases us with
 | nil=>cases h
 | cons a r=>obtain⟨b,c,d,e,rfl⟩:=Iu (q1w h);exact⟨a,b,c,d,e,rfl⟩
theorem ku {x:Str} {st:Stmt} {ps:List Str} (h:∀ (kV doc pm:Value) (an:Option Addr) (aD ct a:Value),bindArgs (PySem.W.fnOf x x (jc st) (b_ st) (aW st) .none kV doc pm an aD ct) ⟨[a],[]⟩=pure (ps.zip [a]):=by intros;rfl) (hl:ps.length=1:=by rfl):gU x st ps:=fun kV doc pm an aD ct us hu=>by
 obtain⟨a,rfl⟩:=Iq (hu.trans hl)
 exact h kV doc pm an aD ct a
theorem kz {x:Str} {st:Stmt} {ps:List Str} (h:∀ (kV doc pm:Value) (an:Option Addr) (aD ct a b:Value),bindArgs (PySem.W.fnOf x x (jc st) (b_ st) (aW st) .none kV doc pm an aD ct) ⟨[a,b],[]⟩=pure (ps.zip [a,b]):=by intros;rfl) (hl:ps.length=2:=by rfl):gU x st ps:=fun kV doc pm an aD ct us hu=>by
 obtain⟨a,b,rfl⟩:=BJ (hu.trans hl)
 exact h kV doc pm an aD ct a b
theorem la {x:Str} {st:Stmt} {ps:List Str} (h:∀ (kV doc pm:Value) (an:Option Addr) (aD ct a b c:Value),bindArgs (PySem.W.fnOf x x (jc st) (b_ st) (aW st) .none kV doc pm an aD ct) ⟨[a,b,c],[]⟩=pure (ps.zip [a,b,c]):=by intros;rfl) (hl:ps.length=3:=by rfl):gU x st ps:=fun kV doc pm an aD ct us hu=>by
 obtain⟨a,b,c,rfl⟩:=Ir (hu.trans hl)
 exact h kV doc pm an aD ct a b c
theorem Iv {x:Str} {st:Stmt} {ps:List Str} (h:∀ (kV doc pm:Value) (an:Option Addr) (aD ct a b c d:Value),bindArgs (PySem.W.fnOf x x (jc st) (b_ st) (aW st) .none kV doc pm an aD ct) ⟨[a,b,c,d],[]⟩=pure (ps.zip [a,b,c,d]):=by intros;rfl) (hl:ps.length=4:=by rfl):gU x st ps:=fun kV doc pm an aD ct us hu=>by
 obtain⟨a,b,c,d,rfl⟩:=Iu (hu.trans hl)
 exact h kV doc pm an aD ct a b c d
theorem BK {x:Str} {st:Stmt} {ps:List Str} (h:∀ (kV doc pm:Value) (an:Option Addr) (aD ct a b c d e:Value),bindArgs (PySem.W.fnOf x x (jc st) (b_ st) (aW st) .none kV doc pm an aD ct) ⟨[a,b,c,d,e],[]⟩=pure (ps.zip [a,b,c,d,e]):=by intros;rfl) (hl:ps.length=5:=by rfl):gU x st ps:=fun kV doc pm an aD ct us hu=>by
 obtain⟨a,b,c,d,e,rfl⟩:=T2 (hu.trans hl)
 exact h kV doc pm an aD ct a b c d e
variable {V:Ev} {x:Str} {st:Stmt} {N ps:List Str} {k:Nat} {G:GD}
theorem dR (D:Dx V x st) (bd:gU x st ps) (h:∀ {aD:Value} {A:Around} {outer:List Env} {s:Shared} {H:Hp} {E:XK} {f:Addr},aS k (A.deeper (envOfC x (aW st) s.heap.objs.size f aD))->N.Nodup->(A.deeper (envOfC x (aW st) s.heap.objs.size f aD)).units + 64 < cLine →
   ∃ B:WS,bZ (ar bz V.P V.w V.K V.mg V.base N x (aW st) f aD A outer s H E).bG (b_ st) (cM B)/\∀ ys ovs K',ys.length=ps.length->G ys ovs K'->B (bP ovs.length K') ⟨ys.map some ++ List.replicate (N.length - ps.length) none,ovs.map some⟩) (sc:u9 N ps (aW st)=true:=by decide +kernel):Fx V (k + 1) x ps ps.length G :=
 let ⟨f,fd,a,F⟩:=D
 ⟨f,fd,F.Px (fB sc) fun aD A outer s H E hr=>h hr (fB sc).nd hr.units,a,F.kp,F.binds bd⟩
theorem BL {T:Addr} {lp:Pos} {q:Str} (D:rD V x st T lp q) (bd:gU x st ps) (h:∀ {aD:Value} {A:Around} {outer:List Env} {s:Shared} {H:Hp} {E:XK} {f:Addr} {fd:FuncData},gj V.mg V.base fd T lp q->fd.code=aD->aS k (A.deeper (envOfC x (aW st) s.heap.objs.size f aD))->N.Nodup->(A.deeper (envOfC x (aW st) s.heap.objs.size f aD)).units + 64 < cLine →
   ∃ B:WS,bZ (ar bz V.P V.w V.K V.mg V.base N x (aW st) f aD A outer s H E).bG (b_ st) (cM B)/\∀ ys ovs K',ys.length=ps.length->G ys ovs K'->B (bP ovs.length K') ⟨ys.map some ++ List.replicate (N.length - ps.length) none,ovs.map some⟩) (sc:u9 N ps (aW st)=true:=by decide +kernel):Fx V (k + 1) x ps ps.length G :=
 let ⟨f,fd,⟨a,F⟩,LD⟩:=D
 ⟨f,fd,F.A7 (fB sc) fun aD A outer s H E hc hr=>h LD hc hr (fB sc).nd hr.units,a,F.kp,F.binds bd⟩
end
end
section
variable {K:PySem.W.Frag} {h:Heap} {mg:Str->Option Value}
noncomputable def Dk (K:PySem.W.Frag) (x:Str) (st:Stmt):Prop:=∃ f fd,PySem.W.nsIn K mainGlobals x=some (some (.ref f))/\eS K x x st f fd
inductive gm (K:PySem.W.Frag):List (Str × Stmt)->Prop
 | nil:gm K []
 | cons {x st r}:Dk K x st->gm K r->gm K ((x,st) :: r)
theorem BM {x:Str} {st:Stmt} {r:List (Str × Stmt)} {f:Addr} {od an:Option Addr} {sl:Array (Option Value)} {oc kV dc pm cd ct:Value} (a:PySem.W.nsIn K mainGlobals x=some (some (.ref f))) (l:K.lookup f=some ⟨oc,od,.func (PySem.W.fnOf x x (jc st) (b_ st) (aW st) .none kV dc pm an cd ct),sl⟩) (q:PySem.W.codeIn K cd x=true) (k:PySem.W.keepIn K (.ref f)=true) (h:gm K r):gm K ((x,st) :: r) :=
 .cons ⟨f,_,a,yH l q k⟩ h
theorem gm.at {ds:List (Str × Stmt)} (h:gm K ds) (i:Nat) {x:Str} {st:Stmt} (e:ds[i]? = some (x,st)):Dk K x st:=by
 induction h generalizing i with
 | nil=>cases e
 | cons d _ ih=>cases i with
  | zero=>cases e;exact d
  | succ i=>exact ih i e
noncomputable def xp (K:PySem.W.Frag) (x:Str) (st:Stmt) (T:Addr):Prop:=∃ f fd,(PySem.W.nsIn K mainGlobals x=some (some (.ref f))/\eS K x x st f fd)/\∃ cc,fd.code = .ref cc/\PySem.W.codeHdIn K cc T=true
inductive dZ (K:PySem.W.Frag):List (Str × Stmt × Addr)->Prop
 | nil:dZ K []
 | cons {x st T r}:xp K x st T->dZ K r->dZ K ((x,st,T) :: r)
theorem u_ {x:Str} {st:Stmt} {T:Addr} {r:List (Str × Stmt × Addr)} {f cc:Addr} {od an:Option Addr} {sl:Array (Option Value)} {oc kV dc pm ct:Value} (a:PySem.W.nsIn K mainGlobals x=some (some (.ref f))) (l:K.lookup f=some ⟨oc,od,.func (PySem.W.fnOf x x (jc st) (b_ st) (aW st) .none kV dc pm an (.ref cc) ct),sl⟩) (q:PySem.W.codeIn K (.ref cc) x=true) (k:PySem.W.keepIn K (.ref f)=true) (c:PySem.W.codeHdIn K cc T=true) (h:dZ K r):dZ K ((x,st,T) :: r) :=
 .cons ⟨f,_,⟨a,yH l q k⟩,cc,rfl,c⟩ h
theorem dZ.at {ds:List (Str × Stmt × Addr)} (h:dZ K ds) (i:Nat) {x:Str} {st:Stmt} {T:Addr} (e:ds[i]? = some (x,st,T)):xp K x st T:=by
 induction h generalizing i with
 | nil=>cases e
 | cons d _ ih=>cases i with
  | zero=>cases e;exact d
  | succ i=>exact ih i e
theorem dZ.code {ds:List (Str × Stmt × Addr)} (h:dZ K ds) {hp:Heap} (X:K.In hp):∀ T∈ds.map (·.2.2),∃ cc,PySem.W.CodeHd hp cc T:=by
 induction h with
 | nil=>intro T hT;exact nomatch hT
 | cons d _ ih =>
  intro T hT
  rcases X7.mp hT with rfl | hT
  ·obtain⟨_,_,_,cc,_,e⟩:=d
   exact⟨cc,PySem.W.codeHd_of_K X e⟩
  ·exact ih T hT
theorem T3 {x:Str} {r:List Str} (a:PySem.W.nsIn K mainGlobals x=some none) (h:∀ y∈r,PySem.W.nsIn K mainGlobals y=some none):∀ y∈x :: r,PySem.W.nsIn K mainGlobals y=some none:=fun y hy=>by
 rcases X7.mp hy with rfl | hy
 ·exact a
 ·exact h y hy
theorem T5 {ls:List kg} (nd:(ls.map (·.T)).Nodup):∀ {a b:kg},a∈ls->b∈ls->a.T=b.T->a=b:=by
 induction ls with
 | nil=>intro a b ha;exact nomatch ha
 | cons c r ih =>
  intro a b ha hb e
  rw[YC,ZQ] at nd
  rcases X7.mp ha with rfl | ha'<;>rcases X7.mp hb with rfl | hb'
  ·rfl
  ·exact absurd (Yd.mpr ⟨b,hb',e.symm⟩) nd.1
  ·exact absurd (Yd.mpr ⟨a,ha',e⟩) nd.1
  ·exact ih nd.2 ha' hb' e
theorem Dk.v {P:Program} {w:World} {base:Heap} {x:Str} {st:Stmt} (d:Dk K x st) (X:K.In h) (G:h.Ns mainGlobals mg):Dx ⟨P,w,K,mg,base⟩ x st :=
 let ⟨f,fd,a,F⟩:=d
 ⟨f,fd,Yq X G a,F⟩
theorem xp.v {P:Program} {w:World} {base:Heap} {x:Str} {st:Stmt} {ls:List kg} {T:Addr} {lp:Pos} {q:Str} (d:xp K x st T) (X:K.In h) (G:h.Ns mainGlobals mg) (KB:K.In base) (hB:∀ t∈ls,base.BuiltinsAt mg t.T) (nd:(ls.map (·.T)).Nodup) (ng:∀ t∈ls,mainGlobals≠t.T) (hl:⟨T,lp,q⟩∈ls):@rD (mz ls) ⟨P,w,K,mg,base⟩ x st T lp q :=
 let ⟨f,fd,⟨a,F⟩,cc,e1,e2⟩:=d
 letI:aE:=mz ls
 ⟨f,fd,⟨Yq X G a,F⟩,⟨cc,e1,PySem.W.codeHd_of_K KB e2⟩,ng _ hl,hB _ hl,Sg hl fun a ha b hb e=>T5 nd ha hb e⟩
noncomputable def Ck (K:PySem.W.Frag) (x:Str) (i:Int):Prop:=∃ u,PySem.W.nsIn K mainGlobals x=some (some u)/\RelV (.int i) u
theorem Ck.v {P:Program} {w:World} {base:Heap} {x:Str} {i:Int} (d:Ck K x i) (X:K.In h) (G:h.Ns mainGlobals mg):Ct ⟨P,w,K,mg,base⟩ x i :=
 let ⟨u,a,r⟩:=d
 ⟨u,Yq X G a,r⟩
noncomputable def BN:List Str:=["len", "range", "list", "tuple", "set", "sorted", "min", "max", "sum", "all", "any", "enumerate", "zip", "isinstance", "int", "bool", "str"]
theorem T6 (X:K.In h) (G:h.Ns mainGlobals mg) (N:∀ x∈BN,PySem.W.nsIn K mainGlobals x=some none):BT mg :=
 have n:∀ i x,BN[i]? = some x->mg x=none:=fun i x e=>PySem.W.mg_none_of X G (N x (Yn e))
 ⟨n 0 _ rfl,n 1 _ rfl,n 2 _ rfl,n 3 _ rfl,n 4 _ rfl,n 5 _ rfl,n 6 _ rfl,n 7 _ rfl,n 8 _ rfl,n 9 _ rfl,n 10 _ rfl,n 11 _ rfl,n 12 _ rfl,n 13 _ rfl,n 14 _ rfl,n 15 _ rfl,n 16 _ rfl⟩
end
end LJ
namespace L2
open PySem PySem.Spec PyProof.Rows
noncomputable def kA (h:Heap) (a C:Addr) (dx T:Option Addr) (fl:Value):Prop :=
 ∃ vs sl,h.get? a=some ⟨.ref C,dx,.fields vs,sl⟩/\vs[1]? = some (T.elim Value.none Value.ref)/\∀ t,T=some t->t≠a/\∃ oT ts,h.get? t=some oT/\oT.data = .fields ts/\ts[3]? = some fl
structure kB (fs:List Addr) (a:Addr) (T:Option Addr) (h h':Heap):Prop where
 keep:∀ b o,b≠a->some b≠T->b∉fs->h.get? b=some o->h'.get? b=some o
 slot:∀ b o,b≠a->some b≠T->h.get? b=some o->∃ sl,h'.get? b=some { o with slots:=sl }
section
variable {M:Model} {A:Around} {E:Value->Shared->Prop} {s:Shared} {env:Env} {outer:List Env} {base:Heap} {L a C:Addr} {dx T:Option Addr} {Q:Unit->Shared->Prop}
theorem Iw {head:Value} {hn:Bool} {vs:Array Value} {sl:Array (Option Value)} (jz:A.frames=some (env :: outer)) (hl:s.heap.FunFrames base (env :: outer)) (hf:env.frame=some L)
  (he:s.heap.get? a=some ⟨.ref C,dx,.fields vs,sl⟩) (eJ:1 < vs.size)
  (h:∀ h' T',kA h' a C dx (some T') (rawInt L)->s.heap.get? T'=none->kB (dP (env :: outer)) a none s.heap h'->Q () { s with heap:=h' }) :
  wpAny M A (do let x <- frameOf env;let pl <- entryPlaceOf L hn;let b <- EntryCells.newEntry head x .none (rawInt L) .none pl;setField (.ref a) 1 b) Q E s:=by
 have na:a∉(env :: outer).filterMap (·.frame):=fun hm=>by
  obtain⟨_,o,ho,nf⟩:=hl.mem hm
  rw[he] at ho;cases ho
  exact nf vs rfl
 refine lJ (wpAny_frameOf_fun jz hl hf fun h1 e1 => ?_)
 refine lJ (wpAny_entryPlaceOf fun pl bU => ?_)
 unfold EntryCells.newEntry newFields
 refine lJ (Y2 ?_ (bU.sizeOk5 _ _ _ _ _))
 have BO:=(e1.2.1 a na).trans he
 refine q05 (oQ _ BO) rfl eJ ?_
 have nT:h1.objs.size≠a:=ZM (Ng BO)
 have keep:∀ b o,b≠a->h1.get? b=some o->∀ ob f,((h1.push ob).update a f).get? b=some o:=fun b o n e ob f=>by
  rw[Zd _ _ (Zn n)]
  exact oQ _ e
 refine h _ h1.objs.size ⟨_,_,YU _ (oQ _ BO) rfl,?_,fun t e => ?_⟩ ?_ ⟨fun b o n _ nf e => ?_,fun b o n _ e => ?_⟩
 ·show (vs.setIfInBounds 1 (Value.ref h1.objs.size))[1]? = _
  simp[eJ]
 ·cases e
  refine⟨nT,_,_,(Zd _ _ (Zn nT)).trans (X1 h1 rfl),rfl,?_⟩
  first | (simp;done) | (rcases bU with rfl | ⟨_,_,_,_,_,_,_,rfl⟩<;>simp)
 ·rw[Z2]
  rw[e1.1]
  exact sG _
 ·exact keep b o n ((e1.2.1 b nf).trans e) _ _
 ·obtain⟨jI,e'⟩:=e1.2.2 b o e
  exact⟨jI,keep b _ n e' _ _⟩
theorem BP {t:Addr} {fl:Value} (f:kA s.heap a C dx (some t) fl) (h:∀ h',kA h' a C dx (some t) .none->kB [] a (some t) s.heap h'->Q () { s with heap:=h' }) :
  wpAny M A (setFlight (.ref a) none) Q E s:=by
 obtain⟨vs,sl,ea,e1,r⟩:=f
 obtain⟨n,oT,ts,et,ed,e3⟩:=r t rfl
 have h3:=(Ys.mp e3).1
 have o:∀ b,b≠t->(s.heap.update t (Obj.mapFields (·.setIfInBounds 3 .none))).get? b=s.heap.get? b:=fun b nb=>Zd _ _ (Zn nb)
 refine wpAny_setFlight_none ea rfl e1 et ed h3 (h _ ⟨vs,sl,(o a (Zn n)).trans ea,e1,fun t' e => ?_⟩ ⟨fun b u _ nb _ e => ?_,fun b u _ nb e=>⟨u.slots,?_⟩⟩)
 ·cases e
  exact⟨n,_,_,YU _ et (q0v (ZO ed _)),ZO ed _,by simp[h3]⟩
 ·exact (o b fun z=>nb (by rw[z])).trans e
 ·exact (o b fun z=>nb (by rw[z])).trans e
theorem Iy (jz:A.frames=some (env :: outer)) (hl:s.heap.FunFrames base (env :: outer)) (hf:env.frame=some L) (f:kA s.heap a C dx T .none)
  (h:∀ h' T',kA h' a C dx (some T') (rawInt L)->s.heap.get? T'=none->kB (dP (env :: outer)) a T s.heap h'->Q () { s with heap:=h' }):wpAny M A (noteFrame (.ref a) env) Q E s:=by
 obtain⟨vs,sl,ea,e1,r⟩:=f
 have hz:=(Ys.mp e1).1
 unfold noteFrame
 simp only[hf]
 refine lJ (ZJ ea rfl e1 ?_)
 cases T with
 | none =>
  rw[show (none:Option Addr).elim Value.none Value.ref=Value.none from rfl,Xm (by decide)]
  exact Iw jz hl hf ea hz h
 | some t =>
  obtain⟨n,oT,ts,et,ed,e3⟩:=r t rfl
  have h3:=(Ys.mp e3).1
  rw[show (some t).elim Value.none Value.ref=Value.ref t from rfl,Xp (show (Value.ref t != Value.none)=true from by simp)]
  refine lJ (ZJ et ed e3 ?_)
  rw[Xm (show ¬ ((Value.none == rawInt L)=true) from by simp[rawInt])]
  refine lJ (q05 et ed h3 ?_)
  have o:∀ b,b≠t->(s.heap.update t (Obj.mapFields (·.setIfInBounds 3 Value.none))).get? b=s.heap.get? b:=fun b nb=>Zd _ _ (Zn nb)
  refine Iw jz (hl.of_keeps fun b u e nf=>⟨u,(o b fun z => ?_).trans e,rfl⟩) hf ((o a (Zn n)).trans ea) hz fun h' T' x1 x2 x3=>h h' T' x1 ?_ ⟨fun b u na nb nf e=>x3.keep b u na (by simp) nf ((o b fun z=>nb (by rw[z])).trans e),fun b u na nb e=>x3.slot b u na (by simp) ((o b fun z=>nb (by rw[z])).trans e)⟩
  ·rw[z,et] at e;cases e
   exact nf ts ed
  ·by_cases z:T'=t
   ·rw[z,YU _ et (q0v (ZO ed _))] at x2;cases x2
   ·exact (o T' z).symm.trans x2
theorem T7 (jz:A.frames=some (env :: outer)) (hl:s.heap.FunFrames base (env :: outer)) (hf:env.frame=some L) (f:kA s.heap a C dx T .none)
  (h:∀ h' T',kA h' a C dx (some T') .none->s.heap.get? T'=none->kB (dP (env :: outer)) a T s.heap h'->Q () { s with heap:=h' }):wpAny M A (leaving env (.ref a)) Q E s:=by
 unfold leaving
 refine lJ (Iy jz hl hf f fun h1 T' x1 x2 x3=>BP x1 fun h2 y1 y2=>h h2 T' y1 x2 ⟨fun b o na nb nf e => ?_,fun b o na nb e => ?_⟩)
 ·exact y2.keep b o na (fun z=>by cases z;rw[x2] at e;cases e) (by simp) (x3.keep b o na nb nf e)
 ·obtain⟨sl,e'⟩:=x3.slot b o na nb e
  exact⟨sl,y2.keep b _ na (fun z=>by cases z;rw[x2] at e;cases e) (by simp) e'⟩
end
noncomputable def cx (P:Program) (w:World):iO:=fun outer H s E e s'=>∃ (a C:Addr) (dx:Option Addr) (T:Addr) (H':Hp),e = .ref a/\s'.os=s.os/\AllBare s'.gens/\Un (dP outer) [] H H' s.heap s'.heap/\cV P w H' s'.heap ∧
 kA s'.heap a C dx (some T) .none/\H' a=none/\H' T=none/\s.heap.get? a=none/\s.heap.get? T=none/\E (.ref C) dx H'
section
variable {X:Cx} {P:Program} {w:World} {K:PySem.W.Frag} {mg:Str->Option Value} {base:Heap} {N:List Str} {qual:Str} {scope:Scope} {f:Addr} {cd:Value} {A:Around} {outer:List Env} {s:Shared} {H:Hp} {E:XK}
theorem Un.qj {fs:List Addr} {H H':Hp} {h g h':Heap} {a:Addr} {T:Option Addr} (u:Un fs [] H H' h g) (na:∀ o,h.get? a=some o->H a=none->False) (nT:∀ t,T=some t->h.get? t=none) (ea:∃ o,h'.get? a=some o) (x:kB fs a T g h'):Un fs [] H H' h h' where
 keep:=fun b o e n nf nx=>x.keep b o (fun z=>by subst z;exact na o e n) (fun z=>by rw[nT b z.symm] at e;cases e) nf (u.keep b o e n nf nx)
 slot:=fun b o e n nf nx=>by
  obtain⟨sl,e1⟩:=u.slot b o e n nf nx
  obtain⟨jI,e2⟩:=x.slot b _ (fun z=>by subst z;exact na o e n) (fun z=>by rw[nT b z.symm] at e;cases e) e1
  exact⟨jI,e2⟩
 free:=u.free
 there:=fun b o e nx=>by
  obtain⟨o1,e1⟩:=u.there b o e nx
  by_cases c:b=a
  ·rw[c];exact ea
  ·obtain⟨sl,e2⟩:=x.slot b o1 c (fun z=>by rw[nT b z.symm] at e;cases e) e1
   exact⟨_,e2⟩
 cF:=u.cF
 cO:=u.cO
 cY:=u.cY
theorem cV.qj {H':Hp} {g h':Heap} {fs:List Addr} {a:Addr} {T:Option Addr} (k:cV P w H' g) (ha:H' a=none) (hT:∀ t,T=some t->H' t=none) (hf:∀ b∈fs,H' b=none) (x:kB fs a T g h'):cV P w H' h':=fun b o e=>by
 have ne:∀ c,(c=b\/H' c=some (.own b))->H' c≠none:=fun c hc z=>by
  rcases hc with rfl | hc
  ·rw[e] at z;cases z
  ·rw[hc] at z;cases z
 exact (k b o e).cN (fun c v hc z=>x.keep c v (fun q=>ne c hc (by rw[q];exact ha)) (fun q=>ne c hc (hT c q.symm)) (fun q=>ne c hc (hf c q)) z) (fun c z=>z) fun c xs z=>z
theorem BQ {h h' base:Heap}:∀ {l:List Env},(∀ b∈dP l,∀ o,h.get? b=some o->∃ sl,h'.get? b=some { o with slots:=sl })->h.FunFrames base l->h'.FunFrames base l
 | [],_,_=>trivial
 | env :: r,k,⟨hk,⟨L,o,hf,hn,ho,hd⟩,hr⟩=>by
  have hL:L∈dP (env :: r):=by unfold dP;rw[Zt,hf];exact Nh
  obtain⟨sl,e⟩:=k L hL o ho
  exact⟨hk,⟨L,_,hf,hn,e,hd⟩,BQ (fun b hb=>k b (by unfold dP;rw[Zt,hf];exact Nk _ hb)) hr⟩
theorem Iz {pins:List (Addr × Obj)} {σ : St} {H1 H':Hp} {s1 s2:Shared} {a C:Addr} {dx T:Option Addr} (eX:X=ar (cx P w) P w K mg base N qual scope f cd A outer s H E) (I:Inv X pins σ H1 s1) (os:s2.os=s1.os) (ba:AllBare s2.gens) (u:Un (dP X.stack) [] H1 H' s1.heap s2.heap) (ok:cV P w H' s2.heap) (F:kA s2.heap a C dx T .none)
  (ha:H' a=none) (hT:∀ t,T=some t->H' t=none/\s1.heap.get? t=none) (na:∀ o,s1.heap.get? a=some o->H1 a=none->False) (a0:s.heap.get? a=none) (q:E (.ref C) dx H'):X.xe (.ref a) s2:=by
 subst eX
 have fr:∀ b∈dP (envOfC qual scope s.heap.objs.size f cd :: outer),H' b=none:=fun b hb=>by
  obtain⟨_,o,ho,_⟩:=I.stack.mem hb
  exact u.free b o ho (I.dq b hb) (by simp)
 have fk:s2.heap.FunFrames base (envOfC qual scope s.heap.objs.size f cd :: outer):=BQ (fun b hb o e=>u.any e (I.dq b hb) (by simp)) I.stack
 refine T7 (base:=base) (outer:=outer) I.ok.frames fk rfl F fun h' T' x1 x2 x3 => ?_
 have u':=u.qj na (fun t e=>(hT t e).2) (by obtain⟨vs,sl,e,_⟩:=x1;exact⟨_,e⟩) x3
 have T8:=ok.qj ha (fun t e=>(hT t e).1) fr x3
 have J:=I.iL (s':={ s2 with heap:=h' }) os u' T8 ba (fun b z=>absurd z (by simp))
 have gone:∀ b,s2.heap.get? b=none->s.heap.get? b=none:=fun b e=>by
  cases q:s.heap.get? b with
  | none=>rfl
  | some o =>
   obtain⟨o1,e1⟩:=I.base.there b o q (by exact Yu)
   obtain⟨o2,e2⟩:=u.there b o1 e1 (by simp)
   rw[e] at e2;cases e2
 refine⟨a,C,dx,T',H',rfl,J.os,J.bare,J.base,J.aM,x1,ha,?_,a0,gone T' x2,q⟩
 cases z:H' T' with
 | none=>rfl
 | some o =>
  obtain⟨ob,e⟩:=ES (ok T' o z)
  rw[x2] at e;cases e
theorem BR:lC (cx P w) (ar (cx P w) P w K mg base N qual scope f cd A outer s H E) E:=fun pins σ H1 s1 e s' I h=>by
 obtain⟨a,C,dx,T,H',rfl,os,ba,u,ok,F,ha,hT,a0,t0,q⟩:=h
 refine Iz rfl I os ba u ok F ha (fun t e=>by cases e;exact⟨hT,t0⟩) (fun o e _=>by rw[a0] at e;cases e) ?_ q
 cases z:s.heap.get? a with
 | none=>rfl
 | some o =>
  obtain⟨o1,e1⟩:=I.base.there a o z (by exact Yu)
  rw[a0] at e1;cases e1
noncomputable def fD (H:Hp) (a:Addr):Hp:=fun b=>if b=a then none else H b
theorem rE {H:Hp} {a b:Addr} (n:b≠a):fD H a b=H b:=Xm n
theorem Un.del {fs:List Addr} {H:Hp} {h:Heap} {a C:Addr} {dx:Option Addr} (e:H a=some (bN a C dx)):Un fs [] H (fD H a) h h where
 keep:=fun _ _ e _ _ _=>e
 slot:=fun _ o e _ _ _=>⟨o.slots,e⟩
 free:=fun b o _ n _=>by
  unfold fD
  split
  ·rfl
  ·exact n
 there:=fun b o e _=>⟨o,e⟩
 cF:=fun b xs q=>by rw[rE (nX q e (by unfold bN;intro z;cases z))];exact q
 cO:=fun b o xs q=>by rw[rE (nX q e (by unfold bN;intro z;cases z))];exact q
 cY:=fun b ps q=>⟨#[],by rw[rE (nX q e (by unfold bN;intro z;cases z)),q];simp⟩
theorem cV.del {H:Hp} {h:Heap} {a C:Addr} {dx:Option Addr} (k:cV P w H h) (e:H a=some (bN a C dx)):cV P w (fD H a) h:=fun b o q=>by
 have nb:b≠a:=fun z=>by unfold fD at q;rw[Xp z] at q;cases q
 rw[rE nb] at q
 have own:∀ c x,H c=some x->(∀ φ,x ≠ .ext φ)->c≠a:=fun c x z n y=>by rw[y,e] at z;cases z;exact n _ rfl
 exact (k b o q).cN (fun c v hc z=>z) (fun c z=>by rw[rE (own c _ z (by intro φ y;cases y))];exact z) fun c xs z=>by rw[rE (own c _ z (by intro φ y;cases y))];exact z
theorem bW.exc {l:List Value} (x:bW K l):l.contains (.type "BaseException")=true:=by
 induction x with
 | base=>decide
 | own _ _ _ ih=>rw[q0f,ih,q1t]
theorem T9 {M:Model} {A:Around} {env:Env} {E:Value->Shared->Prop} {s:Shared} {x:Sem Value} {Q:Flow->Shared->Prop} (hh:A.handled=none)
  (h:wpAny M A x (fun v s1=>∃ a C dx jU,v = .ref a/\mV K C jU/\K.In s1.heap/\kA s1.heap a C dx none .none/\E (.ref a) s1) E s):wpAny M A (raiseStmt env (some x) none) Q E s:=by
 unfold raiseStmt
 refine lJ (YK h (fun v s1 h1 => ?_) fun _ _ z=>z)
 obtain⟨a,C,dx,jU,rfl,m,k,⟨vs,sl,ea,e1,_⟩,hE⟩:=h1
 obtain⟨nm,q,N,bs,bm,dU,sn,sub,ab,col,dd,k0,k1,k2,k3,k5,l,t,_⟩:=m.yW
 have hC:=k _ _ l
 have hB:(Value.ref C :: bm).contains (.type "BaseException")=true:=by rw[q0f,t.exc,q1t]
 obtain⟨hp,g,d,tk,os⟩:=s1
 repeat (first | with_reducible refine ZY ea ?_ | with_reducible refine ZY hC ?_ | (with_reducible refine wpAny_isSubtype_exc hC ?_;rw[hB]) | wp_step)
 rw[e1]
 refine vK ?_
 rw[Xm (by decide)]
 exact vK (wpAny_raiseNew_none hh hE)
noncomputable def T_ (K:PySem.W.Frag) (H0:Hp) (te:TE) (E:XK):TS:=fun _ σ H=>te σ H fun v H1=>∃ (a C:Addr) (dx:Option Addr) (jU:Option Value),v = .ref a/\H1 a=some (bN a C dx)/\mV K C jU/\H0 a=none/\E (.ref C) dx (fD H1 a)
theorem IA {e:Expr} {te:TE} {pos:Pos} (eX:X=ar (cx P w) P w K mg base N qual scope f cd A outer s H E) (he:PE X e te):PS X (.Raise (some e) none pos) (T_ X.K X.H₀ te E):=by
 intro pins s1 σ H1 D I h
 show wpAny _ _ (do standAt pos;raiseStmt X.env (some (do let v <- eval e X.env;standAt pos;pure v)) none) _ _ _
 have hc:X.calm=true:=by rw[eX];rfl
 refine lJ (Zv (T9 (K:=X.K) (I.ok.hd hc) (lJ (a5 (he pins s1 σ H1 _ I h) fun u s2 ⟨v,H2,I2,r,a,C,dx,jU,ev,ea,m,h0,q⟩=>lJ (Zv (vK ?_))))))
 subst ev
 obtain rfl:u=Value.ref a:=r
 obtain⟨t,et⟩:=ER (I2.aM a _ ea)
 have F:kA s2.heap a C dx none .none:=⟨_,_,et,rfl,fun _ z=>nomatch z⟩
 refine⟨a,C,dx,jU,rfl,m,I2.cW,F,?_⟩
 have eP:X.prog=P:=by rw[eX];rfl
 have ew:X.w=w:=by rw[eX];rfl
 have ok:=I2.aM
 rw[eP,ew] at ok
 refine Iz eX I2 rfl I2.bare (Un.del ea) (ok.del ea) F (Xp rfl) (fun _ z=>nomatch z) (fun o _ n=>by rw[ea] at n;cases n) ?_ q
 have e0:X.s₀ = s:=by rw[eX];rfl
 have ex:X.ex=[]:=by rw[eX];rfl
 cases z:s.heap.get? a with
 | none=>rfl
 | some o =>
  have:=I2.base.free a o (by rw[e0];exact z) h0 (by rw[ex];exact Yu)
  rw[ea] at this;cases this
end
noncomputable def dJ (a C:Addr) (dx:Option Addr):HO := .ext fun h=>∃ vs sl,h.get? a=some ⟨.ref C,dx,.fields vs,sl⟩
theorem Ua {P:Program} {w:World} {H:Hp} {h:Heap} {a C:Addr} {dx:Option Addr} {vs:Array Value} {sl:Array (Option Value)} (e:h.get? a=some ⟨.ref C,dx,.fields vs,sl⟩):aK P w H h a (dJ a C dx) :=
 ⟨⟨vs,sl,e⟩,⟨_,e⟩,fun h1 h2 ⟨Ub,jI,e1⟩ k=>⟨Ub,jI,k _ e1⟩⟩
theorem IB {P:Program} {w:World} {H:Hp} {h:Heap} {a C:Addr} {dx:Option Addr} (x:aK P w H h a (dJ a C dx)):∃ vs sl,h.get? a=some ⟨.ref C,dx,.fields vs,sl⟩:=x.1
theorem kB.more {fs:List Addr} {a t:Addr} {T:Option Addr} {h h1 h2:Heap} (x:kB fs a T h h1) (n:h.get? t=none) (y:kB [] a (some t) h1 h2):kB fs a T h h2 where
 keep:=fun b o na nb nf e=>y.keep b o na (fun z=>by cases z;rw[n] at e;cases e) (by simp) (x.keep b o na nb nf e)
 slot:=fun b o na nb e=>by
  obtain⟨sl,e'⟩:=x.slot b o na nb e
  exact⟨sl,y.keep b _ na (fun z=>by cases z;rw[n] at e;cases e) (by simp) e'⟩
section
variable {X:Cx} {pins br:List (Addr × Obj)} {σ : St} {H:Hp} {s:Shared} {E:Value->Shared->Prop}
theorem Inv.va (I:Inv X pins σ H s):Inv { X with pn:=X.pn ++ pins,xe:=E } [] σ H s :=
 ⟨⟨I.ok.mod,I.ok.kind,I.ok.glob,I.ok.blt,I.ok.above,I.ok.inj,I.ok.has,I.ok.mL,I.ok.hd,I.ok.frames,I.ok.nZ,I.ok.rV,I.ok.bs,I.ok.ju,I.ok.gy,I.ok.ib,I.ok.cP,I.ok.jH⟩,I.os,I.bare,I.base,I.loc,I.cell,I.free,I.bB,fun p hp=>I.pin p (by simpa using hp),I.aM,I.len⟩
theorem Inv.fW (I:Inv { X with pn:=X.pn ++ pins,xe:=E } br σ H s):Inv X pins σ H s :=
 ⟨⟨I.ok.mod,I.ok.kind,I.ok.glob,I.ok.blt,I.ok.above,I.ok.inj,I.ok.has,I.ok.mL,I.ok.hd,I.ok.frames,I.ok.nZ,I.ok.rV,I.ok.bs,I.ok.ju,I.ok.gy,I.ok.ib,I.ok.cP,I.ok.jH⟩,I.os,I.bare,I.base,I.loc,I.cell,I.free,I.bB,fun p hp=>I.pin p (Yv _ hp),I.aM,I.len⟩
theorem Inv.toSub {A:Around} (I:Inv X pins σ H s) (e:A.frames=X.A.frames):Inv { X with A:=A,calm:=false,xe:=E } pins σ H s :=
 ⟨⟨I.ok.mod,I.ok.kind,I.ok.glob,I.ok.blt,I.ok.above,I.ok.inj,I.ok.has,I.ok.mL,(fun z=>by cases z),e.trans I.ok.frames,I.ok.nZ,I.ok.rV,I.ok.bs,I.ok.ju,I.ok.gy,I.ok.ib,I.ok.cP,I.ok.jH⟩,I.os,I.bare,I.base,I.loc,I.cell,I.free,I.bB,I.pin,I.aM,I.len⟩
theorem Inv.vc {A:Around} (I:Inv { X with A:=A,calm:=false,xe:=E } pins σ H s) (k:X.Ok):Inv X pins σ H s :=
 ⟨k,I.os,I.bare,I.base,I.loc,I.cell,I.free,I.bB,I.pin,I.aM,I.len⟩
theorem Inv.blank (I:Inv X pins σ H s):Inv X pins (List.replicate σ.length none) H s :=
 ⟨I.ok,I.os,I.bare,I.base,let ⟨m,hn,_⟩:=I.loc; ⟨m,hn,fun i x v _ e _=>by rw[ZG] at e;split at e<;>cases e⟩,I.cell,I.free,I.bB,I.pin,I.aM,by rw[Y3];exact I.len⟩
theorem Inv.locs {σ':St} {h':Heap} {m':Str->Option Value} {t':Nat} (I:Inv X pins σ H s) (hn:h'.Ns X.env.locals m') (hs:Heap.SameBut X.env.locals s.heap h')
  (hl:∀ (i:Nat) (x:Str) (v:V),X.N[i]? = some x -> σ'[i]? = some (some v)->mK X.env.scope x->∃ u,RelV v u/\Look X.env h' m' x u) (len : σ'.length=X.N.length):Inv X pins σ' H { s with heap:=h',toks:=t' }:=by
 obtain⟨m,⟨oL,_,_,rX,_⟩,_⟩:=id I.loc
 have ne:∀ b o,X.s₀.heap.get? b=some o->b≠X.env.locals:=fun b o e=>X_ (X9 (Ng e) I.ok.above)
 refine⟨I.ok,I.os,I.bare,⟨fun b o e n hb hx=>(hs.2 b (ne b o e)).trans (I.base.keep b o e n hb hx),fun b o e n hb hx => ?_,I.base.free,fun b o e hx => ?_,I.base.cF,I.base.cO,I.base.cY⟩,⟨m',hn,hl⟩,fun y c e => ?_,I.free,I.bB,fun p hp => ?_,fun b ob e => ?_,len⟩
 ·obtain⟨sl,e1⟩:=I.base.slot b o e n hb hx
  exact⟨sl,(hs.2 b (ne b o e)).trans e1⟩
 ·obtain⟨o',e1⟩:=I.base.there b o e hx
  exact⟨o',(hs.2 b (ne b o e)).trans e1⟩
 ·obtain⟨w',z⟩:=I.cell y c e
  exact⟨w',z.sameBut hs (I.lj y c e)⟩
 ·obtain⟨e,n,nl,nf,d⟩:=I.pin p hp
  exact⟨(hs.2 p.1 nl).trans e,n,nl,nf,d⟩
 ·refine (I.aM b ob e).cN (fun c w' hc q=>(hs.2 c ?_).trans q) (fun _ q=>q) fun _ _ q=>q
  rintro rfl
  rcases hc with rfl | hc
  ·rw[I.free] at e;cases e
  ·rw[I.free] at hc;cases hc
theorem name_goes {M:Model} {A:Around} {E:Value->Shared->Prop} {Q:Unit->Shared->Prop} {i:Nat} {n:Str} {pos:Pos} (I:Inv X pins σ H s) (nd:X.N.Nodup) (hi:X.N[i]? = some n) (hk:X.env.scope.names.lookup n=some .local)
  (h:∀ s',Inv X pins (σ.set i none) H s'->Q () s'):wpAny M A (do bindName X.env n .none;unbindBehindTheSuite X.env n pos) Q E s:=by
 refine lJ (wpAny_bindName (vB (v := .non) (u := .none) I nd hi (.inl hk) rfl (fun s1 I1 => ?_) (.inr hk)))
 have hp:(X.env.scope.kind == .class || (X.env.scope.kind == .module && X.env.locals != X.env.globals))=false:=by rw[I.ok.kind];rfl
 have hl:X.env.kindOf n=some .local:=hk
 unfold unbindBehindTheSuite
 refine wpAny_onRaise ?_
 unfold unbindName
 refine lJ (wpAny_point (lJ ?_))
 unfold deleteName
 simp only[hl,hp]
 rw[Xm (by decide)]
 obtain⟨m,hn,hm⟩:=id I1.loc
 have hlen:i < σ.length:=by rw[I.len];exact (oP.mp hi).1
 obtain⟨u0,r0,l0⟩:=hm i n .non hi (by rw[Yo hlen]) (.inl hk)
 have A3:(m n).isSome=true:=by
  rcases l0 with⟨_,e⟩ | ⟨k,_⟩
  ·rw[e];rfl
  ·rcases k with k | k<;>(rw[hl] at k;cases k)
 refine lJ (wpAny_nsDel_keeps hn fun h2 v AV gB => ?_)
 rw[A3]
 simp only[ZL,Zu,Ye,YY]
 refine vK (wpAny_point (h _ (I1.locs (t':=s1.toks) AV gB (fun j y w e1 e2 e3 => ?_) (by rw[Y1];exact I.len))))
 have nj:j≠i:=fun z=>by rw[z,Yo hlen] at e2;cases e2
 rw[Yt (Zn nj)] at e2
 obtain⟨u,r,l⟩:=hm j y w e1 (by rw[Yt (Zn nj)];exact e2) e3
 refine⟨u,r,?_⟩
 rcases l with⟨k,e⟩ | ⟨k,c,e,z⟩
 ·refine .inl ⟨k,?_⟩
  have:y≠n:=fun e=>nj (xU nd e1 (e ▸ hi))
  simp[this,e]
 ·exact .inr ⟨k,c,e,z.sameBut gB (I.lj y c e)⟩
end
section
variable {X:Cx} {body fX:List Stmt} {b0:Stmt} {x n:Str} {p1 p2 pos:Pos} {L:Addr} {i:Nat} {tb:XK->TS} {th:TS}
noncomputable def Uc (K:PySem.W.Frag) (L:Addr) (i k:Nat) (th:TS) (D:Ends):XK:=fun C dx H'=>∃ c,C = .ref c/\PySem.W.exmOne K C (.ref L)=some true ∧
 ∀ a,H' a=none->th { nx:=fun σ H=>D.nx (σ.set i none) H,rt:=fun _ _=>False } ((List.replicate k none).set i (some (.ref a))) (upd H' a (dJ a c dx))
noncomputable def BS (K:PySem.W.Frag) (L:Addr) (i:Nat) (tb:XK->TS) (th:TS):TS:=fun D σ H=>tb (Uc K L i σ.length th D) D σ H
theorem Ud (fH:X.stack=X.env :: X.outer) (jz:X.env.frame=some X.env.locals) (nd:X.N.Nodup) (hi:X.N[i]? = some n) (hk:X.env.scope.names.lookup n=some .local) (hg:Gl X x) (hm:X.mg x=some (.ref L)) (bT:(x == ("__debug__" : Str))=false)
  (hb:∀ pn xe E,lC (cx X.prog X.w) { X with pn:=pn,xe:=xe } E->eF { X with pn:=pn,xe:=xe } body (tb E)) (hs:∀ A xe,eF { X with A:=A,calm:=false,xe:=xe } (b0 :: fX) th) :
  PS X (.Try body [.ExceptHandler (some (.Name x p1)) (some n) (b0 :: fX) p2] [] [] pos) (BS X.K L i tb th):=by
 intro pins s σ H D I h
 refine wpAny_Try_except ?_
 refine YK (hb (X.pn ++ pins) (fun e s1=>wpAny (model X.prog X.w) X.A (noteFrame e X.env) (fun _ s2=>wpAny (model X.prog X.w) X.A (setFlight e none) (fun _ s3=>wpAny (model X.prog X.w) X.A (handleBy e X.env [.ExceptHandler (some (.Name x p1)) (some n) (b0 :: fX) p2]) (SP X pins D) X.xe s3) X.xe s2) X.xe s1) _ ?_ [] s σ H D I.va h) (fun f s1 hq => ?_) (fun e s1 z=>z)
 ·intro br σ' H1 s1 e s' I1 hx
  obtain⟨a,C,dx,T,H',rfl,os,ba,u,ok,F,ha,hT,a0,t0,c,ec,em,q⟩:=hx
  cases ec
  have hA:X.A.frames=some (X.env :: X.outer):=by rw[<-fH];exact I.ok.frames
  have kW:s1.heap.FunFrames X.base (X.env :: X.outer):=by rw[<-fH];exact I1.stack
  have IC:∀ b∈dP (X.env :: X.outer),H1 b=none:=by rw[<-fH];exact I1.dq
  have u:Un (dP (X.env :: X.outer)) [] H1 H' s1.heap s'.heap:=by rw[<-fH];exact u
  have fk:s'.heap.FunFrames X.base (X.env :: X.outer):=BQ (fun b hb o e=>u.any e (IC b hb) (by simp)) kW
  have fr:∀ b∈dP (X.env :: X.outer),H' b=none:=fun b hb=>by
   obtain⟨_,o,ho,_⟩:=kW.mem hb
   exact u.free b o ho (IC b hb) (by simp)
  have na:∀ o,s1.heap.get? a=some o->H1 a=none->False:=fun o e _=>by rw[a0] at e;cases e
  have inv:∀ h,kB (dP (X.env :: X.outer)) a (some T) s'.heap h->(∃ o,h.get? a=some o)->Inv X pins σ' H' { s' with heap:=h }:=fun h x e =>
   Inv.fW (I1.iL (s':={ s' with heap:=h }) os (by show Un (dP X.stack) _ _ _ _ _;rw[fH];exact u.qj na (fun t e=>by cases e;exact t0) e x) (ok.qj ha (fun t e=>by cases e;exact hT) fr x) ba (fun b z=>absurd z (by simp)))
  refine Iy hA fk jz F fun h4 T4 x1 x2 x3 => ?_
  refine BP x1 fun h5 y1 y2 => ?_
  have e5:=x3.more x2 y2
  obtain⟨XT,XU,ID,_⟩:=id y1
  have J5:=inv h5 e5 ⟨_,ID⟩
  refine wpAny_handleBy_cons (codeAny_handlers_test (rY (X:={ X with A:=X.A.mark (some (.ref a)),calm:=false,xe:=fun _ _=>False }) (J5.toSub rfl) hg hm ?_ bT)) (by intro q;cases q)
  have LT:PySem.W.Looks (model X.prog X.w) h5 (typeOf (.ref a)) (.ref C):=(PySem.W.Looks.ld ID).andThen .now
  refine PySem.W.Looks.here (PySem.W.exm_one J5.cW LT em) ?_
  show codeAny _ _ _ _ _
  refine codeAny_handlers_suite_as ?_
  refine BP y1 fun h6 z1 z2 => ?_
  have e6:=e5.more x2 z2
  obtain⟨XW,XX,IE,_⟩:=id z1
  have Ue:=ok.qj ha (fun t e=>by cases e;exact hT) fr e6
  have u6:=u.qj na (fun t e=>by cases e;exact t0) ⟨_,IE⟩ e6
  have ne:∀ b y,H' b=some y->b≠a:=fun b y e z=>by rw[z,ha] at e;cases e
  have J6:Inv X pins (List.replicate σ.length none) (upd H' a (dJ a C dx)) { s' with heap:=h6 }:=by
   have:=Inv.blank (Inv.fW (I1.iL (s':={ s' with heap:=h6 }) (H':=upd H' a (dJ a C dx)) os (by
    show Un (dP X.stack) _ _ _ _ _
    rw[fH]
    exact⟨u6.keep,u6.slot,fun b o e n nx=>by rw[aA (fun z=>by rw[z,a0] at e;cases e)];exact u6.free b o e n nx,u6.there,fun b xs e=>by rw[aA (ne _ _ (u6.cF b xs e))];exact u6.cF b xs e,fun b o xs e=>by rw[aA (ne _ _ (u6.cO b o xs e))];exact u6.cO b o xs e,fun b ps e=>by obtain⟨more,e'⟩:=u6.cY b ps e;exact⟨more,by rw[aA (ne _ _ e')];exact e'⟩⟩)
    (fun b o e=>by
     by_cases c:b=a
     ·subst c;rw[a9] at e;cases e;exact Ua IE
     ·rw[aA c] at e
      exact (Ue b o e).cN (fun _ _ _ z=>z) (fun c z=>by rw[aA (ne _ _ z)];exact z) fun c xs z=>by rw[aA (ne _ _ z)];exact z) ba (fun b z=>absurd z (by simp))))
   rwa [show σ'.length = σ.length from I1.len.trans I.len.symm] at this
  have hl:i < (List.replicate σ.length (none:Option V)).length:=by rw[Y3,I.len];exact (oP.mp hi).1
  refine vB (X:=X) J6 nd hi (.inl hk) (v := .ref a) rfl (fun s7 I7 => ?_) (.inr hk)
  refine YK (hs (X.A.mark (some (.ref a))) _ pins s7 _ _ _ (I7.toSub rfl) (q a ha)) (fun f s8 hf => ?_) (fun e s8 z=>z)
  cases f with
  | next =>
   obtain⟨σ9,H9,I9,q9⟩:=hf
   exact name_goes (I9.vc I.ok) nd hi hk fun s9 J9=>⟨_,_,J9,q9⟩
  | brk=>obtain⟨_,_,_,q9⟩:=hf;exact False.elim q9
  | cont=>obtain⟨_,_,_,q9⟩:=hf;exact False.elim q9
  | ret v=>obtain⟨_,_,_,_,_,q9⟩:=hf;exact False.elim q9
 ·cases f with
  | next =>
   obtain⟨σ',H',I',q⟩:=hq
   exact q0K ⟨σ',H',I'.fW,q⟩
  | brk=>obtain⟨σ',H',I',q⟩:=hq;exact⟨σ',H',I'.fW,q⟩
  | cont=>obtain⟨σ',H',I',q⟩:=hq;exact⟨σ',H',I'.fW,q⟩
  | ret u=>obtain⟨v,σ',H',I',r,q⟩:=hq;exact⟨v,σ',H',I'.fW,r,q⟩
end
section
variable {X:Cx} {pins:List (Addr × Obj)} {σ : St} {H:Hp} {s:Shared} {e:Expr} {ta:TE} {pos:Pos}
theorem Ug {a BU:Addr} {dx:Option Addr} {c:Value} {b:Bool} {A:Around} {E':Value->Shared->Prop} {Q:Value->Shared->Prop} (I:Inv X pins σ H s) (ea:H a=some (dJ a BU dx)) (cl:bo X.K BU) (hd:∀ d,dx=some d->∃ fs,H d=some (.xd fs))
  (e:PySem.W.kitOne X.K (.ref BU) c=some b) (h:∀ tk,Q (.bool b) { s with toks:=tk }):wpAny (model X.prog X.w) A (call (.builtin "isinstance") [.ref a,c]) Q E' s:=by
 obtain⟨vs,sl,ht⟩:=IB (I.aM a _ ea)
 refine YN (N5 cl) I.cW ?_ e (fun z=>nomatch z) h
 cases dx with
 | none=>exact⟨_,none,ht,rfl,rfl,trivial⟩
 | some d =>
  obtain⟨fs,ed⟩:=hd d rfl
  obtain⟨mA,hn,_⟩:=(show ∃ mA,s.heap.Ns1 d mA/\∀ g,h_ (fs.lookup g) (mA g) from I.aM d _ ed)
  obtain⟨od,ho,_⟩:=ya hn
  exact⟨_,some od,ht,rfl,rfl,ho⟩
theorem Uh:fJ X (.builtin "isinstance") (fun xs H Q=>∃ a C dx y c b,xs=[.ref a,y]/\lK y=some c/\H a=some (dJ a C dx)/\bo X.K C/\(∀ d,dx=some d->∃ fs,H d=some (.xd fs))/\PySem.W.kitOne X.K (.ref C) c=some b/\Q (.bl b) H):=by
 intro pins s σ H xs us Q I rv h
 obtain⟨a,C,dx,y,c,b,rfl,hc,ea,cl,hd,e,q⟩:=h
 obtain⟨u,w',rfl,rx,ry⟩:=rv.two
 cases rx
 rw[EW ry hc]
 exact Ug I ea cl hd e fun tk=>⟨.bl b,H,I.tok tk,rfl,q⟩
noncomputable def IF (K:PySem.W.Frag) (ta:TE) (f:Str):TE:=fun σ H Q=>ta σ H fun x H1=>∃ a C d fs v,x = .ref a/\H1 a=some (dJ a C (some d))/\bo K C/\sx K C f/\H1 d=some (.xd fs)/\fs.lookup f=some v/\Q v H1
theorem Ui {fn:Str} (he:PE X e ta) (hb:attributeBase e fn X.env (eval e X.env)=eval e X.env):PE X (.Attribute e fn pos) (IF X.K ta fn):=by
 intro pins s σ H Q I h
 refine Mu hb (a5 (he pins s σ H _ I h) fun u s1 ⟨x,H1,I1,rx,a,C,d,fs,v,ex,ea,c,n,ed,l,q⟩ => ?_)
 subst ex
 obtain rfl:u=Value.ref a:=rx
 obtain⟨vs,sl,ht⟩:=IB (I1.aM a _ ea)
 obtain⟨mA,hn,hr⟩:=(show ∃ mA,s1.heap.Ns1 d mA/\∀ g,h_ (fs.lookup g) (mA g) from I1.aM d _ ed)
 obtain⟨od,ho,hl⟩:=ya hn
 obtain⟨cd,di,hm,dU⟩:=c.cd
 have Uj:PySem.W.InstAt s1.heap a ⟨.ref C,some d,.fields vs,sl⟩ C (some od):=⟨ht,rfl,rfl,ho⟩
 have r:=hr fn
 rw[l] at r
 obtain⟨u,eu,ru⟩:=r.some_of
 refine NS I1.cW Uj c.ga c.gh c.base (PySem.W.findObj_own (by rw[PySem.W.hasDictIn,di];simpa using dU) n rfl (by rw[hl,eu])) (Ms ru) ?_
 exact⟨v,H1,I1.tok _,ru,q⟩
end
theorem eS.rF {P:Program} {w:World} {K:PySem.W.Frag} {mg:Str->Option Value} {base:Heap} {x qual:Str} {st:Stmt} {f:Addr} {fd:FuncData} {N ps:List Str} {k:Nat} {sp:Sp} (F:eS K x qual st f fd) (S:jM N ps (aW st)) (len:∀ vs H Q E,sp vs H Q E->vs.length=ps.length)
  (cH:∀ (aD:Value) (A:Around) (outer:List Env) (s:Shared) (H:Hp) (vs:List V) (Q:VK) (E:XK),aS k (A.deeper (envOfC qual (aW st) s.heap.objs.size f aD))->sp vs H Q E →
   ∃ t,bZ (ar (cx P w) P w K mg base N qual (aW st) f aD A outer s H E) (b_ st) t/\t { nx:=fun _ H'=>Q .non H',rt:=Q } (start N vs) H):bE P w K mg base (cx P w) (k + 1) f fd ps sp:=by
 obtain⟨oc,od,kV,doc,pm,an,aD,ct,kO,rfl,lk,di⟩:=F.ex
 refine yf lk di S len fun A outer s H vs Q E hr h => ?_
 obtain⟨t,g,q⟩:=cH aD A outer s H vs Q E hr h
 exact⟨t,g.out,q⟩
variable [aE]
structure Kp (H H':Hp):Prop where
 keep:∀ a o,H a=some o->a∉aE.ad->H' a=some o
 tab:aE.ok H'
theorem Kp.none {H H':Hp} (x:Kp H H') {a:Addr} (h:H' a=none):H a=none:=by
 cases e:H a with
 | none=>rfl
 | some o =>
  by_cases c:a∈aE.ad
  ·obtain⟨ps,q⟩:=aE.tb x.tab c
   rw[h] at q;cases q
  ·rw[x.keep a o e c] at h;cases h
theorem Uk {H:Hp} {a:Addr} {o:HO} (h:H a=none):fD (upd H a o) a=H:=by
 funext b
 unfold fD upd
 split
 ·rename_i e;rw[e];exact h.symm
 ·rfl
noncomputable abbrev Ul (Kf:PySem.W.Frag):List V->Hp->VK->Prop:=fun xs H Q=>∃ p ys,xs=[.ref p]/\((bc Kf H p ys/\∀ l,H l=none->Q (.ref l) (upd H l (.tup ys)))\/(bC Kf H p ys/\Q (.ref p) H))
end L2
namespace LJ
open PySem L2
structure ExcAt (H:Hp) (a C:Addr) (dx:Option Addr):Prop where
 ob:H a=some (dJ a C dx)
 dd:∀ d,dx=some d->∃ fs,H d=some (.xd fs)
theorem ExcAt.same {H H':Hp} {a C:Addr} {dx:Option Addr} (x:ExcAt H a C dx) (s:av H H'):ExcAt H' a C dx:=⟨s _ _ x.ob,fun d e=>let ⟨fs,h⟩:=x.dd d e; ⟨fs,s _ _ h⟩⟩
structure BV (K:PySem.W.Frag) (L:Addr) (Cs:List Addr):Prop where
 len:Cs.length=13
 each:∀ (j:Nat) (C:Addr),Cs[j]? = some C->bo K C/\PySem.W.kitOne K (.ref C) (.ref L)=some true/\PySem.W.kitOne K (.ref C) (.type "ValueError")=some true/\∀ (i:Nat) (C':Addr),Cs[i]? = some C'->PySem.W.kitOne K (.ref C) (.ref C')=some (decide (i=j))
 above:bo K L/\PySem.W.kitOne K (.ref L) (.ref L)=some true/\PySem.W.kitOne K (.ref L) (.type "ValueError")=some true/\∀ (i:Nat) (C':Addr),Cs[i]? = some C'->PySem.W.kitOne K (.ref L) (.ref C')=some false
 iZ:∀ (j:Nat) (C:Addr),Cs[j]? = some C->sx K C "place"
noncomputable def cL:List Str:=["way", "join", "step", "house", "web", "price", "many", "closed", "free", "nothing", "number", "text", "line"]
theorem kC {H:Hp} {a:Addr} {o:HO} (h:H a=none):av H (upd H a o):=fun b u e=>by rw[aA (bK e h)];exact e
noncomputable def names13:List Str:=["NoWay", "NoJoin", "NoStep", "NoHouse", "NoWeb", "NoPrice", "TooMany", "Closed", "Free", "Nothing", "NoNumber", "NoText", "NoLine"]
noncomputable def dM:List Str:=["way", "join", "step", "house", "web", "price", "many", "closed", "free", "nothing", "number", "text"]
structure BW (mg:Str->Option Value) (L:Addr) (Cs:List Addr):Prop where
 iG:mg "isinstance" = none
 VE:mg "ValueError" = none
 Um:mg "LotError" = some (.ref L)
 cls:∀ (j:Nat) (x:Str),names13[j]? = some x->∃ C,Cs[j]? = some C/\mg x=some (.ref C)
theorem Uo:bootBuiltins "ValueError" = some (.type "ValueError"):=by decide +kernel
section
variable {X:Cx} {a C:Addr} {dx:Option Addr}
noncomputable def gW (a C:Addr) (dx:Option Addr) (v:Bool):TE:=fun σ H Q => σ[0]? = some (some (.ref a))/\ExcAt H a C dx/\Q (.bl v) H
noncomputable def mF (a C:Addr) (dx:Option Addr) (vs:List Bool):TA:=fun σ H Q => σ[0]? = some (some (.ref a))/\ExcAt H a C dx/\Q (vs.map V.bl) H
noncomputable def qk (a C:Addr) (dx:Option Addr) (vs:List Bool):TE:=fun σ H Q => σ[0]? = some (some (.ref a))/\ExcAt H a C dx/\∀ (l:Addr) (H':Hp),av H H'->H' l=some (.lst (vs.map V.bl))->Q (.ref l) H'
noncomputable def kD (a C:Addr) (dx:Option Addr) (us vs:List Bool):TE:=fun σ H Q=>∃ l:Addr,σ[0]? = some (some (.ref a)) /\ σ[1]? = some (some (.ref l))/\H l=some (.lst (us.map V.bl))/\ExcAt H a C dx/\∀ (l':Addr) (H':Hp),av H H'->H' l'=some (.lst ((us ++ vs).map V.bl))->Q (.ref l') H'
theorem iH {y z:Str} {p q r pos:Pos} {cv:V} {c:Value} {v:Bool} (h0:JE X (.Name y q) (d9 0)) (hz:JE X (.Name z r) (tC cv)) (hc:lK cv=some c) (cl:bo X.K C) (kt:PySem.W.kitOne X.K (.ref C) c=some v) (hg:Gl X "isinstance") (hm:X.mg "isinstance" = none) :
  JE X (.Call (.Name "isinstance" p) [.Name y q,.Name z r] [] pos) (gW a C dx v) :=
 (tJ Uh hg hm q0O (jf h0 (jf hz aY)) (by decide) (by decide) rfl rfl).weak fun σ H Q ⟨e0,e,q⟩=>⟨_,e0,a,C,dx,_,_,_,rfl,hc,e.ob,cl,e.dd,kt,q⟩
theorem vd:JA X [] (mF a C dx []):=aY.weak fun σ H Q ⟨_,_,q⟩=>q
theorem jr {f:Expr} {as es:List Expr} {k:List Keyword} {p:Pos} {v:Bool} {vs:List Bool} (h:JE X (.Call f as k p) (gW a C dx v)) (r:JA X es (mF a C dx vs)):JA X (.Call f as k p :: es) (mF a C dx (v :: vs)) :=
 (jV h r).weak fun σ H Q ⟨e0,e,q⟩=>⟨e0,e,e0,e,q⟩
theorem ve {es:List Expr} {pos:Pos} {vs:List Bool} (h:JA X es (mF a C dx vs)) (hl:vs.length <= 20):JE X (.List es pos) (qk a C dx vs) :=
 (mY h).weak fun σ H Q ⟨e0,e,q⟩=>⟨e0,e,(by rw[qy];exact gK hl),fun l hl=>q l _ (kC hl) a9⟩
theorem xq {n:Str} {q p pos:Pos} {es:List Expr} {us vs:List Bool} (h1:JE X (.Name n q) (d9 1)) (h:JE X (.List es p) (qk a C dx vs)) (hl:us.length + vs.length <= 20):JE X (.BinOp (.Name n q) .Add (.List es p) pos) (kD a C dx us vs) :=
 (oW vJ h1 h).weak fun σ H Q ⟨l,e0,e1,gu,e,q⟩=>⟨_,e1,e0,e,fun m H1 s hm=>⟨l,m,_,_,rfl,rfl,s _ _ gu,hm,(by rw[qy,qy];exact gK hl),fun p hp=>q p _ (s.trans (kC hp)) (by rw[YH];exact a9)⟩⟩
theorem Uq {es:List Expr} {pos:Pos} (ss:List Str) (h:strsOf es=some ss) (hl:ss.length <= 20):JE X (.List es pos) (fun _ H Q=>∀ p,H p=none->Q (.ref p) (upd H p (.lst (ss.map V.str)))):=O1 h (gK hl)
theorem Ur {e:Expr} {ta:TE} {fn:Str} {pos:Pos} (he:JE X e ta) (hb:attributeBase e fn X.env (eval e X.env)=eval e X.env):JE X (.Attribute e fn pos) (IF X.K ta fn):=⟨Ui he.out hb⟩
end
noncomputable def dO (b:Nat->Bool):List Bool:=[b 0,b 1,b 2,b 3,b 4,b 5,b 6,b 7,b 8,b 9,b 10,b 11,b 12]
noncomputable def cnt (us:List Bool):Nat:=(us.map V.bl).countP fun z=>fK z (.bl true)
theorem BX:∀ us:List Bool,(us.map V.bl).all jy=true
 | []=>rfl
 | _ :: us=>by rw[YC,q1e,BX us];rfl
theorem Us {j:Nat} (h:j < 4):(dM.map V.str)[j]? = some (.str (cL.getD j "")):=by
 rcases j with _ | _ | _ | _ | j
 ·rfl
 ·rfl
 ·rfl
 ·rfl
 ·omega
theorem Ut {j:Nat} (h:j < 13):(dM.map V.str ++ [V.str "line"])[j]? = some (.str (cL.getD j "")):=by
 rcases j with _ | _ | _ | _ | _ | _ | _ | _ | _ | _ | _ | _ | _ | j
 ·rfl
 ·rfl
 ·rfl
 ·rfl
 ·rfl
 ·rfl
 ·rfl
 ·rfl
 ·rfl
 ·rfl
 ·rfl
 ·rfl
 ·rfl
 ·omega
noncomputable def lb (j:Nat) (n:Int):List V:=if j < 4 then [.str (cL.getD j ""),.int n] else [.str (cL.getD j "")]
noncomputable def kE (Cs:List Addr):Sp:=fun vs H Q _=>∃ (j:Nat) (n:Int) (a C:Addr) (dx:Option Addr),vs=[.ref a]/\j < 13/\Cs[j]? = some C/\ExcAt H a C dx/\(j < 4->∃ d,dx=some d/\H d=some (.xd [("place",.int n)]))/\∀ (l:Addr) (H':Hp),av H H'->H l=none->H' l=some (.lst (lb j n))->Q (.ref l) H'
theorem Uu:∀ j:Nat,j < 13->cnt (dO fun i=>decide (i=j))=1:=by decide
theorem IG {b:Nat->Bool} {i:Nat} {z:V} (h:((dO b).map V.bl)[i]? = some z):z = .bl (b i):=by
 unfold dO at h
 rcases i with _ | _ | _ | _ | _ | _ | _ | _ | _ | _ | _ | _ | _ | i<;>simp at h<;>exact h.symm
end LJ
namespace LJ
open PySem L2 PySem.Spec PySem.W PyProof.Rows
noncomputable def vf (C:Addr):Sp:=fun vs H Q _=>∃ (a:Addr) (n:Int),vs=[.ref a,.int n]/\H a=some (bN a C none)/\∀ d,H d=none->Q .non (upd (upd H d (.xd [("place",.int n)])) a (bN a C (some d)))
noncomputable def BY (c:Nat) (n:Int) (dx:Option Addr) (H:Hp):Prop:=(c < 4/\∃ d,dx=some d/\H d=some (.xd [("place",.int n)]))\/(4 <= c/\dx=none)
noncomputable abbrev eV:=Nat->Int->Prop
section
variable [aE]
noncomputable def Kept (H0:Hp):List Addr->List (Option OV)->Hp->Prop:=fun ad mu H=>∀ b o,H0 b=some o->b∉aE.ad->H b=some o/\¬ Lv ad mu b
@[reducible] noncomputable def IH (ok:eV) (H0:Hp):bM:=⟨ok,Kept H0,fun E k b o e n=>by
 obtain⟨h1,h2⟩:=k b o e n
 refine⟨E.keep b o h1 h2 n,fun l => ?_⟩
 rcases E.bV b l with z | z
 ·exact h2 z
 ·rw[h1] at z;cases z⟩
noncomputable def II (Cs:List Addr) (G:eV->GD) (n:Nat):Sp:=fun vs H Q E=>∃ ok:eV,kZ (G ok) n vs H Q E/\∀ c p,ok c p->∀ C dx H',Cs[c]? = some C->Kp H H'->BY c p dx H'->E (.ref C) dx H'
structure fE [bM] (Cs:List Addr) (E:XK) (H0:Hp):Prop where
 go:∀ {c p C dx ad mu H'},bM.ok c p->bM.kp ad mu H'->aE.ok H'->Cs[c]? = some C->BY c p dx H'->E (.ref C) dx H'
 fr:∀ {ad mu H' a},bM.kp ad mu H'->aE.ok H'->H' a=none->H0 a=none
structure IJ (P:Program) (w:World) (K:PySem.W.Frag) (mg:Str->Option Value) (base:Heap) (x:Str) (C:Addr):Prop where
 m:mg x=some (.ref C)
 ex:∃ f fd,mV K C (some (.ref f))/\PySem.W.isFn K (.ref f)=true/\bE P w K mg base bz 1 f fd ["self", "place"] (vf C)/\Binds K fd ["self", "place"] []
noncomputable def ql (ok:eV) (c:Nat) (fa:WA):WS:=fun _ δ => fa δ fun xs _=>∃ n,xs=[.p (.int n)]/\ok c n
noncomputable def BZ (ok:eV) (c:Nat):WS:=fun _ _=>ok c 0
section
variable {P:Program} {w:World} {K:PySem.W.Frag} {mg:Str->Option Value} {base:Heap} {N:List Str} {qual:Str} {scope:Scope} {f:Addr} {cd:Value} {A:Around} {outer:List Env} {s:Shared} {H:Hp} {E:XK} {Cs:List Addr} {c:Nat} {C:Addr} {x:Str} {e:Expr} {fe:WA} {p p2 pos:Pos}
theorem Uv [bM] (I:IJ P w K mg base x C) (R:fE Cs E H) (hC:Cs[c]? = some C) (h4:c < 4) (hr:aS 2 (A.deeper (envOfC qual scope s.heap.objs.size f cd))) (he:JA (ar (cx P w) P w K mg base N qual scope f cd A outer s H E) [e] (bL fe))
  (hg:Gl (ar (cx P w) P w K mg base N qual scope f cd A outer s H E) x:=by rfl) (bT:(x == ("__debug__" : Str))=false:=by decide)
  (hs:starEach [e] (ar (cx P w) P w K mg base N qual scope f cd A outer s H E).env=(false,eval e (ar (cx P w) P w K mg base N qual scope f cd A outer s H E).env) :: starEach [] (ar (cx P w) P w K mg base N qual scope f cd A outer s H E).env:=by rfl) (bU:(backTo p2 (starEach [] (ar (cx P w) P w K mg base N qual scope f cd A outer s H E).env)).any (·.1)=false:=by rfl) :
  JS (ar (cx P w) P w K mg base N qual scope f cd A outer s H E) (.Raise (some (.Call (.Name x p) [e] [] p2)) none pos) (cM (ql bM.ok c fe)):=by
 obtain⟨hm,fi,XY,M,i7,FI,bI⟩:=I
 refine JS.weak ⟨IA rfl (Oe M i7 FI hr bI sM hg hm he.out bT hs bU)⟩ fun D σ H1 ⟨F,ad,δ,K1,S,q,k⟩ => ?_
 refine⟨F,ad,δ,fun xs _=>∃ n,xs=[.p (.int n)]/\bM.ok c n,S,q,fun xs δ1 h1 vs F1 aQ H2 E1 S1 V1 => ?_⟩
 obtain⟨n,rfl,o⟩:=h1
 obtain⟨v,r,rfl,W1,W2⟩:=V1
 have W2:r=[]:=W2
 subst W2
 have W1:v = .int n:=W1
 subst W1
 refine⟨by show 1 <= sizeLine;decide,fun a ha=>⟨a,n,rfl,a9,fun d hd=>⟨rfl,a,C,some d,_,rfl,a9,M,?_,?_⟩⟩⟩
 ·exact R.fr (k.ext E1).kp S1.tab ha
 ·have az:d≠a:=fun z=>by rw[z,a9] at hd;cases hd
  have Uw:H2 d=none:=by rw[aA az] at hd;exact hd
  have eq:fD (upd (upd (upd H2 a (bN a C none)) d (.xd [("place",.int n)])) a (bN a C (some d))) a=upd H2 d (.xd [("place",.int n)]):=by
   funext b
   unfold fD
   split
   ·rename_i z;subst z;rw[aA (fun z=>az z.symm)];exact ha.symm
   ·rename_i z
    rw[aA z]
    by_cases y:b=d
    ·subst y;rw[a9,a9]
    ·rw[aA y,aA y,aA z]
  rw[eq]
  have sm:av H2 (upd H2 d (.xd [("place",.int n)])):=cZ Uw
  exact R.go o (bM.st (Ext.al S1 sm) (k.ext E1).kp) (aE.same S1.tab sm) hC (.inl ⟨h4,d,rfl,a9⟩)
theorem Ux [bM] {t:Str} (M:mV K C none) (R:fE Cs E H) (hC:Cs[c]? = some C) (h4:4 <= c) (hm:mg x=some (.ref C)) (hg:Gl (ar (cx P w) P w K mg base N qual scope f cd A outer s H E) x:=by rfl) (bT:(x == ("__debug__" : Str))=false:=by decide)
  (he:PA (ar (cx P w) P w K mg base N qual scope f cd A outer s H E) [e] (eR (tC (.str t)) ik))
  (hs:starEach [e] (ar (cx P w) P w K mg base N qual scope f cd A outer s H E).env=(false,eval e (ar (cx P w) P w K mg base N qual scope f cd A outer s H E).env) :: starEach [] (ar (cx P w) P w K mg base N qual scope f cd A outer s H E).env:=by rfl) (bU:(backTo p2 (starEach [] (ar (cx P w) P w K mg base N qual scope f cd A outer s H E).env)).any (·.1)=false:=by rfl) :
  JS (ar (cx P w) P w K mg base N qual scope f cd A outer s H E) (.Raise (some (.Call (.Name x p) [e] [] p2)) none pos) (cM (BZ bM.ok c)):=by
 refine JS.weak ⟨IA rfl (Oc M hg hm he bT hs bU)⟩ fun D σ H1 ⟨F,ad,δ,K1,S,q,k⟩ => ?_
 refine⟨by show 1 <= sizeLine;decide,fun a ha=>⟨a,C,none,none,rfl,a9,M,R.fr k.kp S.tab ha,?_⟩⟩
 rw[Uk ha]
 exact R.go q k.kp S.tab hC (.inr ⟨h4,rfl⟩)
structure Fy (V:Ev) (Cs:List Addr) (k:Nat) (x:Str) (ps:List Str) (n:Nat) (G:eV->GD):Prop where
 ex:∃ f fd,bE V.P V.w V.K V.mg V.base (cx V.P V.w) k f fd ps (II Cs G n)/\V.mg x=some (.ref f)/\PySem.W.keepIn V.K (.ref f)=true/\Binds V.K fd ps []
section
variable {X:Cx} {j k n:Nat} {ps:List Str} {G:eV->GD} {es:List Expr} {fa:WA}
theorem Uy [bM] (R:fE Cs E H) {σ : L2.St} {H1:Hp} {Q:VK} {F:Hp} {ad:List Addr} {δ : ay} {K1:DV->ay->Prop} (S:SR F ad δ σ H1) (q:aj n (G bM.ok) fa δ K1) (kp:bM.kp ad δ.mu H1) (kk:∀ x δ',K1 x δ'->∀ v F' az H',Ext F ad δ.mu H1 F' az δ'.mu H'->SR F' az δ' σ H'->fM F' az x v->Q v H'):oy (II Cs G n) [] E (bL fa) σ H1 Q :=
 ⟨F,ad,δ,_,S,q,fun xs δ1 h1 vs F1 aQ H2 E1 S1 V1=>⟨bM.ok,FV kk h1 E1 S1 V1,fun c p o C dx H' hC z pl=>R.go o (bM.st (Ext.rA S1 z.keep z.tab) (bM.st E1 kp)) z.tab hC pl⟩⟩
theorem vg [bM] (Fy:Fy ⟨X.prog,X.w,X.K,X.mg,X.base⟩ Cs j x ps n G) (R:fE Cs E H) (hp:lC (cx X.prog X.w) X E) (hr:aS k X.A) (ha:JA X (e :: es) (bL fa)) (hj:Nat.ble j k=true:=by rfl) (hg:Gl X x:=by rfl) (bT:(x == ("__debug__" : Str))=false:=by decide)
  (hs:starEach (e :: es) X.env=(false,eval e X.env) :: starEach es X.env:=by rfl) (bU:(backTo p2 (starEach es X.env)).any (·.1)=false:=by rfl) (hw:swapsWith (.Call (.Name x p) (e :: es) [] p2) none pos.line X.env=pure false:=by rfl) :
  JS X (.Expr (.Call (.Name x p) (e :: es) [] p2) pos) (cM (jE (aj n (G bM.ok) fa))):=by
 obtain⟨g,fd,F1,hm,hk,hb⟩:=Fy.ex
 exact (E8 (tI F1 (hr.mono (ZU hj)) hg hm hk hb .nil hp ha bT hs bU) hw).weak fun D σ H1 ⟨F,ad,δ,K1,S,q,k⟩=>Uy R S q k.kp fun x δ1 h1 v F1 aQ H1 E1 S1 V1=>k.nx _ h1 _ _ _ _ E1 S1
end
end
noncomputable def EI (V:Ev) (Cs:List Addr) (c:Nat) (x:Str):Prop:=c < 4/\∃ C,Cs[c]? = some C/\IJ V.P V.w V.K V.mg V.base x C
noncomputable def ET (V:Ev) (Cs:List Addr) (c:Nat) (x:Str):Prop:=4 <= c/\∃ C,Cs[c]? = some C/\mV V.K C none/\V.mg x=some (.ref C)
section
variable {V:Ev} {N:List Str} {qual:Str} {scope:Scope} {f:Addr} {cd:Value} {A:Around} {outer:List Env} {s:Shared} {H:Hp} {E:XK} {Cs:List Addr} {x:Str} {e:Expr} {fe:WA} {p p2 pos:Pos} {k:Nat}
theorem IK [bM] {c:Nat} (XS:EI V Cs c x) (R:fE Cs E H) (hr:aS k (A.deeper (envOfC qual scope s.heap.objs.size f cd))) (he:JA (ar (cx V.P V.w) V.P V.w V.K V.mg V.base N qual scope f cd A outer s H E) [e] (bL fe)) (hk:Nat.ble 2 k=true:=by rfl)
  (hg:Gl (ar (cx V.P V.w) V.P V.w V.K V.mg V.base N qual scope f cd A outer s H E) x:=by rfl) (bT:(x == ("__debug__" : Str))=false:=by decide)
  (hs:starEach [e] (ar (cx V.P V.w) V.P V.w V.K V.mg V.base N qual scope f cd A outer s H E).env=(false,eval e (ar (cx V.P V.w) V.P V.w V.K V.mg V.base N qual scope f cd A outer s H E).env) :: starEach [] (ar (cx V.P V.w) V.P V.w V.K V.mg V.base N qual scope f cd A outer s H E).env:=by rfl) (bU:(backTo p2 (starEach [] (ar (cx V.P V.w) V.P V.w V.K V.mg V.base N qual scope f cd A outer s H E).env)).any (·.1)=false:=by rfl) :
  JS (ar (cx V.P V.w) V.P V.w V.K V.mg V.base N qual scope f cd A outer s H E) (.Raise (some (.Call (.Name x p) [e] [] p2)) none pos) (cM (ql bM.ok c fe)) :=
 let ⟨h4,_,hC,I⟩:=XS
 Uv I R hC h4 (hr.mono (ZU hk)) he hg bT hs bU
theorem Uz [bM] {c:Nat} {t:Str} (XS:ET V Cs c x) (R:fE Cs E H) (he:JA (ar (cx V.P V.w) V.P V.w V.K V.mg V.base N qual scope f cd A outer s H E) [e] (eR (tC (.str t)) ik))
  (hg:Gl (ar (cx V.P V.w) V.P V.w V.K V.mg V.base N qual scope f cd A outer s H E) x:=by rfl) (bT:(x == ("__debug__" : Str))=false:=by decide)
  (hs:starEach [e] (ar (cx V.P V.w) V.P V.w V.K V.mg V.base N qual scope f cd A outer s H E).env=(false,eval e (ar (cx V.P V.w) V.P V.w V.K V.mg V.base N qual scope f cd A outer s H E).env) :: starEach [] (ar (cx V.P V.w) V.P V.w V.K V.mg V.base N qual scope f cd A outer s H E).env:=by rfl) (bU:(backTo p2 (starEach [] (ar (cx V.P V.w) V.P V.w V.K V.mg V.base N qual scope f cd A outer s H E).env)).any (·.1)=false:=by rfl) :
  JS (ar (cx V.P V.w) V.P V.w V.K V.mg V.base N qual scope f cd A outer s H E) (.Raise (some (.Call (.Name x p) [e] [] p2)) none pos) (cM (BZ bM.ok c)) :=
 let ⟨h4,_,hC,M,hm⟩:=XS
 Ux M R hC h4 hm hg bT he.out hs bU
end
theorem rF {V:Ev} {Cs:List Addr} {x:Str} {st:Stmt} {N ps:List Str} {k:Nat} {G:eV->GD} (D:Dx V x st) (bd:gU x st ps) (hG:∀ ok ys ovs K,G ok ys ovs K->ovs=[]) (h:∀ {aD:Value} {A:Around} {outer:List Env} {s:Shared} {H:Hp} {E:XK} {f:Addr} [bM],fE Cs E H->aS k (A.deeper (envOfC x (aW st) s.heap.objs.size f aD))->N.Nodup->(A.deeper (envOfC x (aW st) s.heap.objs.size f aD)).units + 64 < cLine →
   ∃ B:WS,bZ (ar (cx V.P V.w) V.P V.w V.K V.mg V.base N x (aW st) f aD A outer s H E) (b_ st) (cM B)/\∀ ys ovs K',ys.length=ps.length->G bM.ok ys ovs K'->B (bP ovs.length K') ⟨ys.map some ++ List.replicate (N.length - ps.length) none,ovs.map some⟩) (sc:u9 N ps (aW st)=true:=by decide +kernel):Fy V Cs (k + 1) x ps ps.length G:=by
 obtain⟨f,fd,a,F⟩:=D
 refine⟨f,fd,F.rF (fB sc) (fun vs H Q E h=>let ⟨_,h,_⟩:=h;h.1) (fun aD A outer s H vs Q E hr hh => ?_),a,F.kp,F.binds bd⟩
 obtain⟨ok,⟨hl,Fz,ad,ys,ovs,K',S0,g,kk⟩,hE⟩:=hh
 have ho:=hG ok ys ovs K' g
 subst ho
 have ea:ad=[]:=Zr.mp S0.cj
 subst ea
 letI:bM:=IH ok H
 have R:fE Cs E H:=⟨fun {c p C dx ad mu H'} o kp tb hC pl=>hE c p o C dx H' hC ⟨fun b u e n=>(kp b u e n).1,tb⟩ pl,fun {ad mu H' a} kp tb e=>Kp.none ⟨fun b u e n=>(kp b u e n).1,tb⟩ e⟩
 obtain⟨B,jb,hb⟩:=h R hr (fB sc).nd hr.units
 have hy:ys.length=ps.length:=by
  have:=S0.len
  rw[qy] at this
  rw[<-hl,this];show _=(ys.map some).length;rw[qy]
 refine⟨_,jb,Fz,[],⟨ys.map some ++ List.replicate (N.length - ps.length) none,[]⟩,bP 0 K',by rw[<-hl];exact S0.start,hb ys [] K' hy g,⟨fun δ' h F' az σ' H' E' S' => ?_,fun δ' h=>h.elim,fun δ' h=>h.elim,fun y δ' h v F' az σ' H' E' S' V => ?_,fun b o e n=>⟨e,fun ⟨k,ov,z,_⟩=>by simp at z⟩⟩⟩
 ·exact qO (ovs:=[]) (σ' := σ') S0 E' S' (x := .p .non) (v := .non) rfl h kk
 ·exact qO (ovs:=[]) (σ' := σ') S0 E' S' V h kk
end
end LJ
namespace LJ
open PySem L2 PySem.Spec PySem.W
variable [aE]
noncomputable def xr (c:Nat) (n:Int):List D:=if c < 4 then [.str (cL.getD c ""),.int n] else [.str (cL.getD c "")]
noncomputable def qm (tup:Bool) (c:Nat) (n:Int):D:=if tup then .tup (xr c n) else .lst (xr c n)
noncomputable def B0 (tup:Bool) (c:Nat) (n:Int):HO:=if tup then .tup (lb c n) else .lst (lb c n)
theorem IL {F:Hp} (c:Nat) (n:Int):ae F (xr c n) (lb c n):=by
 unfold xr lb
 split
 ·exact⟨_,_,rfl,rfl,⟨_,_,rfl,rfl,rfl⟩⟩
 ·exact⟨_,_,rfl,rfl,rfl⟩
noncomputable def IM (ic ie:Nat) (B:eV->WS) (f1:WE) (tup:Bool):WS:=fun K δ => (δ.mu=[]/\ic < δ.sl.length/\ie < δ.sl.length)/\B (fun c p=>K.rt (.p (qm tup c p)) ⟨[],[]⟩) ⟨fun δ1 => δ1.sl[ic]? = some (some (.p .non))/\f1 δ1 K.rt,fun _ _=>False,fun _=>False,fun _=>False⟩ δ
theorem IP {F H H' H4:Hp} {ad:List Addr} {mu:List (Option OV)} {δ : ay} {σ : St} {K:KS} {D:Ends} {tup:Bool} {c:Nat} {n:Int} {z:Addr} (S:SR F [] δ σ H) (hm : δ.mu=[]) (k:qK F [] δ.mu H K D) (kp:Kept H ad mu H') (tb:aE.ok H') (sm:av H' H4) (hz:H' z=none) (ez:H4 z=some (B0 tup c n)) (h:K.rt (.p (qm tup c n)) ⟨[],[]⟩):D.rt (.ref z) H4:=by
 have t4:aE.ok H4:=aE.same tb sm
 have zt:z∉aE.ad:=fun y=>by
  obtain⟨ps,q⟩:=aE.tb tb y
  rw[hz] at q;cases q
 have B2:H z=none:=by
  cases q:H z with
  | none=>rfl
  | some o=>rw[(kp z o q zt).1] at hz;cases hz
 have fz:F z=none:=by
  cases q:F z with
  | none=>rfl
  | some o=>rw[S.sub z o q] at B2;cases B2
 have keep:∀ b o,H b=some o->b∉aE.ad->H4 b=some o:=fun b o e n=>sm b o (kp b o e n).1
 have E':Ext F [] δ.mu H (upd F z (B0 tup c n)) [] [] H4:=by
  refine⟨fun b o e => ?_,fun b o e => ?_,fun b o e _ nt=>keep b o e nt,fun k a e=>e,fun a ⟨k,ov,y,_⟩=>by simp at y,fun b o e => ?_⟩
  ·rw[aA (bK e fz)];exact e
  ·by_cases y:b=z
   ·subst y;exact .inr (.inl B2)
   ·rw[aA y] at e;exact .inl e
  ·by_cases y:b∈aE.ad
   ·obtain⟨ps,q⟩:=aE.tb t4 y;exact⟨_,q⟩
   ·exact⟨o,keep b o e y⟩
 have S':SR (upd F z (B0 tup c n)) [] ⟨[],[]⟩ [] H4:=by
  refine⟨fun b o e => ?_,fun a ⟨k,ov,y,_⟩=>by simp at y,rfl,fun k l a ov ow e=>by simp at e,fun k ov e=>by simp at e,fun i x e=>by simp at e,rfl,t4,fun a ha => ?_⟩
  ·by_cases y:b=z
   ·subst y;rw[a9] at e;cases e;exact ez
   ·rw[aA y] at e
    exact keep b o (S.sub b o e) fun w=>by rw[S.nt b w] at e;cases e
  ·rw[aA (fun y=>zt (by rw[<-y];exact ha))];exact S.nt a ha
 refine k.rt _ _ h (.ref z) _ _ _ _ E' S' ?_
 show Is _ (qm tup c n) _
 unfold qm
 cases tup
 ·rw[Xm Eu]
  simp only[Is]
  exact⟨z,lb c n,rfl,a9,IL c n⟩
 ·rw[Xp rfl]
  simp only[Is]
  exact⟨z,lb c n,rfl,a9,IL c n⟩
noncomputable def IQ (Kf:PySem.W.Frag) (Cs:List Addr) (ic:Nat):Bool->TE
 | false=>oy (kE Cs) [] E0 (eR (d9 ic) ik)
 | true=>oA (Ul Kf) (eR (oy (kE Cs) [] E0 (eR (d9 ic) ik)) ik)
theorem UA {F H H':Hp} {ad:List Addr} {mu:List (Option OV)} {δ : ay} {σ σ':St} {K:KS} {D:Ends} {Kf:PySem.W.Frag} {Cs:List Addr} {tup:Bool} {c ic:Nat} {n:Int} {a C:Addr} {dx:Option Addr} (S:SR F [] δ σ H) (hm : δ.mu=[]) (k:qK F [] δ.mu H K D) (kp:Kept H ad mu H') (tb:aE.ok H') (h:K.rt (.p (qm tup c n)) ⟨[],[]⟩) (hc:c < 13) (hC:Cs[c]? = some C) (pl:BY c n dx H') (ha:H' a=none) (hs : σ'[ic]? = some (some (.ref a))) :
  IQ Kf Cs ic tup σ' (upd H' a (dJ a C dx)) D.rt:=by
 have s1:av H' (upd H' a (dJ a C dx)):=cZ ha
 have E:ExcAt (upd H' a (dJ a C dx)) a C dx:=by
  refine⟨a9,fun d e => ?_⟩
  rcases pl with⟨_,d',e',h'⟩ | ⟨_,e'⟩
  ·rw[e] at e';cases e';exact⟨_,s1 _ _ h'⟩
  ·rw[e] at e';cases e'
 have P:c < 4->∃ d,dx=some d/\upd H' a (dJ a C dx) d=some (.xd [("place",.int n)]):=fun h4=>by
  rcases pl with⟨_,d',e',h'⟩ | ⟨g4,_⟩
  ·exact⟨d',e',s1 _ _ h'⟩
  ·omega
 have nn:∀ {l},upd H' a (dJ a C dx) l=none->H' l=none:=fun {l} e=>by
  cases q:H' l with
  | none=>rfl
  | some o=>rw[s1 l o q] at e;cases e
 cases tup
 ·exact⟨.ref a,hs,c,n,a,C,dx,rfl,hc,hC,E,P,fun l H3 sm hl e=>IP (tup:=false) S hm k kp tb (s1.trans sm) (nn hl) e h⟩
 ·refine⟨.ref a,hs,c,n,a,C,dx,rfl,hc,hC,E,P,fun l H3 sm hl e=>⟨l,_,rfl,.inl ⟨bc.of e,fun t ht => ?_⟩⟩⟩
  have s3:av H3 (upd H3 t (.tup (lb c n))):=cZ ht
  refine IP (tup:=true) S hm k kp tb ((s1.trans sm).trans s3) ?_ a9 h
  cases q:H' t with
  | none=>rfl
  | some o=>rw[(s1.trans sm) t o q] at ht;cases ht
section
variable {X:Cx} {body fX:List Stmt} {b0 st:Stmt} {x n:Str} {p1 p2 pos:Pos} {L:Addr} {ic ie:Nat} {B:eV->WS} {f1:WE} {tup:Bool} {Cs:List Addr}
theorem UB (fH:X.stack=X.env :: X.outer) (jz:X.env.frame=some X.env.locals) (nd:X.N.Nodup) (hi:X.N[ie]? = some n) (hk:X.env.scope.names.lookup n=some .local) (hg:Gl X x) (hm:X.mg x=some (.ref L)) (hL:∀ (c:Nat) (C:Addr),Cs[c]? = some C->c < 13/\PySem.W.exmOne X.K (.ref C) (.ref L)=some true) (gJ:ic≠ie)
  (hb:∀ {pn xe E H0} [bM],lC (cx X.prog X.w) { X with pn:=pn,xe:=xe } E->fE Cs E H0->bZ { X with pn:=pn,xe:=xe } body (cM (B bM.ok))) (hs:∀ A xe,bZ { X with A:=A,calm:=false,xe:=xe } (b0 :: fX) (bS (d9 ie) (fG ic)))
  (hr:JS X st (oe (xY (tB (n_ (d9 ic))) (tD f1) (IQ X.K Cs ic tup)))) (bT:(x == ("__debug__" : Str))=false:=by decide) :
  bZ X [.Try body [.ExceptHandler (some (.Name x p1)) (some n) (b0 :: fX) p2] [] [] pos,st] (cM (IM ic ie B f1 tup)):=by
 refine (tF ⟨Ud (tb:=fun E D σ H=>∃ ex:bM,@fE _ ex Cs E H/\@cM _ ex (B ex.ok) D σ H ) fH jz nd hi hk hg hm bT (fun pn xe E hp pins s σ H D I h => ?_) fun A xe=>(hs A xe).out⟩ (oV hr)).weak fun D σ H ⟨F,ad,δ,K,S,⟨⟨yY,cA,hle⟩,q⟩,k⟩ => ?_
 ·obtain⟨ex,R,h⟩:=h
  exact (hb hp R).out pins s σ H D I h
 ·have ea:ad=[]:=Zr.mp (by rw[S.cj,yY];rfl)
  subst ea
  have UC:=k.rt
  letI ex:bM:=IH (fun c p=>K.rt (.p (qm tup c p)) ⟨[],[]⟩) H
  refine⟨ex,?_,F,[],δ,⟨fun δ1 => δ1.sl[ic]? = some (some (.p .non))/\f1 δ1 K.rt,fun _ _=>False,fun _=>False,fun _=>False⟩,S,q,?_⟩
  ·refine⟨fun {c p C dx ad mu H'} o kp tb hC pl => ?_,fun {ad mu H' a} kp tb e=>Kp.none ⟨fun b u e n=>((show Kept H ad mu H' from kp) b u e n).1,tb⟩ e⟩
   obtain⟨UD,hx⟩:=hL c C hC
   refine⟨C,rfl,hx,fun a ha => ?_⟩
   have hl:=S.len
   have e0:((List.replicate σ.length (none:Option V)).set ie (some (.ref a)))[ie]? = some (some (.ref a)):=Yo (by rw[Y3];omega)
   have e1:((((List.replicate σ.length (none:Option V)).set ie (some (.ref a))).set ic (some (.ref a))).set ie none)[ic]? = some (some (.ref a)):=by
    rw[Yt (fun z=>gJ z.symm),Yo (by rw[Y1,Y3];omega)]
   refine⟨.ref a,e0,.ref a,e1,false,rfl,?_⟩
   dsimp only
   rw[Xm Eu]
   exact UA S yY k kp tb o UD hC pl ha e1
  ·refine⟨fun δ1 ⟨h1,h2⟩ F' az σ' H' E' S' => ?_,fun δ' h=>h.elim,fun δ' h=>h.elim,fun x δ' h=>h.elim,fun b o e n=>⟨e,fun ⟨k,ov,z,_⟩=>by simp at z⟩⟩
   obtain⟨v,e1,e2⟩:=S'.sl ic _ h1
   have e2:v = .non:=e2
   subst e2
   refine⟨.non,e1,true,rfl,?_⟩
   dsimp only
   rw[Xp rfl]
   exact⟨F',az,δ1,_,S',h2,fun x δ' h v F2 cy H2 E2 S2 V2=>UC _ _ h _ _ _ _ _ (E'.trans E2) S2 V2⟩
end
end LJ
namespace LJ
open PySem L2
variable [aE]
noncomputable def xt (ok:eV):GD:=fun ys ovs K=>∃ d,ys=[.p d]/\ovs=[]/\(gP d=false->ok 4 0)/\(gP d=true->K (.p .non) [])
theorem UE:∀ ok ys ovs K,xt ok ys ovs K->ovs=[]:=fun ok ys ovs K ⟨_,_,h,_⟩=>h
noncomputable def B3 (ok:eV):WS:=(bx (df (dT (aj 1 wZ (af (aa 0) ag)))) (BZ ok 4) dW)
theorem UG (ok:eV):∀ ys ovs K',ys.length=1->xt ok ys ovs K'->B3 ok (bP ovs.length K') ⟨ys.map some ++ List.replicate 0 none,ovs.map some⟩:=by
 rintro ys ovs K' - ⟨d,rfl,rfl,k0,k⟩
 unfold B3
 refine iX fun A1 B1 hA hB => ?_
 simp? only []
 refine⟨d,rfl,rfl,?_⟩
 simp? only []
 cases q:gP d with
 | false =>
  simp? only []
  subst hA
  exact k0 q
 | true =>
  simp? only []
  subst hB
  exact bq (k q)
noncomputable def d4 (m:Int) (d e:D):Option Int:=if fP d 0 (m - 1)=false then some 0 else if fP e 0 (m - 1)=false\/aC d e=true then some 1 else none
theorem rG {m:Int} {d:D} (h:fP d 0 (m - 1)=true):∃ i:Nat,d = .int i/\i < m.toNat:=by
 cases d with
 | int i =>
  have h:(decide (0 <= i) && decide (i <= m - 1))=true:=h
  rw[Yg,decide_eq_true_iff,decide_eq_true_iff] at h
  exact⟨i.toNat,by rw[Int.toNat_of_nonneg h.1],by omega⟩
 | _=>cases h
theorem IS {m:Int} {d e:D} (h:d4 m d e=none):∃ i j:Nat,d = .int i/\e = .int j/\i < m.toNat/\j < m.toNat/\i≠j:=by
 unfold d4 at h
 split at h
 ·cases h
 ·rename_i h1
  split at h
  ·cases h
  ·rename_i h2
   obtain⟨i,rfl,hi⟩:=rG (Bool.not_eq_false _ |>.mp h1)
   obtain⟨j,rfl,hj⟩:=rG (Bool.not_eq_false _ |>.mp fun z=>h2 (.inl z))
   exact⟨i,j,rfl,rfl,hi,hj,fun z=>h2 (.inr (by rw[z,nu]))⟩
noncomputable def vh (ok:eV):GD:=fun ys ovs K=>∃ (m:Int) (ws:List Wy) (d e:D),cb m ws/\ys=[.p (aV m ws),.p d,.p e]/\ovs=[]/\(∀ p,d4 m d e=some p->ok 3 p)/\(d4 m d e=none->K (.p .non) [])
theorem UH:∀ ok ys ovs K,vh ok ys ovs K->ovs=[]:=fun ok ys ovs K ⟨_,_,_,_,_,_,h,_⟩=>h
noncomputable def B4 (ok:eV):WS:=(au (jE (aj 1 (xt ok) (af (aa 0) ag))) (au (bx (df (dT (aj 3 k9 (af (aa 1) (af (dC (.int 0)) (af (d2 (d2 (aa 0) (dC (.int 0)) a6) (dC (.int 1)) (oI fun i j => .int (i - j))) ag)))))) (ql ok 3 (af (dC (.int 0)) ag)) dW) (bx (ni (df (dT (aj 3 k9 (af (aa 2) (af (dC (.int 0)) (af (d2 (d2 (aa 0) (dC (.int 0)) a6) (dC (.int 1)) (oI fun i j => .int (i - j))) ag)))))) (dT (d2 (aa 1) (aa 2) oEq))) (ql ok 3 (af (dC (.int 1)) ag)) dW)))
theorem UI (ok:eV):∀ ys ovs K',ys.length=3->vh ok ys ovs K'->B4 ok (bP ovs.length K') ⟨ys.map some ++ List.replicate 0 none,ovs.map some⟩:=by
 rintro ys ovs K' - ⟨m,ws,d,e,W,rfl,rfl,k0,k⟩
 unfold B4
 refine bw fun N hN => ?_
 simp? only []
 refine⟨aV m ws,rfl,rfl,fun z => ?_,fun _ => ?_⟩
 ·rw[HL W] at z;cases z
 show N _
 subst hN
 refine bw fun N hN => ?_
 refine iX fun A1 B1 hA hB => ?_
 simp? only [aV,eU]
 refine⟨d,0,m - 1,rfl,rfl,?_⟩
 unfold d4 at k0 k
 cases q:fP d 0 (m - 1) with
 | false =>
  rw[q,Xp rfl] at k0
  simp? only []
  subst hA
  simp? only [ql]
  exact⟨0,rfl,k0 0 rfl⟩
 | true =>
  rw[q,Xm (by decide)] at k0 k
  simp? only []
  subst hB
  show N _
  subst hN
  obtain⟨i,rfl,hi⟩:=rG q
  refine iX fun A1 B1 hA hB => ?_
  simp? only [eU]
  refine⟨e,0,m - 1,rfl,rfl,?_⟩
  cases q2:fP e 0 (m - 1) with
  | false =>
   rw[q2,Xp (.inl rfl)] at k0
   simp? only []
   subst hA
   simp? only [ql]
   exact⟨1,rfl,k0 1 rfl⟩
  | true =>
   obtain⟨j,rfl,hj⟩:=rG q2
   rw[q2] at k0 k
   simp? only []
   cases q3:aC (.int i) (.int j) with
   | true =>
    rw[q3,Xp (.inr rfl)] at k0
    simp? only []
    subst hA
    simp? only [ql]
    exact⟨1,rfl,k0 1 rfl⟩
   | false =>
    rw[q3,Xm (by decide)] at k
    simp? only []
    subst hB
    exact bq (k rfl)
noncomputable def xu (ok:eV):GD:=fun ys ovs K=>∃ (m:Int) (ws:List Wy) (d e:D),cb m ws/\ys=[.p (aV m ws),.p d,.p e]/\ovs=[]/\(∀ p,d4 m d e=some p->ok 3 p)/\(d4 m d e=none->∀ r,K (.p r) [])
theorem UJ:∀ ok ys ovs K,xu ok ys ovs K->ovs=[]:=fun ok ys ovs K ⟨_,_,_,_,_,_,h,_⟩=>h
noncomputable def B5 (ok:eV):WS:=(au (jE (aj 3 (vh ok) (af (aa 0) (af (aa 1) (af (aa 2) ag))))) (au (aO 3 (aj 1 xg (af (aa 0) ag))) (au (aO 4 (aj 4 xo (af (aa 0) (af (aa 3) (af (aa 1) (af (aa 2) ag)))))) (au (bx (dT (d2 (aa 4) (dC .non) mj)) (aN (dC .non)) dW) (aN (eM (af (aa 4) (af (aj 3 xn (af (aa 0) (af (iA (cJ (aa 3)) [none,some 4] (cf 0) (dT (d2 (aa 0) (aa 1) nv)) (aa 0)) (af (aa 1) ag)))) ag))))))))
theorem UK (ok:eV):∀ ys ovs K',ys.length=3->xu ok ys ovs K'->B5 ok (bP ovs.length K') ⟨ys.map some ++ List.replicate 2 none,ovs.map some⟩:=by
 rintro ys ovs K' - ⟨m,ws,d,e,W,rfl,rfl,k0,k⟩
 have xc:=W.jX
 unfold B5
 refine bw fun N hN => ?_
 simp? only []
 refine⟨m,ws,d,e,W,rfl,rfl,k0,fun h2 => ?_⟩
 obtain⟨i,j,rfl,rfl,hi,hj,ne⟩:=IS h2
 have k:=k h2
 show N _
 subst hN
 refine bw fun N hN => ?_
 simp? only []
 refine⟨m,ws,W,rfl,rfl,fun os ho => ?_⟩
 have F:=Io W ho
 generalize nN m ws os=fo at F
 have fl:=F.len
 simp? only []
 subst hN
 refine bw fun N hN => ?_
 simp? only []
 refine⟨m,ws,fo,i,j,W,F,hi,hj,ne,rfl,rfl,fun c => ?_,fun n hn nk => ?_⟩
 ·simp? only []
  subst hN
  refine bw fun N hN => ?_
  simp? only []
  exact bq (k _)
 ·simp? only []
  subst hN
  refine bw fun N hN => ?_
  simp? only []
  subst hN
  simp? only []
  refine L2.pO (fun d=>match d with
   | .int x=>decide (x≠n)
   | _=>false) id (by rw[qy];omega) trivial ?_ ?_
  ·intro d hd acc L' ha h1 h2
   obtain⟨x,hx,rfl⟩:=Yd.mp hd
   dsimp only at h1 h2
   simp? only []
   rw[qe]
   by_cases c:x=n
   ·rw[Ya c]
    simp? only []
    exact h2 (Yc fun z=>z c)
   ·rw[Yc c]
    simp? only []
    exact⟨ha,h1 (Ya c)⟩
  have e:((fo.map D.int).filter fun d=>match d with
   | .int x=>decide (x≠n)
   | _=>false).map id=(mE fo n).map D.int:=by
   rw[q0H,ZT];rfl
  rw[e]
  simp? only []
  refine⟨m,ws,mE fo n,i,W,fun x h=>F.nums x (Y0.mp h).1,hi,rfl,rfl,?_⟩
  simp? only []
  exact bq (k _)
noncomputable def xv (ok:eV):GD:=fun ys ovs K=>∃ (m:Int) (ws:List Wy) (d e:D) (n:Int) (l:List Int),cb m ws/\ys=[.p (aV m ws),.p d,.p e,.p (.int n),.p (b7 l)]/\ovs=[]/\(∀ p,d4 m d e=some p->ok 3 p)/\(d4 m d e=none->∀ r,K (.p r) [])
theorem UL:∀ ok ys ovs K,xv ok ys ovs K->ovs=[]:=fun ok ys ovs K ⟨_,_,_,_,_,_,_,_,h,_⟩=>h
noncomputable def B6 (ok:eV):WS:=(au (jE (aj 3 (vh ok) (af (aa 0) (af (aa 1) (af (aa 2) ag))))) (au (bx (ni (df (dT (aj 2 BB (af (aa 4) (af (d2 (aa 0) (dC (.int 0)) a6) ag))))) (ni (dT (d2 (aa 1) (aa 4) (k7 true))) (dT (d2 (aa 2) (aa 4) (k7 false))))) (aN (dC (.bl false))) dW) (au (aO 5 (aj 4 xo (af (aa 0) (af (aj 1 xg (af (aa 0) ag)) (af (aa 1) (af (aa 2) ag)))))) (aN (j3 (d2 (aa 5) (dC .non) wR) (ub (aa 3) (aa 5) (aj 2 Bt (af (aa 0) (af (aj 2 Br (af (aa 0) (af (aa 4) ag))) ag))) oEq oEq))))))
theorem UM (ok:eV):∀ ys ovs K',ys.length=5->xv ok ys ovs K'->B6 ok (bP ovs.length K') ⟨ys.map some ++ List.replicate 1 none,ovs.map some⟩:=by
 rintro ys ovs K' - ⟨m,ws,d,e,n,l,W,rfl,rfl,k0,k⟩
 have d0:=xi l
 unfold B6
 refine bw fun N hN => ?_
 simp? only []
 refine⟨m,ws,d,e,W,rfl,rfl,k0,fun h2 => ?_⟩
 obtain⟨i,j,rfl,rfl,hi,hj,ne⟩:=IS h2
 have k:=k h2
 show N _
 subst hN
 refine bw fun N hN => ?_
 refine iX fun A1 B1 hA hB => ?_
 have no:A1 ⟨[some (.p (aV m ws)),some (.p (.int i)),some (.p (.int j)),some (.p (.int n)),some (.p (b7 l)),none],[]⟩:=by
  subst hA
  exact bq (k _)
 simp? only [aV,eU] at no ⊢
 refine⟨l,m,rfl,rfl,?_⟩
 rw[show b7 l = .lst (l.map D.int) from rfl] at no ⊢
 cases qi m 0 l with
 | false=>simp? only [];exact no
 | true =>
  simp? only []
  refine⟨by omega,?_⟩
  cases ((l.map D.int).any fun e=>aC e (.int i)) with
  | false=>simp? only [];exact no
  | true =>
   simp? only []
   refine⟨by omega,?_⟩
   cases ((l.map D.int).any fun e=>aC e (.int j)) with
   | true=>simp? only [];exact no
   | false =>
    simp? only []
    subst hB
    show N _
    subst hN
    refine bw fun N hN => ?_
    simp? only []
    refine⟨m,ws,W,rfl,rfl,fun os ho => ?_⟩
    have F:=Io W ho
    generalize nN m ws os=fo at F
    simp? only []
    refine⟨m,ws,fo,i,j,W,F,hi,hj,ne,rfl,rfl,fun c => ?_,fun g hg ng => ?_⟩
    ·simp? only []
     subst hN
     simp? only []
     exact bq (k _)
    ·simp? only []
     subst hN
     simp? only []
     cases aC (.int n) (.int g) with
     | false=>simp? only [];exact bq (k _)
     | true =>
      simp? only []
      refine⟨m,ws,l,W,rfl,rfl,?_⟩
      simp? only []
      refine⟨m,ws,u4 ws l,W,Tv,rfl,rfl,fun z => ?_,fun x hx best => ?_⟩
      ·simp? only []
       exact bq (k _)
      ·simp? only []
       exact bq (k _)
noncomputable def iI (m:Int) (d e:D):D:=match d4 m d e with
 | some p => .lst [.str "house",.int p]
 | none => .lst [.str "told"]
noncomputable def B7:GD:=fun ys ovs K=>∃ (kind:Int) (m:Int) (ws:List Wy) (d e:D) (t:Nat),cb m ws/\t < 3/\ys=[.p (.int kind),.p (aV m ws),.p d,.p e,.p (.int t)]/\ovs=[]/\K (.p (iI m d e)) []
noncomputable def B8:WS:=(au (aO 5 (dC .non)) (IM 5 6 (fun ok=>(bx (dT (d2 (aa 0) (dC (.int 0)) oEq)) (jE (aj 3 (xu ok) (af (aa 1) (af (aa 2) (af (aa 3) ag))))) (jE (aj 5 (xv ok) (af (aa 1) (af (aa 2) (af (aa 3) (af (d2 (cm (af (dC (.int 0)) (af (d1 (dC (.int 1)) jl) (af (d2 (dC (.int 10)) (dC (.int 20)) (dj dS fun i j => .int (i ^ j.toNat))) ag)))) (aa 4) a6) (af (d2 (cm (af (cm ag) (af (cm (af (dC (.int 0)) ag)) (af (cm (af (d1 (dC (.int 1)) jl) (af (dC (.int 99)) ag))) ag)))) (aa 4) a6) ag))))))))) (cm (af (dC (.str "told")) ag)) false))
theorem UN:∀ ys ovs K',ys.length=5->B7 ys ovs K'->B8 (bP ovs.length K') ⟨ys.map some ++ List.replicate 2 none,ovs.map some⟩:=by
 rintro ys ovs K' - ⟨kind,m,ws,d,e,t,W,ht,rfl,rfl,k⟩
 unfold B8
 refine bw fun N hN => ?_
 simp? only []
 subst hN
 refine⟨⟨rfl,(show 5 < 7 by decide),(show 6 < 7 by decide)⟩,?_⟩
 have k0:∀ p,d4 m d e=some p->gb 0 K' (.p (qm false 3 p)) ⟨[],[]⟩:=fun p hp=>by
  unfold iI at k
  rw[hp] at k
  exact bq k
 have k1:d4 m d e=none->K' (.p (.lst [.str "told"])) []:=fun hp=>by
  unfold iI at k
  rw[hp] at k
  exact k
 refine iX fun A1 B1 hA hB => ?_
 simp? only []
 rw[qe]
 by_cases c:kind=0
 ·rw[Ya c]
  simp? only []
  subst hA
  simp? only []
  refine⟨m,ws,d,e,W,rfl,rfl,k0,fun h2 r => ?_⟩
  simp? only []
  exact bq (k1 h2)
 ·rw[Yc c]
  simp? only []
  subst hB
  obtain⟨z,l,ea,eb⟩:∃ (z:Int) (l:List Int),d_ [D.int 0,D.int (-1),D.int (10 ^ Int.toNat 20)] (t:Int)=some (.int z)/\d_ [D.lst [],D.lst [D.int 0],D.lst [D.int (-1),D.int 99]] (t:Int)=some (b7 l):=by
   match t,ht with
   | 0,_=>exact⟨0,[],rfl,rfl⟩
   | 1,_=>exact⟨-1,[0],rfl,rfl⟩
   | 2,_=>exact⟨10 ^ Int.toNat 20,[-1,99],rfl,rfl⟩
  simp? only [ea,eb]
  refine⟨?_,m,ws,d,e,z,l,W,rfl,rfl,k0,fun h2 r => ?_⟩
  ·unfold dS;decide
  simp? only []
  exact bq (k1 h2)
noncomputable def B9:GD:=fun ys ovs K=>∃ (m:Int) (ws:List Wy) (d e:D),cb m ws/\ys=[.p (aV m ws),.p d,.p e]/\ovs=[]/\K (.p (iI m d e)) []
noncomputable def B_:WS:=(au (bx (df (dT (aj 3 w4 (af (aa 1) (af (dC (.int 0)) (af (d2 (d2 (aa 0) (dC (.int 0)) a6) (dC (.int 1)) (oI fun i j => .int (i - j))) ag)))))) (aN (cm (af (dC (.str "house")) (af (dC (.int 0)) ag)))) dW) (au (bx (ni (df (dT (aj 3 w4 (af (aa 2) (af (dC (.int 0)) (af (d2 (d2 (aa 0) (dC (.int 0)) a6) (dC (.int 1)) (oI fun i j => .int (i - j))) ag)))))) (dT (d2 (aa 1) (aa 2) oEq))) (aN (cm (af (dC (.str "house")) (af (dC (.int 1)) ag)))) dW) (aN (cm (af (dC (.str "told")) ag)))))
theorem UO:∀ ys ovs K',ys.length=3->B9 ys ovs K'->B_ (bP ovs.length K') ⟨ys.map some ++ List.replicate 0 none,ovs.map some⟩:=by
 rintro ys ovs K' - ⟨m,ws,d,e,W,rfl,rfl,k⟩
 unfold B_
 unfold iI d4 at k
 refine bw fun N hN => ?_
 refine iX fun A1 B1 hA hB => ?_
 simp? only [aV,eU]
 refine⟨d,0,m - 1,rfl,rfl,?_⟩
 cases q:fP d 0 (m - 1) with
 | false =>
  rw[q,Xp rfl] at k
  simp? only []
  subst hA
  simp? only []
  exact bq k
 | true =>
  rw[q,Xm (by decide)] at k
  simp? only []
  subst hB
  show N _
  subst hN
  obtain⟨i,rfl,hi⟩:=rG q
  refine bw fun N hN => ?_
  refine iX fun A1 B1 hA hB => ?_
  simp? only [eU]
  refine⟨e,0,m - 1,rfl,rfl,?_⟩
  cases q2:fP e 0 (m - 1) with
  | false =>
   rw[q2,Xp (.inl rfl)] at k
   simp? only []
   subst hA
   simp? only []
   exact bq k
  | true =>
   obtain⟨j,rfl,hj⟩:=rG q2
   rw[q2] at k
   simp? only []
   cases q3:aC (.int i) (.int j) with
   | true =>
    rw[q3,Xp (.inr rfl)] at k
    simp? only []
    subst hA
    simp? only []
    exact bq k
   | false =>
    rw[q3,Xm (by decide)] at k
    simp? only []
    subst hB
    show N _
    subst hN
    simp? only []
    exact bq k
noncomputable abbrev KL:KS:=⟨fun _=>False,fun x _=>x = .p (.bl true),fun _=>False,fun _=>False⟩
noncomputable def Ca:WS:=(au (eC (nr (af (dC (.int 3)) ag)) (cf 2) (au (aO 3 (aj 2 gg (af (aa 1) (af (dC (.int 3)) ag)))) (au (aO 4 (aj 3 Aw (af (aj 1 Ao (af (aa 1) ag)) (af (dC (.int 12)) (af (dC (.int 30)) ag))))) (au (aO 5 (cm (af (d1 (dC (.int 1)) jl) (af (d2 (aa 4) (dC (.int 0)) a6) (af (d2 (dC (.int 10)) (dC (.int 20)) (dj dS fun i j => .int (i ^ j.toNat))) (af (dC (.bl true)) (af (dC (.bl false)) (af (dC .non) (af (dC (.str "0")) (af (eM (af (dC (.int 0)) ag)) (af (cm (af (dC (.int 0)) ag)) (af (d2 (dC (.int 0)) (d2 (aa 4) (dC (.int 0)) a6) (oI fun i j => .int (i - j))) ag)))))))))))) (au (aO 6 (d2 (cm (af (aj 2 gg (af (aa 1) (af (d2 (aa 4) (dC (.int 0)) a6) ag))) (af (aj 2 gg (af (aa 1) (af (d2 (aa 4) (dC (.int 0)) a6) ag))) ag))) (cm (af (d2 (aa 5) (aj 2 gg (af (aa 1) (af (dC (.int 10)) ag))) a6) (af (d2 (aa 5) (aj 2 gg (af (aa 1) (af (dC (.int 10)) ag))) a6) ag))) d6)) (eC (cJ (aa 6)) (cf 7) (eC (cJ (aa 6)) (cf 8) (eC (nr (af (dC (.int 2)) ag)) (cf 9) (bx (dT (d2 (aj 5 B7 (af (aa 9) (af (aa 4) (af (aa 7) (af (aa 8) (af (aa 3) ag)))))) (aj 3 B9 (af (aa 4) (af (aa 7) (af (aa 8) ag)))) nv)) (aN (dC (.bl false))) dW))))))))) (aN (dC (.bl true))))
theorem IT {xs:List D} {k:Int} (h0:0 <= k) (h1:k < xs.length):∃ r∈xs,d_ xs k=some r:=by
 obtain⟨i,rfl⟩:∃ i:Nat,k=i:=⟨k.toNat,by omega⟩
 have hi:i < xs.length:=by omega
 exact⟨xs[i],Y6 hi,jO (oO hi)⟩
theorem UP (m:Int) (d e:D):dep (iI m d e) <= 1:=by
 unfold iI
 split<;>simp[dep,bO]
theorem UQ (ns:List Int) (hn:ns.length <= 63):Ca KL ⟨none :: some (.o 0) :: List.replicate 8 none,[some (iD ns 0 0)]⟩:=by
 unfold Ca
 refine bw fun N hN => ?_
 simp? only []
 refine⟨by decide,?_⟩
 refine me (fun i δ => ∃ o,bt (1000 * i) o /\ δ = ⟨none :: some (.o 0) :: List.replicate 8 none,[some o]⟩) ⟨iD ns 0 0,⟨ns,0,0,rfl,hn,by omega,by omega⟩,rfl⟩ ?_ ?_
 ·rintro j d δ L hj ⟨o,P,rfl⟩ hL
  obtain⟨IU,rfl⟩:=lZ hj
  have IU:j < 3:=IU
  refine⟨trivial,?_⟩
  simp only[cf,YS,List.replicate_zero,YA,YB]
  generalize (0 + (j:Int))=jt
  refine bw fun N2 eQ => ?_
  simp? only []
  refine⟨1000 * j,3,o,rfl,rfl,P,by omega,by omega,by omega,fun r o1 r0 r1 P1 => ?_⟩
  obtain⟨t,rfl⟩:∃ t:Nat,r=t:=⟨r.toNat,by omega⟩
  simp? only []
  subst eQ
  refine bw fun N2 eQ => ?_
  simp? only []
  refine⟨1000 * j + 1,o1,rfl,rfl,P1,fun o2 P2 => ?_⟩
  simp? only []
  refine⟨1000 * j + 1,12,30,o2,rfl,rfl,P2,by omega,by omega,by omega,by omega,by omega,fun m ws o3 W _ _ P3 => ?_⟩
  have jB:=W.jB
  have m1:=W.m1
  simp? only []
  subst eQ
  refine bw fun N2 eQ => ?_
  simp? only [aV,eU]
  refine⟨?_,?_⟩
  ·unfold dS;decide
  subst eQ
  refine bw fun N2 eQ => ?_
  simp? only [eU]
  refine⟨1000 * j + 401,m,o3,rfl,rfl,P3.mono (by omega),by omega,by omega,by omega,fun a o4 a0 a1 P4 => ?_⟩
  simp? only [eU]
  refine⟨1000 * j + 402,m,o4,rfl,rfl,P4.mono (by omega),by omega,by omega,by omega,fun b o5 b0 b1 P5 => ?_⟩
  simp? only []
  refine⟨1000 * j + 403,10,o5,rfl,rfl,P5.mono (by omega),by omega,by omega,by omega,fun c o6 c0 c1 P6 => ?_⟩
  obtain⟨odd,qo⟩:∃ odd:List D,odd=[D.int (-1),D.int m,D.int (10 ^ Int.toNat 20),D.bl true,D.bl false,D.non,D.str "0",D.tup [D.int 0],D.lst [D.int 0],D.int (0 - m)]:=⟨_,rfl⟩
  have ol:odd.length=10:=by rw[qo];rfl
  have od:∀ x∈odd,dep x <= 1:=by
   intro x hx
   rw[qo] at hx
   simp only[X7,Yu,q03] at hx
   rcases hx with rfl | rfl | rfl | rfl | rfl | rfl | rfl | rfl | rfl | rfl<;>simp[dep,bO]
  rw[<-qo]
  obtain⟨x1,XZ,e1⟩:=IT (xs:=odd) (k:=c) c0 (by rw[ol];omega)
  simp? only [e1]
  refine⟨1000 * j + 404,10,o6,rfl,rfl,P6.mono (by omega),by omega,by omega,by omega,fun f o7 f0 f1 P7 => ?_⟩
  obtain⟨x2,vy,e2⟩:=IT (xs:=odd) (k:=f) f0 (by rw[ol];omega)
  simp? only [e2]
  subst eQ
  generalize [D.int a,D.int b,x1,x2]=hs
  refine pW fun g' b' K2 hg hb' hK => ?_
  simp? only []
  subst hg hb' hK
  refine me (fun _ δ => δ = ⟨[none,some (.o 0),some (.p (.int jt)),some (.p (.int t)),some (.p (.tup [.int m,.tup (ws.map bQ)])),some (.p (.lst odd)),some (.p (.lst hs)),none,none,none],[some o7]⟩) rfl ?_ ?_
  ·rintro i1 vi δ L1 _ rfl Cb
   have Cb:=Cb _ rfl
   refine⟨trivial,?_⟩
   simp only[cf,YA,YB]
   refine pW fun g' b' K2 hg hb' hK => ?_
   simp? only []
   subst hg hb' hK
   refine me (fun _ δ => δ = ⟨[none,some (.o 0),some (.p (.int jt)),some (.p (.int t)),some (.p (.tup [.int m,.tup (ws.map bQ)])),some (.p (.lst odd)),some (.p (.lst hs)),some (.p vi),none,none],[some o7]⟩) rfl ?_ ?_
   ·rintro i2 xw δ L2 _ rfl Cc
    have Cc:=Cc _ rfl
    refine⟨trivial,?_⟩
    simp only[cf,YA,YB]
    refine pW fun g' b' K2 hg hb' hK => ?_
    simp? only []
    refine⟨by decide,?_⟩
    subst hg hb' hK
    refine me (fun _ δ => δ = ⟨[none,some (.o 0),some (.p (.int jt)),some (.p (.int t)),some (.p (.tup [.int m,.tup (ws.map bQ)])),some (.p (.lst odd)),some (.p (.lst hs)),some (.p vi),some (.p xw),none],[some o7]⟩) rfl ?_ ?_
    ·rintro i3 d3 δ L3 UR rfl Cd
     have Cd:=Cd _ rfl
     obtain⟨_,rfl⟩:=lZ UR
     refine⟨trivial,?_⟩
     simp only[cf,YA,YB]
     refine iX fun A1 B1 hA hB => ?_
     simp? only []
     refine⟨0 + (i3:Int),m,ws,vi,xw,t,W,by omega,rfl,rfl,?_⟩
     simp? only []
     refine⟨m,ws,vi,xw,W,rfl,rfl,?_⟩
     have dd:=UP m vi xw
     simp? only []
     refine⟨by omega,?_⟩
     rw[nu]
     simp? only []
     subst hB
     exact Cd
    ·rintro δ rfl
     exact⟨trivial,Cc⟩
   ·rintro δ rfl
    exact⟨trivial,Cb⟩
  ·rintro δ rfl
   exact⟨trivial,hL _ ⟨o7,P7.mono (by omega),rfl⟩⟩
 ·rintro δ ⟨o,P,rfl⟩
  refine⟨trivial,?_⟩
  subst hN
  simp? only []
end LJ
namespace LJ
open PySem L2
noncomputable def top (i:Nat):Stmt:=PySem.Challenge.pw_lotjoin_k73_houses_refused.main.body.getD i (.Pass ⟨0,0,0,0⟩)
section
variable [aE] {Z:Ev}
noncomputable abbrev IV:Stmt:=top 19
noncomputable abbrev IW (Z:Ev):Prop:=Fx Z 1 "is_whole" ["thing"] 1 wX
theorem US (D:Dx Z "is_whole" IV) (B:BT Z.mg):IW Z:=dR (N:=["thing"]) D ku fun hr nd hu=>⟨Az,(a7 (bD (lQ (pK Gr (by rfl) B.isinstance (by rfl) B.int Fj (dv 0)) (lP (FG (pK Gs (by rfl) B.isinstance (by rfl) B.bool Fi (dv 0))))))),Hl⟩
noncomputable abbrev IX:Stmt:=top 20
noncomputable abbrev rH (Z:Ev):Prop:=Fx Z 2 "is_within" ["thing", "least", "most"] 3 k9
theorem UT (D:Dx Z "is_within" IX) (B:BT Z.mg) (UU:IW Z):rH Z:=dR (N:=["thing", "least", "most"]) D la fun hr nd hu=>⟨AA,(a7 (bD (lQ (aF UU hr (ah (dv 0) aB)) (lP (zY wz wz (dv 1) (dv 0) (dv 2)))))),Hm⟩
noncomputable abbrev IY:Stmt:=top 21
noncomputable abbrev Ce (Z:Ev):Prop:=Fx Z 1 "is_tuple_of" ["thing", "size"] 2 wY
theorem UW (D:Dx Z "is_tuple_of" IY) (B:BT Z.mg):Ce Z:=dR (N:=["thing", "size"]) D kz fun hr nd hu=>⟨AB,(a7 (bD (lQ (pK Gu (by rfl) B.isinstance (by rfl) B.tuple zk (dv 0)) (lP (lM (gv hu) (jh l9 (by rfl) B.len Zg (ah (dv 0) aB)) (dv 1) (by rfl)))))),RC⟩
noncomputable abbrev IZ:Stmt:=top 22
noncomputable abbrev I0 (Z:Ev):Prop:=Fx Z 3 "are_ends" ["many", "one", "other"] 3 AD
theorem UX (D:Dx Z "are_ends" IZ) (B:BT Z.mg) (kF:rH Z):I0 Z:=dR (N:=["many", "one", "other"]) D la fun hr nd hu=>⟨AE,(a7 (bD (lQ (aF kF hr (ah (dv 1) (aJ aq (eA (bu j9 (dv 0) aq) aB)))) (lP (aF kF hr (ah (dv 2) (eA (bu eO (dv 1) aq) (eA (bu j9 (dv 0) aq) aB)))))))),RD⟩
noncomputable abbrev I_:Stmt:=top 23
noncomputable abbrev Ja (Z:Ev):Prop:=Fx Z 4 "is_way" ["many", "thing"] 2 AF
theorem UY (D:Dx Z "is_way" I_) (B:BT Z.mg) (UZ:Ct Z "MOST_PRICE" 1000000000) (Cf:Ce Z) (U0:I0 Z) (kF:rH Z):Ja Z:=dR (N:=["many", "thing"]) D kz fun hr nd hu=>⟨AG,(a8 (dX (jj (iz (aF Cf hr (ah (dv 1) (aJ aq aB))))) (a7 (bD jD)) eB) (a7 (bD (lQ (aF U0 hr (ah (dv 0) (bp (bh bj (dv 1) aq (fun _ _=>rfl)) (bp (bh bj (dv 1) aq (fun _ _=>rfl)) aB)))) (lP (aF kF hr (bp (bh bj (dv 1) aq (fun _ _=>rfl)) (aJ aq (ah (BI UZ) aB))))))))),RF⟩
noncomputable abbrev Jb:Stmt:=top 24
noncomputable abbrev Jc (Z:Ev):Prop:=Fx Z 5 "are_ways" ["many", "thing"] 2 AJ
theorem U1 (D:Dx Z "are_ways" Jb) (B:BT Z.mg) (U2:Ct Z "MOST_WAYS" 30) (U3:Ja Z):Jc Z:=dR (N:=["many", "thing"]) D kz fun hr nd hu=>⟨AK,(a8 (dX (JW.jt (tR (jj (iz (pK Gu (by rfl) B.isinstance (by rfl) B.tuple zk (dv 1)))) (v9 (dA wA (jh l9 (by rfl) B.len Zg (ah (dv 1) aB)) (BI U2) (by rfl))))) (a7 (bD jD)) eB) (a8 (dX (jj (iz (jh (Qh rfl) (by rfl) B.all Pa (eA (kY [none,some 0] ["way", "many"] rfl (iB (dv 1)) (fun d=>(dQ (i:=0) (show (["way", "many"]:List Str).Nodup by decide +kernel) rfl (by trivial))) (fun d=>qN) (fun d=>(aF U3 hr (ah (dv 1) (ah (dv 0) aB))))) aB)))) (a7 (bD jD)) eB) (a7 (bD (lM (gv hu) (RB rfl hu (by rfl) B.len Zg (by rfl) B.set O_ (eA (kY [none] ["way"] rfl (iB (dv 1)) (fun d=>(dQ (i:=0) (show (["way"]:List Str).Nodup by decide +kernel) rfl (by trivial))) (fun d=>qN) (fun d=>(Ri (dv 0) Qb (Qc aq)))) aB)) (jh l9 (by rfl) B.len Zg (ah (dv 1) aB)) (by rfl)))))),RG⟩
noncomputable abbrev Jd:Stmt:=top 25
noncomputable abbrev Cg (Z:Ev):Prop:=Fx Z 6 "is_web" ["thing"] 1 wZ
theorem U4 (D:Dx Z "is_web" Jd) (B:BT Z.mg) (U5:Ct Z "MOST_HOUSES" 12) (Cf:Ce Z) (kF:rH Z) (U6:Jc Z):Cg Z:=dR (N:=["thing"]) D ku fun hr nd hu=>⟨AL,(a8 (dX (jj (iz (aF Cf hr (ah (dv 0) (aJ aq aB))))) (a7 (bD jD)) eB) (a7 (bD (lQ (aF kF hr (bp (bh bj (dv 0) aq (fun _ _=>rfl)) (aJ aq (ah (BI U5) aB)))) (lP (aF U6 hr (bp (bh bj (dv 0) aq (fun _ _=>rfl)) (bp (bh bj (dv 0) aq (fun _ _=>rfl)) aB)))))))),RI⟩
noncomputable abbrev Ci:Stmt:=top 26
noncomputable abbrev Je (Z:Ev):Prop:=Fx Z 7 "need_web" ["web"] 1 Ba
theorem U7 (D:Dx Z "need_web" Ci) (B:BT Z.mg) (Cj:Cg Z):Je Z:=dR (N:=["web"]) D ku fun hr nd hu=>⟨Bb,(a7 (dX (jj (iz (aF Cj hr (ah (dv 0) aB)))) (a7 Qz) eB)),Sv⟩
noncomputable abbrev Jf:Stmt:=top 27
noncomputable abbrev xx (Z:Ev):Prop:=Fx Z 1 "rank_of" ["way"] 1 uQ
theorem U8 (D:Dx Z "rank_of" Jf) (B:BT Z.mg):xx Z:=dR (N:=["way"]) D ku fun hr nd hu=>⟨Bc,(a7 (bD (lO (bp (bh bj (dv 0) aq (fun _ _=>rfl)) (bp (bh bj (dv 0) aq (fun _ _=>rfl)) (bp (bh bj (dv 0) aq (fun _ _=>rfl)) aB)))))),Sw⟩
noncomputable abbrev Jg:Stmt:=top 28
noncomputable abbrev Jh (Z:Ev):Prop:=Fx Z 11 "order_of" ["web"] 1 Bd
theorem U9 {T:Addr} (D:rD Z "order_of" Jg T ⟨72,40,72,76⟩ ((("order_of" : Str) ++ ".<locals>.") ++ "<lambda>")) (B:BT Z.mg) (U_:Je Z) (vj:xx Z):Jh Z:=BL (N:=["web", "ways"]) D ku fun LD hc hr nd hu=>⟨Be,(a8 (v_ (aF U_ hr (ah (dv 0) aB))) (a8 (b9 (i:=1) nd rfl (by trivial) (bh bj (dv 0) aq (fun _ _=>rfl))) (a7 (bD (So (d8.mk (x := "number") (Nb:=["ways"]) (cp:=[some 1]) ⟨LD.env hc,LD.ng,LD.blt⟩ LD.tbl rfl rfl (by first | rfl | kernel_rfl) rfl rfl (fun _ _ _ _ _=>rfl) ⟨1,hr.mono (by decide),fun d hr=>(aF vj hr (bp (bh bj (dv 1) (dv 0) (fun _ _=>rfl)) aB))⟩) rfl (by rfl) B.sorted GJ (by rfl) B.range GH (cQ (jh l9 (by rfl) B.len Zg (ah (dv 1) aB)) aB)))))),Sz⟩
noncomputable abbrev Ji:Stmt:=top 30
noncomputable abbrev Cm (Z:Ev):Prop:=Fx Z 1 "joined" ["firsts", "one", "other"] 3 uD
theorem Va (D:Dx Z "joined" Ji) (B:BT Z.mg):Cm Z:=dR (N:=["firsts", "one", "other", "gone", "kept"]) D la fun hr nd hu=>⟨AN,(a8 (b9 (i:=3) nd rfl (by trivial) (jh (Qi rfl) (by rfl) B.max GI (bp (bh bj (dv 0) (dv 1) (fun _ _=>rfl)) (bp (bh bj (dv 0) (dv 2) (fun _ _=>rfl)) aB)))) (a8 (b9 (i:=4) nd rfl (by trivial) (jh (Gq rfl) (by rfl) B.min Aa (bp (bh bj (dv 0) (dv 1) (fun _ _=>rfl)) (bp (bh bj (dv 0) (dv 2) (fun _ _=>rfl)) aB)))) (a7 (bD (kY [none,some 4,some 3] ["first", "kept", "gone"] rfl (iB (dv 0)) (fun d=>(dQ (i:=0) (show (["first", "kept", "gone"]:List Str).Nodup by decide +kernel) rfl (by trivial))) (fun d=>qN) (fun d=>(Pn (dA (gv hu) (dv 0) (dv 2) (by rfl)) (dv 1) (dv 0)))))))),RL⟩
noncomputable abbrev Jj:Stmt:=top 31
noncomputable abbrev xy (Z:Ev):Prop:=Fx Z 2 "firsts_of" ["web", "ways"] 2 uE
theorem Vb (D:Dx Z "firsts_of" Jj) (B:BT Z.mg) (Co:Cm Z):xy Z:=dR (N:=["web", "ways", "firsts", "number", "way"]) D kz fun hr nd hu=>⟨w5,(a8 (b9 (i:=2) nd rfl (by trivial) (Qj rfl (by rfl) B.list Fl (by rfl) B.range GH (bp (bh bj (dv 0) aq (fun _ _=>rfl)) aB))) (a8 (lT Y5 rfl (iB (dv 1)) (dQ (i:=3) nd rfl (by trivial)) (a8 (b9 (i:=4) nd rfl (by trivial) (bh bj (bh bj (dv 0) aq (fun _ _=>rfl)) (dv 3) (fun _ _=>rfl))) (a7 (b9 (i:=2) nd rfl (by trivial) (aF Co hr (ah (dv 2) (bp (bh bj (dv 4) aq (fun _ _=>rfl)) (bp (bh bj (dv 4) aq (fun _ _=>rfl)) aB)))))))) (a7 (bD (dv 2))))),RM⟩
noncomputable abbrev Jk:Stmt:=top 33
noncomputable abbrev Jl (Z:Ev):Prop:=Fx Z 3 "is_rising" ["thing", "many"] 2 BB
theorem Vc (D:Dx Z "is_rising" Jk) (B:BT Z.mg) (kF:rH Z):Jl Z:=dR (N:=["thing", "many", "least", "number"]) D kz fun hr nd hu=>⟨BC,(a8 (dX (jj (iz (pK Qn (by rfl) B.isinstance (by rfl) B.list Fl (dv 0)))) (a7 (bD jD)) eB) (a8 (b9 (i:=2) nd rfl (by trivial) aq) (a8 (lT Y5 rfl (iB (dv 0)) (dQ (i:=3) nd rfl (by trivial)) (a8 (dX (jj (iz (aF kF hr (ah (dv 3) (ah (dv 2) (eA (bu j9 (dv 1) aq) aB)))))) (a7 (bD jD)) eB) (a7 (b9 (i:=2) nd rfl (by trivial) (bu eO (dv 3) aq))))) (a7 (bD jD))))),TQ⟩
noncomputable abbrev Jo:Stmt:=top 34
noncomputable abbrev Jp (Z:Ev):Prop:=Fx Z 5 "least_of" ["web", "ways"] 2 Bt
theorem Vd {T:Addr} (D:rD Z "least_of" Jo T ⟨95,25,95,63⟩ ((("least_of" : Str) ++ ".<locals>.") ++ "<lambda>")) (B:BT Z.mg) (vj:xx Z):Jp Z:=BL (N:=["web", "ways"]) D kz fun LD hc hr nd hu=>⟨Bu,(a7 (bD (Ig false (d8.mk (x := "number") (Nb:=["web"]) (cp:=[some 0]) ⟨LD.env hc,LD.ng,LD.blt⟩ LD.tbl rfl rfl (by first | rfl | kernel_rfl) rfl rfl (fun _ _ _ _ _=>rfl) ⟨1,hr.mono (by decide),fun d hr=>(aF vj hr (bp (bh bj (bh bj (dv 1) aq (fun _ _=>rfl)) (dv 0) (fun _ _=>rfl)) aB))⟩) hu (by rfl) B.min Aa (ah (dv 1) aB)))),Tu⟩
noncomputable abbrev Jq:Stmt:=top 35
noncomputable abbrev Jr (Z:Ev):Prop:=Fx Z 5 "greatest_of" ["web", "ways"] 2 Bv
theorem Ve {T:Addr} (D:rD Z "greatest_of" Jq T ⟨97,25,97,63⟩ ((("greatest_of" : Str) ++ ".<locals>.") ++ "<lambda>")) (B:BT Z.mg) (vj:xx Z):Jr Z:=BL (N:=["web", "ways"]) D kz fun LD hc hr nd hu=>⟨Bw,(a7 (bD (Ig true (d8.mk (x := "number") (Nb:=["web"]) (cp:=[some 0]) ⟨LD.env hc,LD.ng,LD.blt⟩ LD.tbl rfl rfl (by first | rfl | kernel_rfl) rfl rfl (fun _ _ _ _ _=>rfl) ⟨1,hr.mono (by decide),fun d hr=>(aF vj hr (bp (bh bj (bh bj (dv 1) aq (fun _ _=>rfl)) (dv 0) (fun _ _=>rfl)) aB))⟩) hu (by rfl) B.max GI (ah (dv 1) aB)))),TJ⟩
noncomputable abbrev Js:Stmt:=top 36
noncomputable abbrev Jt (Z:Ev):Prop:=Fx Z 1 "leads_out" ["way", "houses"] 2 Bp
theorem Vf (D:Dx Z "leads_out" Js) (B:BT Z.mg):Jt Z:=dR (N:=["way", "houses"]) D kz fun hr nd hu=>⟨Bq,(a7 (bD (lM (qV hu) (lM (zV hu) (bh bj (dv 0) aq (fun _ _=>rfl)) (dv 1) (by rfl)) (lM (zV hu) (bh bj (dv 0) aq (fun _ _=>rfl)) (dv 1) (by rfl)) (by rfl)))),Tr⟩
noncomputable abbrev Ju:Stmt:=top 37
noncomputable abbrev Jv (Z:Ev):Prop:=Fx Z 2 "ways_out" ["web", "houses"] 2 Br
theorem Vg (D:Dx Z "ways_out" Ju) (B:BT Z.mg) (Vh:Jt Z):Jv Z:=dR (N:=["web", "houses"]) D kz fun hr nd hu=>⟨Bs,(a7 (bD (kY [none,none,some 1] ["number", "way", "houses"] rfl (F7 (by rfl) B.enumerate (bp (bh bj (dv 0) aq (fun _ _=>rfl)) aB)) (fun d=>(zz rfl (qM (dQ (i:=0) (show (["number", "way", "houses"]:List Str).Nodup by decide +kernel) rfl (by trivial)) (qM (dQ (i:=1) (show (["number", "way", "houses"]:List Str).Nodup by decide +kernel) rfl (by trivial)) zy)))) (fun d=>(lU (iz (aF Vh hr (ah (dv 1) (ah (dv 2) aB)))))) (fun d=>(dv 0))))),Tt⟩
noncomputable abbrev Jw:Stmt:=top 38
noncomputable abbrev Cp (Z:Ev):Prop:=Fx Z 3 "lot_at" ["web", "ways", "house"] 3 xn
theorem Vi (D:Dx Z "lot_at" Jw) (B:BT Z.mg) (vk:xy Z):Cp Z:=dR (N:=["web", "ways", "house", "firsts"]) D la fun hr nd hu=>⟨BE,(a8 (b9 (i:=3) nd rfl (by trivial) (aF vk hr (ah (dv 0) (ah (dv 1) aB)))) (a7 (bD (kY [none,none,some 3,some 2] ["near", "first", "firsts", "house"] rfl (F7 (by rfl) B.enumerate (ah (dv 3) aB)) (fun d=>(zz rfl (qM (dQ (i:=0) (show (["near", "first", "firsts", "house"]:List Str).Nodup by decide +kernel) rfl (by trivial)) (qM (dQ (i:=1) (show (["near", "first", "firsts", "house"]:List Str).Nodup by decide +kernel) rfl (by trivial)) zy)))) (fun d=>(lU (dA (gv hu) (dv 1) (bh bj (dv 2) (dv 3) (fun _ _=>rfl)) (by rfl)))) (fun d=>(dv 0)))))),TR⟩
noncomputable abbrev Jx:Stmt:=top 39
noncomputable abbrev Jy (Z:Ev):Prop:=Fx Z 3 "parts" ["web", "ways", "gone", "one", "other"] 5 Bx
theorem Vj (D:Dx Z "parts" Jx) (B:BT Z.mg) (vk:xy Z):Jy Z:=dR (N:=["web", "ways", "gone", "one", "other", "firsts"]) D BK fun hr nd hu=>⟨By,(a8 (b9 (i:=5) nd rfl (by trivial) (aF vk hr (ah (dv 0) (eA (kY [none,some 2] ["number", "gone"] rfl (iB (dv 1)) (fun d=>(dQ (i:=0) (show (["number", "gone"]:List Str).Nodup by decide +kernel) rfl (by trivial))) (fun d=>(lU (dA (qV hu) (dv 0) (dv 1) (by rfl)))) (fun d=>(dv 0))) aB)))) (a7 (bD (lM (qV hu) (bh bj (dv 5) (dv 3) (fun _ _=>rfl)) (bh bj (dv 5) (dv 4) (fun _ _=>rfl)) (by rfl))))),TK⟩
noncomputable abbrev Jz:Stmt:=top 40
noncomputable abbrev JB (Z:Ev):Prop:=Fx Z 4 "road_of" ["web", "ways", "one", "other"] 4 BF
theorem Vk (D:Dx Z "road_of" Jz) (B:BT Z.mg) (Vl:Jy Z):JB Z:=dR (N:=["web", "ways", "one", "other"]) D Iv fun hr nd hu=>⟨BG,(a7 (bD (kY [none,some 0,some 1,some 2,some 3] ["number", "web", "ways", "one", "other"] rfl (iB (dv 1)) (fun d=>(dQ (i:=0) (show (["number", "web", "ways", "one", "other"]:List Str).Nodup by decide +kernel) rfl (by trivial))) (fun d=>(lU (iz (aF Vl hr (ah (dv 1) (ah (dv 2) (ah (dv 0) (ah (dv 3) (ah (dv 4) aB))))))))) (fun d=>(dv 0))))),TU⟩
noncomputable abbrev JD:Stmt:=top 42
noncomputable abbrev Cq (Z:Ev):Prop:=Fx Z 12 "forest_of" ["web"] 1 xg
theorem Vm (D:Dx Z "forest_of" JD) (B:BT Z.mg) (Vn:Jh Z) (vk:xy Z) (Co:Cm Z):Cq Z:=dR (N:=["web", "order", "forest", "firsts", "number", "way"]) D ku fun hr nd hu=>⟨Bg,(a8 (b9 (i:=1) nd rfl (by trivial) (aF Vn hr (ah (dv 0) aB))) (a8 (b9 (i:=2) nd rfl (by trivial) (zv aB)) (a8 (b9 (i:=3) nd rfl (by trivial) (aF vk hr (ah (dv 0) (ah (dv 2) aB)))) (a8 (lT Y5 rfl (iB (dv 1)) (dQ (i:=4) nd rfl (by trivial)) (a8 (b9 (i:=5) nd rfl (by trivial) (bh bj (bh bj (dv 0) aq (fun _ _=>rfl)) (dv 4) (fun _ _=>rfl))) (a7 (dX (dA (qV hu) (bh bj (dv 3) (bh bj (dv 5) aq (fun _ _=>rfl)) (fun _ _=>rfl)) (bh bj (dv 3) (bh bj (dv 5) aq (fun _ _=>rfl)) (fun _ _=>rfl)) (by rfl)) (a8 (v_ ((qE Y7 q1i q1j yz (dv 2) (ah (dv 4) aB)).weak Gv)) (a7 (b9 (i:=3) nd rfl (by trivial) (aF Co hr (ah (dv 3) (bp (bh bj (dv 5) aq (fun _ _=>rfl)) (bp (bh bj (dv 5) aq (fun _ _=>rfl)) aB))))))) eB)))) (a7 (bD (Qw Qx (by rfl) B.sorted GJ (ah (dv 2) aB)))))))),SH⟩
noncomputable abbrev JH:Stmt:=top 45
noncomputable abbrev Cr (Z:Ev):Prop:=Fx Z 6 "greatest_between" ["web", "forest", "one", "other"] 4 xo
theorem Vo (D:Dx Z "greatest_between" JH) (B:BT Z.mg) (Cu:Cp Z) (Vp:Jr Z) (Vq:JB Z):Cr Z:=dR (N:=["web", "forest", "one", "other"]) D Iv fun hr nd hu=>⟨BH,(a8 (dX (dA (Gg hu) (dv 3) (aF Cu hr (ah (dv 0) (ah (dv 1) (ah (dv 2) aB)))) (by rfl)) (a7 (bD qH)) eB) (a7 (bD (aF Vp hr (ah (dv 0) (cQ (aF Vq hr (ah (dv 0) (ah (dv 1) (ah (dv 2) (ah (dv 3) aB))))) aB)))))),TV⟩
noncomputable abbrev JJ:Stmt:=top 49
noncomputable abbrev JK (Z:Ev):Prop:=Fx Z 1 "_law_spread" ["cell", "at"] 2 Am
theorem Vr (D:Dx Z "_law_spread" JJ) (B:BT Z.mg):JK Z:=dR (N:=["cell", "at", "primes", "one", "two", "three"]) D kz fun hr nd hu=>⟨An,(a8 (dX (dA P9 (dv 0) (bu l7 aq aq) (by rfl)) (a7 (bD (dv 0))) eB) (a8 (b9 (i:=2) nd rfl (by trivial) (gZ (aJ aq (aJ aq (aJ aq (aJ aq (aJ aq (aJ aq (aJ aq (aJ aq aB)))))))))) (a8 (b9 (i:=2) nd rfl (by trivial) (bu eO (dv 2) (gZ (aJ aq (aJ aq (aJ aq (aJ aq (aJ aq aB)))))))) (a8 (b9 (i:=3) nd rfl (by trivial) (bu jF (bu l7 (bu eO (bu eO (bu pE (bu jF (dv 0) aq) (bu eO (bu pE aq (dv 1)) aq)) (bu pE (dv 1) aq)) aq) aq) (bh bj (dv 2) (bu jF (dv 1) aq) (fun _ _=>rfl)))) (a8 (b9 (i:=4) nd rfl (by trivial) (bu jF (bu l7 (bu eO (bu eO (bu pE (dv 3) (bu eO (dv 1) aq)) (bu jF (dv 0) aq)) aq) aq) (bh bj (dv 2) (bu jF (bu eO (dv 1) aq) aq) (fun _ _=>rfl)))) (a8 (b9 (i:=5) nd rfl (by trivial) (bu jF (bu l7 (bu eO (bu eO (dv 4) (bu jF (dv 3) aq)) (dv 1)) aq) (bh bj (dv 2) (bu jF (bu eO (dv 1) aq) aq) (fun _ _=>rfl)))) (a7 (bD (bu eO (bu pE (bu eO (bu pE (dv 3) aq) (dv 4)) aq) (dv 5)))))))))),Rn⟩
noncomputable abbrev JL:Stmt:=top 51
noncomputable abbrev JM (Z:Ev):Prop:=Fx Z 1 "_law_anew" ["pen"] 1 Ao
theorem Vs (D:Dx Z "_law_anew" JL) (B:BT Z.mg):JM Z:=dR (N:=["pen"]) D ku fun hr nd hu=>⟨Ap,(a8 ((qC aq (tH (dv 0) aq set_list)).weak wG) (a7 (bD (dv 0)))),Ro⟩
noncomputable abbrev JN:Stmt:=top 52
noncomputable abbrev xA (Z:Ev):Prop:=Fx Z 2 "_law_take" ["pen", "many"] 2 gg
theorem Vt (D:Dx Z "_law_take" JN) (B:BT Z.mg) (Vu:JK Z):xA Z:=dR (N:=["pen", "many", "at", "cell", "found"]) D kz fun hr nd hu=>⟨Aq,(a8 (dX (dA (wy hu) (bh bj (dv 0) aq (fun _ _=>rfl)) (dv 1) (by rfl)) (a8 (b9 (i:=2) nd rfl (by trivial) (bh bj (dv 0) aq (fun _ _=>rfl))) (a8 (b9 (i:=3) nd rfl (by trivial) aq) (a8 (dX (dA (wy hu) (dv 2) (jh l9 (by rfl) B.len Zg (bp (bh bj (dv 0) aq (fun _ _=>rfl)) aB)) (by rfl)) (a7 (b9 (i:=3) nd rfl (by trivial) (bh bj (bh bj (dv 0) aq (fun _ _=>rfl)) (dv 2) (fun _ _=>rfl)))) (a7 (dX (dA wA (jh l9 (by rfl) B.len Zg (bp (bh bj (dv 0) aq (fun _ _=>rfl)) aB)) aq (by rfl)) (a7 (b9 (i:=3) nd rfl (by trivial) (bu jF (bh bj (bh bj (dv 0) aq (fun _ _=>rfl)) (bu jF (bu eO (bu pE (dv 2) aq) aq) (jh l9 (by rfl) B.len Zg (bp (bh bj (dv 0) aq (fun _ _=>rfl)) aB))) (fun _ _=>rfl)) (bu eO (bu l7 aq aq) (dv 2))))) eB))) (a8 ((qC (bu eO (dv 2) aq) (tH (dv 0) aq set_list)).weak wG) (a7 ((qC (aF Vu hr (ah (dv 3) (ah (dv 2) aB))) (tH (dv 0) aq set_list)).weak wG)))))) eB) (a8 (b9 (i:=4) nd rfl (by trivial) (bu jF (bh bj (dv 0) aq (fun _ _=>rfl)) (dv 1))) (a8 ((qC (bu P8 (bh bj (dv 0) aq (fun _ _=>rfl)) (dv 1)) (tH (dv 0) aq set_list)).weak wG) (a7 (bD (dv 4)))))),Rp⟩
noncomputable abbrev JO:Stmt:=top 54
noncomputable abbrev JP (Z:Ev):Prop:=Fx Z 3 "_law_pairs_of" ["pen", "kind", "many"] 3 Ar
theorem Vv (D:Dx Z "_law_pairs_of" JO) (B:BT Z.mg) (gn:xA Z):JP Z:=dR (N:=["pen", "kind", "many", "every", "other", "ring", "half"]) D la fun hr nd hu=>⟨As,(a8 (b9 (i:=3) nd rfl (by trivial) (zv aB)) (a8 (lT Y5 rfl (qR (by rfl) B.range (ah (dv 2) aB)) (dQ (i:=4) nd rfl (by trivial)) (a7 (v_ ((qE Y7 PySem.F.slot_list_extend PySem.F.type_list_extend M_ (dv 3) (eA (kY [none,some 4] ["one", "other"] rfl (qR (by rfl) B.range (ah (dv 4) aB)) (fun d=>(dQ (i:=0) (show (["one", "other"]:List Str).Nodup by decide +kernel) rfl (by trivial))) (fun d=>qN) (fun d=>(lO (ah (dv 0) (ah (dv 1) aB))))) aB)).weak Qo)))) (a8 (dX (dA (gv hu) (dv 1) aq (by rfl)) (a7 (bD (we [none,some 0] ["other", "pen"] rfl (PZ (by rfl) B.range (aJ aq (ah (dv 2) aB))) (fun d=>(dQ (i:=0) (show (["other", "pen"]:List Str).Nodup by decide +kernel) rfl (by trivial))) (fun d=>qN) (fun d=>(lO (cQ (aF gn hr (ah (dv 1) (ah (dv 0) aB))) (ah (dv 0) aB))))))) eB) (a8 (dX (dA (gv hu) (dv 1) aq (by rfl)) (a8 (Pt [none] ["k"] (i:=5) nd rfl (by trivial) rfl (qR (by rfl) B.range (eA (bu j9 (dv 2) aq) aB)) (fun d=>(dQ (i:=0) (show (["k"]:List Str).Nodup by decide +kernel) rfl (by trivial))) (fun d=>qN) (fun d=>(lO (ah (dv 0) (eA (bu eO (dv 0) aq) aB))))) (a7 (bD (Qy (dv 5) (kY [none,some 2] ["pair", "many"] rfl (iB (dv 3)) (fun d=>(dQ (i:=0) (show (["pair", "many"]:List Str).Nodup by decide +kernel) rfl (by trivial))) (fun d=>(lU (JW.jt (FF (dA (gv hu) (dv 0) (lO (aJ aq (eA (bu j9 (dv 1) aq) aB))) (by rfl)) (FE (dA wA (dv 1) aq (by rfl))))))) (fun d=>(dv 0))))))) eB) (a8 (dX (dA (gv hu) (dv 1) aq (by rfl)) (a7 (bD (dv 3))) eB) (a8 (dX (dA (gv hu) (dv 1) aq (by rfl)) (a7 (bD (we [none,some 0] ["pair", "pen"] rfl (iB (dv 3)) (fun d=>(dQ (i:=0) (show (["pair", "pen"]:List Str).Nodup by decide +kernel) rfl (by trivial))) (fun d=>(lU (dA (gv hu) (aF gn hr (ah (dv 1) (aJ aq aB))) aq (by rfl)))) (fun d=>(dv 0))))) eB) (a8 (dX (dA (gv hu) (dv 1) aq (by rfl)) (a8 (b9 (i:=6) nd rfl (by trivial) (aF gn hr (ah (dv 0) (eA (bu eO (dv 2) aq) aB)))) (a7 (bD (we [none,some 6,some 0] ["pair", "half", "pen"] rfl (iB (dv 3)) (fun d=>(dQ (i:=0) (show (["pair", "half", "pen"]:List Str).Nodup by decide +kernel) rfl (by trivial))) (fun d=>(lU (JW.jt (FF (dA (gv hu) (lM (wy hu) (bh bj (dv 0) aq (fun _ _=>rfl)) (dv 1) (by rfl)) (lM (wy hu) (bh bj (dv 0) aq (fun _ _=>rfl)) (dv 1) (by rfl)) (by rfl)) (FE (dA wA (aF gn hr (ah (dv 2) (aJ aq aB))) aq (by rfl))))))) (fun d=>(dv 0)))))) eB) (a7 (bD (we [none,some 0] ["pair", "pen"] rfl (iB (dv 3)) (fun d=>(dQ (i:=0) (show (["pair", "pen"]:List Str).Nodup by decide +kernel) rfl (by trivial))) (fun d=>(lU (dA (gv hu) (aF gn hr (ah (dv 1) (aJ aq aB))) aq (by rfl)))) (fun d=>(dv 0)))))))))))),Rt⟩
noncomputable abbrev JQ:Stmt:=top 55
noncomputable abbrev JR (Z:Ev):Prop:=Fx Z 4 "_law_web" ["pen", "houses", "most"] 3 Aw
theorem Vw (D:Dx Z "_law_web" JQ) (B:BT Z.mg) (gn:xA Z) (Vx:JP Z):JR Z:=dR (N:=["pen", "houses", "most", "kind", "prices", "many", "pairs", "ways", "k", "one", "other", "price"]) D la fun hr nd hu=>⟨Ax,(a8 (b9 (i:=3) nd rfl (by trivial) (aF gn hr (ah (dv 0) (aJ aq aB)))) (a8 (b9 (i:=4) nd rfl (by trivial) (aF gn hr (ah (dv 0) (aJ aq aB)))) (a8 (b9 (i:=5) nd rfl (by trivial) (bu eO aq (aF gn hr (ah (dv 0) (ah (dv 1) aB))))) (a8 (b9 (i:=6) nd rfl (by trivial) (TX Vx hr (ah (dv 0) (ah (dv 3) (ah (dv 5) aB))))) (a8 (b9 (i:=7) nd rfl (by trivial) (zv aB)) (a8 (lT Y5 rfl (qR (by rfl) B.range (cQ (jh (Gq rfl) (by rfl) B.min Aa (ah (dv 2) (cQ (jh l9 (by rfl) B.len Zg (ah (dv 6) aB)) aB))) aB)) (dQ (i:=8) nd rfl (by trivial)) (a8 (Pq ((qE Y7 PySem.F.slot_list_pop PySem.F.type_list_pop Na (dv 6) (cQ (aF gn hr (ah (dv 0) (cQ (jh l9 (by rfl) B.len Zg (ah (dv 6) aB)) aB))) aB)).weak Qp) (zz rfl (qM (dQ (i:=9) nd rfl (by trivial)) (qM (dQ (i:=10) nd rfl (by trivial)) zy)))) (a8 (b9 (i:=11) nd rfl (by trivial) (bh bj (gZ (aJ aq (cQ (aF gn hr (ah (dv 0) (aJ aq aB))) (eA (bu j9 (bu l7 aq aq) (aF gn hr (ah (dv 0) (aJ aq aB)))) (cQ (aF gn hr (ah (dv 0) (eA (bu eO (bu l7 aq aq) aq) aB))) aB))))) (dv 4) (fun _ _=>rfl))) (a7 (v_ ((qE Y7 q1i q1j yz (dv 7) (tP (lO (ah (dv 9) (ah (dv 10) (ah (dv 11) aB)))) aB)).weak Gv)))))) (a7 (bD (lO (ah (dv 5) (cQ (Pj Qg (by rfl) B.tuple zk (ah (dv 7) aB)) aB))))))))))),Ru⟩
noncomputable abbrev JU:Stmt:=top 53
noncomputable abbrev JV (Z:Ev):Prop:=Fx Z 1 "_law_is_whole" ["thing"] 1 AM
theorem Vy (D:Dx Z "_law_is_whole" JU) (B:BT Z.mg):JV Z:=dR (N:=["thing"]) D ku fun hr nd hu=>⟨Hr,(a7 (bD (lQ (pK Gr (by rfl) B.isinstance (by rfl) B.int Fj (dv 0)) (lP (FG (pK Gs (by rfl) B.isinstance (by rfl) B.bool Fi (dv 0))))))),RJ⟩
noncomputable abbrev JX:Stmt:=top 56
noncomputable abbrev JY (Z:Ev):Prop:=Fx Z 2 "_law_is_in" ["thing", "low", "high"] 3 w4
theorem Vz (D:Dx Z "_law_is_in" JX) (B:BT Z.mg) (VA:JV Z):JY Z:=dR (N:=["thing", "low", "high"]) D la fun hr nd hu=>⟨Hs,(a7 (bD (lQ (aF VA hr (ah (dv 0) aB)) (lP (zY wz wz (dv 1) (dv 0) (dv 2)))))),RK⟩
noncomputable abbrev JZ:Stmt:=top 59
noncomputable abbrev J0 (Z:Ev):Prop:=Fx Z 3 "_law_due" ["web", "one", "other"] 3 B9
theorem VB (D:Dx Z "_law_due" JZ) (B:BT Z.mg) (J7:JY Z):J0 Z:=dR (N:=["web", "one", "other"]) D la fun hr nd hu=>⟨B_,(a8 (dX (jj (iz (aF J7 hr (ah (dv 1) (aJ aq (eA (bu j9 (bh bj (dv 0) aq (fun _ _=>rfl)) aq) aB)))))) (a7 (bD (gZ (aJ tO (aJ aq aB))))) eB) (a8 (dX (JW.jt (tR (jj (iz (aF J7 hr (ah (dv 2) (aJ aq (eA (bu j9 (bh bj (dv 0) aq (fun _ _=>rfl)) aq) aB)))))) (v9 (dA (gv hu) (dv 1) (dv 2) (by rfl))))) (a7 (bD (gZ (aJ tO (aJ aq aB))))) eB) (a7 (bD (gZ (aJ tO aB)))))),UO⟩
noncomputable abbrev J8 (Z:Ev) (Cs:List Addr):Prop:=Fy Z Cs 7 "need_web" ["web"] 1 xt
theorem VC {Cs:List Addr} (D:Dx Z "need_web" Ci) (B:BT Z.mg) (mG:ET Z Cs 4 "NoWeb") (Cj:Cg Z):J8 Z Cs:=rF (N:=["web"]) D ku UE fun R hr nd hu=>⟨B3 bM.ok,(a7 (dX (jj (iz (aF Cj hr (ah (dv 0) aB)))) (a7 (Uz mG R (je vQ aY))) eB)),UG bM.ok⟩
noncomputable abbrev J_:Stmt:=top 44
noncomputable abbrev Cv (Z:Ev) (Cs:List Addr):Prop:=Fy Z Cs 8 "need_two" ["web", "one", "other"] 3 vh
theorem VD {Cs:List Addr} (D:Dx Z "need_two" J_) (B:BT Z.mg) (fY:EI Z Cs 3 "NoHouse") (kF:rH Z) (VF:J8 Z Cs):Cv Z Cs:=rF (N:=["web", "one", "other"]) D la UH fun R hr nd hu=>⟨B4 bM.ok,(a8 (vg VF R BR hr (ah (dv 0) aB)) (a8 (dX (jj (iz (aF kF hr (ah (dv 1) (aJ aq (eA (bu j9 (bh bj (dv 0) aq (fun _ _=>rfl)) aq) aB)))))) (a7 (IK fY R hr (aJ aq aB))) eB) (a7 (dX (JW.jt (tR (jj (iz (aF kF hr (ah (dv 2) (aJ aq (eA (bu j9 (bh bj (dv 0) aq (fun _ _=>rfl)) aq) aB)))))) (v9 (dA (gv hu) (dv 1) (dv 2) (by rfl))))) (a7 (IK fY R hr (aJ aq aB))) eB)))),UI bM.ok⟩
noncomputable abbrev Ka:Stmt:=top 46
noncomputable abbrev Kb (Z:Ev) (Cs:List Addr):Prop:=Fy Z Cs 13 "narrow_of" ["web", "one", "other"] 3 xu
theorem VG {Cs:List Addr} (D:Dx Z "narrow_of" Ka) (B:BT Z.mg) (Cw:Cq Z) (Cy:Cr Z) (Cu:Cp Z) (Cz:Cv Z Cs):Kb Z Cs:=rF (N:=["web", "one", "other", "forest", "number"]) D la UJ fun R hr nd hu=>⟨B5 bM.ok,(a8 (vg Cz R BR hr (ah (dv 0) (ah (dv 1) (ah (dv 2) aB)))) (a8 (b9 (i:=3) nd rfl (by trivial) (aF Cw hr (ah (dv 0) aB))) (a8 (b9 (i:=4) nd rfl (by trivial) (aF Cy hr (ah (dv 0) (ah (dv 3) (ah (dv 1) (ah (dv 2) aB)))))) (a8 (dX (dA Rk (dv 4) qH (by rfl)) (a7 (bD qH)) eB) (a7 (bD (lO (ah (dv 4) (cQ (aF Cu hr (ah (dv 0) (eA (kY [none,some 4] ["way", "number"] rfl (iB (dv 3)) (fun d=>(dQ (i:=0) (show (["way", "number"]:List Str).Nodup by decide +kernel) rfl (by trivial))) (fun d=>(lU (dA (qV hu) (dv 0) (dv 1) (by rfl)))) (fun d=>(dv 0))) (ah (dv 1) aB)))) aB))))))))),UK bM.ok⟩
noncomputable abbrev Kc:Stmt:=top 47
noncomputable abbrev Kd (Z:Ev) (Cs:List Addr):Prop:=Fy Z Cs 13 "is_narrow" ["web", "one", "other", "number", "houses"] 5 xv
theorem VH {Cs:List Addr} (D:Dx Z "is_narrow" Kc) (B:BT Z.mg) (VI:Jl Z) (Cy:Cr Z) (Cw:Cq Z) (VJ:Jp Z) (VL:Jv Z) (Cz:Cv Z Cs):Kd Z Cs:=rF (N:=["web", "one", "other", "number", "houses", "greatest"]) D BK UL fun R hr nd hu=>⟨B6 bM.ok,(a8 (vg Cz R BR hr (ah (dv 0) (ah (dv 1) (ah (dv 2) aB)))) (a8 (dX (JW.jt (tR (jj (iz (aF VI hr (ah (dv 4) (bp (bh bj (dv 0) aq (fun _ _=>rfl)) aB))))) (tR (dA (Gg hu) (dv 1) (dv 4) (by rfl)) (v9 (dA (zV hu) (dv 2) (dv 4) (by rfl)))))) (a7 (bD jD)) eB) (a8 (b9 (i:=5) nd rfl (by trivial) (aF Cy hr (ah (dv 0) (cQ (aF Cw hr (ah (dv 0) aB)) (ah (dv 1) (ah (dv 2) aB)))))) (a7 (bD (lQ (lM Rl (dv 5) qH (by rfl)) (lP (zY (gv hu) (gv hu) (dv 3) (dv 5) (aF VJ hr (ah (dv 0) (cQ (aF VL hr (ah (dv 0) (ah (dv 4) aB))) aB))))))))))),UM bM.ok⟩
noncomputable abbrev vm:Stmt:=inClass (top 5) 0
theorem VM {f C:Addr} {fd:FuncData} (F:eS Z.K "__init__" "NoHouse.__init__" vm f fd) (c:bo Z.K C) (n:sx Z.K C "place"):bE Z.P Z.w Z.K Z.mg Z.base bz 1 f fd ["self", "place"] (vf C):=by
 refine F.tK (N:=["self", "place"]) (fB (by decide +kernel)) (fun vs H Q E h => ?_) (fun aD A outer s H vs Q E hr h => ?_)
 ·obtain⟨a,n,rfl,_⟩:=h
  rfl
 ·obtain⟨a,m,rfl,ha,fin⟩:=h
  exact⟨_,oV (O0 (jv 0) (jv 1) rfl),⟨_,rfl,_,rfl,a,C,rfl,ha,c,n,fin⟩⟩
noncomputable abbrev aI:Stmt:=top 57
noncomputable abbrev Ke:Stmt:=aI
theorem nU:jM ["caught", "some", "words", "at"] ["caught"] (aW aI):=fB (by decide +kernel)
theorem VN {f L:Addr} {Cs:List Addr} {fd:FuncData} {sp:Sp} (F:eS Z.K "_law_refusal" "_law_refusal" aI f fd) (T:BW Z.mg L Cs) (len:∀ vs H Q E,sp vs H Q E->vs.length=1)
  (kP:∀ vs H Q E,sp vs H Q E->∃ (a C:Addr) (dx:Option Addr) (b:Nat->Bool),vs=[.ref a]/\ExcAt H a C dx/\bo Z.K C/\(∀ (i:Nat) (C':Addr),Cs[i]? = some C'->PySem.W.kitOne Z.K (.ref C) (.ref C')=some (b i))/\PySem.W.kitOne Z.K (.ref C) (.ref L)=some true/\PySem.W.kitOne Z.K (.ref C) (.type "ValueError")=some true ∧
   (cnt (dO b)≠1->∀ (l:Addr) (H':Hp),av H H'->H' l=some (.lst [.str "odd"])->Q (.ref l) H') ∧
   (cnt (dO b)=1->∃ j:Nat,j < 13/\(∀ z,((dO b).map V.bl)[j]? = some z->fK z (.bl true)=true)/\(∀ m z,m < j->((dO b).map V.bl)[m]? = some z->fK z (.bl true)=false) ∧
    (j < 4->sx Z.K C "place" /\ ∃ (d:Addr) (n:Int),dx=some d/\H d=some (.xd [("place",.int n)])/\∀ (l:Addr) (H':Hp),av H H'->H l=none->H' l=some (.lst [.str (cL.getD j ""),.int n])->Q (.ref l) H') ∧
    (4 <= j->∀ (l:Addr) (H':Hp),av H H'->H l=none->H' l=some (.lst [.str (cL.getD j "")])->Q (.ref l) H'))):bE Z.P Z.w Z.K Z.mg Z.base bz 1 f fd ["caught"] sp:=by
 refine F.tK nU (fun vs H Q E h=>len vs H Q E h) (fun aD A outer s H vs Q E hr h => ?_)
 obtain⟨a,C,dx,b,rfl,E0,cl,kt,kL,kV,odd,good⟩:=kP vs H Q E h
 have nd:=nU.nd
 obtain⟨c0,e0,m0⟩:=T.cls 0 "NoWay" rfl
 obtain⟨c1,e1,m1⟩:=T.cls 1 "NoJoin" rfl
 obtain⟨c2,e2,m2⟩:=T.cls 2 "NoStep" rfl
 obtain⟨c3,e3,m3⟩:=T.cls 3 "NoHouse" rfl
 obtain⟨c4,e4,m4⟩:=T.cls 4 "NoWeb" rfl
 obtain⟨c5,e5,m5⟩:=T.cls 5 "NoPrice" rfl
 obtain⟨c6,e6,m6⟩:=T.cls 6 "TooMany" rfl
 obtain⟨c7,e7,m7⟩:=T.cls 7 "Closed" rfl
 obtain⟨c8,e8,m8⟩:=T.cls 8 "Free" rfl
 obtain⟨c9,e9,m9⟩:=T.cls 9 "Nothing" rfl
 obtain⟨hU,VO,VP⟩:=T.cls 10 "NoNumber" rfl
 obtain⟨hV,VQ,VR⟩:=T.cls 11 "NoText" rfl
 obtain⟨hW,VS,jB⟩:=T.cls 12 "NoLine" rfl
 have gI:Gl (ar bz Z.P Z.w Z.K Z.mg Z.base ["caught", "some", "words", "at"] "_law_refusal" (aW aI) f aD A outer s H E).bG "isinstance" := by rfl
 have v0:∀ q,JE (ar bz Z.P Z.w Z.K Z.mg Z.base ["caught", "some", "words", "at"] "_law_refusal" (aW aI) f aD A outer s H E).bG (.Name "caught" q) (d9 0):=fun q=>jv 0
 have v1:∀ q,JE (ar bz Z.P Z.w Z.K Z.mg Z.base ["caught", "some", "words", "at"] "_law_refusal" (aW aI) f aD A outer s H E).bG (.Name "some" q) (d9 1):=fun q=>jv 1
 have n0:∀ p q r t,JE (ar bz Z.P Z.w Z.K Z.mg Z.base ["caught", "some", "words", "at"] "_law_refusal" (aW aI) f aD A outer s H E).bG (.Call (.Name "isinstance" p) [.Name "caught" q,.Name "NoWay" r] [] t) (gW a C dx (b 0)):=fun p q r t=>iH (v0 q) (iu (v := .ref c0) (by rfl) m0 rfl) rfl cl (kt 0 c0 e0) gI T.iG
 have n1:∀ p q r t,JE (ar bz Z.P Z.w Z.K Z.mg Z.base ["caught", "some", "words", "at"] "_law_refusal" (aW aI) f aD A outer s H E).bG (.Call (.Name "isinstance" p) [.Name "caught" q,.Name "NoJoin" r] [] t) (gW a C dx (b 1)):=fun p q r t=>iH (v0 q) (iu (v := .ref c1) (by rfl) m1 rfl) rfl cl (kt 1 c1 e1) gI T.iG
 have n2:∀ p q r t,JE (ar bz Z.P Z.w Z.K Z.mg Z.base ["caught", "some", "words", "at"] "_law_refusal" (aW aI) f aD A outer s H E).bG (.Call (.Name "isinstance" p) [.Name "caught" q,.Name "NoStep" r] [] t) (gW a C dx (b 2)):=fun p q r t=>iH (v0 q) (iu (v := .ref c2) (by rfl) m2 rfl) rfl cl (kt 2 c2 e2) gI T.iG
 have n3:∀ p q r t,JE (ar bz Z.P Z.w Z.K Z.mg Z.base ["caught", "some", "words", "at"] "_law_refusal" (aW aI) f aD A outer s H E).bG (.Call (.Name "isinstance" p) [.Name "caught" q,.Name "NoHouse" r] [] t) (gW a C dx (b 3)):=fun p q r t=>iH (v0 q) (iu (v := .ref c3) (by rfl) m3 rfl) rfl cl (kt 3 c3 e3) gI T.iG
 have n4:∀ p q r t,JE (ar bz Z.P Z.w Z.K Z.mg Z.base ["caught", "some", "words", "at"] "_law_refusal" (aW aI) f aD A outer s H E).bG (.Call (.Name "isinstance" p) [.Name "caught" q,.Name "NoWeb" r] [] t) (gW a C dx (b 4)):=fun p q r t=>iH (v0 q) (iu (v := .ref c4) (by rfl) m4 rfl) rfl cl (kt 4 c4 e4) gI T.iG
 have n5:∀ p q r t,JE (ar bz Z.P Z.w Z.K Z.mg Z.base ["caught", "some", "words", "at"] "_law_refusal" (aW aI) f aD A outer s H E).bG (.Call (.Name "isinstance" p) [.Name "caught" q,.Name "NoPrice" r] [] t) (gW a C dx (b 5)):=fun p q r t=>iH (v0 q) (iu (v := .ref c5) (by rfl) m5 rfl) rfl cl (kt 5 c5 e5) gI T.iG
 have n6:∀ p q r t,JE (ar bz Z.P Z.w Z.K Z.mg Z.base ["caught", "some", "words", "at"] "_law_refusal" (aW aI) f aD A outer s H E).bG (.Call (.Name "isinstance" p) [.Name "caught" q,.Name "TooMany" r] [] t) (gW a C dx (b 6)):=fun p q r t=>iH (v0 q) (iu (v := .ref c6) (by rfl) m6 rfl) rfl cl (kt 6 c6 e6) gI T.iG
 have n7:∀ p q r t,JE (ar bz Z.P Z.w Z.K Z.mg Z.base ["caught", "some", "words", "at"] "_law_refusal" (aW aI) f aD A outer s H E).bG (.Call (.Name "isinstance" p) [.Name "caught" q,.Name "Closed" r] [] t) (gW a C dx (b 7)):=fun p q r t=>iH (v0 q) (iu (v := .ref c7) (by rfl) m7 rfl) rfl cl (kt 7 c7 e7) gI T.iG
 have n8:∀ p q r t,JE (ar bz Z.P Z.w Z.K Z.mg Z.base ["caught", "some", "words", "at"] "_law_refusal" (aW aI) f aD A outer s H E).bG (.Call (.Name "isinstance" p) [.Name "caught" q,.Name "Free" r] [] t) (gW a C dx (b 8)):=fun p q r t=>iH (v0 q) (iu (v := .ref c8) (by rfl) m8 rfl) rfl cl (kt 8 c8 e8) gI T.iG
 have n9:∀ p q r t,JE (ar bz Z.P Z.w Z.K Z.mg Z.base ["caught", "some", "words", "at"] "_law_refusal" (aW aI) f aD A outer s H E).bG (.Call (.Name "isinstance" p) [.Name "caught" q,.Name "Nothing" r] [] t) (gW a C dx (b 9)):=fun p q r t=>iH (v0 q) (iu (v := .ref c9) (by rfl) m9 rfl) rfl cl (kt 9 c9 e9) gI T.iG
 have VT:∀ p q r t,JE (ar bz Z.P Z.w Z.K Z.mg Z.base ["caught", "some", "words", "at"] "_law_refusal" (aW aI) f aD A outer s H E).bG (.Call (.Name "isinstance" p) [.Name "caught" q,.Name "NoNumber" r] [] t) (gW a C dx (b 10)):=fun p q r t=>iH (v0 q) (iu (v := .ref hU) (by rfl) VP rfl) rfl cl (kt 10 hU VO) gI T.iG
 have VU:∀ p q r t,JE (ar bz Z.P Z.w Z.K Z.mg Z.base ["caught", "some", "words", "at"] "_law_refusal" (aW aI) f aD A outer s H E).bG (.Call (.Name "isinstance" p) [.Name "caught" q,.Name "NoText" r] [] t) (gW a C dx (b 11)):=fun p q r t=>iH (v0 q) (iu (v := .ref hV) (by rfl) VR rfl) rfl cl (kt 11 hV VQ) gI T.iG
 have VV:∀ p q r t,JE (ar bz Z.P Z.w Z.K Z.mg Z.base ["caught", "some", "words", "at"] "_law_refusal" (aW aI) f aD A outer s H E).bG (.Call (.Name "isinstance" p) [.Name "caught" q,.Name "NoLine" r] [] t) (gW a C dx (b 12)):=fun p q r t=>iH (v0 q) (iu (v := .ref hW) (by rfl) jB rfl) rfl cl (kt 12 hW VS) gI T.iG
 have nL:∀ p q r t,JE (ar bz Z.P Z.w Z.K Z.mg Z.base ["caught", "some", "words", "at"] "_law_refusal" (aW aI) f aD A outer s H E).bG (.Call (.Name "isinstance" p) [.Name "caught" q,.Name "LotError" r] [] t) (gW a C dx true):=fun p q r t=>iH (v0 q) (iu (v := .ref L) (by rfl) T.Um rfl) rfl cl kL gI T.iG
 have nV:∀ p q r t,JE (ar bz Z.P Z.w Z.K Z.mg Z.base ["caught", "some", "words", "at"] "_law_refusal" (aW aI) f aD A outer s H E).bG (.Call (.Name "isinstance" p) [.Name "caught" q,.Name "ValueError" r] [] t) (gW a C dx true):=fun p q r t=>iH (v0 q) (E5 (by rfl) T.VE Uo (v := .ty "ValueError") rfl) rfl cl kV gI T.iG
 have h0:JS (ar bz Z.P Z.w Z.K Z.mg Z.base ["caught", "some", "words", "at"] "_law_refusal" (aW aI) f aD A outer s H E).bG ((b_ aI).getD 0 (.Pass ⟨0,0,0,0⟩)) (bS (qk a C dx [b 0,b 1,b 2]) (fG 1)):=Fd nd rfl (Or.inl rfl) (ve (jr (n0 _ _ _ _) (jr (n1 _ _ _ _) (jr (n2 _ _ _ _) vd))) (by show 3 <= 20;decide)) (.inr rfl)
 have h1:JS (ar bz Z.P Z.w Z.K Z.mg Z.base ["caught", "some", "words", "at"] "_law_refusal" (aW aI) f aD A outer s H E).bG ((b_ aI).getD 1 (.Pass ⟨0,0,0,0⟩)) (bS (kD a C dx ([b 0,b 1,b 2]) [b 3,b 4,b 5]) (fG 1)):=vT nd rfl (Or.inl rfl) (xq (v1 _) (ve (jr (n3 _ _ _ _) (jr (n4 _ _ _ _) (jr (n5 _ _ _ _) vd))) (by show 3 <= 20;decide)) (by show 3 + 3 <= 20;decide)) (.inr rfl)
 have h2:JS (ar bz Z.P Z.w Z.K Z.mg Z.base ["caught", "some", "words", "at"] "_law_refusal" (aW aI) f aD A outer s H E).bG ((b_ aI).getD 2 (.Pass ⟨0,0,0,0⟩)) (bS (kD a C dx ([b 0,b 1,b 2] ++ [b 3,b 4,b 5]) [b 6,b 7,b 8]) (fG 1)):=vT nd rfl (Or.inl rfl) (xq (v1 _) (ve (jr (n6 _ _ _ _) (jr (n7 _ _ _ _) (jr (n8 _ _ _ _) vd))) (by show 3 <= 20;decide)) (by show 6 + 3 <= 20;decide)) (.inr rfl)
 have h3:JS (ar bz Z.P Z.w Z.K Z.mg Z.base ["caught", "some", "words", "at"] "_law_refusal" (aW aI) f aD A outer s H E).bG ((b_ aI).getD 3 (.Pass ⟨0,0,0,0⟩)) (bS (kD a C dx ([b 0,b 1,b 2] ++ [b 3,b 4,b 5] ++ [b 6,b 7,b 8]) [b 9,b 10,b 11]) (fG 1)):=vT nd rfl (Or.inl rfl) (xq (v1 _) (ve (jr (n9 _ _ _ _) (jr (VT _ _ _ _) (jr (VU _ _ _ _) vd))) (by show 3 <= 20;decide)) (by show 9 + 3 <= 20;decide)) (.inr rfl)
 have h4:JS (ar bz Z.P Z.w Z.K Z.mg Z.base ["caught", "some", "words", "at"] "_law_refusal" (aW aI) f aD A outer s H E).bG ((b_ aI).getD 4 (.Pass ⟨0,0,0,0⟩)) (bS (kD a C dx ([b 0,b 1,b 2] ++ [b 3,b 4,b 5] ++ [b 6,b 7,b 8] ++ [b 9,b 10,b 11]) [b 12]) (fG 1)):=vT nd rfl (Or.inl rfl) (xq (v1 _) (ve (jr (VV _ _ _ _) vd) (by show 1 <= 20;decide)) (by show 12 + 1 <= 20;decide)) (.inr rfl)
 have h5:JS (ar bz Z.P Z.w Z.K Z.mg Z.base ["caught", "some", "words", "at"] "_law_refusal" (aW aI) f aD A outer s H E).bG ((b_ aI).getD 5 (.Pass ⟨0,0,0,0⟩)) (fun D σ H1=>∃ l:Addr,σ[0]? = some (some (.ref a)) /\ σ[1]? = some (some (.ref l))/\H1 l=some (.lst ((dO b).map V.bl))/\ExcAt H1 a C dx/\(cnt (dO b)≠1->∀ (l':Addr) (H':Hp),av H1 H'->H' l'=some (.lst [.str "odd"])->D.rt (.ref l') H')/\(cnt (dO b)=1->D.nx σ H1)):=by
  refine (E9 (JW.jt (za (zf Mf (qE Y7 PySem.F.slot_list_count PySem.F.type_list_count Oi (v1 _) (je y9 aY)) bX (DW _)) (za (zb (y_ (nL _ _ _ _))) (E7 (zb (y_ (nV _ _ _ _))))))) (oV (tG (mY (je vQ aY)))) iS).weak ?_
  rintro D σ H1 ⟨l,e0,e1,hl,e,od,gd⟩
  refine⟨_,e1,.inl ⟨rfl,_,bc.of hl⟩,l,_,_,rfl,rfl,bc.of hl,rfl,BX _,rfl,_,rfl,?_⟩
  by_cases hc:cnt (dO b)=1
  ·refine Nl (congrArg (fun n:Nat=>V.int n) hc) ?_
   exact⟨e0,e,_,rfl,oR ⟨e0,e,_,rfl,oR (gd hc)⟩⟩
  ·refine OC (fun z=>hc (q1g (V.int.inj z))) ?_
   exact yI ⟨gK (by show 1 <= 20;decide),fun p hp=>od hc p _ (kC hp) a9⟩
 have h6:JS (ar bz Z.P Z.w Z.K Z.mg Z.base ["caught", "some", "words", "at"] "_law_refusal" (aW aI) f aD A outer s H E).bG ((b_ aI).getD 6 (.Pass ⟨0,0,0,0⟩)) (bS (fun _ H Q=>∀ p,H p=none->Q (.ref p) (upd H p (.lst (dM.map V.str)))) (fG 2)):=Fd (i:=2) nd rfl (Or.inl rfl) (Uq dM rfl (by decide)) (.inr rfl)
 have h7:JS (ar bz Z.P Z.w Z.K Z.mg Z.base ["caught", "some", "words", "at"] "_law_refusal" (aW aI) f aD A outer s H E).bG ((b_ aI).getD 7 (.Pass ⟨0,0,0,0⟩)) (fun D σ H1=>∃ (l:Addr) (j:Nat),σ[1]? = some (some (.ref l))/\H1 l=some (.lst ((dO b).map V.bl))/\j < 13/\(∀ z,((dO b).map V.bl)[j]? = some z->fK z (.bl true)=true)/\(∀ m z,m < j->((dO b).map V.bl)[m]? = some z->fK z (.bl true)=false)/\D.nx (σ.set 3 (some (.int (j:Nat)))) H1):=by
  refine (O3 (i:=3) nd rfl (Or.inl rfl) (qE Y7 PySem.F.slot_list_index PySem.F.type_list_index Om (v1 _) (je y9 aY)) (.inr rfl)).weak ?_
  rintro D σ H1 ⟨l,j,e1,hl,hj,i1,i2,gd⟩
  exact⟨_,e1,.inl ⟨rfl,_,bc.of hl⟩,l,_,_,j,rfl,rfl,bc.of hl,rfl,BX _,hj,i1,i2,gd⟩
 have h8:JS (ar bz Z.P Z.w Z.K Z.mg Z.base ["caught", "some", "words", "at"] "_law_refusal" (aW aI) f aD A outer s H E).bG ((b_ aI).getD 8 (.Pass ⟨0,0,0,0⟩)) _:=tG (zc (zf DU (jv 3) bX (DW _)) (mY (oZ (vS vI (jv 2) (jv 3) (fun _ _=>rfl)) (zj (Ur (v0 _) rfl) aY))) (mY (oZ (vS vI (oW vJ (jv 2) (mY (je vQ aY))) (jv 3) (fun _ _=>rfl)) aY)))
 have g8:bZ (ar bz Z.P Z.w Z.K Z.mg Z.base ["caught", "some", "words", "at"] "_law_refusal" (aW aI) f aD A outer s H E).bG ((b_ aI).drop 8) _:=O4 (by rfl) h8
 have g7:bZ (ar bz Z.P Z.w Z.K Z.mg Z.base ["caught", "some", "words", "at"] "_law_refusal" (aW aI) f aD A outer s H E).bG ((b_ aI).drop 7) _:=mZ (by decide) h7 g8
 have g6:bZ (ar bz Z.P Z.w Z.K Z.mg Z.base ["caught", "some", "words", "at"] "_law_refusal" (aW aI) f aD A outer s H E).bG ((b_ aI).drop 6) _:=mZ (by decide) h6 g7
 have g5:bZ (ar bz Z.P Z.w Z.K Z.mg Z.base ["caught", "some", "words", "at"] "_law_refusal" (aW aI) f aD A outer s H E).bG ((b_ aI).drop 5) _:=mZ (by decide) h5 g6
 have g4:bZ (ar bz Z.P Z.w Z.K Z.mg Z.base ["caught", "some", "words", "at"] "_law_refusal" (aW aI) f aD A outer s H E).bG ((b_ aI).drop 4) _:=mZ (by decide) h4 g5
 have g3:bZ (ar bz Z.P Z.w Z.K Z.mg Z.base ["caught", "some", "words", "at"] "_law_refusal" (aW aI) f aD A outer s H E).bG ((b_ aI).drop 3) _:=mZ (by decide) h3 g4
 have g2:bZ (ar bz Z.P Z.w Z.K Z.mg Z.base ["caught", "some", "words", "at"] "_law_refusal" (aW aI) f aD A outer s H E).bG ((b_ aI).drop 2) _:=mZ (by decide) h2 g3
 have g1:bZ (ar bz Z.P Z.w Z.K Z.mg Z.base ["caught", "some", "words", "at"] "_law_refusal" (aW aI) f aD A outer s H E).bG ((b_ aI).drop 1) _:=mZ (by decide) h1 g2
 have g0:bZ (ar bz Z.P Z.w Z.K Z.mg Z.base ["caught", "some", "words", "at"] "_law_refusal" (aW aI) f aD A outer s H E).bG ((b_ aI).drop 0) _:=mZ (by decide) h0 g1
 refine⟨_,O5 g0,?_⟩
 refine⟨rfl,E0,fun l1 H1 s1 q1 => ?_⟩
 refine⟨l1,rfl,rfl,q1,E0.same s1,fun l2 H2 s2 q2 => ?_⟩
 have Kg:=s1.trans s2
 refine⟨l2,rfl,rfl,q2,E0.same Kg,fun l3 H3 s3 q3 => ?_⟩
 have Kh:=Kg.trans s3
 refine⟨l3,rfl,rfl,q3,E0.same Kh,fun l4 H4 s4 q4 => ?_⟩
 have Ki:=Kh.trans s4
 refine⟨l4,rfl,rfl,q4,E0.same Ki,fun l5 H5 s5 q5 => ?_⟩
 have CA:=Ki.trans s5
 refine⟨l5,rfl,rfl,q5,E0.same CA,fun nc l H' sH hH=>odd nc l H' (CA.trans sH) hH,fun hc => ?_⟩
 obtain⟨j,hj,i1,i2,h9,many⟩:=good hc
 intro p hp
 have rJ:av H (upd H5 p (.lst (dM.map V.str))):=CA.trans (kC hp)
 refine⟨l5,j,rfl,(kC hp) _ _ q5,hj,i1,i2,?_⟩
 refine⟨_,rfl,_,_,rfl,rfl,_,rfl,yJ (fun cA => ?_) (fun rq => ?_)⟩
 ·have vn:j < 4:=by have:=Zf cA;omega
  obtain⟨na,d,n,ed,hd,fin⟩:=h9 vn
  subst ed
  have E6:=E0.same rJ
  refine⟨_,rfl,_,rfl,p,_,_,_,rfl,rfl,bc.of a9,jO (Us vn),_,rfl,a,C,d,_,_,rfl,E6.ob,cl,na,rJ _ _ hd,rfl,gK (by show 2 <= 20;decide),fun l hl => ?_⟩
  exact fin l _ (rJ.trans (kC hl)) (rJ.free hl) a9
 ·have CB:4 <= j:=by
   by_cases z:j < 4
   ·exact absurd (Ya (show (j:Int) < 4 by omega)) rq
   ·omega
  refine⟨_,rfl,gK (by show 1 <= 20;decide),fun m hm=>⟨p,m,_,_,rfl,rfl,(by rw[aA (bK a9 hm)];exact a9),a9,gK (by show 13 <= 20;decide),fun r hr=>⟨_,rfl,r,_,_,_,rfl,rfl,bc.of a9,jO (Ut hj),gK (by show 1 <= 20;decide),fun l hl => ?_⟩⟩⟩
  exact many CB l _ (((rJ.trans (kC hm)).trans (kC hr)).trans (kC hl)) (((rJ.trans (kC hm)).trans (kC hr)).free hl) a9
theorem VW {f L:Addr} {Cs:List Addr} {fd:FuncData} (F:eS Z.K "_law_refusal" "_law_refusal" aI f fd) (T:BW Z.mg L Cs) (W:BV Z.K L Cs):bE Z.P Z.w Z.K Z.mg Z.base bz 1 f fd ["caught"] (kE Cs):=by
 refine VN F T (fun vs H Q E h => ?_) (fun vs H Q E h => ?_)
 ·obtain⟨_,_,_,_,_,rfl,_⟩:=h;rfl
 ·obtain⟨j,n,a,C,dx,rfl,hj,hC,E0,hd,fin⟩:=h
  obtain⟨cl,kL,kV,kt⟩:=W.each j C hC
  refine⟨a,C,dx,fun i=>decide (i=j),rfl,E0,cl,kt,kL,kV,fun nc=>absurd (Uu j hj) nc,fun _=>⟨j,hj,fun z hz => ?_,fun m z hm hz => ?_,fun h4 => ?_,fun h4 l H' s hl hH=>fin l H' s hl ?_⟩⟩
  ·rw[IG hz];show fK (.bl (decide (j=j))) (.bl true)=true;rw[Ya rfl];rfl
  ·rw[IG hz];show fK (.bl (decide (m=j))) (.bl true)=false;rw[Yc (by omega)];rfl
  ·obtain⟨d,ed,hd⟩:=hd h4
   refine⟨W.iZ j C hC,d,n,ed,hd,fun l H' s hl hH=>fin l H' s hl ?_⟩
   rw[hH,lb,Xp h4]
  ·rw[hH,lb,Xm (by omega)]
noncomputable abbrev Kj:Stmt:=top 58
noncomputable abbrev Kk (Z:Ev):Prop:=Fx Z 14 "_law_told" ["kind", "web", "one", "other", "more"] 5 B7
theorem VX {Cs:List Addr} {L fR:Addr} {CC:FuncData} (D:Dx Z "_law_told" Kj) (B:BT Z.mg) (GR:Fn Z.P Z.w Z.K Z.mg Z.base 1 "_law_refusal" ["caught"] (kE Cs) fR CC) (hL:Z.mg "LotError" = some (.ref L)) (hX:∀ (c:Nat) (C:Addr),Cs[c]? = some C->c < 13/\PySem.W.exmOne Z.K (.ref C) (.ref L)=some true) (VY:Kb Z Cs) (VZ:Kd Z Cs):Kk Z:=dR (N:=["kind", "web", "one", "other", "more", "caught", "e"]) D BK fun hr nd hu=>⟨B8,(a8 (b9 (i:=5) nd rfl (by trivial) qH) (UB (tup:=false) rfl rfl nd rfl rfl (by rfl) hL hX (by decide) (fun hp R=>(a7 (dX (dA (gv hu) (dv 0) aq (by rfl)) (a7 (vg VY R hp hr (ah (dv 1) (ah (dv 2) (ah (dv 3) aB))))) (a7 (vg VZ R hp hr (ah (dv 1) (ah (dv 2) (ah (dv 3) (bp (bh bj (gZ (aJ aq (eA (zX aq) (eA (bu l7 aq aq) aB)))) (dv 4) (fun _ _=>rfl)) (bp (bh bj (gZ (lN (gZ aB) (lN (gZ (aJ aq aB)) (lN (gZ (eA (zX aq) (aJ aq aB))) aB)))) (dv 4) (fun _ _=>rfl)) aB)))))))))) (fun A xe=>oV (vR (i:=5) nd rfl (by trivial) (jv 6))) (tG (zc (OJ (OI (jv 5))) (gZ (aJ tO aB)) (tI GR.ok (hr.mono (by decide)) (by rfl) GR.vX GR.kp GR.bd .nil sM (jf (jv 5) aY)))))),UN⟩
noncomputable abbrev xB:Stmt:=top 50
theorem kG:jM ["script", "cells", "k", "cell"] ["script"] (aW xB):=fB (by decide +kernel)
theorem V0 {f:Addr} {fd:FuncData} (F:eS Z.K "_law_open" "_law_open" xB f fd) (h1:Z.mg "list" = none) (h2:Z.mg "enumerate" = none):bE Z.P Z.w Z.K Z.mg Z.base bz 1 f fd ["script"] (Hy Z.K):=by
 refine F.tK kG (fun vs H Q E h => ?_) (fun aD A outer s H vs Q E hr h => ?_)
 ·obtain⟨a,ns,rfl,_⟩:=h
  rfl
 ·obtain⟨a,ns,rfl,hS,hlen,fin⟩:=h
  have nd:=kG.nd
  refine⟨_,tF (vR (i:=1) nd rfl (Or.inl rfl) (qD M7 (by rfl) h1 PyProof.Rows.boot_list (oX (zg f_ (jv 0) Ee (vH bX.out)) aY)))
   (tF (Fb Y5 rfl (OZ (by rfl) h2 (oX (zg f_ (jv 0) (vH bX.out) (vH bX.out)) aY)) (E_ rfl (ze (zd (i:=2) nd rfl (Or.inl rfl)) (ze (zd (i:=3) nd rfl (Or.inl rfl)) iT)))
    (oV (qC (oW DT (vS vI (jv 1) (oW x9 (jv 2) bX) (fun _ _=>rfl)) (jv 3)) (tH (jv 1) (oW x9 (jv 2) bX) set_list))))
   (oV (tG (mY (oX (jv 1) (oX bX (oX bX aY))))))),?_⟩
  refine⟨_,rfl,_,rfl,a,_,rfl,hS,fun l1 n1=>⟨l1,_,rfl,.inl (bc.of a9),fun c nc => ?_⟩⟩
  have s1:av H (upd (upd H l1 (.lst (cI (ns.map V.int) none (some 12)))) c (.lst (cI (ns.map V.int) none (some 12)))):=(rp n1).trans (rp nc)
  refine⟨_,rfl,_,rfl,_,rfl,a,_,rfl,s1.seq hS,fun l2 n2=>⟨l2,rfl,⟨_,bc.of a9⟩,?_⟩⟩
  have V6:H c=none:=(rp n1).free nc
  have V7:=n2
  have hcc:∃ ms:List Int,ms.length=min 12 ns.length/\cI (ns.map V.int) none (some 12)=ms.map V.int:=by
   refine⟨_,?_,AO ns none (some 12)⟩
   rw[Yp,Zk]
   have e1:HT.aX ns.length 0 none=0:=HT.MI _ _
   have e2:HT.aX ns.length ns.length (some 12)=min 12 ns.length:=HT.yi ns.length ns.length 12
   rw[e1,e2];omega
  have k8:(cI (ns.map V.int) (some 12) (some 63)).length=ns.length - 12:=by
   rw[AO,qy,Yp,Zk]
   have e1:HT.aX ns.length 0 (some 12)=min 12 ns.length:=HT.yi ns.length 0 12
   have e2:HT.aX ns.length ns.length (some 63)=min 63 ns.length:=HT.yi ns.length ns.length 63
   rw[e1,e2];omega
  have Kl:∀ i x,(cI (ns.map V.int) (some 12) (some 63))[i]? = some x->∃ n:Int,x=V.int n:=fun i x e=>by
   rw[AO,Ni] at e
   cases q:((ns.drop (HT.aX ns.length 0 (some 12))).take (HT.aX ns.length ns.length (some 63) - HT.aX ns.length 0 (some 12)))[i]? with
   | none=>rw[q] at e;cases e
   | some n=>rw[q] at e;exact⟨n,(Yi e).symm⟩
  generalize cI (ns.map V.int) (some 12) (some 63)=rest at k8 Kl n2 ⊢
  obtain⟨ms,V8,V9⟩:=hcc
  refine Oq (K:=Z.K) (a:=l2) (xs:=rest) (fun i σ H2=>∃ (ks:List Int) (v1 v2:Option V),σ = [some (.ref a),some (.ref c),v1,v2]/\H2 c=some (.lst (ks.map V.int))/\ks.length=min 12 ns.length/\H2 l2=some (.lst rest)/\av H H2)
   ⟨ms,none,none,rfl,?_,V8,a9,?_⟩ (fun i σ H2 _ ⟨_,_,_,_,_,_,q,_⟩=>bc.of q) ?_ ?_
  ·rw[aA (bK a9 n2),a9,V9]
  ·exact s1.trans (rp n2)
  ·rintro i x T σ H2 hi ⟨ks,v1,v2,rfl,hc,hk,sJ,sm⟩ hT
   obtain⟨n,rfl⟩:=Kl i x hi
   have pA:i < rest.length:=(oP.mp hi).1
   have V_:ks.length=12:=by omega
   have cT:c≠T:=bK hc hT
   have gz:upd H2 T (.tup [.int i,.int n]) c=some (.lst (ks.map V.int)):=by rw[aA cT];exact hc
   have j0:0 <= ((i:Int)) % 12:=Y4 _ (by decide)
   have j1:((i:Int)) % 12 < 12:=YJ _ (by decide)
   obtain⟨m,em⟩:=RN (ns:=ks) j0 (by omega)
   have ix:i9 (ks.map V.int).length ((i:Int) % 12)=some ((i:Int) % 12).toNat:=by
    unfold i9
    rw[Xp j0,Xp (by rw[qy];omega)]
   refine⟨T,_,rfl,bC.of a9,rfl,_,_,rfl,_,_,rfl,rfl,?_⟩
   refine⟨_,rfl,_,rfl,_,_,rfl,rfl,(show (0:Int) < 12 by decide),_,_,_,_,rfl,rfl,bc.of gz,em,_,rfl,_,_,rfl,rfl,_,rfl,_,rfl,_,_,rfl,rfl,(show (0:Int) < 12 by decide),_,_,_,_,rfl,rfl,gz,ix,?_⟩
   refine⟨ks.set ((i:Int) % 12).toNat (m + n),_,_,rfl,?_,by rw[Y1];exact hk,?_,?_⟩
   ·rw[a9,List.map_set]
   ·have Wa:l2≠c:=by
     intro z
     subst z
     exact absurd V7 (by rw[a9];intro y;cases y)
    rw[aA Wa,aA (bK sJ hT)];exact sJ
   ·intro b o e
    rw[aA (bK e V6)]
    exact rp hT b o (sm b o e)
  ·rintro σ H2 ⟨ks,v1,v2,rfl,hc,hk,sJ,sm⟩
   refine⟨_,rfl,(by show 3 <= sizeLine;decide),fun p np => ?_⟩
   have Wb:H p=none:=sm.free np
   exact fin p c _ (sm.trans (rp np)) Wb ⟨a9,⟨ks,by rw[aA (bK hc np)];exact hc,by omega⟩,Int.le_refl 0⟩
noncomputable abbrev rK:Stmt:=top 60
theorem Wc {f qp:Addr} {fd mH:FuncData} (F:eS Z.K "law" "law" rK f fd) (B:BT Z.mg) (GO:Fn Z.P Z.w Z.K Z.mg Z.base 1 "_law_open" ["script"] (Hy Z.K) qp mH) (gn:xA Z) (Wd:JR Z) (We:JM Z) (Wf:Kk Z) (Wg:J0 Z):bE Z.P Z.w Z.K Z.mg Z.base bz 23 f fd ["script"] (w9 Z.K):=by
 have sc:jM ["script", "pen", "turn", "more", "web", "odd", "houses", "one", "other", "kind"] ["script"] (aW rK):=fB (by decide +kernel)
 refine F.tK (k:=22) sc (fun vs H Q E h => ?_) (fun aD A outer s H vs Q E hr h => ?_)
 ·obtain⟨a,ns,rfl,_⟩:=h
  rfl
 obtain⟨a,ns,rfl,hS,hlen,hT,fin⟩:=h
 have nd:=sc.nd
 have hu:=hr.units
 have rest:bZ (ar bz Z.P Z.w Z.K Z.mg Z.base ["script", "pen", "turn", "more", "web", "odd", "houses", "one", "other", "kind"] "law" (aW rK) f aD A outer s H E).bG ((b_ rK).drop 1) (cM Ca):=(a8 (lT Y5 rfl (qR (by rfl) B.range (aJ aq aB)) (dQ (i:=2) nd rfl (by trivial)) (a8 (b9 (i:=3) nd rfl (by trivial) (aF gn hr (ah (dv 1) (aJ aq aB)))) (a8 (b9 (i:=4) nd rfl (by trivial) (aF Wd hr (cQ (aF We hr (ah (dv 1) aB)) (aJ aq (aJ aq aB))))) (a8 (b9 (i:=5) nd rfl (by trivial) (gZ (eA (zX aq) (bp (bh bj (dv 4) aq (fun _ _=>rfl)) (eA (bu l7 aq aq) (aJ jD (aJ jD (aJ qH (aJ tO (tP (lO (aJ aq aB)) (lN (gZ (aJ aq aB)) (eA (bu j9 aq (bh bj (dv 4) aq (fun _ _=>rfl))) aB)))))))))))) (a8 (b9 (i:=6) nd rfl (by trivial) (bu eO (gZ (cQ (aF gn hr (ah (dv 1) (bp (bh bj (dv 4) aq (fun _ _=>rfl)) aB))) (cQ (aF gn hr (ah (dv 1) (bp (bh bj (dv 4) aq (fun _ _=>rfl)) aB))) aB))) (gZ (bp (bh bj (dv 5) (aF gn hr (ah (dv 1) (aJ aq aB))) (fun _ _=>rfl)) (bp (bh bj (dv 5) (aF gn hr (ah (dv 1) (aJ aq aB))) (fun _ _=>rfl)) aB))))) (a7 (lT Y5 rfl (iB (dv 6)) (dQ (i:=7) nd rfl (by trivial)) (a7 (lT Y5 rfl (iB (dv 6)) (dQ (i:=8) nd rfl (by trivial)) (a7 (lT Y5 rfl (qR (by rfl) B.range (aJ aq aB)) (dQ (i:=9) nd rfl (by trivial)) (a7 (dX (dA (qV hu) (aF Wf hr (ah (dv 9) (ah (dv 4) (ah (dv 7) (ah (dv 8) (ah (dv 3) aB)))))) (aF Wg hr (ah (dv 4) (ah (dv 7) (ah (dv 8) aB)))) (by rfl)) (a7 (bD jD)) eB))))))))))))) (a7 (bD jD)))
 refine⟨_,tF (vR (i:=1) nd rfl (by trivial) (tI GO.ok (hr.mono (by decide)) (by rfl) GO.vX GO.kp GO.bd .nil sM (jf (jv 0) aY))) rest,?_⟩
 refine⟨_,rfl,a,ns,rfl,hS,hlen,fun p c H1 sm hp N1 => ?_⟩
 obtain⟨F',ms,hm,S⟩:=RO (a:=a) (n:=8) (aE.same hT sm) N1
 exact RP S (UQ ms hm) fin
end
noncomputable def dh:List kg:=[⟨300,⟨95,25,95,63⟩,(("least_of" : Str) ++ ".<locals>.") ++ "<lambda>"⟩,⟨307,⟨97,25,97,63⟩,(("greatest_of" : Str) ++ ".<locals>.") ++ "<lambda>"⟩,⟨274,⟨72,40,72,76⟩,(("order_of" : Str) ++ ".<locals>.") ++ "<lambda>"⟩]
noncomputable def CD:List (Str × Stmt × Addr):=[("least_of",Jo,300),("greatest_of",Jq,307),("order_of",Jg,274)]
noncomputable def xC (K:PySem.W.Frag) (C:Addr):Bool :=
 (match PySem.W.clsIn K C with | some cd=>dy cd.mro && cd.hasDict | none=>false) &&
 (PySem.W.findIn K (.ref C) "__getattribute__" == some (some (.builtin "BaseException.__getattribute__"))) &&
 (PySem.W.findIn K (.ref C) "__getattr__" == some none) &&
 (PySem.W.findIn K (.ref C) "__setattr__" == some (some (.builtin "object.__setattr__"))) &&
 (PySem.W.findIn K (.ref C) "__class__" == some (some (.builtin "object.__class__"))) &&
 (PySem.W.specialIn K (.builtin "object.__class__") "__get__" == some (some (.builtin "getset_descriptor.__get__"))) &&
 (PySem.W.takesIn K (.builtin "object.__class__") == some true)
theorem Km {K:PySem.W.Frag} {C:Addr} (h:xC K C=true):bo K C:=by
 unfold xC at h
 simp only[Yg] at h
 obtain⟨⟨⟨⟨⟨⟨h1,h2⟩,h3⟩,h4⟩,h5⟩,h6⟩,h7⟩:=h
 refine⟨?_,Yb h2,Yb h3,Yb h4,Yb h5,Yb h6,Yb h7⟩
 split at h1
 ·rename_i cd e
  simp only[Yg] at h1
  exact⟨cd,e,h1.1,h1.2⟩
 ·cases h1
noncomputable def CF (K:PySem.W.Frag) (L:Addr) (Cs:List Addr):Bool :=
 xC K L && (PySem.W.kitOne K (.ref L) (.ref L) == some true) && (PySem.W.kitOne K (.ref L) (.type "ValueError") == some true) &&
 (Cs.zipIdx.all fun z=>PySem.W.kitOne K (.ref L) (.ref z.1) == some false) &&
 (Cs.zipIdx.all fun y=>xC K y.1 && (PySem.W.findIn K (.ref y.1) "place" == some none) && (PySem.W.kitOne K (.ref y.1) (.ref L) == some true) && (PySem.W.kitOne K (.ref y.1) (.type "ValueError") == some true) &&
  Cs.zipIdx.all fun z=>PySem.W.kitOne K (.ref y.1) (.ref z.1) == some (decide (z.2=y.2)))
theorem Wh {K:PySem.W.Frag} {L:Addr} {Cs:List Addr} (hl:Cs.length=13) (h:CF K L Cs=true):BV K L Cs:=by
 unfold CF at h
 simp only[Yg] at h
 obtain⟨⟨⟨⟨h1,h2⟩,h3⟩,h4⟩,h5⟩:=h
 have at_:∀ {i:Nat} {C:Addr},Cs[i]? = some C->(C,i)∈Cs.zipIdx:=fun {i C} e=>List.mk_mem_zipIdx_iff_getElem?.mpr e
 have each:∀ (j:Nat) (C:Addr),Cs[j]? = some C->_:=fun j C e=>Yr.mp h5 (C,j) (at_ e)
 refine⟨hl,fun j C e => ?_,⟨Km h1,Yb h2,Yb h3,fun i C' e=>Yb (Yr.mp h4 (C',i) (at_ e))⟩,fun j C e => ?_⟩
 ·have:=each j C e
  simp only[Yg] at this
  obtain⟨⟨⟨⟨a,_⟩,c⟩,d⟩,f⟩:=this
  exact⟨Km a,Yb c,Yb d,fun i C' e'=>Yb (Yr.mp f (C',i) (at_ e'))⟩
 ·have:=each j C e
  simp only[Yg] at this
  exact Yb this.1.1.1.2
noncomputable def nsOk (K:PySem.W.Frag) (N:Addr) (name:Str) (r:Option Value):Bool:=match List.lookup N K with
 | some ⟨_,_,.dict es _,_⟩=>(es.all fun e=>match e.key with | .str _ _=>true | _=>false) && (nsFind es name == r)
 | _=>false
theorem Kn {K:PySem.W.Frag} {N:Addr} {name:Str} {r:Option Value} (h:nsOk K N name r=true):tj K N name r:=by
 unfold nsOk at h
 split at h
 ·rename_i oc od es ep sl e
  simp only[Yg] at h
  exact⟨oc,od,es,ep,sl,e,h.1,Yb h.2⟩
 ·cases h
theorem Ko {K:PySem.W.Frag} {L C N:Addr} {nm q:Str} {bs:List Value} {dU:Bool} {sn:List Str} {sub:List Value} {ab:Bool} {col:Option Bool} {dd:Option Addr} {k0 k1 k2 k3 k5:Option Value} {jU:Option Value} (T:bW K (.ref L :: mU))
  (l:K.lookup C=some (excClassObj nm q C N bs (.ref L :: mU) dU sn sub ab col dd k0 k1 k2 k3 k5 "ValueError.__new__")) (n:nsOk K N "__init__" jU=true) (kp:PySem.W.keepIn K (.ref C)=true):mV K C jU :=
 ⟨⟨_,_,N,_,_,_,_,_,_,_,_,_,_,_,_,_,l,T,Kn n⟩,kp⟩
noncomputable abbrev dp (x:Str) (s:Stmt):Str × Stmt:=(x,s)
noncomputable def Kq:List (Str × Stmt):=[dp "is_whole" IV,dp "is_within" IX,dp "is_tuple_of" IY,dp "are_ends" IZ,dp "is_way" I_,dp "are_ways" Jb,dp "is_web" Jd,dp "need_web" Ci,dp "rank_of" Jf,dp "joined" Ji,dp "firsts_of" Jj,dp "is_rising" Jk,dp "leads_out" Js,dp "ways_out" Ju,dp "lot_at" Jw,dp "parts" Jx,dp "road_of" Jz,dp "forest_of" JD,dp "greatest_between" JH,dp "need_two" J_,dp "narrow_of" Ka,dp "is_narrow" Kc,dp "_law_spread" JJ,dp "_law_open" xB,dp "_law_anew" JL,dp "_law_take" JN,dp "_law_is_whole" JU,dp "_law_pairs_of" JO,dp "_law_web" JQ,dp "_law_is_in" JX,dp "_law_refusal" Ke,dp "_law_told" Kj,dp "_law_due" JZ,dp "law" rK]
theorem Wi {l:PySem.W.OpenLaw} {w:World} {K:PySem.W.Frag} {h:Heap} {mg:Str->Option Value} {fa:Addr} {L N0 c0 c1 c2 c3 c4 c5 c6 c7 c8 c9 hU hV hW:Addr} {Wj Wk:Str} {Wl:List Value} {Wm:Bool} {Wn:List Str} {CG:List Value} {Wo:Bool} {CH:Option Bool} {Wq:Option Addr} {Wr Ws Wt Wu Wv:Option Value} {M3:Addr} {CI CJ:Str} {CK:List Value} {CL:Bool} {CM:List Str} {vo:List Value} {CN:Bool} {vp:Option Bool} {CO:Option Addr} {CP CQ CS CT CU:Option Value} {rL:Addr} {Ww Wx:Option Addr} {Wz:Array (Option Value)} {WB WC WD WH Kr WJ:Value} {M4:Addr} {CV CW:Str} {CY:List Value} {CZ:Bool} {C0:List Str} {vq:List Value} {C1:Bool} {vt:Option Bool} {C2:Option Addr} {C3 C4 C5 C6 C7:Option Value} (X:K.In h) (G:h.Ns mainGlobals mg) (WK:mg "law" = some (.ref fa)) (DS:gm K Kq) (LS:dZ K CD) (N:∀ x∈BN,PySem.W.nsIn K mainGlobals x=some none) (gq:Ck K "MOST_HOUSES" 12) (iJ:Ck K "MOST_WAYS" 30) (gX:Ck K "MOST_PRICE" 1000000000) (aL:PySem.W.nsIn K mainGlobals "LotError" = some (some (.ref L))) (lL:K.lookup L=some (excClassObj Wj Wk L N0 Wl (mU) Wm Wn CG Wo CH Wq Wr Ws Wt Wu Wv "ValueError.__new__")) (nL:nsOk K N0 "__init__" none=true) (aC0:PySem.W.nsIn K mainGlobals "NoWay" = some (some (.ref c0))) (aC1:PySem.W.nsIn K mainGlobals "NoJoin" = some (some (.ref c1))) (aC2:PySem.W.nsIn K mainGlobals "NoStep" = some (some (.ref c2))) (aC3:PySem.W.nsIn K mainGlobals "NoHouse" = some (some (.ref c3))) (aC4:PySem.W.nsIn K mainGlobals "NoWeb" = some (some (.ref c4))) (aC5:PySem.W.nsIn K mainGlobals "NoPrice" = some (some (.ref c5))) (aC6:PySem.W.nsIn K mainGlobals "TooMany" = some (some (.ref c6))) (aC7:PySem.W.nsIn K mainGlobals "Closed" = some (some (.ref c7))) (aC8:PySem.W.nsIn K mainGlobals "Free" = some (some (.ref c8))) (aC9:PySem.W.nsIn K mainGlobals "Nothing" = some (some (.ref c9))) (aC10:PySem.W.nsIn K mainGlobals "NoNumber" = some (some (.ref hU))) (aC11:PySem.W.nsIn K mainGlobals "NoText" = some (some (.ref hV))) (aC12:PySem.W.nsIn K mainGlobals "NoLine" = some (some (.ref hW))) (kit:CF K L [c0,c1,c2,c3,c4,c5,c6,c7,c8,c9,hU,hV,hW]=true) (exm:([c0,c1,c2,c3,c4,c5,c6,c7,c8,c9,hU,hV,hW].all fun c=>PySem.W.exmOne K (.ref c) (.ref L) == some true)=true) (zVE:PySem.W.nsIn K mainGlobals "ValueError" = some none) (aI3:PySem.W.findIn K (.ref c3) "__init__" = some (some (.ref rL))) (lI3:K.lookup rL=some ⟨WB,Ww,.func (PySem.W.fnOf "__init__" "NoHouse.__init__" (jc vm) (b_ vm) (aW vm) .none WC WD WH Wx Kr WJ),Wz⟩) (qI3:PySem.W.codeIn K Kr "NoHouse.__init__" = true) (kI3:PySem.W.keepIn K (.ref rL)=true) (iI3:PySem.W.isFn K (.ref rL)=true) (lC3:K.lookup c3=some (excClassObj CI CJ c3 M3 CK (.ref L :: mU) CL CM vo CN vp CO CP CQ CS CT CU "ValueError.__new__")) (nC3:nsOk K M3 "__init__" (some (.ref rL))=true) (kC3:PySem.W.keepIn K (.ref c3)=true) (lC4:K.lookup c4=some (excClassObj CV CW c4 M4 CY (.ref L :: mU) CZ C0 vq C1 vt C2 C3 C4 C5 C6 C7 "ValueError.__new__")) (nC4:nsOk K M4 "__init__" none=true) (kC4:PySem.W.keepIn K (.ref c4)=true)
  : ∃ fd:FuncData,(∀ (s:Shared) (v:Value),BindsTo s fd ⟨[v],[]⟩ [("script",v)])/\∀ base:Heap,K.In base->base.Ns mainGlobals mg->(∀ t∈dh,base.BuiltinsAt mg t.T)->bE l.prog w K mg base bz 23 fa fd ["script"] (@w9 (mz dh) K):=by
 obtain⟨f,fd,a,F⟩:=DS.at (x := "law") (st:=rK) 33 rfl
 cases WK.symm.trans (Yq X G a)
 letI:aE:=mz dh
 have B:=T6 X G N
 refine⟨fd,fun s v=>by obtain⟨_,_,_,_,_,_,_,_,_,rfl,_⟩:=F.ex;exact .of_eq rfl,fun base KB _ hB => ?_⟩
 have D:∀ (i:Nat) {x:Str} {st:Stmt},Kq[i]? = some (x,st)->Dx ⟨l.prog,w,K,mg,base⟩ x st:=fun i _ _ e=>(DS.at i e).v X G
 have M:∀ (i:Nat) {x:Str} {st:Stmt} {T:Addr} {lp:Pos} {q:Str},CD[i]? = some (x,st,T)->dh[i]? = some ⟨T,lp,q⟩->rD ⟨l.prog,w,K,mg,base⟩ x st T lp q:=fun i _ _ _ _ _ e e2=>(LS.at i e).v X G KB hB (by decide) (by decide) (Yn e2)
 have W:BV K L [c0,c1,c2,c3,c4,c5,c6,c7,c8,c9,hU,hV,hW]:=Wh rfl kit
 have T:BW mg L [c0,c1,c2,c3,c4,c5,c6,c7,c8,c9,hU,hV,hW]:=by
  refine⟨B.isinstance,PySem.W.mg_none_of X G zVE,Yq X G aL,fun j x hx => ?_⟩
  unfold names13 at hx
  rcases j with _ | _ | _ | _ | _ | _ | _ | _ | _ | _ | _ | _ | _ | j<;>simp at hx<;>subst hx
  ·exact⟨_,rfl,Yq X G aC0⟩
  ·exact⟨_,rfl,Yq X G aC1⟩
  ·exact⟨_,rfl,Yq X G aC2⟩
  ·exact⟨_,rfl,Yq X G aC3⟩
  ·exact⟨_,rfl,Yq X G aC4⟩
  ·exact⟨_,rfl,Yq X G aC5⟩
  ·exact⟨_,rfl,Yq X G aC6⟩
  ·exact⟨_,rfl,Yq X G aC7⟩
  ·exact⟨_,rfl,Yq X G aC8⟩
  ·exact⟨_,rfl,Yq X G aC9⟩
  ·exact⟨_,rfl,Yq X G aC10⟩
  ·exact⟨_,rfl,Yq X G aC11⟩
  ·exact⟨_,rfl,Yq X G aC12⟩
 have TL:bW K (.ref L :: mU) := .own lL (Kn nL) .base
 have hX:∀ (c:Nat) (C:Addr),([c0,c1,c2,c3,c4,c5,c6,c7,c8,c9,hU,hV,hW]:List Addr)[c]? = some C->c < 13/\PySem.W.exmOne K (.ref C) (.ref L)=some true:=fun c C e=>⟨(oP.mp e).1,Yb (Yr.mp exm C (Yn e))⟩
 have Ks:=yH (st:=vm) lI3 qI3 kI3
 have kH:EI ⟨l.prog,w,K,mg,base⟩ [c0,c1,c2,c3,c4,c5,c6,c7,c8,c9,hU,hV,hW] 3 "NoHouse" := ⟨by decide,c3,rfl,Yq X G aC3,rL,_,Ko TL lC3 nC3 kC3,iI3,VM Ks (W.each 3 c3 rfl).1 (W.iZ 3 c3 rfl),Ks.binds (ps:=["self", "place"]) fun _ _ _ _ _ _ us hl=>by obtain⟨_,_,rfl⟩:=BJ hl;rfl⟩
 have qq:ET ⟨l.prog,w,K,mg,base⟩ [c0,c1,c2,c3,c4,c5,c6,c7,c8,c9,hU,hV,hW] 4 "NoWeb" := ⟨by decide,c4,rfl,Ko TL lC4 nC4 kC4,Yq X G aC4⟩
 have WL:=US (D 0 rfl) B
 have vv:=UT (D 1 rfl) B WL
 have Kt:=UW (D 2 rfl) B
 have WM:=UX (D 3 rfl) B vv
 have WN:=UY (D 4 rfl) B (gX.v X G) Kt WM vv
 have WQ:=U1 (D 5 rfl) B (iJ.v X G) WN
 have Ku:=U4 (D 6 rfl) B (gq.v X G) Kt vv WQ
 have WR:=VC (Cs:=[c0,c1,c2,c3,c4,c5,c6,c7,c8,c9,hU,hV,hW]) (D 7 rfl) B qq Ku
 have WU:=U7 (D 7 rfl) B Ku
 have C8:=U8 (D 8 rfl) B
 have WV:=U9 (M 2 rfl rfl) B WU C8
 have Kv:=Va (D 9 rfl) B
 have C9:=Vb (D 10 rfl) B Kv
 have WW:=Vc (D 11 rfl) B vv
 have WX:=Vd (M 0 rfl rfl) B C8
 have WY:=Ve (M 1 rfl rfl) B C8
 have WZ:=Vf (D 12 rfl) B
 have W0:=Vg (D 13 rfl) B WZ
 have Kw:=Vi (D 14 rfl) B C9
 have W5:=Vj (D 15 rfl) B C9
 have W6:=Vk (D 16 rfl) B W5
 have Kx:=Vm (D 17 rfl) B WV C9 Kv
 have Ky:=Vo (D 18 rfl) B Kw WY W6
 have Kz:=VD (Cs:=[c0,c1,c2,c3,c4,c5,c6,c7,c8,c9,hU,hV,hW]) (D 19 rfl) B kH vv WR
 have W7:=VG (Cs:=[c0,c1,c2,c3,c4,c5,c6,c7,c8,c9,hU,hV,hW]) (D 20 rfl) B Kx Ky Kw Kz
 have W8:=VH (Cs:=[c0,c1,c2,c3,c4,c5,c6,c7,c8,c9,hU,hV,hW]) (D 21 rfl) B WW Ky Kx WX W0 Kz
 have W9:=Vr (D 22 rfl) B
 have W_:=Vs (D 24 rfl) B
 have C_:=Vt (D 25 rfl) B W9
 have Xa:=Vy (D 26 rfl) B
 have Xb:=Vv (D 27 rfl) B C_
 have Xc:=Vw (D 28 rfl) B C_ Xb
 have Xd:=Vz (D 29 rfl) B Xa
 obtain⟨fR,CC,aR,FR⟩:=D 30 (x := "_law_refusal") (st:=Ke) rfl
 have GR:Fn l.prog w K mg base 1 "_law_refusal" ["caught"] (kE [c0,c1,c2,c3,c4,c5,c6,c7,c8,c9,hU,hV,hW]) fR CC:=⟨VW (Z:=⟨l.prog,w,K,mg,base⟩) FR T W,aR,FR.kp,FR.binds ku⟩
 have Xe:=VX (D 31 rfl) B GR (Yq X G aL) hX W7 W8
 have Xf:=VB (D 32 rfl) B Xd
 obtain⟨fo,X0,ao,Fo⟩:=D 23 (x := "_law_open") (st:=xB) rfl
 exact Wc (Z:=⟨l.prog,w,K,mg,base⟩) F B ⟨V0 Fo B.list B.enumerate,ao,Fo.kp,Fo.binds ku⟩ C_ Xc W_ Xe Xf
theorem Xg {K:PySem.W.Frag} {h:Heap} (X:K.In h) (LS:dZ K CD):∀ t∈dh,∃ cc,PySem.W.CodeHd h cc t.T:=fun t ht=>LS.code X t.T (show t.T∈dh.map (·.T) from ZF ht)
end LJ
open PySem PySem.W PyProof.Rows
theorem PySem.W.Fast.tw2967089626849245278:True:=trivial
theorem PySem.W.Fast.tw15632452464479319933:True:=trivial
theorem PySem.W.Fast.tw18150136085597931204:True:=trivial
theorem PySem.W.Fast.tw15209397643226438877:True:=trivial
theorem PySem.W.Fast.tw13931191870486851126:True:=trivial
theorem PySem.W.Fast.tw16655065845380310232:True:=trivial
theorem PySem.W.Fast.tw3902223539854576808:True:=trivial
theorem PySem.W.Fast.tw18374770731759417376:True:=trivial
theorem PySem.W.Fast.tw5896839182464777755:True:=trivial
theorem PySem.W.Fast.tw6605705788672853031:True:=trivial
theorem PySem.W.Fast.tw763261132449340130:True:=trivial
theorem PySem.W.Fast.tw8062411423805004023:True:=trivial
theorem PySem.W.Fast.tw13986155592061232170:True:=trivial
theorem PySem.W.Fast.tw12689651411442293434:True:=trivial
theorem PySem.W.Fast.tw14622466045195186265:True:=trivial
theorem PySem.W.Fast.tw2608441304222914381:True:=trivial
theorem PySem.W.Fast.tw668895523378617072:True:=trivial
theorem PySem.W.Fast.tw3962793746898433895:True:=trivial
theorem PySem.W.Fast.tw7339617351635788555:True:=trivial
theorem PySem.W.Fast.tw10833299302523788021:True:=trivial
theorem PySem.W.Fast.tw12115443638109749469:True:=trivial
theorem PySem.W.Fast.tw6902735481307538522:True:=trivial
set_option maxRecDepth 100000 in
set_option maxHeartbeats 0 in
theorem PySem.Challenge.cw_lotjoin_k73_houses_refused_holds : PySem.Challenge.rw_lotjoin_k73_houses_refused.Holds := by
 w_on;o_law;k_head; (case hw=>w_witness2)
 k_fill
 refine LJ.Sr (l:=PySem.Challenge.rw_lotjoin_k73_houses_refused) (kk:=23) LJ.dh rfl rfl rfl ⟨rfl,by decide,by decide⟩ ?C (fun P=>by kernel_rfl) ?F
 case C =>
  intro w h KX
  refine LJ.Xg KX ?_
  repeat' first | exact LJ.dZ.nil | refine LJ.u_ (by k_is) (by k_is) (by k_is) (by k_is) (by kernel_rfl) ?_
 case F =>
  intro w mg fa h KX G lH
  refine' LJ.Wi KX G lH ?dD ?dL ?dN ⟨_,by k_is,_,rfl⟩ ⟨_,by k_is,_,rfl⟩ ⟨_,by k_is,_,rfl⟩ ?aL ?lL ?nL ?aC0 ?aC1 ?aC2 ?aC3 ?aC4 ?aC5 ?aC6 ?aC7 ?aC8 ?aC9 ?aC10 ?aC11 ?aC12 ?kit ?exm ?zVE ?aI3 ?lI3 ?qI3 ?kI3 ?iI3 ?lC3 ?nC3 ?kC3 ?lC4 ?nC4 ?kC4
  (case dD=>repeat' first | exact LJ.gm.nil | refine LJ.BM (by k_is) (by k_is) (by k_is) (by k_is) ?_)
  (case dL=>repeat' first | exact LJ.dZ.nil | refine LJ.u_ (by k_is) (by k_is) (by k_is) (by k_is) (by kernel_rfl) ?_)
  (case dN=>repeat' first | exact List.forall_mem_nil _ | refine LJ.T3 (by k_is) ?_)
  (case aL=>k_is)
  (case aC0=>k_is)
  (case aC1=>k_is)
  (case aC2=>k_is)
  (case aC3=>k_is)
  (case aC4=>k_is)
  (case aC5=>k_is)
  (case aC6=>k_is)
  (case aC7=>k_is)
  (case aC8=>k_is)
  (case aC9=>k_is)
  (case aC10=>k_is)
  (case aC11=>k_is)
  (case aC12=>k_is)
  (case lL=>k_is)
  (case nL=>kernel_rfl)
  (case kit=>kernel_rfl)
  (case exm=>kernel_rfl)
  (case zVE=>k_is)
  (case aI3=>k_is)
  (case lI3=>k_is)
  (case qI3=>k_is)
  (case kI3=>k_is)
  (case iI3=>k_is)
  (case lC3=>k_is)
  (case nC3=>kernel_rfl)
  (case kC3=>k_is)
  (case lC4=>k_is)
  (case nC4=>kernel_rfl)
  (case kC4=>k_is)
