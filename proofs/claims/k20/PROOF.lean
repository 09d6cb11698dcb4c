import PyProof.Rows.All
import Wide.All
import OpenK.AllK
import Wide.FinOn
import Lean
import PyProof.Rows.SetFrom
import PyProof.TupleKey
import PyProof.SetRoads
import PySem.SetOps
import PyProof.EqAt
import PyProof.EqKinds
import PyProof.TupleCall
import KE.KDictList
import KE.KDictLaws
import PyProof.NeKinds
import PyProof.Draws
import KE.KSortTup
import KE.KLam
import PyProof.ListRange
import PyProof.TupleOfSeq
import KE.KNestM
import KE.KMinKey
import PySem.Challenge.RW_lotjoin_k20_rounds_told
set_option Elab.async false
set_option linter.all false
set_option maxRecDepth 100000
local macro_rules | `(tactic| trivial) => `(tactic| first | exact Or.inl rfl | exact Or.inr rfl)
abbrev nq:=@PySem.wpAny_bind
abbrev qo:=@List.getElem?_eq_getElem
abbrev qp:=@List.length_map
abbrev qq:=@Nat.le_refl
abbrev su:=@List.getElem?_eq_some_iff
abbrev ue:=@PySem.Heap.get?_push_of_some
abbrev xa:=@PySem.wpAny_pure
abbrev xb:=@List.size_toArray
abbrev Aw:=@List.length_append
abbrev FL:=@List.length_cons
abbrev FN:=@List.mem_cons_self
abbrev FO:=@Array.length_toList
abbrev FP:=@List.getD_eq_getElem?_getD
abbrev My:=@List.mem_cons_of_mem
abbrev Ng:=@PySem.Heap.lt_size
abbrev Nh:=@List.mem_cons
abbrev Ni:=@List.getElem?_map
abbrev Nj:=@if_neg
abbrev Nk:=@List.mem_map
abbrev XH:=@Array.getElem?_eq_getElem
abbrev XI:=@if_pos
abbrev XJ:=@PySem.Heap.get?_push_size
abbrev XM:=@Option.map_eq_some_iff
abbrev XN:=@Nat.ne_of_lt
abbrev XO:=@List.getElem?_append_left
abbrev Yi:=@List.getElem?_append_right
abbrev Yj:=@List.mem_iff_getElem?
abbrev Yk:=@decide_eq_true
abbrev Yl:=@PySem.W.mg_of
abbrev Ym:=@Bool.false_eq_true
abbrev Yn:=@Nat.lt_of_lt_of_le
abbrev Yo:=@Bool.false_ne_true
abbrev Yp:=@Array.getElem?_toList
abbrev Yq:=@List.mem_append_right
abbrev Yr:=@List.mem_range
abbrev Ys:=@List.map_map
abbrev Yt:=@List.map_cons
abbrev Yu:=@List.length_singleton
abbrev Yv:=@Int.toNat_natCast
abbrev Yw:=@List.map_append
abbrev Yx:=@List.not_mem_nil
abbrev Yy:=@List.lookup_cons
abbrev Yz:=@decide_eq_false
abbrev YA:=@Option.some.inj
abbrev YB:=@decide_eq_true_eq
abbrev YC:=@PySem.W.mg_none_of
abbrev YD:=@List.length_take
abbrev YE:=@PySem.wpAny_holding
abbrev YF:=@List.mem_singleton
abbrev YG:=@List.mem_iff_getElem
abbrev YH:=@List.mem_filter
abbrev YI:=@Bool.and_eq_true
abbrev YJ:=@List.map_congr_left
abbrev YK:=@Nat.zero_le
abbrev YL:=@List.mem_append
abbrev YM:=@PySem.Heap.SameBut.update
abbrev YN:=@List.getElem?_set_self
abbrev YO:=@List.mem_of_getElem?
abbrev YQ:=@List.getElem?_take_of_lt
abbrev YR:=@Nat.lt_succ_of_lt
abbrev YS:=@PySem.Heap.get?_update_self
abbrev YT:=@List.take_of_length_le
abbrev YU:=@List.getElem?_set_ne
abbrev YV:=@PySem.boot_len
abbrev YW:=@Array.getD_eq_getD_getElem?
abbrev YX:=@PyProof.Rows.slot_tuple_getitem
abbrev YY:=@Nat.zero_add
abbrev YZ:=@Nat.sub_self
abbrev Y0:=@Nat.lt_succ_self
abbrev Y1:=@if_false
abbrev Y2:=@PySem.F.plainAttrs_list
abbrev Y3:=@List.nodup_append
abbrev Y4:=@PySem.wpAny_newObj_type
abbrev Y5:=@PySem.Around.under_plainId
abbrev Y6:=@Int.emod_lt_of_pos
abbrev Y7:=@List.set_cons_zero
abbrev Y8:=@List.set_cons_succ
abbrev Y9:=@List.pairwise_cons
abbrev Y_:=@PySem.F.called_set
abbrev Za:=@PySem.Heap.get?_update_other
abbrev Zb:=@Nat.le_trans
abbrev Zc:=@PySem.PassesOwn.never
abbrev Zd:=@LawfulBEq.eq_of_beq
abbrev Ze:=@List.getElem?_range
abbrev Zf:=@PySem.mem_of_lookup
abbrev Zg:=@List.replicate_succ
abbrev Zh:=@List.length_range
abbrev Zi:=@List.pairwise_map
abbrev Zj:=@PySem.wpAny_setState_of
abbrev Zk:=@PyProof.Rows.callWith_type1
abbrev Zl:=@PySem.codeAny_builtin
abbrev Zm:=@PySem.W.kia_one
abbrev Zn:=@List.length_set
abbrev Zo:=@Array.getElem?_eq_none
abbrev Zp:=@Nat.le_of_lt
abbrev Zq:=@List.pairwise_lt_range
abbrev Zr:=@PySem.wpAny_call_entry
abbrev Zs:=@List.exists_cons_of_length_eq_add_one
abbrev Zt:=@of_decide_eq_true
abbrev Zu:=@List.nodup_nil
abbrev Zv:=@PySem.F.slot_list_append
abbrev Zw:=@PySem.F.type_list_append
abbrev Zx:=@Int.emod_nonneg
abbrev Zy:=@List.all_eq_true
abbrev Zz:=@PyProof.Rows.F.plain_set_update_loop
abbrev ZA:=@PySem.wpAny_callSpecial?_slot
abbrev ZC:=@List.mem_append_left
abbrev ZD:=@List.getElem_map
abbrev ZE:=@Nat.lt_irrefl
abbrev ZF:=@Array.getElem?_eq_some_iff
abbrev ZG:=@Array.toList_setIfInBounds
abbrev ZH:=@List.append_assoc
abbrev ZI:=@or_false
abbrev ZJ:=@PySem.wpAny_truthy_bool
abbrev ZK:=@List.flatten_cons
abbrev ZL:=@PySem.F.plain_min_loop
abbrev ZM:=@List.append_nil
abbrev ZN:=@PySem.wpAny_loadPart'
abbrev ZO:=@List.getElem?_eq_none
abbrev ZP:=@List.length_drop
abbrev ZQ:=@List.getElem_mem
abbrev ZR:=@Nat.le_add_right
abbrev ZS:=@Bool.not_true
abbrev ZT:=@PySem.plainId_quiet
abbrev ZU:=@Nat.ne_of_gt
abbrev ZV:=@Ne.symm
abbrev ZW:=@PySem.sizeLine_eq
abbrev ZX:=@PySem.Heap.size_push
abbrev ZY:=@List.take_succ
abbrev ZZ:=@List.length_eq_zero_iff
abbrev Z0:=@List.any_eq_false
abbrev Z1:=@PySem.wpAny_pyIter_enum
abbrev Z2:=@List.getElem?_cons_succ
abbrev Z3:=@PySem.wpAny_mono
abbrev Z4:=@List.map_nil
abbrev Z5:=@List.mem_filterMap
abbrev Z6:=@PySem.Obj.data_mapFields
abbrev Z7:=@PySem.F.slot_tuple_iterator_next
abbrev Z8:=@List.filter_append
abbrev Z9:=@if_true
abbrev Z_:=@List.drop_eq_getElem_cons
abbrev q0a:=@PySem.wpAny_ite_split
abbrev q0b:=@PySem.wpAny_passesOwn
abbrev q0c:=@Array.toList_push
abbrev q0d:=@PySem.wpAny_pyIter_list
abbrev q0e:=@List.any_cons
abbrev q0f:=@List.Perm.refl
abbrev q0g:=@PyProof.Rows.F.entry_set_update_loop
abbrev q0h:=@List.getElem_inj
abbrev q0i:=@List.take_length
abbrev q0j:=@Array.toList_filterMap
abbrev q0k:=@List.zip_cons_cons
abbrev q0l:=@Nat.succ.inj
abbrev q0m:=@List.nodup_cons
abbrev q0n:=@List.length_nil
abbrev q0o:=@List.find?_cons
abbrev q0p:=@Array.getElem?_setIfInBounds
abbrev q0q:=@List.filter_map
abbrev q0r:=@List.getElem?_toArray
abbrev q0s:=@Nat.le_of_lt_succ
abbrev q0t:=@List.ext_getElem?
abbrev q0u:=@PySem.wpAny_seqItems
abbrev q0v:=@PySem.wpAny_askSetting
abbrev q0w:=@PySem.codeAny_mono
abbrev q0x:=@Classical.byContradiction
abbrev q0y:=@List.pairwise_iff_getElem
abbrev q0z:=@List.mem_of_find?_eq_some
abbrev q0A:=@List.filterMap_cons
abbrev q0B:=@List.eq_of_mem_replicate
abbrev q0C:=@PySem.wpAny_standAt
abbrev q0D:=@Option.isSome_iff_exists
abbrev q0E:=@PySem.F.args_tuple_add_2
abbrev q0F:=@List.find?_some
abbrev q0G:=@PySem.wpAny_updateSeq
abbrev q0H:=@List.find?_eq_none
abbrev q0I:=@Nat.lt_of_le_of_lt
abbrev q0J:=@PySem.wpAny_Call_Name_kw
abbrev q0K:=@PySem.wpAny_pyIter_tuple
abbrev q0L:=@List.getElem?_replicate
abbrev q0M:=@PySem.F.entry_tuple_add
abbrev q0N:=@PySem.wpAny_field
abbrev q0O:=@List.getElem?_cons_zero
abbrev q0P:=@Array.toList_replicate
abbrev q0Q:=@List.drop_zero
abbrev q0R:=@PySem.SetTable.insertAt_perm
abbrev q0S:=@PySem.wpAny_storeSet_of
abbrev q0T:=@Array.size_map
abbrev q0U:=@PySem.wpAny_setField
abbrev q0V:=@PySem.wpAny_typeOf
abbrev q0W:=@PySem.W.cellsFrom_some
abbrev q0X:=@List.zip_nil_left
abbrev q0Y:=@PySem.F.slot_tuple_add
abbrev q0Z:=@List.length_filterMap_eq_countP
abbrev q00:=@PySem.Obj.isFreed_of_fields
abbrev q01:=@List.length_replicate
abbrev q02:=@List.length_filter_le
abbrev q03:=@List.countP_cons
abbrev q04:=@Nat.le_of_not_lt
abbrev q05:=@PySem.intKind_is
abbrev q06:=@PySem.putSet_of
abbrev q07:=@PySem.wpAny_forIn_list
abbrev q08:=@Option.getD_none
abbrev q09:=@List.cons.inj
abbrev q0_:=@Bool.and_self
abbrev q1a:=@Bool.true_and
abbrev q1b:=@Array.mem_toList_iff
abbrev q1c:=@List.range_succ
abbrev q1d:=@PySem.wpAny_execs_nil
abbrev q1e:=@PySem.F.slot_dict_setdefault
abbrev q1g:=@PySem.wpAny_setEntries_of
abbrev q1h:=@PyProof.Rows.lt_int
abbrev q1i:=@List.mem_map_of_mem
abbrev q1j:=@List.length_pos_iff
abbrev q1k:=@Nat.succ_pos
abbrev q1m:=@of_decide_eq_false
abbrev q1n:=@List.length_eraseIdx_of_lt
abbrev q1o:=@PySem.Walks.list
abbrev q1r:=@PySem.Around.in1_handled
abbrev q1s:=@List.take_zero
abbrev q1t:=@Array.perm_iff_toList_perm
abbrev q1u:=@PySem.wpAny_tryCatch
abbrev q1v:=@List.exists_cons_of_ne_nil
abbrev q1w:=@List.mem_or_eq_of_mem_set
abbrev q1x:=@List.extract_eq_take_drop
abbrev q1z:=@List.getElem_take
abbrev q1A:=@PySem.Obj.cls_mapFields
abbrev q1B:=@Nat.le_succ
abbrev q1C:=@Bool.not_eq_true'
abbrev q1D:=@Array.getElem_mem_toList
abbrev q1E:=@Array.size_setIfInBounds
abbrev q1F:=@PySem.F.slot_dict_values
abbrev q1G:=@PySem.wpAny_newList
abbrev q1H:=@List.nodup_range
abbrev q1K:=@Nat.succ_ne_self
abbrev q1L:=@List.cons_append
abbrev q1O:=@List.filter_cons
abbrev q1Q:=@Nat.lt_trans
abbrev q1R:=@Nat.sub_zero
abbrev q1S:=@PySem.wpAny_rule
abbrev q1V:=@PySem.call_meets
abbrev q11:=@Option.map_some
abbrev q12:=@List.foldl_cons
abbrev q15:=@List.of_mem_zip
abbrev q2g:=@not_or
abbrev q2i:=@Bool.false_and
abbrev q2j:=@Bool.not_false
abbrev q2k:=@List.map_id
theorem el7 {α β γ ε : Type} {A B C : α → β → γ → ε → Prop} {R : Prop} (h : ∃ F ad δ K, A F ad δ K ∧ B F ad δ K ∧ C F ad δ K) (k : ∀ F ad δ K, A F ad δ K → B F ad δ K → C F ad δ K → R) : R := h.elim fun F h => h.elim fun a h => h.elim fun d h => h.elim fun K h => k F a d K h.1 h.2.1 h.2.2
theorem el5 {α β : Type} {A B C : α → β → Prop} {R : Prop} (h : ∃ F ad, A F ad ∧ B F ad ∧ C F ad) (k : ∀ F ad, A F ad → B F ad → C F ad → R) : R := h.elim fun F h => h.elim fun a h => k F a h.1 h.2.1 h.2.2
theorem el3 {α : Type} {A B : α → Prop} {R : Prop} (h : ∃ F, A F ∧ B F) (k : ∀ F, A F → B F → R) : R := h.elim fun F h => k F h.1 h.2
set_option compiler.extract_closed false
local macro_rules | `(tactic| omega) => `(tactic| first | lia | omega (config := {}))
namespace LJS
open PySem PySem.SetTable
noncomputable def nx (m i:Nat):Nat:=(i * 5 + 1) % (m + 1)
noncomputable def mM (m:Nat):Nat->Nat->Nat
 | 0,i=>i
 | n + 1,i=>mM m n (nx m i)
theorem wH (m:Nat):∀ a b i,mM m (a + b) i=mM m b (mM m a i)
 | 0,b,i=>by rw[YY];rfl
 | a + 1,b,i=>by rw[Nat.succ_add];exact wH m a b (nx m i)
noncomputable def zb (m:Nat):Nat->Nat->List Nat
 | 0,_=>[]
 | n + 1,i=>i :: zb m n (nx m i)
theorem Ea (m:Nat):∀ {n i e:Nat},e∈zb m n i->∃ k,k < n/\mM m k i=e
 | 0,_,_,h=>nomatch h
 | n + 1,i,e,h=>by
  rcases Nh.mp h with rfl | h
  ·exact⟨0,q1k _,rfl⟩
  ·obtain⟨k,hk,e⟩:=Ea m h
   exact⟨k + 1,Nat.succ_lt_succ hk,e⟩
noncomputable def Mk (m:Nat):Prop:=m=7\/m=31\/m=127
noncomputable def tE (m:Nat):Bool:=(List.range (m + 1)).all fun e=>(zb m (m + 1) 0).contains e
theorem Eb {m:Nat} (h:Mk m):tE m=true/\mM m (m + 1) 0=0:=by
 rcases h with rfl | rfl | rfl<;>exact⟨by decide +kernel,by decide +kernel⟩
theorem oh {m:Nat} (h:Mk m) {e:Nat} (he:e <= m):∃ k,k <= m/\mM m k 0=e:=by
 have:=Zy.mp (Eb h).1 e (Yr.mpr (Nat.lt_succ_of_le he))
 obtain⟨k,hk,q⟩:=Ea m (List.contains_iff_mem.mp this)
 exact⟨k,q0s hk,q⟩
theorem Kk {m:Nat} (h:Mk m) {i e:Nat} (hi:i <= m) (he:e <= m):∃ n,n <= m/\mM m n i=e:=by
 obtain⟨a,ha,rfl⟩:=oh h hi
 obtain⟨b,hb,rfl⟩:=oh h he
 by_cases wI:a <= b
 ·refine⟨b - a,by omega,?_⟩
  rw[<-wH];congr 1;omega
 ·refine⟨m + 1 - a + b,by omega,?_⟩
  rw[<-wH,show a + (m + 1 - a + b)=(m + 1) + b by omega,wH,(Eb h).2]
noncomputable def lp (m:Nat):Nat->Nat->Nat->Nat × Nat
 | 0,i,p=>(i,p)
 | n + 1,i,p=>lp m n (leap m i p).1 (leap m i p).2
theorem zc (m:Nat):∀ a b i p,lp m (a + b) i p=lp m b (lp m a i p).1 (lp m a i p).2
 | 0,b,i,p=>by rw[YY];rfl
 | a + 1,b,i,p=>by rw[Nat.succ_add];exact zc m a b _ _
theorem Ec (m:Nat):∀ n i,lp m n i 0=(mM m n i,0)
 | 0,i=>rfl
 | n + 1,i=>by
  show lp m n (leap m i 0).1 (leap m i 0).2=_
  have e:leap m i 0=(nx m i,0):=by unfold leap nx;simp
  rw[e];exact Ec m n _
theorem Ed (m i p:Nat):(leap m i p).1 <= m:=q0s (Nat.mod_lt _ (q1k _))
theorem Ee (m:Nat):∀ n i p,(lp m n i p).2=p / 32 ^ n
 | 0,i,p=>by simp[lp]
 | n + 1,i,p=>by
  show (lp m n (leap m i p).1 (leap m i p).2).2=_
  rw[Ee m n]
  show p / 32 / 32 ^ n=_
  rw[Nat.div_div_eq_div_mul,Nat.pow_succ,Nat.mul_comm]
theorem reach {m:Nat} (h:Mk m) {i p e:Nat} (hp:p < 2 ^ 64) (he:e <= m):∃ n,n <= 13 + m/\(lp m n i p).1=e:=by
 have z:(lp m 13 i p).2=0:=by
  rw[Ee]
  exact Nat.div_eq_of_lt (q1Q hp (by decide))
 have q:(lp m 13 i p).1 <= m:=by
  rw[zc m 12 1];exact Ed _ _ _
 obtain⟨n,hn,en⟩:=Kk h q he
 refine⟨13 + n,by omega,?_⟩
 rw[zc,z,Ec];exact en
theorem Ef (j:Nat):has #[] j=false:=by unfold has;simp
theorem tF {t:SetTable} (hd:t.dummies = #[]) (j:Nat):t.slot j = .empty\/∃ i,t.slot j = .live i/\i < t.place.size/\j∈t.place.toList:=by
 unfold slot
 rw[hd,Ef]
 dsimp only
 by_cases c:(t.place[below t.place j]? == some j)=true
 ·right
  rw[XI c]
  have e:=Zd c
  obtain⟨hl,ev⟩:=ZF.mp e
  exact⟨_,rfl,hl,by rw[<-ev];exact q1D hl⟩
 ·left
  rw[Nj c];rfl
theorem Kl {t:SetTable} (hd:t.dummies = #[]) {j:Nat} (hj:j∉t.place.toList):t.slot j = .empty:=by
 rcases tF hd j with h | ⟨_,_,_,h⟩
 ·exact h
 ·exact absurd h hj
theorem Eg:∀ {l l':List Nat},l.Nodup->(∀ x∈l,x∈l')->l.length <= l'.length
 | [],_,_,_=>YK _
 | a :: l,l',hn,hs=>by
  have ha:a∈l':=hs a (FN ..)
  have rT:=q0m.mp hn
  have ih:=Eg (l:=l) (l':=l'.erase a) rT.2 fun x hx=>(List.mem_erase_of_ne (fun z=>rT.1 (by rw[<-z];exact hx))).mpr (hs x (My _ hx))
  rw[List.length_erase_of_mem ha] at ih
  have:=List.length_pos_of_mem ha
  rw[FL];omega
theorem Km {l:List Nat} {m:Nat} (h:l.length <= m):∃ e,e <= m/\e∉l:=by
 refine q0x fun no => ?_
 have all:∀ e,e∈List.range (m + 1)->e∈l:=fun e he=>q0x fun z=>no ⟨e,q0s (Yr.mp he),z⟩
 have:(List.range (m + 1)).length <= l.length:=Eg q1H all
 rw[Zh] at this
 omega
noncomputable def stateOf (t:SetTable) (i p:Nat):Probe:=⟨i,runEnd t.mask i - i,i,p,none⟩
theorem Eh (m i:Nat):runEnd m i - i <= 9:=by unfold runEnd;split<;>omega
section
variable {t:SetTable} {f:Nat->Int} {h:Int}
theorem pG (F:Nat) (p:Probe):probe.go t f h (F + 1) p=(match t.slot p.j with
  | .empty=>some (.empty p.j p.dummy)
  | .dummy=>probe.go t f h F (t.advance { p with dummy:=some p.j })
  | .live i=>if f i == h then some (.candidate p.j i (t.advance p)) else probe.go t f h F (t.advance p)):=rfl
theorem Ei (hd:t.dummies = #[]) (hf:∀ i,i < t.place.size->f i≠h):∀ (k F:Nat) (p:Probe),p.more=k->p.dummy=none →
  (∃ j,probe.go t f h (F + k + 1) p=some (.empty j none))\/probe.go t f h (F + k + 1) p=probe.go t f h F (stateOf t (leap t.mask p.i p.perturb).1 (leap t.mask p.i p.perturb).2)
 | 0,F,p,hm,tG=>by
  show (∃ j,probe.go t f h (F + 1) p=_)\/probe.go t f h (F + 1) p=_
  rw[pG]
  rcases tF hd p.j with e | ⟨i,e,hi,_⟩
  ·left;rw[e];exact⟨p.j,by rw[tG]⟩
  ·right
   rw[e]
   show (if (f i == h)=true then _ else _)=_
   rw[Nj (by intro z;exact hf i hi (Zd z))]
   unfold advance
   rw[hm,Nj (by omega),tG]
   rfl
 | k + 1,F,p,hm,tG=>by
  have ih:=Ei hd hf k F { p with j:=p.j + 1,more:=p.more - 1 } (by show p.more - 1=k;omega) tG
  rw[show F + (k + 1) + 1=(F + k + 1) + 1 by omega,pG]
  rcases tF hd p.j with e | ⟨i,e,hi,_⟩
  ·left;rw[e];exact⟨p.j,by rw[tG]⟩
  ·rw[e]
   show (∃ j,(if (f i == h)=true then _ else _)=_)\/(if (f i == h)=true then _ else _)=_
   rw[Nj (by intro z;exact hf i hi (Zd z))]
   have ea:t.advance p={ p with j:=p.j + 1,more:=p.more - 1 }:=by unfold advance;rw[XI (by omega)]
   rw[ea]
   exact ih
theorem Ej (hd:t.dummies = #[]) (hf:∀ i,i < t.place.size->f i≠h):∀ (n F i p:Nat),10 * (n + 1) <= F->t.slot (lp t.mask n i p).1 = .empty->∃ j,probe.go t f h F (stateOf t i p)=some (.empty j none)
 | 0,F,i,p,hF,hs=>by
  obtain⟨G,rfl⟩:∃ G,F=G + 1:=⟨F - 1,by omega⟩
  rw[pG]
  have e:t.slot (stateOf t i p).j = .empty:=hs
  rw[e]
  exact⟨i,rfl⟩
 | n + 1,F,i,p,hF,hs=>by
  have hr:=Eh t.mask i
  obtain⟨G,hG⟩:∃ G,F=G + (runEnd t.mask i - i) + 1:=⟨F - (runEnd t.mask i - i) - 1,by omega⟩
  have:=Ei (f:=f) (h:=h) hd hf (runEnd t.mask i - i) G (stateOf t i p) rfl rfl
  rw[<-hG] at this
  rcases this with h1 | h1
  ·exact h1
  ·rw[h1]
   exact Ej hd hf n G _ _ (by omega) hs
theorem zd (h:Int):bits h < 2 ^ 64:=by
 unfold bits
 have:=Y6 h (show (0:Int) < 2 ^ 64 by decide)
 have:=Zx h (show (2 ^ 64:Int)≠0 by decide)
 omega
theorem Ek (hd:t.dummies = #[]) (hm:Mk t.mask) (hz:t.place.size <= t.mask) (hf:∀ i,i < t.place.size->f i≠h):∃ j,t.probe f h (t.probeStart h)=some (.empty j none):=by
 obtain⟨e,he,ne⟩:=Km (l:=t.place.toList) (m:=t.mask) (by rw[FO];exact hz)
 obtain⟨n,hn,en⟩:=reach hm (i:=bits h % (t.mask + 1)) (zd h) he
 exact Ej hd hf n _ _ _ (by unfold turns;omega) (by rw[en];exact Kl hd ne)
end
section
variable {m:Nat} {owner:Array (Option Nat)}
theorem ze (F i p:Nat):layClean.free m owner (F + 1) i p=(match (List.range (runEnd m i + 1 - i)).find? fun k=>(owner.getD (i + k) (some 0)).isNone with
   | some k=>some (i + k)
   | none=>layClean.free m owner F (leap m i p).1 (leap m i p).2):=rfl
theorem zf:∀ (n F i p:Nat),n + 1 <= F->(owner.getD (lp m n i p).1 (some 0)).isNone=true->∃ j,layClean.free m owner F i p=some j/\(owner.getD j (some 0)).isNone=true
 | 0,F,i,p,hF,hs=>by
  obtain⟨G,rfl⟩:∃ G,F=G + 1:=⟨F - 1,by omega⟩
  rw[ze]
  cases hc:(List.range (runEnd m i + 1 - i)).find? fun k=>(owner.getD (i + k) (some 0)).isNone with
  | some k =>
   have:=q0F hc
   exact⟨i + k,rfl,this⟩
  | none =>
   have:=q0H.mp hc 0 (Yr.mpr (by unfold runEnd;split<;>omega))
   exact absurd hs this
 | n + 1,F,i,p,hF,hs=>by
  obtain⟨G,rfl⟩:∃ G,F=G + 1:=⟨F - 1,by omega⟩
  rw[ze]
  cases hc:(List.range (runEnd m i + 1 - i)).find? fun k=>(owner.getD (i + k) (some 0)).isNone with
  | some k =>
   have:=q0F hc
   exact⟨i + k,rfl,this⟩
  | none=>exact zf n G _ _ (by omega) hs
end
structure Ow (m:Nat) (owner:Array (Option Nat)) (k:Nat):Prop where
 size:owner.size=m + 1
 cnt:owner.toList.countP Option.isSome=k
 lt:∀ x,some x∈owner.toList->x < k
theorem zg:∀ {l:List (Option Nat)} {j k:Nat},l[j]? = some none->(l.set j (some k)).countP Option.isSome=l.countP Option.isSome + 1
 | [],j,k,h=>by simp at h
 | x :: l,0,k,h=>by
  simp at h;subst h
  rw[Y7,q03,q03];rfl
 | x :: l,j + 1,k,h=>by
  simp at h
  rw[Y8,q03,q03,zg h];omega
theorem getD_none {owner:Array (Option Nat)} {j:Nat} (h:(owner.getD j (some 0)).isNone=true):owner.toList[j]? = some none:=by
 rw[YW] at h
 rw[Yp]
 cases e:owner[j]? with
 | none=>rw[e] at h;cases h
 | some x =>
  rw[e] at h
  cases x with
  | none=>rfl
  | some y=>cases h
theorem El {m:Nat} {owner:Array (Option Nat)} {k:Nat} (O:Ow m owner k) (hk:k <= m):∃ e,e <= m/\(owner.getD e (some 0)).isNone=true:=by
 refine q0x fun no => ?_
 have all:∀ x∈owner.toList,x.isSome=true:=by
  intro x hx
  obtain⟨e,he⟩:=Yj.mp hx
  cases x with
  | some y=>rfl
  | none =>
   have hl:=(su.mp he).1
   rw[FO,O.size] at hl
   refine absurd ⟨e,q0s hl,?_⟩ no
   rw[YW,<-Yp,he];rfl
 have:=List.countP_eq_length.mpr all
 rw[O.cnt,FO,O.size] at this
 omega
theorem Kn {m:Nat} {owner:Array (Option Nat)} {k:Nat} (hm:Mk m) (O:Ow m owner k) (hk:k <= m) (h:Int):∃ j,layClean.free m owner (turns m) (bits h % (m + 1)) (bits h)=some j/\Ow m (owner.setIfInBounds j (some k)) (k + 1):=by
 obtain⟨e,he,hn⟩:=El O hk
 obtain⟨n,rT,en⟩:=reach hm (i:=bits h % (m + 1)) (zd h) he
 obtain⟨j,ej,hj⟩:=zf (m:=m) (owner:=owner) n (turns m) (bits h % (m + 1)) (bits h) (by unfold turns;omega) (by rw[en];exact hn)
 refine⟨j,ej,by rw[q1E];exact O.size,?_,fun x hx => ?_⟩
 ·rw[ZG,zg (getD_none hj),O.cnt]
 ·rw[ZG] at hx
  rcases q1w hx with h | h
  ·exact YR (O.lt x h)
  ·cases h;exact Y0 _
theorem Em (m:Nat):Ow m (Array.replicate (m + 1) none) 0:=by
 refine⟨by simp,?_,fun x hx => ?_⟩
 ·rw[q0P]
  exact List.countP_eq_zero.mpr fun x hx=>by rw[q0B hx];decide
 ·rw[q0P] at hx
  cases q0B hx
noncomputable def ij (m:Nat) (owner:Array (Option Nat)):List (Nat × Nat):=(List.range (m + 1)).filterMap fun j=>(owner.getD j none).map (j,·)
theorem zh {m:Nat} {owner:Array (Option Nat)} {k:Nat} (O:Ow m owner k):(ij m owner).length=k:=by
 unfold ij
 rw[q0Z,<-O.cnt]
 have e:owner.toList=(List.range (m + 1)).map fun j=>owner.getD j none:=by
  refine q0t fun i => ?_
  rw[Yp,Ni]
  by_cases hi:i < m + 1
  ·rw[Ze hi,q11,XH (by rw[O.size];exact hi),YW,XH (by rw[O.size];exact hi)];rfl
  ·rw[Zo (by rw[O.size];omega),ZO (by rw[Zh];omega)];rfl
 rw[e,List.countP_map]
 refine List.countP_congr fun j _ => ?_
 simp
theorem En {α : Type} {es:Array α} {order:Array Nat} (h:∀ k∈order.toList,k < es.size):(order.filterMap (es[·]?)).size=order.size/\∀ e∈(order.filterMap (es[·]?)).toList,e∈es.toList:=by
 constructor
 ·rw[<-FO,q0j,q0Z,List.countP_eq_length.mpr fun k hk => ?_,FO]
  rw[XH (h k hk)];rfl
 ·intro e he
  rw[q0j] at he
  obtain⟨k,_,q⟩:=Z5.mp he
  exact Yj.mpr ⟨k,by rw[Yp];exact q⟩
theorem zi (t:SetTable) (hd:t.dummies = #[]) (j:Nat):(t.put j).1.dummies = #[]/\(t.put j).1.mask=t.mask/\(t.put j).1.place.size=t.place.size + 1/\(t.put j).1.led=t.led/\(t.put j).1.plain=t.plain/\(t.put j).1.moves=t.moves/\(t.put j).1.finger=t.finger:=by
 unfold put
 dsimp only
 rw[hd,Ef]
 refine⟨rfl,rfl,?_,rfl,rfl,rfl,rfl⟩
 unfold insertAt
 simp only[Array.size_append,Array.size_push,Array.size_extract]
 omega
theorem zj {α : Type} (xs:Array α) (p:Nat) (x : α):(insertAt xs p x).size=xs.size + 1:=by
 unfold insertAt
 simp only[Array.size_append,Array.size_push,Array.size_extract]
 omega
end LJS
namespace LJS
open PySem PySem.SetTable PyProof.Rows
structure gn (t:SetTable) (es:Array (Int × Value)) (hs:List Int):Prop where
 lV:t.dummies = #[]
 lW:Mk t.mask
 hX:t.place.size=es.size
 num:es.size=hs.length
 iP:t.tooFull=false
 ins:∀ e∈es.toList,e.1∈hs
noncomputable def kJ (h:Heap) (S:Addr) (hs:List Int):Prop:=∃ o es ep t,h.get? S=some o/\o.ExactSet/\o.data = .set es ep t/\gn t es hs
section
variable {t:SetTable} {es:Array (Int × Value)} {hs:List Int}
theorem gn.fill (T:gn t es hs):t.fill=es.size:=by
 unfold SetTable.fill
 rw[T.hX,T.lV];rfl
theorem gn.lt (T:gn t es hs):es.size * 5 < t.mask * 3:=by
 have:=T.iP
 unfold tooFull at this
 rw[T.fill] at this
 have:=q1m this
 omega
theorem gn.fits (T:gn t es hs):t.fits es.size=true:=by
 have:=T.lt
 unfold SetTable.fits
 rw[T.fill,T.hX]
 simp
 omega
theorem gn.tH (T:gn t es hs):t.gaveWay=false:=by
 unfold SetTable.gaveWay
 rcases T.lW with h | h | h<;>rw[h]<;>rfl
end
theorem Eo:sizeAbove (grown 5) - 1=31:=by decide +kernel
theorem Ep:sizeAbove (grown 19) - 1=127:=by decide +kernel
section
variable {prog:Program} {w:World} {A:Around} {E:Value->Shared->Prop} {s:Shared}
end
end LJS
namespace LJS
open PySem PySem.SetTable
noncomputable def Up (xs:Array Nat):Prop:=xs.toList.Pairwise (· < ·)
theorem Up.lt {xs:Array Nat} (u:Up xs) {i k:Nat} (Ko:i < k) (hk:k < xs.size):xs[i]'(by omega) < xs[k]:=by
 have:=q0y.mp u i k (by rw[FO];omega) (by rw[FO];exact hk) Ko
 simpa using this
theorem zk {xs:Array Nat} (u:Up xs) (j:Nat):∀ (fuel lo hi:Nat),hi <= xs.size->lo <= hi->hi - lo <= fuel->(∀ i,(h:i < xs.size)->i < lo->xs[i] < j)->(∀ i,(h:i < xs.size)->hi <= i->j <= xs[i]) →
  below.go xs j fuel lo hi <= xs.size/\(∀ i,(h:i < xs.size)->i < below.go xs j fuel lo hi->xs[i] < j)/\(∀ i,(h:i < xs.size)->below.go xs j fuel lo hi <= i->j <= xs[i])
 | 0,lo,hi,h1,h2,h3,a,b=>by
  have:lo=hi:=by omega
  subst this
  exact⟨h1,a,b⟩
 | fuel + 1,lo,hi,h1,h2,h3,a,b=>by
  unfold below.go
  by_cases c:lo < hi
  ·rw[XI c]
   have hm:(lo + hi) / 2 < xs.size:=by omega
   have em:xs.getD ((lo + hi) / 2) j=xs[(lo + hi) / 2]:=by rw[YW,XH hm];rfl
   simp only[em]
   by_cases d:xs[(lo + hi) / 2] < j
   ·rw[XI d]
    refine zk u j fuel _ hi h1 (by omega) (by omega) (fun i bN hl => ?_) b
    by_cases e:i < (lo + hi) / 2
    ·exact q1Q (u.lt e hm) d
    ·have:i=(lo + hi) / 2:=by omega
     subst this;exact d
   ·rw[Nj d]
    refine zk u j fuel lo _ (by omega) (by omega) (by omega) a fun i bN hl => ?_
    by_cases e:(lo + hi) / 2 < i
    ·exact Zp (q0I (q04 d) (u.lt e bN))
    ·have:i=(lo + hi) / 2:=by omega
     subst this;exact q04 d
  ·rw[Nj c]
   have:lo=hi:=by omega
   subst this
   exact⟨h1,a,b⟩
theorem rU {xs:Array Nat} (u:Up xs) (j:Nat):below xs j <= xs.size/\(∀ i,(h:i < xs.size)->i < below xs j->xs[i] < j)/\(∀ i,(h:i < xs.size)->below xs j <= i->j <= xs[i]) :=
 zk u j xs.size 0 xs.size (qq _) (YK _) (by omega) (fun i _ h=>by omega) (fun i h h'=>by omega)
theorem Kp {xs:Array Nat} (u:Up xs) {i:Nat} (hi:i < xs.size):below xs (xs[i] + 1)=i + 1:=by
 obtain⟨h0,h1,h2⟩:=rU u (xs[i] + 1)
 have a:i < below xs (xs[i] + 1):=by
  refine Nat.lt_of_not_le fun z => ?_
  have:=h2 i hi z
  omega
 have b:below xs (xs[i] + 1) <= i + 1:=by
  refine q04 fun z => ?_
  have hk:i + 1 < xs.size:=by omega
  have:=h1 (i + 1) hk z
  have:=u.lt (k:=i + 1) (Y0 i) hk
  omega
 omega
theorem Kq {xs:Array Nat} (u:Up xs):below xs 0=0:=by
 obtain⟨h0,h1,h2⟩:=rU u 0
 refine Nat.eq_zero_of_not_pos fun z => ?_
 have:=h1 0 (by omega) z
 omega
theorem Er {t:SetTable} (u:Up t.place) {j:Nat} (hj:j∉t.place.toList):Up (t.put j).1.place:=by
 obtain⟨h0,h1,h2⟩:=rU u j
 show Up (insertAt t.place (below t.place j) j)
 unfold Up insertAt
 generalize below t.place j=p at h0 h1 h2
 have eL:(((t.place.extract 0 p).push j) ++ t.place.extract p t.place.size).toList=t.place.toList.take p ++ ([j] ++ t.place.toList.drop p):=by
  simp only[Array.toList_append,q0c,Array.toList_extract,q1x,q0Q,q1R,ZH]
  have e2:List.take (t.place.size - p) (List.drop p t.place.toList)=List.drop p t.place.toList:=YT (by rw[ZP,FO];exact qq _)
  rw[e2]
 rw[eL]
 have lo:∀ x∈t.place.toList.take p,x < j:=by
  intro x hx
  obtain⟨i,hi,e⟩:=YG.mp hx
  rw[YD,FO] at hi
  rw[q1z] at e
  have:=h1 i (by omega) (by omega)
  rw[<-e];simpa using this
 have bN:∀ x∈t.place.toList.drop p,j < x:=by
  intro x hx
  obtain⟨i,hi,e⟩:=YG.mp hx
  rw[ZP,FO] at hi
  rw[List.getElem_drop] at e
  have:=h2 (p + i) (by omega) (by omega)
  have Kr:j <= x:=by rw[<-e];simpa using this
  refine Nat.lt_of_le_of_ne Kr fun z=>hj ?_
  rw[z];exact List.mem_of_mem_drop hx
 refine List.pairwise_append.mpr ⟨u.sublist (List.take_sublist _ _),?_,fun a ha b hb => ?_⟩
 ·exact Y9.mpr ⟨bN,u.sublist (List.drop_sublist _ _)⟩
 ·rcases Nh.mp hb with rfl | hb
  ·exact lo a ha
  ·exact q1Q (lo a ha) (bN b hb)
theorem Ks (n:Nat) (f:Nat->Option Nat):(((List.range n).filterMap fun j=>(f j).map fun x=>(j,x)).map (·.1)).Pairwise (· < ·):=by
 rw[Zi]
 refine List.Pairwise.filterMap _ (fun a a' cQ b hb b' dJ => ?_) (Zq (n:=n))
 obtain⟨x,_,rfl⟩:=XM.mp hb
 obtain⟨y,_,rfl⟩:=XM.mp dJ
 exact cQ
theorem Es (m:Nat) (owner:Array (Option Nat)):((ij m owner).map (·.1)).Pairwise (· < ·):=Ks (m + 1) fun j=>owner.getD j none
theorem Et {α : Type} (next:Nat->Nat):∀ (fuel k:Nat) (left:List α) (out:Array α),left.length <= fuel->(pickOrder.go next fuel k left out).toList.Perm (out.toList ++ left)
 | 0,k,left,out,h=>by
  have:left=[]:=ZZ.mp (by omega)
  subst this
  rw[ZM]
  exact q0f _
 | fuel + 1,k,left,out,h=>by
  unfold pickOrder.go
  cases left with
  | nil=>simp
  | cons a l =>
   have cQ:next k % (a :: l).length < (a :: l).length:=Nat.mod_lt _ (by rw[FL];omega)
   rw[qo cQ]
   refine (Et next fuel (k + 1) _ _ ?_).trans ?_
   ·rw[q1n cQ];omega
   ·rw[q0c,ZH]
    refine List.Perm.append_left _ ?_
    generalize next k % (a :: l).length=j at cQ
    exact (je cQ).symm
where
 je {α : Type}:∀ {l:List α} {j:Nat} (h:j < l.length),List.Perm l (l[j] :: l.eraseIdx j)
  | [],_,h=>by simp at h
  | a :: l,0,_=>q0f _
  | a :: l,j + 1,h=>(List.Perm.cons a (je (l:=l) (j:=j) (by simpa using h))).trans (List.Perm.swap _ _ _)
theorem Kt {α : Type} (next:Nat->Nat) (xs:Array α):(pickOrder next xs).toList.Perm xs.toList:=by
 have:=Et next xs.size 0 xs.toList #[] (by rw[FO];exact qq _)
 unfold pickOrder
 simpa using this
theorem wJ {t:SetTable} {f:Nat->Int} {h:Int}:∀ {fuel:Nat} {p:Probe} {j:Nat} {d:Option Nat},probe.go t f h fuel p=some (.empty j d)->t.slot j = .empty
 | 0,_,_,_,e=>nomatch e
 | fuel + 1,p,j,d,e=>by
  rw[pG] at e
  cases q:t.slot p.j with
  | empty =>
   rw[q] at e
   cases e
   exact q
  | dummy =>
   rw[q] at e
   exact wJ e
  | live i =>
   rw[q] at e
   by_cases c:(f i == h)=true
   ·simp only[c,Z9] at e;cases e
   ·simp only[c,Y1] at e;exact wJ e
theorem Eu {t:SetTable} (u:Up t.place) {j:Nat} (e:t.slot j = .empty):j∉t.place.toList:=by
 intro hm
 obtain⟨i,hi,ei⟩:=YG.mp hm
 have bN:i < t.place.size:=by rw[<-FO];exact hi
 have zo:t.place[i]=j:=by simpa using ei
 obtain⟨h0,h1,h2⟩:=rU u j
 have a:¬ i < below t.place j:=fun z=>by have:=h1 i bN z;omega
 have b:¬ below t.place j < i:=fun z=>by
  have:=h2 (below t.place j) (by omega) (qq _)
  have:=u.lt z bN
  omega
 have eb:below t.place j=i:=by omega
 unfold slot at e
 rw[eb] at e
 have:(t.place[i]? == some j)=true:=by rw[XH bN,zo];simp
 simp only[this,Z9] at e
 cases e
noncomputable def lX (owner:Array (Option Nat)) (k:Nat):Prop:=(owner.toList.filterMap id).Perm (List.range k)
theorem zp:∀ {l:List (Option Nat)} {j k:Nat},l[j]? = some none->((l.set j (some k)).filterMap id).Perm (k :: l.filterMap id)
 | [],j,k,h=>by simp at h
 | x :: l,0,k,h=>by
  simp at h;subst h
  rw[Y7]
  show (k :: l.filterMap id).Perm (k :: l.filterMap id)
  exact q0f _
 | x :: l,j + 1,k,h=>by
  simp at h
  rw[Y8]
  cases x with
  | none =>
   show ((l.set j (some k)).filterMap id).Perm (k :: l.filterMap id)
   exact zp h
  | some y =>
   show (y :: (l.set j (some k)).filterMap id).Perm (k :: y :: l.filterMap id)
   exact (List.Perm.cons y (zp h)).trans (List.Perm.swap _ _ _)
theorem Ku {owner:Array (Option Nat)} {j k:Nat} (P:lX owner k) (h:owner.toList[j]? = some none):lX (owner.setIfInBounds j (some k)) (k + 1):=by
 unfold lX at P ⊢
 rw[ZG,q1c]
 exact (zp h).trans ((List.Perm.cons k P).trans (List.perm_append_singleton k _).symm)
theorem Kv {m:Nat} {owner:Array (Option Nat)} {k:Nat} (hm:Mk m) (O:Ow m owner k) (Pm:lX owner k) (hk:k <= m) (h:Int):∃ j,layClean.free m owner (turns m) (bits h % (m + 1)) (bits h)=some j/\Ow m (owner.setIfInBounds j (some k)) (k + 1)/\lX (owner.setIfInBounds j (some k)) (k + 1):=by
 obtain⟨e,he,hn⟩:=El O hk
 obtain⟨n,rT,en⟩:=reach hm (i:=bits h % (m + 1)) (zd h) he
 obtain⟨j,ej,hj⟩:=zf (m:=m) (owner:=owner) n (turns m) (bits h % (m + 1)) (bits h) (by unfold turns;omega) (by rw[en];exact hn)
 refine⟨j,ej,⟨by rw[q1E];exact O.size,?_,fun x hx => ?_⟩,Ku Pm (getD_none hj)⟩
 ·rw[ZG,zg (getD_none hj),O.cnt]
 ·rw[ZG] at hx
  rcases q1w hx with h | h
  ·exact YR (O.lt x h)
  ·cases h;exact Y0 _
theorem Ew {m:Nat} (hm:Mk m):∀ (hs:List Int) (owner:Array (Option Nat)) (k:Nat),Ow m owner k->lX owner k->k + hs.length <= m + 1 →
  ∃ aR,(hs.foldl (init:=some (owner,k)) fun acc h=>do
   let (owner,k) <- acc
   let j <- layClean.free m owner (turns m) (bits h % (m + 1)) (bits h)
   pure (owner.setIfInBounds j (some k),k + 1))=some (aR,k + hs.length)/\Ow m aR (k + hs.length)/\lX aR (k + hs.length)
 | [],owner,k,O,Pm,_=>⟨owner,rfl,O,Pm⟩
 | h :: hs,owner,k,O,Pm,hl=>by
  rw[FL] at hl ⊢
  obtain⟨j,ej,O',P'⟩:=Kv hm O Pm (by omega) h
  obtain⟨o2,e2,O2,P2⟩:=Ew hm hs _ (k + 1) O' P' (by omega)
  refine⟨o2,?_,by rw[show k + (hs.length + 1)=k + 1 + hs.length by omega];exact⟨O2,P2⟩⟩
  rw[q12,show k + (hs.length + 1)=k + 1 + hs.length by omega,<-e2]
  congr 1
  show (do let j <- layClean.free m owner (turns m) (bits h % (m + 1)) (bits h);pure (owner.setIfInBounds j (some k),k + 1))=_
  rw[ej];rfl
theorem Kw (m:Nat):lX (Array.replicate (m + 1) none) 0:=by
 unfold lX
 rw[q0P,List.filterMap_eq_nil_iff.mpr fun x hx=>by rw[q0B hx];rfl]
 exact q0f _
theorem Ex {m:Nat} (hm:Mk m) (hs:Array Int) (hz:hs.size <= m + 1):∃ owner,layClean m hs=some owner/\Ow m owner hs.size/\lX owner hs.size:=by
 obtain⟨o,e,O,Pm⟩:=Ew hm hs.toList _ 0 (Em m) (Kw m) (by rw[FO];omega)
 rw[YY,FO] at O Pm
 refine⟨o,?_,O,Pm⟩
 unfold layClean
 rw[<-Array.foldl_toList,e];rfl
theorem Ey {m:Nat} {owner:Array (Option Nat)} (hs:owner.size=m + 1):(ij m owner).map (·.2)=owner.toList.filterMap id:=by
 unfold ij
 rw[List.map_filterMap]
 have e:owner.toList=(List.range (m + 1)).map fun j=>owner.getD j none:=by
  refine q0t fun i => ?_
  rw[Yp,Ni]
  by_cases hi:i < m + 1
  ·rw[Ze hi,q11,XH (by rw[hs];exact hi),YW,XH (by rw[hs];exact hi)];rfl
  ·rw[Zo (by rw[hs];omega),ZO (by rw[Zh];omega)];rfl
 rw[e,List.filterMap_map]
 congr 1
 funext j
 show Option.map (fun x:Nat × Nat=>x.2) (Option.map (fun x=>(j,x)) (owner.getD j none))=owner.getD j none
 cases owner.getD j none<;>rfl
theorem Kx {m:Nat} (hm:Mk m) (t:SetTable) (hs:Array Int) (wanted:Nat) (hw:sizeAbove wanted - 1=m) (hz:hs.size <= m + 1) :
  ∃ t' order,t.relaid hs wanted=some (t',order)/\t'.mask=m/\t'.dummies = #[]/\t'.place.size=hs.size/\t'.led=t.led/\t'.plain=t.plain/\Up t'.place/\order.toList.Perm (List.range hs.size):=by
 obtain⟨owner,e,O,Pm⟩:=Ex hm hs hz
 refine⟨{ mask:=m,place:=((ij m owner).map (·.1)).toArray,dummies := #[],finger:=t.finger,led:=t.led,moves:=t.movedTo m,plain:=t.plain },((ij m owner).map (·.2)).toArray,?_,rfl,rfl,?_,rfl,rfl,?_,?_⟩
 ·unfold relaid laid
  rw[hw,e];rfl
 ·rw[xb,qp,zh O]
 ·unfold Up
  exact Es m owner
 ·show ((ij m owner).map (·.2)).Perm _
  rw[Ey O.size];exact Pm
theorem Ky {order:Array Nat} {n:Nat} (h:order.toList.Perm (List.range n)):coversAll order n=true:=by
 unfold coversAll
 exact List.isPerm_iff.mpr h
end LJS
namespace LJS
open PySem PySem.SetTable PyProof.Rows
noncomputable def keyOf (e:Int × Value):Int:=match e.2 with
 | .int k _=>k
 | _=>0
structure cy (t:SetTable) (es:Array (Int × Value)) (led:Bool) (ks:List Int):Prop where
 lV:t.dummies = #[]
 lW:Mk t.mask
 hX:t.place.size=es.size
 iP:t.tooFull=false
 up:Up t.place
 tI:t.plain=true
 zq:t.led=led
 wK:∀ e∈es.toList,∃ k tk,e=(hashInt k,Value.int k tk)
 keys:(es.toList.map keyOf).Perm ks
 mN:ks.Nodup
noncomputable def eR (h:Heap) (S:Addr) (led:Bool) (ks:List Int):Prop:=∃ o es ep t,h.get? S=some o/\o.ExactSet/\o.data = .set es ep t/\cy t es led ks
section
variable {t:SetTable} {es:Array (Int × Value)} {led:Bool} {ks:List Int}
theorem cy.num (T:cy t es led ks):es.size=ks.length:=by rw[<-T.keys.length_eq,qp,FO]
theorem cy.fill (T:cy t es led ks):t.fill=es.size:=by unfold SetTable.fill;rw[T.hX,T.lV];rfl
theorem cy.lt (T:cy t es led ks):es.size * 5 < t.mask * 3:=by
 have:=T.iP
 unfold tooFull at this
 rw[T.fill] at this
 have:=q1m this
 omega
theorem cy.fits (T:cy t es led ks):t.fits es.size=true:=by
 have:=T.lt
 unfold SetTable.fits
 rw[T.fill,T.hX]
 simp
 omega
theorem cy.elems {prog:Program} {w:World} (T:cy t es led ks):ElemsOf (intKind prog w) es.toList:=fun e he=>by
 obtain⟨k,tk,rfl⟩:=T.wK e he
 exact⟨⟨k,q05 ..,rfl⟩,rfl⟩
theorem cy.lay (T:cy t es led ks) (k:Int) (tk:Tok):∃ j,j∉t.place.toList/\layNew t es (hashInt k) (.int k tk)=(insertAt es (t.put j).2 (hashInt k,.int k tk),(t.put j).1,false,false):=by
 have lt:=T.lt
 obtain⟨j,ej⟩:=Ek (t:=t) (f:=fun _=>hashInt k + 1) (h:=hashInt k) T.lV T.lW (by rw[T.hX];omega) (fun i _ z=>by omega)
 have hs:t.slot j = .empty:=wJ ej
 obtain⟨p1,p2,p3,_⟩:=zi t T.lV j
 refine⟨j,Eu T.up hs,?_⟩
 have ff:(t.put j).1.fits (insertAt es (t.put j).2 (hashInt k,Value.int k tk)).size=true:=by
  unfold SetTable.fits SetTable.fill
  rw[p1,p2,p3,zj,T.hX]
  simp
  omega
 unfold layNew freeSlot
 rw[ej]
 show (insertAt es (t.put j).2 (hashInt k,Value.int k tk),(t.put j).1.orStandIn (insertAt es (t.put j).2 (hashInt k,Value.int k tk)).size,false,!(t.put j).1.fits (insertAt es (t.put j).2 (hashInt k,Value.int k tk)).size)=_
 unfold SetTable.orStandIn
 rw[ff,XI rfl];rfl
end
section
variable {prog:Program} {w:World} {A:Around} {E:Value->Shared->Prop} {s:Shared}
theorem add_int {S:Addr} {k:Int} {tk:Tok} {led:Bool} {ks:List Int} {Q:Bool->Shared->Prop} (hS:eR s.heap S led ks) (hl:ks.length < 60)
  (fin:∀ (b:Bool) h',Heap.SameBut S s.heap h'->eR h' S led (if k∈ks then ks else ks ++ [k])->Q b { s with heap:=h' }):wpAny (model prog w) A (setAddHashed S (.int k tk) (hashInt k)) Q E s:=by
 obtain⟨o,es,ep,t,ho,hex,hd,T⟩:=hS
 have hb:es.size < scanBound:=by rw[T.num];unfold scanBound;omega
 have el:=T.elems (prog:=prog) (w:=w)
 unfold setAddHashed
 refine YE ?_
 show wpAny _ _ (setAddHashedIn S (.int k tk) (hashInt k) (99999 + 1)) _ _ _
 unfold setAddHashedIn
 refine nq (Zj ho hd T.fits ?_)
 dsimp only
 rw[byScan_of (knd:=intKind prog w) rfl hb el]
 simp only[↓reduceIte]
 unfold setAddByScan
 refine nq ?_
 refine nq (q1S ?_)
 refine nq (wpAny_setScan_of (knd:=intKind prog w) (k:=k) (q05 ..) ho hd T.fits el ?_)
 have Ez:∀ e∈es.toList,(intKind prog w).is k e.2=decide (k=keyOf e):=fun e he=>by
  obtain⟨k',lY,rfl⟩:=T.wK e he
  exact KeyKind.is_eq_decide (q05 ..) k
 cases hr:es.toList.findIdx? (fun e=>(intKind prog w).is k e.2) with
 | some j =>
  obtain⟨hj,EA,_⟩:=List.findIdx?_eq_some_iff_getElem.mp hr
  have hm:es.toList[j]∈es.toList:=ZQ hj
  rw[Ez _ hm] at EA
  have hk:k∈ks:=T.keys.mem_iff.mp (by rw[Zt EA];exact Nk.mpr ⟨_,hm,rfl⟩)
  dsimp only
  refine xa (xa ?_)
  have e:s={ s with heap:=s.heap }:=by cases s;rfl
  rw[e]
  exact fin false s.heap (Heap.SameBut.refl S s.heap) (by rw[XI hk];exact⟨o,es,ep,t,ho,hex,hd,T⟩)
 | none =>
  have hk:k∉ks:=fun z=>by
   obtain⟨e,he,ek⟩:=Nk.mp (T.keys.mem_iff.mpr z)
   have:=List.findIdx?_eq_none_iff.mp hr e he
   rw[Ez e he,<-ek,Yk rfl] at this
   cases this
  dsimp only
  obtain⟨j,nj,ej⟩:=T.lay k tk
  rw[ej]
  rw[Nj hk] at fin
  obtain⟨p1,p2,p3,p4,p5,p6,p7⟩:=zi t T.lV j
  have up1:=Er T.up nj
  have gU:=zj es (t.put j).2 (hashInt k,Value.int k tk)
  have oj:(insertAt es (t.put j).2 (hashInt k,Value.int k tk)).toList.Perm (es.toList ++ [(hashInt k,Value.int k tk)]):=by
   have:=q0R es (t.put j).2 (hashInt k,Value.int k tk)
   rw[q0c] at this
   exact this
  have lt:=T.lt
  have Kz:es.size < 60:=by rw[T.num];exact hl
  generalize (t.put j).1=t2 at p1 p2 p3 p4 p5 up1 ⊢
  generalize insertAt es (t.put j).2 (hashInt k,Value.int k tk)=bK at gU oj ⊢
  have ints2:∀ e∈bK.toList,∃ k tk,e=(hashInt k,Value.int k tk):=fun e he=>by
   rcases YL.mp (oj.mem_iff.mp he) with q | q
   ·exact T.wK e q
   ·exact⟨k,tk,YF.mp q⟩
  have om:(bK.toList.map keyOf).Perm (ks ++ [k]):=by
   refine (oj.map keyOf).trans ?_
   rw[Yw]
   exact List.Perm.append_right _ T.keys
  have kK:(ks ++ [k]).Nodup:=Y3.mpr ⟨T.mN,by simp,fun a ha b hb z=>hk (by rw[<-YF.mp hb,<-z];exact ha)⟩
  have zr:t2.place.size=bK.size:=by rw[p3,T.hX,gU]
  have fl:t2.fill=es.size + 1:=by unfold SetTable.fill;rw[p1,p3,T.hX];rfl
  have oo:t2.fits bK.size=true:=by
   unfold SetTable.fits
   rw[fl,p3,gU,p2,T.hX]
   simp
   rcases T.lW with e | e | e<;>rw[e] at lt ⊢ <;> omega
  refine nq (xa ?_)
  dsimp only
  rw[p5,T.tI,XI rfl]
  refine nq ?_
  rw[hashByValue_scannable 8 rfl]
  refine xa ?_
  rw[XI (show plainKind (Value.int k tk)=true from rfl)]
  refine nq (q0S ho hd ?_ (by rw[gU,ZW];omega))
  have gW:(s.heap.update S (Obj.putSet bK t2)).get? S=some { o with data := .set bK (ep + 1) t2 }:=by
   have:=YS (Obj.putSet bK t2) ho (by rw[q06 bK t2 hd];rfl)
   rw[q06 bK t2 hd] at this;exact this
  by_cases tf:t2.tooFull=true
  ·rw[XI (by rw[tf];rfl)]
   have pJ:t.mask * 3 <= (es.size + 1) * 5:=by
    unfold tooFull at tf
    rw[fl,p2] at tf
    have:=Zt tf
    omega
   obtain⟨m,hm,hw,hsz⟩:∃ m,Mk m/\sizeAbove (grown bK.size) - 1=m/\(es.size + 1) * 5 < m * 3:=by
    rw[gU]
    rcases T.lW with e | e | e
    ·rw[e] at lt pJ
     have:es.size + 1=5:=by omega
     rw[this]
     exact⟨31,.inr (.inl rfl),Eo,by omega⟩
    ·rw[e] at lt pJ
     have:es.size + 1=19:=by omega
     rw[this]
     exact⟨127,.inr (.inr rfl),Ep,by omega⟩
    ·rw[e] at pJ;omega
   obtain⟨t3,order,er,r1,r2,r3,r4,r5,r6,r7⟩:=Kx hm t2 (bK.map (·.1)) (grown bK.size) hw (by rw[q0T,gU];omega)
   rw[q0T] at r3 r7
   have tJ:=relayAll_perm t2 bK (grown bK.size)
   have e3:relayAll t2 bK (grown bK.size)=(order.filterMap (bK[·]?),t3,false):=by
    have KC:(order.filterMap (bK[·]?)).size=bK.size:=by
     have:=En (es:=bK) (order:=order) fun x hx=>Yr.mp (r7.mem_iff.mp hx)
     rw[this.1,<-FO,r7.length_eq,Zh]
    have ff:t3.fits (order.filterMap (bK[·]?)).size=true:=by
     unfold SetTable.fits SetTable.fill
     rw[KC,r2,r3,r1,gU]
     simp
     omega
    unfold relayAll
    rw[er]
    show (if (coversAll order bK.size && t3.fits (order.filterMap (bK[·]?)).size)=true then _ else _)=_
    rw[Ky r7,ff];rfl
   rw[e3] at tJ ⊢
   refine nq (xa ?_)
   dsimp only
   generalize order.filterMap (bK[·]?)=wL at tJ ⊢
   have EB:wL.size=bK.size:=by rw[<-FO,tJ.length_eq,FO]
   refine nq (q0S gW rfl ?_ (by rw[EB,gU,ZW];omega))
   have gq:((s.heap.update S (Obj.putSet bK t2)).update S (Obj.putSet wL t3)).get? S=some { o with data := .set wL (ep + 1 + 1) t3 }:=by
    have:=YS (Obj.putSet wL t3) gW (by rw[q06 _ t3 rfl];rfl)
    rw[q06 _ t3 rfl] at this;exact this
   refine xa (xa (fin true _ ((YM ..).trans (YM ..)) ⟨_,_,_,_,gq,hex,rfl,r2,by rw[r1];exact hm,by rw[r3,EB],?_,r6,by rw[r5,p5];exact T.tI,by rw[r4,p4];exact T.zq,fun e he=>ints2 e (tJ.mem_iff.mp he),(tJ.map keyOf).trans om,kK⟩))
   unfold tooFull SetTable.fill
   rw[r2,r3,r1,gU]
   simp
   omega
  ·have tK:t2.tooFull=false:=by cases q:t2.tooFull<;>simp_all
   rw[Nj (by rw[tK];decide)]
   refine xa (xa (fin true _ (YM ..) ⟨_,_,_,_,gW,hex,rfl,p1,by rw[p2];exact T.lW,zr,tK,up1,by rw[p5];exact T.tI,by rw[p4];exact T.zq,ints2,om,kK⟩))
theorem EC {ks:List Int}:∀ {vs:List Value},ItemsAre (intKind prog w) ks vs->∀ v∈vs,∃ i t,v = .int i t:=by
 induction ks with
 | nil=>intro vs h v hv;cases h;cases hv
 | cons k ks ih =>
  intro vs h v hv
  cases h with
  | cons h1 h2 =>
   rcases Nh.mp hv with rfl | hv
   ·obtain⟨t,e⟩:=Value.isInt_shape (k:=k) (v:=v) (by first | exact h1 | simpa [intKind] using h1)
    exact⟨_,_,e⟩
   ·exact ih h2 v hv
theorem KD {ks:List Int} {a:Addr} {Q:Bool->Shared->Prop} (hk:IsTupleKey (intKind prog w) s.heap ks a) (h:∀ b,Q b s):wpAny (model prog w) A (hashByValue 8 (.ref a)) Q E s:=by
 have hT:=hk.typeIs
 obtain⟨o,ag,n,ho,_,hd,hi⟩:=hk
 show wpAny _ _ (hashByValue (7 + 1) (.ref a)) _ _ _
 unfold hashByValue
 refine nq (wpAny_specialOf hT F.slot_tuple_hash.lookup ?_)
 show wpAny _ _ (seqItems? (.ref a) >>= _) _ _ s
 refine nq (q0u ho hd ?_)
 refine nq ?_
 show wpAny _ _ (forIn ag _ _) _ _ s
 rw[<-Array.forIn_toList]
 refine q07 _ (fun rest _ s'=>s'=s/\∀ v∈rest,∃ i t,v=Value.int i t) _ ?_ ?_ _ _ ⟨rfl,EC hi⟩
 ·rintro v rest r s' ⟨rfl,gr⟩
  obtain⟨i,t,rfl⟩:=gr v FN
  have e:hashByValue 7 (.int i t)=pure true:=by unfold hashByValue;rfl
  rw[e]
  refine nq (xa ?_)
  simp only[ZS,Ym,Y1]
  exact xa ⟨rfl,fun u hu=>gr u (My _ hu)⟩
 ·rintro ⟨r1,r2⟩ s' ⟨rfl,_⟩
  cases r1 with
  | none=>exact xa (h _)
  | some b=>exact xa (h _)
theorem zt {h h':Heap} {ks:List Int} {a:Addr} (x:IsTupleKey (intKind prog w) h ks a) (k:∀ o,h.get? a=some o->h'.get? a=some o):IsTupleKey (intKind prog w) h' ks a:=by
 obtain⟨o,ag,n,ho,r⟩:=x
 exact⟨o,ag,n,k o ho,r⟩
noncomputable abbrev hT (prog:Program) (w:World) (ks:List Int):Int:=tupleKeyHash (intKind prog w) ks
theorem KG {h h':Heap} {S:Addr} {hs:List Int} (x:kJ h S hs) (k:∀ o,h.get? S=some o->h'.get? S=some o):kJ h' S hs:=by
 obtain⟨o,es,ep,t,ho,r⟩:=x
 exact⟨o,es,ep,t,k o ho,r⟩
end
section
variable {prog:Program} {w:World} {A:Around} {R:Result->Shared->Prop} {I S:Addr} {fp wr:List Addr} {G:Array GenState->Array GenState->Prop} {n:Nat} {P:Nat->Value->Prop} {St:Nat->Shared->Prop}
end
theorem zu {h h':Heap} {S:Addr} {led:Bool} {ks:List Int} (x:eR h S led ks) (k:∀ o,h.get? S=some o->h'.get? S=some o):eR h' S led ks:=by
 obtain⟨o,es,ep,t,ho,r⟩:=x
 exact⟨o,es,ep,t,k o ho,r⟩
noncomputable def once (ks:List Int) (n:Int):List Int:=if n∈ks then ks else ks ++ [n]
noncomputable def j5 (ns:List Int):Nat->List Int
 | 0=>[]
 | i + 1=>once (j5 ns i) (ns.getD i 0)
theorem zv (ns:List Int):∀ i,(j5 ns i).length <= i
 | 0=>qq _
 | i + 1=>by
  have:=zv ns i
  show (once (j5 ns i) (ns.getD i 0)).length <= i + 1
  unfold once
  split
  ·omega
  ·rw[Aw,Yu];omega
section
variable {prog:Program} {w:World} {A:Around} {R:Result->Shared->Prop} {I S:Addr} {fp wr:List Addr} {G:Array GenState->Array GenState->Prop} {n:Nat} {P:Nat->Value->Prop} {St:Nat->Shared->Prop}
theorem KH (W:WalksS prog w A.in1 I fp wr G n P St) (out:S∉fp) {led:Bool} (ns:List Int) (isInt:∀ i v,P i v->∃ t,v = .int (ns.getD i 0) t) (jf:n <= 40) :
  ∀ (left i:Nat) (s:Shared),i + left=n->St i s->eR s.heap S led (j5 ns i)->(∀ s',Moved (S :: wr) G s s'->eR s'.heap S led (j5 ns n)->R (.ok (.ret .none)) s') →
   codeAny (model prog w) A (.builtin "set.update.loop" ⟨[.ref S,.ref I],[]⟩) R s:=by
 have kL:S∉wr:=fun z=>out (W.sub _ z)
 have more:∀ b,b∈wr->b∈S :: wr:=fun b hb=>My _ hb
 intro left
 induction left with
 | zero =>
  intro i s hi st se fin
  obtain rfl:i=n:=by omega
  refine Zl q0g ?_
  rw[Y5 Zz _]
  show wpAny _ A.in1 (pyNext (.ref I) >>= _) _ _ s
  refine nq (W.done s _ _ st fun s' mv => ?_)
  show wpAny _ A.in1 (ret Value.none) _ _ s'
  exact xa (fin s' (mv.mono more) (zu se fun o e=>mv.heap S o kL e))
 | succ left ih =>
  intro i s hi st se fin
  have cQ:i < n:=by omega
  refine Zl q0g ?_
  rw[Y5 Zz _]
  show wpAny _ A.in1 (pyNext (.ref I) >>= _) _ _ s
  refine nq (W.item i s _ _ cQ st fun v s1 hP j6 mv => ?_)
  obtain⟨t,rfl⟩:=isInt i v hP
  show wpAny _ A.in1 (holding [Value.int (ns.getD i 0) t] (setAdd S (.int (ns.getD i 0) t)) >>= _) _ _ s1
  refine nq (YE ?_)
  unfold setAdd
  refine YE (nq ((intKind prog w).pyHash (k:=ns.getD i 0) (q05 _ _ _ _) ?_))
  have hlen:=zv ns i
  refine add_int (s:={ s1 with toks:=s1.toks + 1 }) (zu se fun o e=>mv.heap S o kL e) (by omega) fun b h2 sb zw => ?_
  have nS:∀ b,b∈fp->b≠S:=fun b hb z=>out (by rw[<-z];exact hb)
  refine xa ⟨ZT Zz _,ih (i + 1) _ (by omega) (W.frame _ s1 _ _ j6 (ZR _ _) fun b hb o e=>by rw[sb.2 b (nS b hb)];exact e) zw fun s3 zx zy => ?_⟩
  refine fin s3 (Moved.trans W.gtrans ((mv.mono more).then_heap (ZR _ _) fun b o hb e => ?_) zx) zy
  rw[sb.2 b (fun z=>hb (by rw[z];exact FN))];exact e
end
noncomputable abbrev cz (led:Bool):Obj:={ cls := .type "set",dict:=none,data := .set #[] 0 (.fresh 0 0 led) }
section
variable {prog:Program} {w:World} {A:Around} {E:Value->Shared->Prop} {s:Shared}
end
noncomputable abbrev ik (w:World):Bool := !w.params.followText "set-order"
theorem KI {h:Heap} {S:Addr} {led:Bool} (e:h.get? S=some (cz led)):eR h S led [] :=
 ⟨_,#[],0,_,e,⟨rfl,rfl,rfl⟩,rfl,rfl,.inl rfl,rfl,by cases led<;>decide,List.Pairwise.nil,rfl,rfl,(fun _ h=>nomatch h),q0f _,Zu⟩
section
variable {prog:Program} {w:World} {A:Around} {E:Value->Shared->Prop} {s:Shared}
theorem KJ (a:Value) {Q₁ : Value->Shared->Prop} (h:Q₁ (.ref s.heap.objs.size) { s with heap:=s.heap.push (cz (ik w)) }) :
  codeAny (model prog w) A (.call (.builtin "set.__new__") ⟨[.type "set",a],[]⟩) (wants Q₁ E) s:=by
 refine codeAny_of_tree ?_
 show wpAny _ A.in1 (checkBuiltinCall "set.__new__" ⟨[.type "set",a],[]⟩ >>= fun _=>again (.builtin "set.__new__" ⟨[.type "set",a],[]⟩)) _ _ s
 refine nq (wpAny_of_eq (F.newCall_set_1 a) (xa ⟨ZT F.plain_set_new _,?_⟩))
 refine Zl F.entry_set_new ?_
 rw[Y5 F.plain_set_new _]
 have x1:=sub_set_self
 unfold Builtin.«set.__new__» Builtin.Frozenset.newClass newSet setsByText
 obtain⟨hp,g,d,tk,os⟩:=s
 dsimp only
 wp_walk
 refine q0v (xa ?_)
 dsimp only
 simp only[newObj]
 exact nq (wpAny_alloc (xa (xa h)))
set_option maxHeartbeats 3200000 in
theorem KN {l:Addr} {items:Array Value} {Q:Value->Shared->Prop} (ns:List Int) (hh:A.handled=none) (rV:s.heap.IsList l items) (isInt:∀ (i:Nat) (v:Value),items[i]? = some v->∃ t,v = .int (ns.getD i 0) t) (ED:items.size <= 40)
  (fin:∀ (h':Heap) (tk:Nat),eR h' s.heap.objs.size (ik w) (j5 ns items.size)->(∀ b o,b < s.heap.objs.size->s.heap.get? b=some o->h'.get? b=some o)->Q (.ref s.heap.objs.size) { s with heap:=h',toks:=tk }) :
  wpAny (model prog w) A (call (.type "set") [.ref l]) Q E s:=by
 obtain⟨c,tl,zz⟩:=Y_.mro
 have m1:=Y_.made
 have m2:=Y_.sub
 have m3:=Y_.notType
 have m4:=Y_.canCreate
 have m5:=F.typeCall_set_1 (.ref l)
 refine wpAny_call (codeAny_of_tree ?_)
 show wpAny _ _ (callAny (.type "set") _) _ _ _
 refine xa ⟨Code.quiet_builtin _ (by decide +kernel),Zl F.entry_type_call ?_⟩
 rw[Around.under_plain (weight_type_call_type "set" [.ref l] []) rfl]
 repeat (any_goals (first | assumption | wp_step))
 refine q0w (KJ (.ref l) (E:=E) (Q₁ := fun r s1=>r = .ref s.heap.objs.size/\s1={ s with heap:=s.heap.push (cz (ik w)) }) ⟨rfl,rfl⟩) fun r s1 hr => ?_
 cases r with
 | error e=>exact hr
 | ok fl =>
  cases fl with
  | ret obj =>
   obtain⟨rfl,rfl⟩:=hr
   generalize KO:ik w=led at fin ⊢
   have gS:(s.heap.push (cz led)).get? s.heap.objs.size=some (cz led):=XJ _ rfl
   have tS:Shared.TypeIs { s with heap:=s.heap.push (cz led) } (.ref s.heap.objs.size) "set" := ⟨_,gS,rfl⟩
   have m6:=Y_.init.lookup
   have m7:=Y_.init.bind (.ref s.heap.objs.size)
   repeat (any_goals (first | assumption | wp_step))
   refine q0w (codeAny_call_builtin (R:=wants (fun r s2=>r = .none/\∃ h' tk,s2={ s with heap:=h',toks:=tk }/\eR h' s.heap.objs.size led (j5 ns items.size) ∧
     ∀ b o,b < s.heap.objs.size->s.heap.get? b=some o->h'.get? b=some o) E) Y_.init.plain F.entry_set_init (check_set_init_1 tS ?_)) fun r2 s2 kM => ?_
   ·obtain⟨ol,gl,cl,nl,dl⟩:=rV
    obtain⟨c0,d0,KP,zA⟩:=ol
    simp only at cl dl
    subst cl
    subst dl
    have zB:(s.heap.push (cz led)).get? l=some { cls := .type "list",dict:=d0,data := .seq items nl,slots:=zA }:=ue _ gl
    have x1:=F.sub_list_set
    have x2:=F.sub_list_frozenset
    have x3:(Value.type "list" == Value.type "dict")=false:=by decide
    have kN:(s.heap.push (cz led)).IsList l items:=⟨_,zB,rfl,nl,rfl⟩
    have ll:l < s.heap.objs.size:=Ng gl
    unfold Builtin.«set.__init__» noKeywords Builtin.Frozenset.updateFrom
    generalize zC:pyIter=PI
    wp_walk
    subst zC
    refine q0d kN (nq (wpAny_runValue ?_))
    have h3:A.in1.in1.in1.handled=none:=by simp[hh]
    have ez:(s.heap.push (cz led)).objs.size=s.heap.objs.size + 1:=ZX ..
    have nI:l≠(s.heap.push (cz led)).objs.size:=by rw[ez];exact XN (YR ll)
    refine KH ((q1o h3 _ l nI items).toS) (S:=s.heap.objs.size) ?out (led:=led) ns (fun i v hv=>isInt i v hv) ED items.size 0 _ (YY _)
     ⟨⟨_,XJ _ rfl,rfl,rfl⟩,kN.push _⟩ ?fresh ?fin
    case out =>
     simp only[Nh,Yx,ZI,q2g,ez]
     exact⟨XN (Y0 _),ZU ll⟩
    case fresh =>
     exact KI (led:=led) (ue _ gS)
    case fin =>
     intro s' mv se
     obtain⟨h',g',d',lY,tL⟩:=s'
     obtain rfl:g'=s.gens:=mv.gens
     obtain rfl:d'=s.drawn:=mv.drawn
     obtain rfl:tL=s.os:=mv.os
     show wpAny _ _ _ _ _ _
     refine xa ?_
     show wpAny _ _ (ret Value.none) _ _ _
     refine xa ⟨rfl,h',lY,rfl,se,fun b o hb e => ?_⟩
     refine mv.heap b o ?_ (ue _ (ue _ e))
     simp only[Nh,Yx,ZI,q2g,ez]
     exact⟨XN hb,XN (YR hb)⟩
   ·cases r2 with
    | error e=>exact kM
    | ok zD =>
     cases zD with
     | ret r =>
      obtain⟨rfl,h',lY,rfl,se,kp⟩:=kM
      repeat (any_goals (first | assumption | wp_step))
      exact fin _ _ se kp
     | next=>exact kM
     | brk=>exact kM
     | cont=>exact kM
  | next=>exact hr
  | brk=>exact hr
  | cont=>exact hr
end
theorem aL:Slot "set_iterator" "__next__" "set_iterator.__next__" :=
 .of (owner := "set_iterator") (n := "__next__") (by rw[typeLookup_type,builtinLookup_eq_fast];kernel_rfl) (by decide +kernel) (by decide +kernel) (by decide +kernel)
  (by first | exact .inl (by decide +kernel) | exact .inr (by decide +kernel)) (by rw[isSubtype_type];kernel_rfl)
theorem EE:Slot "set_iterator" "__iter__" "set_iterator.__iter__" :=
 .of (owner := "set_iterator") (n := "__iter__") (by rw[typeLookup_type,builtinLookup_eq_fast];kernel_rfl) (by decide +kernel) (by decide +kernel) (by decide +kernel)
  (by first | exact .inl (by decide +kernel) | exact .inr (by decide +kernel)) (by rw[isSubtype_type];kernel_rfl)
theorem EF:entryFor table "set_iterator.__next__" = some Builtin.«set_iterator.__next__» := entryFor_of_fast (by kernel_rfl)
theorem KQ:entryFor table "set_iterator.__iter__" = some Builtin.«dict_keyiterator.__iter__» :=
 entryFor_alias (id' := "dict_keyiterator.__iter__") (by kernel_rfl) rfl (by decide +kernel) (by kernel_rfl)
theorem KR:entryFor table "set.__iter__" = some Builtin.«frozenset.__iter__» :=
 entryFor_alias (id' := "frozenset.__iter__") (by kernel_rfl) rfl (by decide +kernel) (by kernel_rfl)
theorem EG (a:Value):argsOk "set_iterator.__next__" ⟨[a],[]⟩:=by unfold argsOk;kernel_rfl
theorem KU (a:Value):argsOk "set_iterator.__iter__" ⟨[a],[]⟩:=by unfold argsOk;kernel_rfl
noncomputable def bM (h:Heap) (I S:Addr) (first:Value) (i n ep:Nat):Prop:=∃ o,h.get? I=some o/\o.cls = .type "set_iterator" /\ o.data = .fields #[first,.int i 0,.ref S,.int n 0,.int ep 0]
theorem bM.typeIs {s:Shared} {I S:Addr} {f:Value} {i n ep:Nat} (x:bM s.heap I S f i n ep):s.TypeIs (.ref I) "set_iterator" := let ⟨o,ho,hc,_⟩:=x; ⟨o,ho,hc⟩
theorem bM.at {h h':Heap} {I S:Addr} {f:Value} {i n ep:Nat} (x:bM h I S f i n ep) (e:∀ o,h.get? I=some o->h'.get? I=some o):bM h' I S f i n ep:=let ⟨o,ho,r⟩:=x; ⟨o,e _ ho,r⟩
noncomputable def hZ (w:World) (S:Addr) (ep:Nat) (es:Array (Int × Value)):Array (Int × Value):=if w.params.followText "set-order" = true then pickOrder (w.params.setOrder S ep) es else es
theorem zE (w:World) (S:Addr) (ep:Nat) (es:Array (Int × Value)):(hZ w S ep es).toList.Perm es.toList:=by
 unfold hZ
 split
 ·exact Kt _ _
 ·exact q0f _
theorem wM (w:World) (S:Addr) (ep:Nat) (es:Array (Int × Value)):(hZ w S ep es).size=es.size:=by
 have:=(zE w S ep es).length_eq
 simpa using this
noncomputable def slotAt (t:SetTable) (i:Nat):Nat:=if i=0 then 0 else t.place.getD (i - 1) 0 + 1
structure zF (w:World) (I S:Addr) (o:Obj) (es:Array (Int × Value)) (ep:Nat) (t:SetTable) (i:Nat) (h:Heap):Prop where
 set:h.get? S=some o
 it:∃ slot:Nat,bM h I S (.int slot 0) i es.size ep/\(w.params.followText "set-order" = false->slot=slotAt t i)
section
variable {prog:Program} {w:World} {A:Around} {I S:Addr} {o:Obj} {es:Array (Int × Value)} {ep:Nat} {t:SetTable} {ks:List Int}
theorem KW (T:cy t es (ik w) ks) {i:Nat} (hi:i <= es.size):below t.place (slotAt t i)=i:=by
 unfold slotAt
 split
 ·rename_i h;subst h;exact Kq T.up
 ·rename_i h
  have hl:i - 1 < t.place.size:=by rw[T.hX];omega
  have e:t.place.getD (i - 1) 0=t.place[i - 1]:=by simp[Array.getD,hl]
  rw[e,Kp T.up hl];omega
theorem EH {E:Value->Shared->Prop} {s:Shared} {Q:Option (Value × Nat)->Shared->Prop} (ho:s.heap.get? S=some o) (hd:o.data = .set es ep t) (T:cy t es (ik w) ks) {slot i:Nat} (hi:i <= es.size) (hs:w.params.followText "set-order" = false->slot=slotAt t i)
  (k:∀ pK:Nat,(w.params.followText "set-order" = false->i < es.size->pK=slotAt t (i + 1))->Q (((hZ w S ep es)[i]?).map fun e=>(e.2,pK)) s):wpAny (model prog w) A (setNext S slot i ep) Q E s:=by
 unfold setNext
 refine nq (Zj ho hd T.fits ?_)
 dsimp only
 refine nq ?_
 unfold setsByText
 refine nq (q0v (xa ?_))
 dsimp only
 have mw:(model prog w).w=w:=rfl
 cases q:w.params.followText "set-order" with
 | true =>
  rw[mw,q]
  simp only[bne_self_eq_false,Ym,Y1,Z9]
  refine nq ?_
  unfold setWalk
  refine nq (Zj ho hd T.fits ?_)
  dsimp only
  refine nq ?_
  unfold setsByText
  refine nq (q0v (xa ?_))
  dsimp only
  rw[mw,q,XI rfl]
  refine nq (q0v (xa ?_))
  refine xa ?_
  have:=k slot fun z=>by rw[q] at z;cases z
  unfold hZ at this
  rw[XI q] at this
  exact this
 | false =>
  rw[mw,q,Nj (by decide)]
  have zG:=hs q
  subst zG
  have hb:=KW T hi
  rw[hb]
  refine q0a (fun h=>absurd (show (!t.plain && decide (es.size > 1))=true from h) (by rw[T.tI];simp)) (fun _ => ?_)
  refine nq ?_
  refine q0a (c:=(!t.led && !es.isEmpty)=true) (fun h=>absurd h (by rw[T.zq];unfold ik;rw[q];simp)) (fun _ => ?_)
  refine xa (xa ?_)
  have hk:=k (slotAt t (i + 1)) fun _ _=>rfl
  unfold hZ at hk
  rw[Nj (by rw[q];decide)] at hk
  by_cases hl:i < es.size
  ·have hp:i < t.place.size:=by rw[T.hX];exact hl
   rw[XH hl] at hk
   rw[XH hl,XH hp]
   have e:slotAt t (i + 1)=t.place[i] + 1:=by
    unfold slotAt
    rw[Nj (by omega),Nat.add_sub_cancel]
    simp[Array.getD,hp]
   rw[e] at hk
   exact hk
  ·rw[Zo (by omega)] at hk
   rw[Zo (by omega)]
   exact hk
theorem EI {E:Value->Shared->Prop} {s:Shared} {a:Addr} {ob:Obj} {vs:Array Value} {Q:Array Value->Shared->Prop} (ho:s.heap.get? a=some ob) (hd:ob.data = .fields vs) (h:Q vs s):wpAny (model prog w) A (fieldsOf (.ref a)) Q E s:=by
 unfold fieldsOf
 refine nq (wpAny_load ho ?_)
 rw[hd];exact xa h
theorem KY (hh:A.handled=none) (h8:S≠I) (hex:o.ExactSet) (hd:o.data = .set es ep t) (T:cy t es (ik w) ks) :
  Walks prog w A I [I,S] [I] es.size (fun i v=>∃ e,(hZ w S ep es)[i]? = some e/\v=e.2) (zF w I S o es ep t) where
 sub:=fun b hb=>by simp at hb;simp[hb]
 frame:=fun i h h' st hk=>⟨hk S (by simp) _ st.set,let ⟨slot,x,y⟩:=st.it; ⟨slot,x.at fun o e=>hk I (by simp) o e,y⟩⟩
 item:=fun i s Q E hi st hQ=>by
  obtain⟨slot,hit,hs⟩:=st.it
  obtain⟨oi,rW,hc,pL⟩:=id hit
  unfold pyNext
  refine nq (wpAny_attempt (ZA (name:=Str.ofString "__next__") hit.typeIs aL
   (Zr aL hit.typeIs EF ?_ (EG _))))
  unfold Builtin.«set_iterator.__next__»
  refine nq (m:=slotArgs _ _ _) (xa ?_)
  refine nq (EI rW pL ?_)
  dsimp only
  refine nq (q1g st.set hd T.fits ?_)
  rw[Nj (by simp)]
  refine nq (EH st.set hd T (slot:=slot) (i:=i) (by omega) hs fun pK hn => ?_)
  have ei:(hZ w S ep es)[i]? = some ((hZ w S ep es)[i]'(by rw[wM];exact hi)):=XH _
  rw[ei]
  dsimp only [Option.map]
  refine nq (q0U rW pL (by simp) ?_)
  have gW:=YS (Obj.mapFields (·.setIfInBounds 0 (rawInt pK))) rW (q00 (Z6 pL _))
  have zH:=Z6 pL (·.setIfInBounds 0 (rawInt (pK:Int)))
  refine nq (q0U gW zH (by simp) ?_)
  have gq:=YS (Obj.mapFields (·.setIfInBounds 1 (rawInt ((i:Int) + 1)))) gW (q00 (Z6 zH _))
  have hd2:=Z6 zH (·.setIfInBounds 1 (rawInt ((i:Int) + 1)))
  refine xa ⟨_,rfl,xa (hQ _ _ s.toks ⟨_,ei,rfl⟩ ⟨?_,pK,⟨_,gq,?_,?_⟩,fun z=>hn z hi⟩ fun b ob hb e => ?_)⟩
  ·rw[Za _ _ (ZV h8),Za _ _ (ZV h8)];exact st.set
  ·exact (q1A ..).trans ((q1A ..).trans hc)
  ·rw[hd2];simp[rawInt]
  ·have dJ:I≠b:=fun z=>hb (by simp[z])
   rw[Za _ _ dJ,Za _ _ dJ];exact e
 done:=fun s Q E st hQ=>by
  obtain⟨slot,hit,hs⟩:=st.it
  obtain⟨oi,rW,hc,pL⟩:=id hit
  unfold pyNext
  refine nq (wpAny_attempt (ZA (name:=Str.ofString "__next__") hit.typeIs aL
   (Zr aL hit.typeIs EF ?_ (EG _))))
  unfold Builtin.«set_iterator.__next__»
  refine nq (m:=slotArgs _ _ _) (xa ?_)
  refine nq (EI rW pL ?_)
  dsimp only
  refine nq (q1g st.set hd T.fits ?_)
  rw[Nj (by simp)]
  refine nq (EH st.set hd T (slot:=slot) (i:=es.size) (qq _) hs fun pK hn => ?_)
  rw[Zo (by rw[wM];exact qq _)]
  dsimp only [Option.map]
  refine nq (q0U rW pL (by simp) ?_)
  show wpAny _ _ (newExc (.type "StopIteration") [] >>= _) _ _ _
  refine nq ?_
  simp only[newExc,newTuple]
  refine nq (Y4 ?_ (by size_fits))
  refine nq (m:=firstArgMember _ _) (wpAny_of_eq (a:=Value.none) (by first | rfl | (simp only[firstArgMember];rfl)) ?_)
  refine Y4 ?_ (by size_fits)
  simp only[raiseNew]
  refine nq (wpAny_handled ?_)
  rw[show A.in1.handled=none from hh]
  refine nq (xa (wpAny_throw ?_))
  refine nq (wpAny_isInstance (T := "StopIteration") (b:=true) ⟨_,XJ _ rfl,rfl⟩ isSubtype_stop ?_)
  refine xa (hQ _ s.toks fun b ob hb e => ?_)
  have dJ:b≠I:=fun z=>hb (by simp[z])
  exact (((YM ..).extBut.push _).push _) b ob dJ e
 self:=fun i s Q E st hQ=>by
  obtain⟨slot,hit,_⟩:=st.it
  refine wpAny_pyIter_slot hit.typeIs EE (Zr EE hit.typeIs KQ ?_ (KU _))
  show wpAny _ _ (ret (.ref I)) _ _ s
  exact xa ⟨_,rfl, "set_iterator",_,hit.typeIs,aL.lookup,hQ⟩
theorem KZ {E:Value->Shared->Prop} {s:Shared} {Q:Bool->Shared->Prop} (ho:s.heap.get? S=some o) (hd:o.data = .set es ep t) (T:cy t es (ik w) ks) (k:Q false s):wpAny (model prog w) A (setDrawn S) Q E s:=by
 unfold setDrawn
 refine nq (Zj ho hd T.fits ?_)
 dsimp only
 refine nq ?_
 unfold setsByText
 refine nq (q0v (xa ?_))
 refine xa ?_
 have e:(!(model prog w).w.params.followText "set-order" && (!t.plain && decide (es.size > 1)))=false:=by rw[T.tI];simp
 exact e ▸ k
theorem K1 {E:Value->Shared->Prop} {s:Shared} {Q:Value->Shared->Prop} (ho:s.heap.get? S=some o) (hex:o.ExactSet) (hd:o.data = .set es ep t) (T:cy t es (ik w) ks)
  (k:∀ h',(∀ b ob,s.heap.get? b=some ob->h'.get? b=some ob)->zF w s.heap.objs.size S o es ep t 0 h'->Q (.ref s.heap.objs.size) { s with heap:=h' }):wpAny (model prog w) A (pyIter (.ref S)) Q E s:=by
 have tS:s.TypeIs (.ref S) "set" := ⟨o,ho,hex.1⟩
 refine wpAny_pyIter_slot tS F.slot_set_iter (Zr F.slot_set_iter tS KR ?_ (F.args_set_iter_1 _))
 unfold Builtin.«frozenset.__iter__»
 refine nq (m:=Builtin.Frozenset.slot0 _ _) (xa (a:=S) ?_)
 refine nq (m:=Builtin.Frozenset.sizeOf _) ?_
 unfold Builtin.Frozenset.sizeOf
 refine nq (q1g ho hd T.fits (xa ?_))
 refine nq (KZ ho hd T ?_)
 simp only[Ym,Y1]
 refine nq (xa ?_)
 refine nq (wpAny_setEpoch_of ho hd T.fits ?_)
 refine nq (m:=newFields _ _) (Y4 (xa ⟨_,rfl, "set_iterator",_,⟨_,XJ _ rfl,rfl⟩,aL.lookup,?_⟩))
 refine k _ (fun b ob e=>ue _ e) ⟨ue _ ho,0,⟨_,XJ _ rfl,rfl,rfl⟩,fun _=>rfl⟩
end
section
variable {prog:Program} {w:World} {A:Around} {S:Addr} {o:Obj} {es:Array (Int × Value)} {ep:Nat} {t:SetTable} {ks:List Int}
theorem K4 {E:Value->Shared->Prop} {s:Shared} {Q:Bool->Shared->Prop} (tS:s.TypeIs (.ref S) "set") (k:Q false s):wpAny (model prog w) A (Builtin.List.listLengthHint (.ref S)) Q E s:=by
 unfold Builtin.List.listLengthHint
 refine nq (wpAny_specialOf tS F.slot_set_len.lookup ?_)
 generalize kO:("set.__len__" : String)=K5
 wp_delta
 rw[show splitId K5=some ("set", "__len__") from by subst kO;decide +kernel]
 subst kO
 refine nq (wpAny_isInstance (T := "set") (b:=true) tS (by rw[isSubtype_type];kernel_rfl) ?_)
 refine q0a (fun wI=>absurd wI (by decide)) (fun _ => ?_)
 refine q0a (fun _ => ?_) (fun wI=>absurd (by decide +kernel) wI)
 refine nq (q0V tS ?_)
 exact xa k
theorem K6 {E:Value->Shared->Prop} {s:Shared} {Q:List Value->Shared->Prop} (hh:A.handled=none) (ho:s.heap.get? S=some o) (hex:o.ExactSet) (hd:o.data = .set es ep t) (T:cy t es (ik w) ks) (hn:es.size <= 1000)
  (h:∀ (h':Heap) (tk:Nat),(∀ b ob,s.heap.get? b=some ob->h'.get? b=some ob)->s.heap.objs.size <= h'.objs.size->Q ((hZ w S ep es).toList.map (·.2)) { s with heap:=h',toks:=tk }):wpAny (model prog w) A (collect (.ref S)) Q E s:=by
 have tS:s.TypeIs (.ref S) "set" := ⟨o,ho,hex.1⟩
 have lS:S < s.heap.objs.size:=Ng ho
 unfold collect
 refine nq (wpAny_runValue (Zl F.entry_proto_collect ?_))
 rw[Y5 F.plain_proto_collect _]
 show wpAny _ A.in1 (newList [] >>= fun l=>again (.builtin "list.__iadd__" ⟨[l,.ref S],[]⟩)) _ _ s
 refine nq (Y4 ?_)
 refine xa ⟨ZT F.plain_list_iadd _,Zl F.entry_list_iadd ?_⟩
 rw[Y5 F.plain_list_iadd _]
 generalize wN:({ s with heap:=s.heap.push { cls := .type "list",data := .seq ([]:List Value).toArray } }:Shared)=s1
 have gW:s1.heap.get? S=some o:=by rw[<-wN];exact ue _ ho
 have gL:s1.heap.get? s.heap.objs.size=some { cls := .type "list",data := .seq ([]:List Value).toArray }:=by rw[<-wN];exact XJ _ rfl
 have z1:s1.heap.objs.size=s.heap.objs.size + 1:=by rw[<-wN];exact ZX ..
 show wpAny _ A.in1 (Builtin.List.listExtendWith (.ref s.heap.objs.size) (.ref S) (.ref s.heap.objs.size)) _ _ _
 unfold Builtin.List.listExtendWith
 refine nq (q0V (T := "set") ⟨o,gW,hex.1⟩ ?_)
 have h1:Builtin.List.listSameRef (.ref s.heap.objs.size) (.ref S)=false:=by simp[Builtin.List.listSameRef];exact ZU lS
 have h2:(Value.type "set" == Value.type "list")=false:=by decide
 have h3:(Value.type "set" == Value.type "tuple")=false:=by decide
 simp only[h1,h2,h3,Bool.or_false,Ym,Y1]
 refine nq (K1 gW hex hd T fun fP pM iQ => ?_)
 refine nq (YE (K4 ⟨o,pM _ _ gW,hex.1⟩ ?_))
 have h8:S≠s1.heap.objs.size:=by rw[z1];exact XN (YR lS)
 have W:=(KY (prog:=prog) (A:=A.in1) (I:=s1.heap.objs.size) (by simp[hh]) h8 hex hd T).toS
 have K7:s.heap.objs.size∉[s1.heap.objs.size,S]:=by
  simp only[Nh,Yx,ZI,q2g,z1]
  exact⟨XN (Y0 _),ZU lS⟩
 have key:∀ (tM:Heap) (c:Nat),zF w s1.heap.objs.size S o es ep t 0 tM->tM.get? s.heap.objs.size=some { cls := .type "list",data := .seq #[] c }->(∀ b ob,b≠s.heap.objs.size->fP.get? b=some ob->tM.get? b=some ob) →
   codeAny (model prog w) A (.builtin "list.extend.loop" ⟨[.ref s.heap.objs.size,.ref s1.heap.objs.size,.ref s.heap.objs.size],[]⟩) (fun r s'=>match r with
    | .ok (.ret v)=>wpAny (model prog w) A (match v with
     | .ref a=>do match (<- load a).data with
      | .seq xs _=>pure xs.toList
      | _=>unsupported "internal:collect"
     | _=>unsupported "internal:collect") Q E s'
    | .ok _=>False
    | .error e=>E e s') { s1 with heap:=tM }:=by
  intro tM c st hL kp
  refine codeAny_extend_loopS W (by rw[ZW];omega) _ K7 _ es.size 0 _ #[] c rfl (YK _) st hL (ItemsOf.nil _) fun s' eS c' hm rX pN => ?_
  show wpAny _ A (load s.heap.objs.size >>= _) _ _ s'
  refine nq (wpAny_load rX (xa ?_))
  have ea:eS.toList=(hZ w S ep es).toList.map (·.2):=by
   refine q0t fun i => ?_
   rw[Ni]
   by_cases hi:i < es.size
   ·have EJ:i < eS.size:=by rw[pN.1];exact hi
    obtain⟨e,he,hv⟩:=pN.2 i _ (XH EJ)
    rw[Yp,XH EJ,Yp,he,hv];rfl
   ·rw[Yp,Zo (by rw[pN.1];omega),Yp,Zo (by rw[wM];omega)];rfl
  rw[ea]
  obtain⟨zI,g3,d3,XC,K8⟩:=s'
  obtain rfl:g3=s1.gens:=hm.gens
  obtain rfl:d3=s1.drawn:=hm.drawn
  obtain rfl:K8=s1.os:=hm.os
  subst wN
  refine h _ _ (fun b ob e => ?_) (Zp (Ng rX))
  have hb:b < s.heap.objs.size:=Ng e
  refine hm.heap b ob ?_ (kp b ob (XN hb) (pM b ob (ue _ e)))
  simp only[Nh,Yx,ZI,q2g]
  exact⟨XN hb,by show b≠(s.heap.push _).objs.size;rw[ZX];exact XN (YR hb)⟩
 have mO:=pM _ _ gL
 refine q0a (fun _ => ?_) (fun _=>xa ⟨ZT F.plain_extend_loop _,key _ _ iQ mO (fun b ob _ e=>e)⟩)
 refine nq (q1S ?_)
 refine nq ?_
 show wpAny _ _ (updateSeq s.heap.objs.size (·.push .none) >>= fun _=>updateSeq s.heap.objs.size (·.pop)) _ _ _
 refine nq (q0G mO rfl ?_)
 have EK:=YS (Obj.mapSeq (·.push Value.none)) mO rfl
 refine q0G (hz:=by seq_fits) EK rfl ?_
 have K9:=YS (Obj.mapSeq (·.pop)) EK rfl
 have zJ:∀ b ob,b≠s.heap.objs.size->fP.get? b=some ob->((fP.update s.heap.objs.size (Obj.mapSeq (·.push Value.none))).update s.heap.objs.size (Obj.mapSeq (·.pop))).get? b=some ob :=
  fun b ob hb e=>(Za _ _ (ZV hb)).trans ((Za _ _ (ZV hb)).trans e)
 refine xa ⟨ZT F.plain_extend_loop _,key _ _ ?_ K9 zJ⟩
 obtain⟨slot,it,sl⟩:=iQ.it
 exact⟨zJ _ _ (XN lS) iQ.set,slot,it.at fun ob e=>zJ _ _ (by rw[z1];exact ZU (Y0 _)) e,sl⟩
end
end LJS
namespace L2
open PySem PySem.Spec PyProof.Rows
noncomputable abbrev Key:=Sum Int Str
noncomputable def rY:Key->Value->Bool
 | .inl k,v=>Value.isInt k v
 | .inr x,v=>Value.isStrOf x v
noncomputable def zK (w:World):Key->Int
 | .inl k=>hashInt k
 | .inr x=>hashStr w x
theorem mP:∀ {k:Key} {v:Value},rY k v=true->(∃ i t,k=Sum.inl i/\v=Value.int i t)\/(∃ x t,k=Sum.inr x/\v=Value.str x t)
 | .inl i,v,h=>by
  obtain⟨t,e⟩:=Value.isInt_shape (k:=i) (v:=v) h
  exact .inl ⟨i,t,rfl,e⟩
 | .inr x,v,h=>by
  obtain⟨t,e⟩:=Value.isStrOf_shape (x:=x) (v:=v) h
  exact .inr ⟨x,t,rfl,e⟩
theorem K_ (i:Int) (t:Tok):rY (.inl i) (.int i t)=true:=by simp[rY,Value.isInt]
theorem La (x:Str) (t:Tok):rY (.inr x) (.str x t)=true:=by simp[rY,Value.isStrOf]
theorem Lb (a b:Int):decide ((Sum.inl a:Key)=Sum.inl b)=(a == b):=by
 by_cases e:a=b
 ·subst e;simp
 ·have h:¬ (Sum.inl a:Key)=Sum.inl b:=fun q=>e (Sum.inl.inj q)
  rw[Yz h]
  exact (beq_eq_false_iff_ne.mpr e).symm
theorem Lc (a b:Str):decide ((Sum.inr a:Key)=Sum.inr b)=decide (a=b):=by
 by_cases e:a=b
 ·subst e;simp
 ·have h:¬ (Sum.inr a:Key)=Sum.inr b:=fun q=>e (Sum.inr.inj q)
  rw[Yz h,Yz e]
theorem Ld (a:Int) (b:Str):decide ((Sum.inl a:Key)=Sum.inr b)=false:=Yz (fun q=>nomatch q)
theorem Le (a:Str) (b:Int):decide ((Sum.inr a:Key)=Sum.inl b)=false:=Yz (fun q=>nomatch q)
noncomputable def ip (prog:Program) (w:World):PySem.KeyKind prog w Key where
 is:=rY
 hash:=zK w
 inj:=fun v a b ha hb=>by
  rcases mP ha with⟨i,t,rfl,rfl⟩ | ⟨x,t,rfl,rfl⟩
  ·rcases mP hb with⟨j,u,rfl,e⟩ | ⟨y,u,rfl,e⟩
   ·injection e with e1 _;rw[e1]
   ·exact nomatch e
  ·rcases mP hb with⟨j,u,rfl,e⟩ | ⟨y,u,rfl,e⟩
   ·exact nomatch e
   ·injection e with e1 _;rw[e1]
 byValue:=fun k v h=>by
  rcases mP h with⟨i,t,rfl,rfl⟩ | ⟨x,t,rfl,rfl⟩<;>rfl
 pyHash:=fun hv h=>by
  rcases mP hv with⟨i,t,rfl,rfl⟩ | ⟨x,t,rfl,rfl⟩
  ·exact wpAny_pyHash_int h
  ·exact wpAny_pyHash_str h
 eqBool:=fun hu hv h=>by
  rcases mP hu with⟨i,t,rfl,rfl⟩ | ⟨x,t,rfl,rfl⟩
  ·rcases mP hv with⟨j,u,rfl,rfl⟩ | ⟨y,u,rfl,rfl⟩
   ·rw[Lb] at h;exact wpAny_eqBool_int h
   ·rw[Ld] at h;exact SeqAt.EqAt.int_str i t y u _ _ _ _ h
  ·rcases mP hv with⟨j,u,rfl,rfl⟩ | ⟨y,u,rfl,rfl⟩
   ·rw[Le] at h;exact SeqAt.EqAt.str_int x t j u _ _ _ _ h
   ·rw[Lc] at h;exact wpAny_eqBool_str h
 «strs» := fun k x t v h=>by
  rcases mP h with⟨i,u,rfl,e⟩ | ⟨y,u,rfl,e⟩
  ·exact nomatch e
  ·injection e with e1 _
   subst e1
   cases v<;>rfl
theorem Lf (prog:Program) (w:World) (i:Int) (t:Tok):(ip prog w).is (.inl i) (.int i t)=true:=K_ i t
theorem Lg (prog:Program) (w:World) (x:Str) (t:Tok):(ip prog w).is (.inr x) (.str x t)=true:=La x t
inductive V where
 | non | bl (b:Bool) | int (i:Int) | str (x:Str) | byt (b:Array UInt8) | flt (b:UInt64) | ref (a:Addr) | ty (n:String)
 deriving DecidableEq
noncomputable def RelV:V->Value->Prop
 | .non,u=>u=Value.none
 | .bl b,u=>u=Value.bool b
 | .int i,u=>∃ t,u=Value.int i t
 | .str x,u=>∃ t,u=Value.str x t
 | .byt b,u=>∃ t,u=Value.bytes b t
 | .flt b,u=>∃ t,u=Value.float b t
 | .ref a,u=>u=Value.ref a
 | .ty n,u=>u=Value.type n
noncomputable abbrev Vals:List V->List Value->Prop:=Paired RelV
theorem Vals.length {xs:List V} {us:List Value} (r:Vals xs us):xs.length=us.length:=Paired.length r
theorem Vals.get:∀ {xs:List V} {us:List Value} {i:Nat} {x:V},Vals xs us->xs[i]? = some x->∃ u,us[i]? = some u/\RelV x u
 | _,_,_,_,.nil,e=>by simp at e
 | _,_,0,_,.cons r _,e=>by simp at e;subst e;exact⟨_,rfl,r⟩
 | _,_,i + 1,x,.cons _ t,e=>by
  obtain⟨u,h1,h2⟩:=Vals.get (i:=i) (x:=x) t (by simpa using e)
  exact⟨u,by simpa using h1,h2⟩
theorem Vals.set {x:V} {u:Value} (r:RelV x u):∀ {xs:List V} {us:List Value} (i:Nat),Vals xs us->Vals (xs.set i x) (us.set i u)
 | _,_,_,.nil => .nil
 | _,_,0,.cons _ t => .cons r t
 | _,_,i + 1,.cons q t => .cons q (Vals.set r i t)
theorem Vals.append:∀ {xs ys:List V} {us ws:List Value},Vals xs us->Vals ys ws->Vals (xs ++ ys) (us ++ ws)
 | _,_,_,_,.nil,s=>s
 | _,_,_,_,.cons r t,s => .cons r (Vals.append t s)
theorem Vals.take:∀ {xs:List V} {us:List Value} (n:Nat),Vals xs us->Vals (xs.take n) (us.take n)
 | _,_,0,_ => .nil
 | _,_,_ + 1,.nil => .nil
 | _,_,n + 1,.cons r t => .cons r (Vals.take n t)
theorem Vals.drop:∀ {xs:List V} {us:List Value} (n:Nat),Vals xs us->Vals (xs.drop n) (us.drop n)
 | _,_,0,r=>r
 | _,_,_ + 1,.nil => .nil
 | _,_,n + 1,.cons _ t=>Vals.drop n t
noncomputable def iR:Option V->Option Value->Prop
 | some v,some u=>RelV v u
 | none,none=>True
 | _,_=>False
noncomputable def KV {κ : Type}:List (κ × V)->List (κ × Value)->Prop:=Paired fun (p : κ × V) (q : κ × Value)=>p.1=q.1/\RelV p.2 q.2
noncomputable def kV:Key->V
 | .inl i => .int i
 | .inr x => .str x
inductive HO where
 | lst (xs:List V)
 | tup (xs:List V)
 | dK (kvs:List (Key × V)) | dT (kvs:List (List Key × V))
 | set (S:Int->Bool) (n:Nat)
 | ins (C dx:Addr) (fs:List (Str × V))
 | own (x:Addr)
 | xd (fs:List (Str × V))
 | met (f x:Addr)
 | rng (lo hi:Int)
 | frz (o:Obj) (u:HO)
 | tbl (ps:Array Value)
 | ext (φ : Heap->Prop)
noncomputable abbrev Hp:=Addr->Option HO
noncomputable def upd (H:Hp) (a:Addr) (o:HO):Hp:=fun b=>if b=a then some o else H b
theorem bz {H:Hp} {a:Addr} {o:HO}:upd H a o a=some o:=by unfold upd;rw[XI rfl]
theorem aH {H:Hp} {a b:Addr} {o:HO} (h:b≠a):upd H a o b=H b:=by unfold upd;rw[Nj h]
theorem Lh {H:Hp} {a b:Addr} {o u:HO} (h:H a=some o) (h':H b=some u) (d:o≠u):a≠b:=by
 intro e;subst e;rw[h] at h';exact d (YA h')
theorem cf {H:Hp} {a b:Addr} {o:HO} (h:H a=some o) (h':H b=none):a≠b:=by
 intro e;subst e;rw[h] at h';cases h'
section
variable (P:Program) (w:World)
noncomputable def aF (H:Hp) (h:Heap) (a:Addr):HO->Prop
 | .lst xs=>xs.length <= sizeLine/\∃ (ag:List Value) (n:Nat),Vals xs ag/\h.get? a=some { cls := .type "list",data := .seq ag.toArray n }
 | .tup xs=>xs.length <= sizeLine/\∃ ag:List Value,Vals xs ag/\IsTup h a ag.toArray
 | .dK kvs=>kvs.length <= sizeLine/\(a == sysModules)=false/\∃ vs,KV kvs vs/\h.DictOf (ip P w) a vs
 | .dT kvs=>kvs.length <= sizeLine/\(a == sysModules)=false/\∃ xs:List (List Key × Addr × Value),
   Paired (fun (p:List Key × V) (q:List Key × Addr × Value)=>p.1=q.1/\H q.2.1=some (.tup (p.1.map kV))/\RelV p.2 q.2.2) kvs xs ∧
   ∃ o es ep,h.get? a=some o/\o.ExactDict/\o.data = .dict es ep/\es.toList=xs.map (entryOfKey (tupleKind (ip P w)))/\(xs.map (·.1)).Nodup
 | .set S n=>h.SetOf (intKind P w) a S n
 | .ins C dx fs=>H dx=some (.own a)/\fs.length <= 1000/\dx≠a/\h.get? a=some (PySem.W.instObj C dx) ∧
   ∃ mA,h.Ns1 dx mA/\(∀ f,iR (fs.lookup f) (mA f))/\PySem.Within mA (fs.map (·.1))
 | .own _=>∃ o,h.get? a=some o
 | .xd fs=>∃ mA,h.Ns1 a mA/\∀ f,iR (fs.lookup f) (mA f)
 | .rng lo hi=>∃ t u v,h.get? a=some { cls := .type "range",data := .fields #[.int lo t,.int hi u,.int 1 v] }
 | .frz o u=>h.get? a=some o/\aF H h a u
 | .tbl ps=>h.get? a=some { cls := .none,data := .fields ps }
 | .met f x=>h.get? a=some (PySem.W.methodObj (.ref f) (.ref x))
 | .ext φ => φ h/\(∃ o,h.get? a=some o)/\∀ h1 h2:Heap,φ h1->(∀ o,h1.get? a=some o->h2.get? a=some o) -> φ h2
noncomputable def dI (H:Hp) (h:Heap):Prop:=∀ a o,H a=some o->aF P w H h a o
end
section
variable {P:Program} {w:World} {H H':Hp} {h h':Heap} {a:Addr} {o:HO}
theorem aF.lt (x:aF P w H h a o):a < h.objs.size:=by
 cases o with
 | lst xs=>obtain⟨_,_,_,_,e⟩:=x;exact Ng e
 | tup xs=>obtain⟨_,_,_,p⟩:=x;exact p.lt
 | dK kvs=>obtain⟨_,_,_,_,o,_,_,e,_⟩:=x;exact Ng e
 | dT kvs=>obtain⟨_,_,_,_,o,_,_,e,_⟩:=x;exact Ng e
 | set S n=>obtain⟨o,_,_,_,e,_⟩:=x;exact Ng e
 | ins C dx fs=>obtain⟨_,_,_,e,_⟩:=x;exact Ng e
 | own y=>obtain⟨_,e⟩:=x;exact Ng e
 | xd fs=>obtain⟨_,⟨_,_,_,e,_⟩,_⟩:=x;exact Ng e
 | rng lo hi=>obtain⟨_,_,_,e⟩:=x;exact Ng e
 | frz ob u=>obtain⟨e,_⟩:=x;exact Ng e
 | tbl ps=>exact Ng (show h.get? a=some _ from x)
 | met f y=>exact Ng (show h.get? a=some _ from x)
 | ext φ => obtain⟨_,⟨_,e⟩,_⟩:=x;exact Ng e
theorem Paired.pO {α β : Type} {F G : α -> β -> Prop}:∀ {l₁ : List α} {l₂ : List β},Paired F l₁ l₂ -> (∀ a b,F a b->G a b)->Paired G l₁ l₂
 | _,_,.nil,_ => .nil
 | _,_,.cons r t,f => .cons (f _ _ r) (Paired.pO t f)
theorem aF.gX (x:aF P w H h a o) (k:∀ b u,(b=a\/H b=some (.own a))->h.get? b=some u->h'.get? b=some u)
  (ho:∀ b,H b=some (.own a)->H' b=some (.own a)) (ht:∀ b xs,H b=some (.tup xs)->H' b=some (.tup xs)):aF P w H' h' a o:=by
 induction o with
 | lst xs=>obtain⟨z,ag,n,r,e⟩:=x;exact⟨z,ag,n,r,k _ _ (.inl rfl) e⟩
 | tup xs=>obtain⟨z,ag,r,ob,e,c⟩:=x;exact⟨z,ag,r,ob,k _ _ (.inl rfl) e,c⟩
 | dK kvs=>obtain⟨z,y,vs,r,ob,es,ep,e,c⟩:=x;exact⟨z,y,vs,r,ob,es,ep,k _ _ (.inl rfl) e,c⟩
 | dT kvs =>
  obtain⟨z,y,xs,r,ob,es,ep,e,c⟩:=x
  exact⟨z,y,xs,Paired.pO r fun p q z=>⟨z.1,ht _ _ z.2.1,z.2.2⟩,ob,es,ep,k _ _ (.inl rfl) e,c⟩
 | set S n=>obtain⟨ob,es,ep,t,e,c⟩:=x;exact⟨ob,es,ep,t,k _ _ (.inl rfl) e,c⟩
 | ins C dx fs =>
  obtain⟨d,z,ne,e,mA,⟨od,es,ep,e2,c⟩,r⟩:=x
  exact⟨ho _ d,z,ne,k _ _ (.inl rfl) e,mA,⟨od,es,ep,k _ _ (.inr d) e2,c⟩,r⟩
 | own y=>obtain⟨ob,e⟩:=x;exact⟨ob,k _ _ (.inl rfl) e⟩
 | xd fs=>obtain⟨mA,⟨od,es,ep,e,c⟩,r⟩:=x;exact⟨mA,⟨od,es,ep,k _ _ (.inl rfl) e,c⟩,r⟩
 | rng lo hi=>obtain⟨t,u,v,e⟩:=x;exact⟨t,u,v,k _ _ (.inl rfl) e⟩
 | frz ob u ih=>obtain⟨e,q⟩:=x;exact⟨k _ _ (.inl rfl) e,ih q⟩
 | tbl ps =>
  have e:h.get? a=some { cls := .none,data := .fields ps }:=x
  show h'.get? a=some { cls := .none,data := .fields ps }
  exact k a _ (.inl rfl) e
 | met f y =>
  have e:h.get? a=some (PySem.W.methodObj (.ref f) (.ref y)):=x
  show h'.get? a=some (PySem.W.methodObj (.ref f) (.ref y))
  exact k a _ (.inl rfl) e
 | ext φ => obtain⟨p,⟨o,e⟩,st⟩:=x;exact⟨st _ _ p fun o q=>k _ _ (.inl rfl) q,⟨o,k _ _ (.inl rfl) e⟩,st⟩
theorem dI.lt (x:dI P w H h) (e:H a=some o):a < h.objs.size:=(x a o e).lt
theorem dI.fresh (x:dI P w H h) (e:h.objs.size <= a):H a=none:=by
 cases q:H a with
 | none=>rfl
 | some u=>exact absurd (Yn (x.lt q) e) (ZE _)
theorem dI.kept (x:dI P w H h) (k:∀ b u,h.get? b=some u->h'.get? b=some u):dI P w H h':=fun a o e =>
 (x a o e).gX (fun b u _ q=>k b u q) (fun _ q=>q) fun _ _ q=>q
theorem dI.laid (x:dI P w H h) (k:∀ b u,h.get? b=some u->h'.get? b=some u) (hp:h.objs.size <= a) (new:aF P w (upd H a o) h' a o):dI P w (upd H a o) h':=fun b u e=>by
 have hn:=x.fresh hp
 by_cases hb:b=a
 ·subst hb;rw[bz] at e;cases e;exact new
 ·rw[aH hb] at e
  exact (x b u e).gX (fun c v _ q=>k c v q) (fun c q=>by rw[aH (cf q hn)];exact q) fun c xs q=>by rw[aH (cf q hn)];exact q
end
noncomputable def Rd (H:Hp) (a:Addr) (u:HO):Prop:=H a=some u\/∃ o,H a=some (.frz o u)
theorem Rd.ok {P:Program} {w:World} {H:Hp} {h:Heap} {a:Addr} {u:HO} (r:Rd H a u) (x:dI P w H h):aF P w H h a u:=by
 rcases r with r | ⟨o,r⟩
 ·exact x a u r
 ·obtain⟨_,q⟩:=x a _ r
  exact q
noncomputable def tN:Option HO->Prop
 | some (.lst _)=>True
 | some (.dK _)=>True
 | some (.dT _)=>True
 | some (.set _ _)=>True
 | some (.ins _ _ _)=>True
 | some (.ext _)=>True
 | _=>False
section
variable {P:Program} {w:World} {H:Hp} {h h':Heap} {x e:Addr} {o':HO}
theorem dI.write (ok:dI P w H h) (mu:tN (H x)) (he:e=x\/H e=some (.own x)) (k:∀ b u,b≠e->h.get? b=some u->h'.get? b=some u) (lZ:∃ u,h'.get? e=some u)
  (new:aF P w (upd H x o') h' x o'):dI P w (upd H x o') h':=fun b u q=>by
 have tO:∀ c y,H c=some (.own y)->c≠x:=fun c y r z=>by subst z;rw[r] at mu;exact mu
 have zL:∀ c xs,H c=some (.tup xs)->c≠x:=fun c xs r z=>by subst z;rw[r] at mu;exact mu
 by_cases hb:b=x
 ·subst hb;rw[bz] at q;cases q;exact new
 ·rw[aH hb] at q
  by_cases pP:b=e
  ·have q':H b=some (.own x):=by
    rcases he with z | z
    ·exact absurd (pP.trans z) hb
    ·rw[pP];exact z
   rw[q] at q';cases q'
   obtain⟨v,hv⟩:=lZ
   exact⟨v,by rw[pP];exact hv⟩
  ·refine (ok b u q).gX (fun c v hc r=>k c v ?_ r) (fun c r=>by rw[aH (tO c b r)];exact r) fun c xs r=>by rw[aH (zL c xs r)];exact r
   rcases hc with rfl | hc
   ·exact pP
   ·rintro rfl
    rcases he with z | z
    ·exact tO c b hc z
    ·rw[hc] at z;cases z;exact hb rfl
end
structure Un (fs ex:List Addr) (H H':Hp) (h h':Heap):Prop where
 keep:∀ b o,h.get? b=some o->H b=none->b∉fs->b∉ex->h'.get? b=some o
 slot:∀ b o,h.get? b=some o->H b=none->b∈fs->b∉ex->∃ sl,h'.get? b=some { o with slots:=sl }
 free:∀ b o,h.get? b=some o->H b=none->b∉ex->H' b=none
 there:∀ b o,h.get? b=some o->b∉ex->∃ o',h'.get? b=some o'
 fQ:∀ b xs,H b=some (.tup xs)->H' b=some (.tup xs)
 gs:∀ b o u,H b=some (.frz o u)->H' b=some (.frz o u)
 gu:∀ b ps,H b=some (.tbl ps)->∃ more,H' b=some (.tbl (ps ++ more))
section
variable {fs Li ex XD:List Addr} {H H1 H2:Hp} {h h1 h2 h':Heap} {a x e:Addr} {o:HO}
theorem Un.any (u:Un fs ex H H1 h h1) {b:Addr} {ob:Obj} (q:h.get? b=some ob) (n:H b=none) (hx:b∉ex):∃ sl,h1.get? b=some { ob with slots:=sl }:=by
 by_cases hb:b∈fs
 ·exact u.slot b ob q n hb hx
 ·exact⟨ob.slots,u.keep b ob q n hb hx⟩
theorem Un.kept (k:∀ b u,h.get? b=some u->h'.get? b=some u):Un fs ex H H h h' :=
 ⟨fun b ob q _ _ _=>k b ob q,fun b ob q _ _ _=>⟨ob.slots,k b ob q⟩,fun _ _ _ n _=>n,fun b ob q _=>⟨ob,k b ob q⟩,fun _ _ q=>q,fun _ _ _ q=>q,fun _ ps q=>⟨#[],by rw[q];simp⟩⟩
theorem Un.refl:Un fs ex H H h h:=Un.kept fun _ _ q=>q
theorem Un.laid (k:∀ b u,h.get? b=some u->h'.get? b=some u) (hp:h.objs.size <= a) (hn:H a=none):Un fs ex H (upd H a o) h h' where
 keep:=fun b u q _ _ _=>k b u q
 slot:=fun b u q _ _ _=>⟨u.slots,k b u q⟩
 free:=fun b u q n _=>by rw[aH (XN (Yn (Ng q) hp))];exact n
 there:=fun b u q _=>⟨u,k b u q⟩
 fQ:=fun b xs q=>by rw[aH (cf q hn)];exact q
 gs:=fun b u xs q=>by rw[aH (cf q hn)];exact q
 gu:=fun b ps q=>⟨#[],by rw[aH (cf q hn),q];simp⟩
theorem Un.write (mu:tN (H x)) (he:e=x\/H e=some (.own x)) (k:∀ b u,b≠e->h.get? b=some u->h'.get? b=some u) (lZ:∃ u,h'.get? e=some u):Un fs ex H (upd H x o) h h':=by
 have hx:∀ b,H b=none->b≠x:=fun b n z=>by subst z;rw[n] at mu;exact mu
 have hb:∀ b,H b=none->b≠e:=fun b n z=>by
  subst z
  rcases he with r | r
  ·exact hx b n r
  ·rw[n] at r;cases r
 have hm:∀ b u,H b=some u->¬ tN (some u)->b≠x:=fun b u q nm z=>by subst z;rw[q] at mu;exact nm mu
 refine⟨fun b u q n _ _=>k b u (hb b n) q,fun b u q n _ _=>⟨u.slots,k b u (hb b n) q⟩,fun b u q n _=>by rw[aH (hx b n)];exact n,fun b u q _ => ?_,
  fun b xs q=>by rw[aH (hm b _ q fun z=>z)];exact q,fun b u xs q=>by rw[aH (hm b _ q fun z=>z)];exact q,fun b ps q=>⟨#[],by rw[aH (hm b _ q fun z=>z),q];simp⟩⟩
 by_cases pP:b=e
 ·subst pP;exact lZ
 ·exact⟨u,k b u pP q⟩
end
noncomputable def wO (h:Heap) (H:Hp):List Addr:=(List.range h.objs.size).filter fun a=>(H a).isSome
noncomputable def gv (h:Heap) (H:Hp):Heap:=PySem.W.hideAll h (wO h H)
theorem Lj (h:Heap) (H:Hp):(gv h H).objs.size=h.objs.size:=PySem.W.hideAll_size _ _
theorem Lk {h:Heap} {H:Hp} {b:Addr} {o:Obj} (e:h.get? b=some o) (n:H b=none):(gv h H).get? b=some o :=
 PySem.W.hideAll_get _ e fun hm=>by
  have q:(H b).isSome=true:=(YH.mp hm).2
  rw[n] at q;simp at q
theorem Ll {h:Heap} {H:Hp} {b:Addr} {o:Obj} (e:(gv h H).get? b=some o):h.get? b=some o/\H b=none:=by
 have e':h.get? b=some o:=PySem.W.of_hideAll (wO h H) e
 refine⟨e',?_⟩
 cases q:H b with
 | none=>rfl
 | some x =>
  have hm:b∈wO h H:=YH.mpr ⟨Yr.mpr (Ng e'),by simp[q]⟩
  have z:(gv h H).get? b=none:=PySem.W.hideAll_none (wO h H) hm
  rw[z] at e;cases e
structure Mod (K:PySem.W.Frag) (mg:Str->Option Value) (base:Heap):Prop where
 oq:K.In base
 glob:base.Ns mainGlobals mg
 blt:∃ mb,base.Ns builtinsNs mb/\∀ x:Str,x ≠ "__name__" -> mb x=bootBuiltins x
 nolimit:base.NoLimit
structure Cx where
 prog:Program
 w:World
 K:PySem.W.Frag
 mg:Str->Option Value
 base:Heap
 A:Around
 N:List Str
 s₀ : Shared
 H₀ : Hp
 env:Env
 outer:List Env
 stack:List Env
 ex:List Addr
 fn:Str->Bool
 calm:Bool
 pn:List (Addr × Obj)
 xe:Value->Shared->Prop
noncomputable def j7 (l:List Env):List Addr:=l.filterMap (·.frame)
noncomputable abbrev Cx.fs (X:Cx):List Addr:=j7 X.outer
noncomputable def pQ (sc:Scope) (x:Str):Prop:=sc.names.lookup x=some .local\/sc.names.lookup x=some .cell\/sc.names.lookup x=some .free
noncomputable def Loc (sc:Scope) (x:Str):Prop:=sc.names.lookup x=some .local\/sc.names.lookup x=some .cell
noncomputable def Look (env:Env) (h:Heap) (m:Str->Option Value) (x:Str) (u:Value):Prop :=
 (env.kindOf x=some .local/\m x=some u)\/((env.kindOf x=some .cell\/env.kindOf x=some .free)/\∃ c,env.cells.lookup x=some c/\h.IsCell c (some u))
structure Cx.Ok (X:Cx):Prop where
 mod:Mod X.K X.mg X.base
 kind:X.env.scope.kind = .function
 glob:X.env.globals=mainGlobals
 blt:X.env.builtins=builtinsNs
 above:X.s₀.heap.objs.size <= X.env.locals
 inj:∀ x y c,X.env.cells.lookup x=some c->X.env.cells.lookup y=some c->x=y
 has:∀ x,(X.env.kindOf x=some .cell\/X.env.kindOf x=some .free)->∃ c,X.env.cells.lookup x=some c
 tP:∀ x c,X.fn x=true->X.env.cells.lookup x=some c->X.s₀.heap.objs.size <= c
 hd:X.calm=true->X.A.handled=none
 frames:X.A.frames=some X.stack
 wQ:X.stack=X.outer\/(X.stack=X.env :: X.outer/\X.env.frame=some X.env.locals)
 EL:∀ b∈X.ex,b≠X.env.locals/\∀ x c,X.env.cells.lookup x=some c->c≠b
 bs:∀ b o,X.base.get? b=some o->X.s₀.heap.get? b=some o/\X.H₀ b=none
 ot:X.base.objs.size <= X.s₀.heap.objs.size
 kP:∀ b o,X.base.get? b=some o->b∉X.ex
 mQ:∀ b∈X.ex,b∉X.fs
 fA:X.s₀.heap.FunFrames X.base X.outer
 pR:∀ b∈X.fs,X.H₀ b=none
structure Inv (X:Cx) (pins:List (Addr × Obj)) (σ : List (Option V)) (H:Hp) (s:Shared):Prop where
 ok:X.Ok
 os:s.os=X.s₀.os
 bare:AllBare s.gens
 base:Un X.fs X.ex X.H₀ H X.s₀.heap s.heap
 loc:∃ m,s.heap.Ns X.env.locals m/\∀ (i:Nat) (x:Str) (v:V),X.N[i]? = some x -> σ[i]? = some (some v)->pQ X.env.scope x->∃ u,RelV v u/\Look X.env s.heap m x u
 cell:∀ x c,X.env.cells.lookup x=some c->∃ v,s.heap.IsCell c v
 free:H X.env.locals=none
 cR:∀ x c,X.env.cells.lookup x=some c->H c=none
 pin:∀ p∈X.pn ++ pins,s.heap.get? p.1=some p.2/\H p.1=none/\p.1≠X.env.locals/\p.1∉X.fs/\∀ v,p.2.data ≠ .cell v
 aK:dI X.prog X.w H s.heap
 len : σ.length=X.N.length
section
variable {X:Cx} {pins:List (Addr × Obj)} {σ : List (Option V)} {H H':Hp} {s:Shared} {h':Heap}
theorem Cx.Ok.zM (ok:X.Ok) {b:Addr} {o:Obj} (e:X.base.get? b=some o):b∉X.fs:=fun hb=>by
 have:=(ok.fA.mem hb).1
 rw[e] at this;cases this
theorem Inv.bs (I:Inv X pins σ H s):∀ b o,X.base.get? b=some o->s.heap.get? b=some o/\H b=none:=fun b o e =>
 ⟨I.base.keep b o (I.ok.bs b o e).1 (I.ok.bs b o e).2 (I.ok.zM e) (I.ok.kP b o e),I.base.free b o (I.ok.bs b o e).1 (I.ok.bs b o e).2 (I.ok.kP b o e)⟩
theorem Inv.bk (I:Inv X pins σ H s):∀ b o,X.base.get? b=some o->s.heap.get? b=some o:=fun b o e=>(I.bs b o e).1
theorem Inv.mod (I:Inv X pins σ H s):Mod X.K X.mg X.base:=I.ok.mod
theorem Inv.iq (I:Inv X pins σ H s):X.K.In s.heap:=I.ok.mod.oq.keeps I.bk
theorem Inv.nolimit (I:Inv X pins σ H s):s.heap.NoLimit:=I.ok.mod.nolimit.keeps I.bk
theorem Inv.lt (I:Inv X pins σ H s):X.env.locals < s.heap.objs.size:=let ⟨_,hn,_⟩:=I.loc;hn.lt
theorem Inv.sz (I:Inv X pins σ H s):X.s₀.heap.objs.size <= s.heap.objs.size:=Zb I.ok.above (Zp I.lt)
theorem Inv.zN (I:Inv X pins σ H s) {a:Addr} (h:s.heap.objs.size <= a):a∉X.fs:=fun hb=>by
 obtain⟨_,o,ho,_⟩:=I.ok.fA.mem hb
 exact absurd (Yn (Ng ho) (Zb I.sz h)) (ZE _)
theorem Inv.pT (I:Inv X pins σ H s):∀ x c,X.env.cells.lookup x=some c->c≠X.env.locals:=fun x c e z=>by
 obtain⟨v,o,ho,hd⟩:=I.cell x c e
 obtain⟨m,⟨o',es,ep,jA,tQ,_⟩,_⟩:=I.loc
 rw[z,jA] at ho;cases ho;rw[tQ] at hd;cases hd
theorem Inv.fA (I:Inv X pins σ H s):s.heap.FunFrames X.base X.outer:=by
 have all:∀ (l:List Env),(∀ b∈j7 l,b∈X.fs)->X.s₀.heap.FunFrames X.base l->s.heap.FunFrames X.base l:=by
  intro l
  induction l with
  | nil=>intro _ _;trivial
  | cons env r ih =>
   intro hs hl
   obtain⟨hk,⟨L,o,hf,hn,ho,hd⟩,hr⟩:=hl
   have hL:L∈X.fs:=hs L (by unfold j7;rw[q0A,hf];exact FN)
   obtain⟨sl,e⟩:=I.base.slot L o ho (I.ok.pR L hL) hL fun z=>I.ok.mQ L z hL
   exact⟨hk,⟨L,_,hf,hn,e,hd⟩,ih (fun b hb=>hs b (by unfold j7;rw[q0A,hf];exact My _ hb)) hr⟩
 exact all X.outer (fun _ hb=>hb) I.ok.fA
theorem Inv.stack (I:Inv X pins σ H s):s.heap.FunFrames X.base X.stack:=by
 rcases I.ok.wQ with e | ⟨e,hf⟩
 ·rw[e];exact I.fA
 ·rw[e]
  obtain⟨m,hn,_⟩:=I.loc
  refine .cons (by rw[I.ok.kind];decide) hf hn ?_ I.fA
  exact Heap.get?_none_of_le (Zb I.ok.ot I.ok.above)
theorem Inv.gY (I:Inv X pins σ H s):∀ b∈j7 X.stack,b∈X.env.locals :: X.fs:=fun b hb=>by
 rcases I.ok.wQ with e | ⟨e,hf⟩
 ·rw[e] at hb;exact My _ hb
 ·rw[e] at hb
  unfold j7 at hb
  rw[q0A,hf] at hb
  exact hb
theorem Inv.jg (I:Inv X pins σ H s):∀ b∈j7 X.stack,H b=none:=fun b hb=>by
 rcases Nh.mp (I.gY b hb) with e | hb
 ·rw[e];exact I.free
 ·obtain⟨_,o,ho,_⟩:=I.ok.fA.mem hb
  exact I.base.free b o ho (I.ok.pR b hb) fun z=>I.ok.mQ b z hb
theorem Inv.step {g':Array GenState} {t':Nat} {d':Drawn} {ch:List Addr} (I:Inv X pins σ H s)
  (l6:∀ b∈ch,(b∈X.ex\/X.s₀.heap.objs.size <= b)/\b≠X.env.locals/\(∀ x c,X.env.cells.lookup x=some c->c≠b)/\∀ p∈X.pn ++ pins,p.1≠b)
  (keep:∀ b o,b≠X.env.locals->b∉X.fs->b∉ch->s.heap.get? b=some o->H b=none->h'.get? b=some o)
  (slot:∀ b o,b≠X.env.locals->b∈X.fs->b∉ch->s.heap.get? b=some o->H b=none->∃ sl,h'.get? b=some { o with slots:=sl }) (free:∀ b o,b∉ch->s.heap.get? b=some o->H b=none->H' b=none)
  (there:∀ b o,b∉ch->s.heap.get? b=some o->∃ o',h'.get? b=some o')
  (fQ:∀ b xs,H b=some (.tup xs)->H' b=some (.tup xs)) (gs:∀ b o u,H b=some (.frz o u)->H' b=some (.frz o u)) (gu:∀ b ps,H b=some (.tbl ps)->∃ more,H' b=some (.tbl (ps ++ more)))
  (ns:∀ m,s.heap.Ns X.env.locals m->h'.Ns X.env.locals m) (aK:dI X.prog X.w H' h') (hg:AllBare g') :
  Inv X pins σ H' { s with heap:=h',gens:=g',drawn:=d',toks:=t' }:=by
 have EM:∀ b o,X.s₀.heap.get? b=some o->b≠X.env.locals:=fun b o e=>XN (Yn (Ng e) I.ok.above)
 have wR:∀ b o,X.s₀.heap.get? b=some o->b∉X.ex->b∉ch:=fun b o e hx hb=>by
  rcases (l6 b hb).1 with z | z
  ·exact hx z
  ·exact absurd (Yn (Ng e) z) (ZE _)
 have cellK:∀ x c,X.env.cells.lookup x=some c->∀ v,s.heap.IsCell c v->h'.IsCell c v:=fun x c e v ⟨o,ho,hd⟩=>by
  have kQ:c∉ch:=fun z=>(l6 c z).2.2.1 x c e rfl
  by_cases hc:c∈X.fs
  ·obtain⟨sl,q⟩:=slot c o (I.pT x c e) hc kQ ho (I.cR x c e)
   exact⟨_,q,hd⟩
  ·exact⟨o,keep c o (I.pT x c e) hc kQ ho (I.cR x c e),hd⟩
 refine⟨I.ok,I.os,hg,⟨fun b o e n hb hx => ?_,fun b o e n hb hx => ?_,fun b o e n hx => ?_,fun b o e hx => ?_,fun b xs e=>fQ b xs (I.base.fQ b xs e),fun b o xs e=>gs b o xs (I.base.gs b o xs e),fun b ps e => ?_⟩,?_,fun x c e => ?_,?_,fun x c e => ?_,fun p hp => ?_,aK,I.len⟩
 ·exact keep b o (EM b o e) hb (wR b o e hx) (I.base.keep b o e n hb hx) (I.base.free b o e n hx)
 ·obtain⟨sl,e1⟩:=I.base.slot b o e n hb hx
  obtain⟨EN,e2⟩:=slot b _ (EM b o e) hb (wR b o e hx) e1 (I.base.free b o e n hx)
  exact⟨EN,e2⟩
 ·obtain⟨o',e1⟩:=I.base.there b o e hx
  exact free b o' (wR b o e hx) e1 (I.base.free b o e n hx)
 ·obtain⟨o',e1⟩:=I.base.there b o e hx
  exact there b o' (wR b o e hx) e1
 ·obtain⟨m1,e1⟩:=I.base.gu b ps e
  obtain⟨m2,e2⟩:=gu b _ e1
  exact⟨m1 ++ m2,by rw[e2,Array.append_assoc]⟩
 ·obtain⟨m,hn,hl⟩:=I.loc
  refine⟨m,ns m hn,fun i x v e1 e2 e3 => ?_⟩
  obtain⟨u,r,l⟩:=hl i x v e1 e2 e3
  refine⟨u,r,?_⟩
  rcases l with l | ⟨k,c,e,z⟩
  ·exact .inl l
  ·exact .inr ⟨k,c,e,cellK x c e _ z⟩
 ·obtain⟨v,z⟩:=I.cell x c e
  exact⟨v,cellK x c e v z⟩
 ·obtain⟨m,⟨o,_,_,ho,_⟩,_⟩:=I.loc
  exact free _ o (fun z=>(l6 _ z).2.1 rfl) ho I.free
 ·obtain⟨v,o,ho,hd⟩:=I.cell x c e
  exact free c o (fun z=>(l6 c z).2.2.1 x c e rfl) ho (I.cR x c e)
 ·obtain⟨e,n,ne,nf,d⟩:=I.pin p hp
  have kQ:p.1∉ch:=fun z=>(l6 p.1 z).2.2.2 p hp rfl
  exact⟨keep p.1 p.2 ne nf kQ e n,free p.1 p.2 kQ e n,ne,nf,d⟩
theorem Inv.un {t':Nat} (I:Inv X pins σ H s) (u:Un X.fs [] H H' s.heap h') (aK:dI X.prog X.w H' h'):Inv X pins σ H' { s with heap:=h',toks:=t' }:=by
 obtain⟨m,⟨o,es,ep,ho,r⟩,_⟩:=id I.loc
 obtain⟨sl,hL⟩:=u.any ho I.free (by simp)
 exact I.step (g':=s.gens) (d':=s.drawn) (ch:=[]) (fun _ z=>nomatch z) (fun b o _ hb _ e n=>u.keep b o e n hb (by simp)) (fun b o _ hb _ e n=>u.slot b o e n hb (by simp)) (fun b o _ e n=>u.free b o e n (by simp)) (fun b o _ e=>u.there b o e (by simp)) u.fQ u.gs u.gu (fun m' hm=>by
  obtain⟨o',tR,zO,jA,r'⟩:=hm
  rw[ho] at jA;cases jA
  exact⟨_,tR,zO,hL,r'⟩) aK I.bare
theorem Inv.call {g':Array GenState} {t':Nat} {d':Drawn} {ch:List Addr} (I:Inv X pins σ H s) (u:Un (j7 X.stack) ch H H' s.heap h') (aK:dI X.prog X.w H' h') (hg:AllBare g')
  (l6:∀ b∈ch,(b∈X.ex\/X.s₀.heap.objs.size <= b)/\b≠X.env.locals/\(∀ x c,X.env.cells.lookup x=some c->c≠b)/\∀ p∈X.pn ++ pins,p.1≠b) :
  Inv X pins σ H' { s with heap:=h',gens:=g',drawn:=d',toks:=t' }:=by
 obtain⟨m,⟨o,es,ep,ho,r⟩,_⟩:=id I.loc
 obtain⟨sl,hL⟩:=u.any ho I.free fun z=>(l6 _ z).2.1 rfl
 exact I.step (ch:=ch) l6 (fun b o hL hb hc e n=>u.keep b o e n (fun z=>(Nh.mp (I.gY b z)).elim hL hb) hc) (fun b o _ _ hc e n=>u.any e n hc) (fun b o hc e n=>u.free b o e n hc) (fun b o hc e=>u.there b o e hc) u.fQ u.gs u.gu (fun m' hm=>by
  obtain⟨o',tR,zO,jA,r'⟩:=hm
  rw[ho] at jA;cases jA
  exact⟨_,tR,zO,hL,r'⟩) aK hg
theorem Inv.turned {t':Nat} {it:Addr} (I:Inv X pins σ H s) (k:∀ b o,b≠it->s.heap.get? b=some o->h'.get? b=some o) (hn:H it=none) (hL:it≠X.env.locals)
  (h1:it∈X.ex\/X.s₀.heap.objs.size <= it) (h2:∀ x c,X.env.cells.lookup x=some c->c≠it) (h3:∀ p∈X.pn ++ pins,p.1≠it):Inv X pins σ H { s with heap:=h',toks:=t' }:=by
 have EO:∀ b u,H b=some u->b≠it:=fun b u e z=>by rw[z,hn] at e;cases e
 refine I.step (g':=s.gens) (d':=s.drawn) (ch:=[it]) (fun b hb => ?_) (fun b o _ _ hc e _=>k b o (fun z=>hc (by simp[z])) e) (fun b o _ _ hc e _=>⟨o.slots,k b o (fun z=>hc (by simp[z])) e⟩) (fun _ _ _ _ n=>n)
  (fun b o hc e=>⟨o,k b o (fun z=>hc (by simp[z])) e⟩) (fun _ _ e=>e) (fun _ _ _ e=>e) (fun b ps e=>⟨#[],by rw[e];simp⟩) (fun m hm => ?_) (fun b u e => ?_) I.bare
 ·have e:b=it:=by simpa using hb
  subst e
  exact⟨h1,hL,h2,h3⟩
 ·obtain⟨o,es,ep,ho,r⟩:=hm
  exact⟨o,es,ep,k _ o (ZV hL) ho,r⟩
 ·refine (I.aK b u e).gX (fun c v hc q=>k c v ?_ q) (fun _ q=>q) fun _ _ q=>q
  rcases hc with z | z
  ·rw[z];exact EO b u e
  ·exact EO c _ z
theorem Inv.tok (I:Inv X pins σ H s) (t:Nat):Inv X pins σ H { s with toks:=t }:=I.un (h':=s.heap) (t':=t) Un.refl I.aK
theorem Inv.kept {t':Nat} (I:Inv X pins σ H s) (k:∀ b u,s.heap.get? b=some u->h'.get? b=some u):Inv X pins σ H { s with heap:=h',toks:=t' }:=I.un (Un.kept k) (I.aK.kept k)
theorem Inv.laid {a:Addr} {o:HO} {t':Nat} (I:Inv X pins σ H s) (k:∀ b u,s.heap.get? b=some u->h'.get? b=some u) (hp:s.heap.objs.size <= a) (new:aF X.prog X.w (upd H a o) h' a o) :
  Inv X pins σ (upd H a o) { s with heap:=h',toks:=t' }:=I.un (Un.laid k hp (I.aK.fresh hp)) (I.aK.laid k hp new)
theorem Inv.write {x e:Addr} {o:HO} {t':Nat} (I:Inv X pins σ H s) (mu:tN (H x)) (he:e=x\/H e=some (.own x)) (k:∀ b u,b≠e->s.heap.get? b=some u->h'.get? b=some u) (lZ:∃ u,h'.get? e=some u)
  (new:aF X.prog X.w (upd H x o) h' x o):Inv X pins σ (upd H x o) { s with heap:=h',toks:=t' }:=I.un (Un.write mu he k lZ) (I.aK.write mu he k lZ new)
theorem Inv.fH {dM:List (Addr × Obj)} (I:Inv X pins σ H s) (h:∀ p∈dM,s.heap.get? p.1=some p.2/\H p.1=none/\p.1≠X.env.locals/\p.1∉X.fs/\∀ v,p.2.data ≠ .cell v):Inv X dM σ H s :=
 ⟨I.ok,I.os,I.bare,I.base,I.loc,I.cell,I.free,I.cR,fun p hp=>(YL.mp hp).elim (fun z=>I.pin p (ZC _ z)) (h p),I.aK,I.len⟩
theorem ER {N:List Str} (hN:N.Nodup) {i j:Nat} {x:Str} (a:N[i]? = some x) (b:N[j]? = some x):i=j:=by
 obtain⟨h1,e1⟩:=su.mp a
 obtain⟨h2,e2⟩:=su.mp b
 exact (q0h hN).mp (e1.trans e2.symm)
theorem ES {M:Model} {A:Around} {E:Value->Shared->Prop} {i:Nat} {x:Str} {v:V} {u:Value} {Q:Unit->Shared->Prop} (I:Inv X pins σ H s) (hN:X.N.Nodup) (hi:X.N[i]? = some x) (hx:Loc X.env.scope x) (r:RelV v u)
  (h:∀ s',Inv X pins (σ.set i (some v)) H s'->(∃ a,Heap.SameBut a s.heap s'.heap/\(a=X.env.locals\/X.env.cells.lookup x=some a))->Q () s') (hf:X.fn x=true\/X.env.scope.names.lookup x=some .local:=by first | exact .inl rfl | exact .inr rfl | assumption):wpAny M A (storeName X.env x u) Q E s:=by
 obtain⟨m,hn,hl⟩:=id I.loc
 have zP:(X.env.scope.kind == .class || (X.env.scope.kind == .module && X.env.locals != X.env.globals))=false:=by rw[I.ok.kind];rfl
 have EU:i < σ.length:=by rw[I.len];exact (su.mp hi).1
 have pT:=I.pT
 have tracked:∀ {a:Addr} {h':Heap},(∃ o,s.heap.get? a=some o/\H a=none)->Heap.SameBut a s.heap h'->dI X.prog X.w H h':=fun {a h'} ha hs b ob e=>by
  obtain⟨_,_,ou⟩:=ha
  refine (I.aK b ob e).gX (fun c w' hc q=>(hs.2 c ?_).trans q) (fun _ q=>q) fun _ _ q=>q
  rintro rfl
  rcases hc with rfl | hc
  ·rw[ou] at e;cases e
  ·rw[ou] at hc;cases hc
 rcases hx with hk | hk
 ·refine wpAny_storeName_local hk hn (fun h' rT hs => ?_) zP
  obtain⟨oL,_,_,oy,_⟩:=id hn
  refine h _ ⟨I.ok,I.os,I.bare,⟨fun b o e n hb hx => ?_,fun b o e n hb hx => ?_,I.base.free,fun b o e hx => ?_,I.base.fQ,I.base.gs,I.base.gu⟩,⟨_,rT,fun j y v' e1 e2 e3 => ?_⟩,fun y c e => ?_,I.free,I.cR,fun p hp => ?_,tracked ⟨oL,oy,I.free⟩ hs,by simpa using I.len⟩ ⟨_,hs,.inl rfl⟩
  ·exact (hs.2 b (XN (Yn (Ng e) I.ok.above))).trans (I.base.keep b o e n hb hx)
  ·obtain⟨sl,e1⟩:=I.base.slot b o e n hb hx
   exact⟨sl,(hs.2 b (XN (Yn (Ng e) I.ok.above))).trans e1⟩
  ·obtain⟨o',e1⟩:=I.base.there b o e hx
   exact⟨o',(hs.2 b (XN (Yn (Ng e) I.ok.above))).trans e1⟩
  ·by_cases hj:j=i
   ·subst hj
    rw[hi] at e1;cases e1
    rw[YN EU] at e2
    cases e2
    exact⟨u,r,.inl ⟨hk,by simp⟩⟩
   ·rw[YU (ZV hj)] at e2
    obtain⟨u',r',q⟩:=hl j y v' e1 e2 e3
    refine⟨u',r',?_⟩
    rcases q with⟨k,e⟩ | ⟨k,c,e,z⟩
    ·refine .inl ⟨k,?_⟩
     have:y≠x:=fun e=>hj (ER hN e1 (e ▸ hi))
     simp[this,e]
    ·exact .inr ⟨k,c,e,z.sameBut hs (pT y c e)⟩
  ·obtain⟨w',z⟩:=I.cell y c e
   exact⟨w',z.sameBut hs (pT y c e)⟩
  ·obtain⟨e,n,ne,nf,d⟩:=I.pin p hp
   exact⟨(hs.2 p.1 ne).trans e,n,ne,nf,d⟩
 ·have mR:X.fn x=true:=by
   rcases hf with z | z
   ·exact z
   ·rw[z] at hk;cases hk
  obtain⟨c,hc⟩:=I.ok.has x (.inl hk)
  obtain⟨w',z⟩:=I.cell x c hc
  refine wpAny_storeName_cell I.ok.kind hk hc z (fun h' jB hs => ?_)
  obtain⟨oc,rZ,zQ⟩:=id z
  refine h { s with heap:=h' } ⟨I.ok,I.os,I.bare,⟨fun b o e n hb hx => ?_,fun b o e n hb hx => ?_,I.base.free,fun b o e hx => ?_,I.base.fQ,I.base.gs,I.base.gu⟩,⟨m,hn.sameBut hs (ZV (pT x c hc)),fun j y v' e1 e2 e3 => ?_⟩,fun y c' e => ?_,I.free,I.cR,fun p hp => ?_,tracked ⟨oc,rZ,I.cR x c hc⟩ hs,by simpa using I.len⟩ ⟨c,hs,.inr hc⟩
  ·exact (hs.2 b (XN (Yn (Ng e) (I.ok.tP x c mR hc)))).trans (I.base.keep b o e n hb hx)
  ·obtain⟨sl,e1⟩:=I.base.slot b o e n hb hx
   exact⟨sl,(hs.2 b (XN (Yn (Ng e) (I.ok.tP x c mR hc)))).trans e1⟩
  ·obtain⟨o',e1⟩:=I.base.there b o e hx
   exact⟨o',(hs.2 b (XN (Yn (Ng e) (I.ok.tP x c mR hc)))).trans e1⟩
  ·by_cases hj:j=i
   ·subst hj
    rw[hi] at e1;cases e1
    rw[YN EU] at e2
    cases e2
    exact⟨u,r,.inr ⟨.inl hk,c,hc,jB⟩⟩
   ·rw[YU (ZV hj)] at e2
    obtain⟨u',r',q⟩:=hl j y v' e1 e2 e3
    refine⟨u',r',?_⟩
    rcases q with q | ⟨k,c',e,z'⟩
    ·exact .inl q
    ·refine .inr ⟨k,c',e,z'.sameBut hs ?_⟩
     rintro rfl
     exact hj (ER hN e1 (I.ok.inj _ _ _ e hc ▸ hi))
  ·by_cases hcc:c'=c
   ·subst hcc;exact⟨_,jB⟩
   ·obtain⟨w2,z2⟩:=I.cell y c' e
    exact⟨w2,z2.sameBut hs hcc⟩
  ·obtain⟨e,n,ne,nf,d⟩:=I.pin p hp
   refine⟨(hs.2 p.1 ?_).trans e,n,ne,nf,d⟩
   intro q
   rw[q,rZ] at e
   have q':oc=p.2:=YA e
   exact d w' (by rw[<-q'];exact zQ)
theorem EV {M:Model} {A:Around} {E:Value->Shared->Prop} {i:Nat} {x:Str} {v:V} {u:Value} {Q:Unit->Shared->Prop} (I:Inv X pins σ H s) (hN:X.N.Nodup) (hi:X.N[i]? = some x) (hx:Loc X.env.scope x) (r:RelV v u)
  (h:∀ s',Inv X pins (σ.set i (some v)) H s'->Q () s') (hf:X.fn x=true\/X.env.scope.names.lookup x=some .local:=by first | exact .inl rfl | exact .inr rfl | assumption):wpAny M A (storeName X.env x u) Q E s :=
 ES I hN hi hx r (fun s' I' _=>h s' I') hf
theorem Inv.tT {s':Shared} {ch:List Addr} (I:Inv X pins σ H s) (ho:s'.os=s.os) (u:Un (j7 X.stack) ch H H' s.heap s'.heap) (aK:dI X.prog X.w H' s'.heap) (hg:AllBare s'.gens)
  (l6:∀ b∈ch,(b∈X.ex\/X.s₀.heap.objs.size <= b)/\b≠X.env.locals/\(∀ x c,X.env.cells.lookup x=some c->c≠b)/\∀ p∈X.pn ++ pins,p.1≠b):Inv X pins σ H' s':=by
 obtain⟨h',g',d',t',o'⟩:=s'
 have e:o'=s.os:=ho
 subst e
 exact I.call (g':=g') (t':=t') (d':=d') u aK hg l6
end
noncomputable abbrev XK:=Value->Option Addr->Hp->Prop
noncomputable abbrev St:=List (Option V)
noncomputable abbrev VK:=V->Hp->Prop
noncomputable abbrev TE:=St->Hp->VK->Prop
noncomputable abbrev TT:=St->Hp->(Bool->Hp->Prop)->Prop
noncomputable abbrev TA:=St->Hp->(List V->Hp->Prop)->Prop
structure Ends where
 nx:St->Hp->Prop
 rt:VK
 bk:St->Hp->Prop:=fun _ _=>False
 ct:St->Hp->Prop:=fun _ _=>False
noncomputable abbrev TS:=Ends->St->Hp->Prop
noncomputable def EP (X:Cx) (pins:List (Addr × Obj)) (σ : St) (Q:VK) (u:Value) (s':Shared):Prop:=∃ v H',Inv X pins σ H' s'/\RelV v u/\Q v H'
noncomputable def TP (X:Cx) (pins:List (Addr × Obj)) (σ : St) (Q:Bool->Hp->Prop) (b:Bool) (s':Shared):Prop:=∃ H',Inv X pins σ H' s'/\Q b H'
noncomputable def AP (X:Cx) (pins:List (Addr × Obj)) (σ : St) (Q:List V->Hp->Prop) (us:List Value) (s':Shared):Prop:=∃ vs H',Inv X pins σ H' s'/\Vals vs us/\Q vs H'
noncomputable def SP (X:Cx) (pins:List (Addr × Obj)) (D:Ends) (f:Flow) (s':Shared):Prop :=
 match f with
 | .next=>∃ σ' H',Inv X pins σ' H' s'/\D.nx σ' H'
 | .brk=>∃ σ' H',Inv X pins σ' H' s'/\D.bk σ' H'
 | .cont=>∃ σ' H',Inv X pins σ' H' s'/\D.ct σ' H'
 | .ret u=>∃ v σ' H',Inv X pins σ' H' s'/\RelV v u/\D.rt v H'
noncomputable def PE (X:Cx) (e:Expr) (t:TE):Prop :=
 ∀ (pins:List (Addr × Obj)) (s:Shared) (σ : St) (H:Hp) (Q:VK),Inv X pins σ H s->t σ H Q->wpAny (model X.prog X.w) X.A (eval e X.env) (EP X pins σ Q) X.xe s
noncomputable def PT (X:Cx) (e:Expr) (t:TT):Prop :=
 ∀ (pins:List (Addr × Obj)) (s:Shared) (σ : St) (H:Hp) (Q:Bool->Hp->Prop),Inv X pins σ H s->t σ H Q->wpAny (model X.prog X.w) X.A (isTrue e X.env (eval e X.env)) (TP X pins σ Q) X.xe s
noncomputable def PW (X:Cx) (e:Expr) (t:TT):Prop :=
 ∀ (whole:Sem Value) (pins:List (Addr × Obj)) (s:Shared) (σ : St) (H:Hp) (Q:Bool->Hp->Prop),Inv X pins σ H s->t σ H Q->wpAny (model X.prog X.w) X.A (isTrue e X.env whole) (TP X pins σ Q) X.xe s
theorem PW.pt {X:Cx} {e:Expr} {t:TT} (h:PW X e t):PT X e t:=h _
noncomputable def PA (X:Cx) (es:List Expr) (t:TA):Prop :=
 ∀ (pos:Pos) (pins:List (Addr × Obj)) (s:Shared) (σ : St) (H:Hp) (Q:List V->Hp->Prop),Inv X pins σ H s->t σ H Q->wpAny (model X.prog X.w) X.A (spliced (backTo pos (starEach es X.env))) (AP X pins σ Q) X.xe s
noncomputable def PS (X:Cx) (st:Stmt) (t:TS):Prop :=
 ∀ (pins:List (Addr × Obj)) (s:Shared) (σ : St) (H:Hp) (D:Ends),Inv X pins σ H s->t D σ H->wpAny (model X.prog X.w) X.A (exec st X.env) (SP X pins D) X.xe s
noncomputable def h9 (X:Cx) (st:List Stmt) (t:TS):Prop :=
 ∀ (pins:List (Addr × Obj)) (s:Shared) (σ : St) (H:Hp) (D:Ends),Inv X pins σ H s->t D σ H->wpAny (model X.prog X.w) X.A (execs st X.env) (SP X pins D) X.xe s
theorem aZ {α : Type} {t:Sem α} {Q Q' : α -> Shared->Prop} {M:Model} {A:Around} {E:Value->Shared->Prop} {s:Shared} (h:wpAny M A t Q E s) (hQ:∀ a s,Q a s->Q' a s):wpAny M A t Q' E s:=Z3 h hQ fun _ _ x=>x
section
variable {X:Cx}
noncomputable def c5 (i:Nat):TE:=fun σ H Q=>∃ v,σ[i]? = some (some v)/\Q v H
noncomputable def tC (v:V):TE:=fun _ H Q=>Q v H
theorem EW {i:Nat} {x:Str} {pos:Pos} (hN:X.N[i]? = some x) (hv:pQ X.env.scope x) (hd:(x == ("__debug__" : Str))=false:=by decide) (fR:(x == ("__classdict__" : Str))=false:=by decide):PE X (.Name x pos) (c5 i):=by
 intro pins s σ H Q I h
 obtain⟨v,e,h⟩:=h
 obtain⟨m,hn,hl⟩:=I.loc
 obtain⟨u,r,l⟩:=hl i x v hN e hv
 have fin:EP X pins σ Q u s:=⟨v,H,I,r,h⟩
 rcases l with⟨hk,hm⟩ | ⟨hk,c,hc,oz⟩
 ·exact wpAny_Name (wpAny_loadName_local I.ok.kind hk hn hm fin) hd
 ·rcases hk with hk | hk
  ·exact wpAny_Name (wpAny_loadName_cell I.ok.kind hk hc oz fin) hd
  ·exact wpAny_Name (wpAny_loadName_free I.ok.kind hk hc oz fin fR) hd
theorem Lm {i j pos}:PE X (.Constant (.int i) j pos) (tC (.int i)):=fun _ _ _ H _ I h=>wpAny_Constant_int ⟨.int i,H,I.tok _,⟨_,rfl⟩,h⟩
theorem Ln {b j pos}:PE X (.Constant (.bool b) j pos) (tC (.bl b)):=fun _ _ _ H _ I h=>Constant_bool ⟨.bl b,H,I,rfl,h⟩
theorem Lo {j pos}:PE X (.Constant .none j pos) (tC .non):=fun _ _ _ H _ I h=>Constant_none ⟨.non,H,I,rfl,h⟩
noncomputable def Gl (X:Cx) (x:Str):Prop:=X.env.kindOf x=some .globalImplicit
theorem EX {E:Value->Shared->Prop} {pins:List (Addr × Obj)} {s:Shared} {σ : St} {H:Hp} {x:Str} {u:Value} {pos:Pos} {Q:Value->Shared->Prop} (I:Inv X pins σ H s) (hg:Gl X x) (hm:X.mg x=some u) (h:Q u s)
  (hd:(x == ("__debug__" : Str))=false:=by decide):wpAny (model X.prog X.w) X.A (eval (.Name x pos) X.env) Q E s :=
 Calls.Name_function_global I.ok.kind hg (Calls.loadGlobal_global (by rw[I.ok.glob];exact I.mod.glob.keeps I.bk) hm h) hd
theorem mS {E:Value->Shared->Prop} {pins:List (Addr × Obj)} {s:Shared} {σ : St} {H:Hp} {x:Str} {u:Value} {pos:Pos} {Q:Value->Shared->Prop} (I:Inv X pins σ H s) (hg:Gl X x) (hm:X.mg x=none) (hv:bootBuiltins x=some u) (h:Q u s)
  (hn:x ≠ "__name__" := by decide) (hd:(x == ("__debug__" : Str))=false:=by decide):wpAny (model X.prog X.w) X.A (eval (.Name x pos) X.env) Q E s:=by
 obtain⟨mb,h1,h2⟩:=I.mod.blt
 exact Calls.Name_function_global I.ok.kind hg (Calls.loadGlobal_builtin (by rw[I.ok.glob];exact I.mod.glob.keeps I.bk) hm (by rw[I.ok.blt];exact h1.keeps I.bk) ((h2 x hn).trans hv) h) hd
theorem Lp {x:Str} {v:V} {u:Value} {pos:Pos} (hg:Gl X x) (hm:X.mg x=some u) (r:RelV v u) (hd:(x == ("__debug__" : Str))=false:=by decide):PE X (.Name x pos) (tC v) :=
 fun _ _ _ H _ I h=>EX I hg hm ⟨v,H,I,r,h⟩ hd
theorem Lq {x:Str} {v:V} {u:Value} {pos:Pos} (hg:Gl X x) (hm:X.mg x=none) (hv:bootBuiltins x=some u) (r:RelV v u) (hn:x ≠ "__name__" := by decide) (hd:(x == ("__debug__" : Str))=false:=by decide):PE X (.Name x pos) (tC v) :=
 fun _ _ _ H _ I h=>mS I hg hm hv ⟨v,H,I,r,h⟩ hn hd
variable {a b:Expr} {ta tb:TE} {pos:Pos}
noncomputable def PC (X:Cx) (op:CmpOp) (a b:Expr) (t:TE):Prop :=
 ∀ (pins:List (Addr × Obj)) (s:Shared) (σ : St) (H:Hp) (Q:VK),Inv X pins σ H s->t σ H Q →
  wpAny (model X.prog X.w) X.A (eval a X.env) (fun v s₁ => wpAny (model X.prog X.w) X.A (eval b X.env) (fun u s₂ => wpAny (model X.prog X.w) X.A (compareOp op v u) (EP X pins σ Q) X.xe s₂) X.xe s₁) X.xe s
noncomputable def tB (t:TE):TT:=fun σ H Q=>t σ H fun x H1=>∃ c,x = .bl c/\Q c H1
theorem Lr {op:CmpOp} {t:TE} (h:PC X op a b t) (h1:behindInMarks op b=false:=by first | exact Ls _ (by decide) (by decide) | rfl):PT X (.Compare a [op] [b] pos) (tB t):=by
 intro pins s σ H Q I hw
 refine wpAny_isTrue_Compare1 (aZ (h pins s σ H _ I hw) fun v s1 h1=>aZ h1 fun u s2 h2=>aZ h2 fun c s3 h0_ => el5 h0_ fun x H1 I1 r1 q1 => ?_) h1
 obtain⟨d,rfl,q⟩:=q1
 cases r1
 exact ZJ ⟨H1,I1,q⟩
theorem Lu {e:Expr} {t:TE} (h:PE X e t) (he:∀ whole,isTrue e X.env whole=(do let v <- whole;standAt e.pos;holding [v] (truthy v)):=by intro _;rfl):PT X e (tB t):=by
 intro pins s σ H Q I hw
 refine isTrue_plain (aZ (h pins s σ H _ I hw) fun v s1 h0_ => el5 h0_ fun x H1 I1 r1 q1 => ?_) (he _)
 obtain⟨d,rfl,q⟩:=q1
 cases r1
 exact ZJ ⟨H1,I1,q⟩
variable {tA l7:TT} {rest:List Expr}
noncomputable def pU (t u:TT):TT:=fun σ H Q=>t σ H fun c H1=>if c=true then u σ H1 Q else Q false H1
noncomputable def zR (t u:TT):TT:=fun σ H Q=>t σ H fun c H1=>if c=true then Q true H1 else u σ H1 Q
noncomputable def tU (t:TT):TT:=fun σ H Q=>t σ H fun c H1=>Q (!c) H1
theorem Lw (ha:PT X a tA):PW X (.BoolOp .And [a] pos) tA:=by
 intro wh pins s σ H Q I h
 refine isTrue_and (aZ (ha pins s σ H Q I h) fun c s1 e => ?_)
 cases c with
 | true=>exact isTrue_and_nil e
 | false=>exact e
theorem Lx (ha:PT X a tA):PW X (.BoolOp .Or [a] pos) tA:=by
 intro wh pins s σ H Q I h
 refine isTrue_or (aZ (ha pins s σ H Q I h) fun c s1 e => ?_)
 cases c with
 | false=>exact isTrue_or_nil e
 | true=>exact e
theorem Ly (ha:PT X a tA) (hb:PW X (.BoolOp .And (b :: rest) pos) l7):PW X (.BoolOp .And (a :: b :: rest) pos) (pU tA l7):=by
 intro wh pins s σ H Q I h
 refine isTrue_and (aZ (ha pins s σ H _ I h) fun c s1 h0_ => el3 h0_ fun H1 I1 q1 => ?_)
 cases c with
 | true=>exact hb wh pins s1 σ H1 Q I1 q1
 | false=>exact⟨H1,I1,q1⟩
theorem Lz (ha:PT X a tA) (hb:PW X (.BoolOp .Or (b :: rest) pos) l7):PW X (.BoolOp .Or (a :: b :: rest) pos) (zR tA l7):=by
 intro wh pins s σ H Q I h
 refine isTrue_or (aZ (ha pins s σ H _ I h) fun c s1 h0_ => el3 h0_ fun H1 I1 q1 => ?_)
 cases c with
 | true=>exact⟨H1,I1,q1⟩
 | false=>exact hb wh pins s1 σ H1 Q I1 q1
theorem LA (ha:PT X a tA):PT X (.UnaryOp .Not a pos) (tU tA):=by
 intro pins s σ H Q I h
 exact isTrue_not (ha pins s σ H (fun c H1=>Q (!c) H1) I h)
noncomputable def EY (ta tb:TE):TE:=fun σ H Q=>ta σ H fun x H1=>∃ c,x = .bl c/\if c=true then tb σ H1 Q else Q (.bl false) H1
noncomputable def EZ (ta:TE):TE:=fun σ H Q=>ta σ H fun x H1=>∃ c,x = .bl c/\Q (.bl (!c)) H1
theorem LB {op} {t:TE} (h:PE X a t):PE X (.BoolOp op [a] pos) t:=fun pins s σ H Q I hw=>BoolOp_one (h pins s σ H Q I hw)
theorem LC (ha:PE X a ta) (hb:PE X (.BoolOp .And (b :: rest) pos) tb):PE X (.BoolOp .And (a :: b :: rest) pos) (EY ta tb):=by
 intro pins s σ H Q I h
 refine BoolOp_and (aZ (ha pins s σ H _ I h) fun v s1 h0_ => el5 h0_ fun x H1 I1 r1 q1 => ?_)
 obtain⟨c,rfl,q1⟩:=q1
 cases r1
 refine ZJ ?_
 cases c with
 | true=>exact hb pins s1 σ H1 Q I1 q1
 | false=>exact⟨.bl false,H1,I1,rfl,q1⟩
theorem LF (ha:PE X a ta):PE X (.UnaryOp .Not a pos) (EZ ta):=by
 intro pins s σ H Q I h
 refine UnaryOp_ (aZ (ha pins s σ H _ I h) fun v s1 h0_ => el5 h0_ fun x H1 I1 r1 q1 => ?_)
 obtain⟨c,rfl,q1⟩:=q1
 cases r1
 exact not_of (ZJ ⟨.bl (!c),H1,I1,rfl,q1⟩)
noncomputable def E5 (t:TT) (ta tb:TE):TE:=fun σ H Q=>t σ H fun c H1=>if c=true then ta σ H1 Q else tb σ H1 Q
theorem LG {c:Expr} (hc:PT X c tA) (ha:PE X a ta) (hb:PE X b tb):PE X (.IfExp c a b pos) (E5 tA ta tb):=by
 intro pins s σ H Q I h
 refine wpAny_IfExp (aZ (hc pins s σ H _ I h) fun d s1 h0_ => el3 h0_ fun H1 I1 q1 => ?_)
 cases d with
 | true=>exact ha pins s1 σ H1 Q I1 q1
 | false=>exact hb pins s1 σ H1 Q I1 q1
end
noncomputable def aU (K:PySem.W.Frag) (H:Hp) (a:Addr) (xs:List V):Prop :=
 Rd H a (.lst xs) ∨
  ∃ (o:Obj) (ag:Array Value) (n:Nat),K.lookup a=some o/\o.cls = .type "list" /\ o.dict=none/\o.data = .seq ag n/\ag.size <= sizeLine/\Vals xs ag.toList
noncomputable def bC (K:PySem.W.Frag) (H:Hp) (a:Addr) (xs:List V):Prop :=
 Rd H a (.tup xs) ∨
  ∃ (o:Obj) (ag:Array Value) (n:Nat),K.lookup a=some o/\o.cls = .type "tuple" /\ o.data = .seq ag n/\ag.size <= sizeLine/\Vals xs ag.toList
noncomputable def zS:Value->Option V
 | .none=>some .non
 | .bool b=>some (.bl b)
 | .int i _=>some (.int i)
 | .str x _=>some (.str x)
 | .bytes b _=>some (.byt b)
 | .float b _=>some (.flt b)
 | .ref a=>some (.ref a)
 | .type n=>some (.ty n)
 | _=>none
theorem RelV.abs {x:V} {u:Value} (r:RelV x u):zS u=some x:=by
 cases x with
 | non=>cases r;rfl
 | bl _=>cases r;rfl
 | int _=>obtain⟨t,rfl⟩:=r;rfl
 | str _=>obtain⟨t,rfl⟩:=r;rfl
 | byt _=>obtain⟨t,rfl⟩:=r;rfl
 | flt _=>obtain⟨t,rfl⟩:=r;rfl
 | ref _=>cases r;rfl
 | ty _=>cases r;rfl
theorem RelV.inj {x y:V} {u:Value} (r:RelV x u) (q:RelV y u):x=y:=YA (r.abs.symm.trans q.abs)
theorem Vals.inj:∀ {xs ys:List V} {us:List Value},Vals xs us->Vals ys us->xs=ys
 | _,_,_,.nil,.nil=>rfl
 | _,_,_,.cons r t,.cons r' t'=>by rw[r.inj r',Vals.inj t t']
section
variable {X:Cx} {pins:List (Addr × Obj)} {σ : St} {H:Hp} {s:Shared} {a:Addr} {xs ys:List V}
theorem aU.of {K:PySem.W.Frag} (h:H a=some (.lst xs)):aU K H a xs := .inl (.inl h)
theorem bC.of {K:PySem.W.Frag} (h:H a=some (.tup xs)):bC K H a xs := .inl (.inl h)
theorem Inv.list (I:Inv X pins σ H s) (h:aU X.K H a xs):∃ ag:List Value,Vals xs ag/\PlainL s.heap a ag.toArray/\xs.length <= sizeLine:=by
 rcases h with h | ⟨o,ag,n,hk,hc,hd,hs,hz,r⟩
 ·obtain⟨z,ag,n,r,e⟩:=h.ok I.aK
  exact⟨ag,r,⟨_,n,e,rfl,rfl,rfl⟩,z⟩
 ·refine⟨ag.toList,r,⟨o,n,I.iq a o hk,hc,hd,by simpa using hs⟩,?_⟩
  have e:=r.length
  simp only[FO] at e
  omega
theorem Inv.tuple (I:Inv X pins σ H s) (h:bC X.K H a xs):∃ ag:List Value,Vals xs ag/\IsTup s.heap a ag.toArray/\xs.length <= sizeLine:=by
 rcases h with h | ⟨o,ag,n,hk,hc,hs,hz,r⟩
 ·obtain⟨z,ag,r,p⟩:=h.ok I.aK
  exact⟨ag,r,p,z⟩
 ·refine⟨ag.toList,r,⟨o,I.iq a o hk,hc,n,by simpa using hs⟩,?_⟩
  have e:=r.length
  simp only[FO] at e
  omega
theorem Inv.dO (I:Inv X pins σ H s) (h:aU X.K H a xs) (h':aU X.K H a ys):xs=ys:=by
 obtain⟨ag,r,⟨o,n,e,_,_,d⟩,_⟩:=I.list h
 obtain⟨its',r',⟨o',n',e',_,_,d'⟩,_⟩:=I.list h'
 rw[e] at e';cases e'
 rw[d] at d'
 injection d' with d1 _
 have:ag=its':=by simpa using congrArg Array.toList d1
 subst this
 exact r.inj r'
theorem Inv.gG (I:Inv X pins σ H s) (h:bC X.K H a xs) (h':bC X.K H a ys):xs=ys:=by
 obtain⟨ag,r,⟨o,e,_,n,d⟩,_⟩:=I.tuple h
 obtain⟨its',r',⟨o',e',_,n',d'⟩,_⟩:=I.tuple h'
 rw[e] at e';cases e'
 rw[d] at d'
 injection d' with d1 _
 have:ag=its':=by simpa using congrArg Array.toList d1
 subst this
 exact r.inj r'
end
noncomputable abbrev Cx.gw (X:Cx) (E:Value->Shared->Prop):Cx:={ X with xe:=E }
noncomputable abbrev Cx.mT (X:Cx):Cx:=X.gw fun _ _=>False
theorem Cx.Ok.gw {X:Cx} (ok:X.Ok) (E:Value->Shared->Prop):(X.gw E).Ok :=
 ⟨ok.mod,ok.kind,ok.glob,ok.blt,ok.above,ok.inj,ok.has,ok.tP,ok.hd,ok.frames,ok.wQ,ok.EL,ok.bs,ok.ot,ok.kP,ok.mQ,ok.fA,ok.pR⟩
theorem Cx.Ok.c6 {X:Cx} {E:Value->Shared->Prop} (ok:(X.gw E).Ok):X.Ok :=
 ⟨ok.mod,ok.kind,ok.glob,ok.blt,ok.above,ok.inj,ok.has,ok.tP,ok.hd,ok.frames,ok.wQ,ok.EL,ok.bs,ok.ot,ok.kP,ok.mQ,ok.fA,ok.pR⟩
section
variable {X:Cx} {pins:List (Addr × Obj)} {σ : St} {H:Hp} {s:Shared} {E:Value->Shared->Prop}
theorem Inv.gw (I:Inv X pins σ H s) (E:Value->Shared->Prop):Inv (X.gw E) pins σ H s:=⟨I.ok.gw E,I.os,I.bare,I.base,I.loc,I.cell,I.free,I.cR,I.pin,I.aK,I.len⟩
theorem Inv.c6 (I:Inv (X.gw E) pins σ H s):Inv X pins σ H s:=⟨I.ok.c6,I.os,I.bare,I.base,I.loc,I.cell,I.free,I.cR,I.pin,I.aK,I.len⟩
theorem SP.c6 {D:Ends} {f:Flow} {s':Shared} (h:SP (X.gw E) pins D f s'):SP X pins D f s':=by
 cases f with
 | next=>obtain⟨σ',H',I,q⟩:=h;exact⟨σ',H',I.c6,q⟩
 | brk=>obtain⟨σ',H',I,q⟩:=h;exact⟨σ',H',I.c6,q⟩
 | cont=>obtain⟨σ',H',I,q⟩:=h;exact⟨σ',H',I.c6,q⟩
 | ret u=>obtain⟨v,σ',H',I,r,q⟩:=h;exact⟨v,σ',H',I.c6,r,q⟩
theorem h9.mT {st:List Stmt} {t:TS} (h:h9 X.mT st t):h9 X st t:=fun pins s σ H D I hw =>
 Z3 (h pins s σ H D (I.gw _) hw) (fun _ _ q=>q.c6) fun _ _ z=>False.elim z
end
section
variable {X:Cx} {st:Stmt} {rest:List Stmt} {t u:TS} {e:Expr} {te:TE} {pos:Pos}
noncomputable def r_:TS:=fun D σ H=>D.nx σ H
noncomputable def ir (t u:TS):TS:=fun D σ H=>t { D with nx:=u D } σ H
theorem LH:h9 X [] r_:=fun _ _ σ H _ I h=>q1d ⟨σ,H,I,h⟩
theorem LI (h1:PS X st t) (h2:h9 X rest u):h9 X (st :: rest) (ir t u):=by
 intro pins s σ H D I h
 refine wpAny_execs_cons (aZ (h1 pins s σ H { D with nx:=u D } I h) fun f s1 q => ?_)
 cases f with
 | next =>
  obtain⟨σ',H',I',q⟩:=q
  exact h2 pins s1 σ' H' D I' q
 | ret v=>exact q
 | brk=>exact q
 | cont=>exact q
theorem LL (h1:PS X st t):h9 X [st] t:=by
 intro pins s σ H D I h
 refine wpAny_execs_cons (aZ (h1 pins s σ H D I h) fun f s1 q => ?_)
 cases f with
 | next=>exact q1d q
 | ret v=>exact q
 | brk=>exact q
 | cont=>exact q
theorem Inv.quiet {pins:List (Addr × Obj)} {σ : St} {H:Hp} {s:Shared} (I:Inv X pins σ H s):interactive X.env=false:=by simp[interactive,I.ok.kind]
noncomputable def oA (te:TE):TS:=fun D σ H=>te σ H fun _ H1=>D.nx σ H1
theorem LM (he:PE X e te) (hs:swapsWith e none pos.line X.env=pure false:=by rfl):PS X (.Expr e pos) (oA te):=by
 intro pins s σ H D I h
 exact wpAny_Expr_any (aZ (he pins s σ H _ I h) fun v s1 h0_ => el5 h0_ fun x H1 I1 r1 q1 =>⟨σ,H1,I1,q1⟩) I.quiet hs
noncomputable def pV (te:TE):TS:=fun D σ H=>te σ H D.rt
theorem LN (he:PE X e te):PS X (.Return (some e) pos) (pV te):=by
 intro pins s σ H D I h
 exact wpAny_Return_some (aZ (he pins s σ H _ I h) fun v s1 h0_ => el5 h0_ fun x H1 I1 r1 q1 =>⟨x,σ,H1,I1,r1,q1⟩)
noncomputable def jC (c:TT) (t u:TS):TS:=fun D σ H=>c σ H fun b H1=>if b=true then t D σ H1 else u D σ H1
theorem LO {c:Expr} {a b:List Stmt} {tc:TT} (hc:PT X c tc) (ha:h9 X a t) (hb:h9 X b u):PS X (.If c a b pos) (jC tc t u):=by
 intro pins s σ H D I h
 refine wpAny_If (aZ (hc pins s σ H _ I h) fun d s1 h0_ => el3 h0_ fun H1 I1 q1 => ?_)
 cases d with
 | true=>exact ha pins s1 σ H1 D I1 q1
 | false=>exact hb pins s1 σ H1 D I1 q1
end
noncomputable abbrev TG:=V->St->Hp->(St->Hp->Prop)->Prop
noncomputable abbrev jh:=List V->St->Hp->(St->Hp->Prop)->Prop
noncomputable def PG (X:Cx) (target:Expr) (t:TG):Prop :=
 ∀ (pins:List (Addr × Obj)) (s:Shared) (σ : St) (H:Hp) (v:V) (u:Value) (Q:St->Hp->Prop),Inv X pins σ H s->RelV v u->t v σ H Q →
  wpAny (model X.prog X.w) X.A (assign target X.env u) (fun _ s'=>∃ σ' H',Inv X pins σ' H' s'/\Q σ' H') X.xe s
noncomputable def tV (X:Cx) (ts:List Expr) (t:jh):Prop :=
 ∀ (pins:List (Addr × Obj)) (s:Shared) (σ : St) (H:Hp) (vs:List V) (us:List Value) (Q:St->Hp->Prop),Inv X pins σ H s->Vals vs us->t vs σ H Q →
  wpAny (model X.prog X.w) X.A (assignInOrder ((assignEach ts X.env).map (·.2)) us) (fun _ s'=>∃ σ' H',Inv X pins σ' H' s'/\Q σ' H') X.xe s
noncomputable abbrev mU:=V->V->V->Hp->(Hp->Prop)->Prop
noncomputable def pW (X:Cx) (t:mU):Prop :=
 ∀ (pins:List (Addr × Obj)) (s:Shared) (σ : St) (H:Hp) (o i v:V) (ov iv u:Value) (Q:Hp->Prop),Inv X pins σ H s->RelV o ov->RelV i iv->RelV v u->t o i v H Q →
  wpAny (model X.prog X.w) X.A (setItem ov iv u) (fun _ s'=>∃ H',Inv X pins σ H' s'/\Q H') X.xe s
section
variable {X:Cx} {pos:Pos}
noncomputable def j8 (i:Nat):TG:=fun v σ H Q=>Q (σ.set i (some v)) H
theorem LP {i:Nat} {x:Str} (hN:X.N.Nodup) (hi:X.N[i]? = some x) (hx:Loc X.env.scope x) (hf:X.fn x=true\/X.env.scope.names.lookup x=some .local:=by first | exact .inl rfl | exact .inr rfl | assumption):PG X (.Name x pos) (j8 i):=by
 intro pins s σ H v u Q I r h
 exact wpAny_assign_Name (EV I hN hi hx r (fun s' I'=>⟨_,H,I',h⟩) hf)
noncomputable def pX:jh:=fun vs σ H Q=>vs=[]/\Q σ H
noncomputable def wU (t:TG) (u:jh):jh:=fun vs σ H Q=>∃ v r,vs=v :: r/\t v σ H fun σ' H'=>u r σ' H' Q
theorem LQ:tV X [] pX:=by
 intro pins s σ H vs us Q I r h
 obtain⟨e,h⟩:=h
 subst e
 cases r
 exact assignInOrder_nil ⟨σ,H,I,h⟩
theorem LR {e:Expr} {es:List Expr} {t:TG} {u:jh} (h1:PG X e t) (h2:tV X es u)
  (hs:(assignEach (e :: es) X.env).map (·.2)=assign e X.env :: (assignEach es X.env).map (·.2):=by rfl):tV X (e :: es) (wU t u):=by
 intro pins s σ H vs us Q I r h
 obtain⟨v,vr,e1,h⟩:=h
 subst e1
 cases r with
 | cons r rr =>
  rw[hs]
  refine assignInOrder_cons (aZ (h1 pins s σ H _ _ _ I r h) fun _ s1 ⟨σ1,H1,I1,q1⟩ => ?_)
  exact h2 pins s1 σ1 H1 _ _ Q I1 rr q1
noncomputable def pY (K:PySem.W.Frag) (n:Nat) (t:jh):TG:=fun v σ H Q=>∃ a xs,v = .ref a/\bC K H a xs/\xs.length=n/\t xs σ H Q
theorem LS {es:List Expr} {k:Nat} {t:jh} {n:Nat} (hc:X.calm=true) (h:tV X es t)
  (hn:(assignEach es X.env).length=n:=by rfl) (kR:(assignEach es X.env).findIdx? (·.1)=none:=by rfl):PG X (.Tuple es k pos) (pY X.K n t):=by
 intro pins s σ H v u Q I r hw
 obtain⟨a,xs,e1,hq,hl,hw⟩:=hw
 subst e1
 cases r
 obtain⟨ag,rv,ht,hz⟩:=I.tuple hq
 refine assign_Tuple_tuple (I.ok.hd hc) ht (by simp[hn,<-hl,rv.length]) kR fun h' hx => ?_
 have I1:Inv X pins σ H { s with heap:=h' }:=I.kept (t':=s.toks) fun b o e=>hx b o (XN (Ng e)) e
 exact h pins _ σ H xs _ Q I1 (by simpa using rv) hw
noncomputable def pZ (to ti:TE) (t:mU):TG:=fun v σ H Q=>to σ H fun o H1=>ti σ H1 fun i H2=>t o i v H2 fun H3=>Q σ H3
theorem LU {o i:Expr} {to ti:TE} {t:mU} (ho:PE X o to) (hi:PE X i ti) (hs:pW X t)
  (ha:∀ v,assign (.Subscript o i pos) X.env v=(do
   let ov <- holding [v] (eval o X.env)
   let iv <- holding [v,ov] (eval i X.env)
   standAt pos
   holding [v,ov,iv] (setItem ov iv v)
   release [v,ov,iv] []):=by intro _;rfl):PG X (.Subscript o i pos) (pZ to ti t):=by
 intro pins s σ H v u Q I r h
 rw[ha]
 refine nq (YE (aZ (ho pins s σ H _ I h) fun ov s1 h0_ => el5 h0_ fun x H1 I1 r1 q1 => ?_))
 refine nq (YE (aZ (hi pins s1 σ H1 _ I1 q1) fun iv s2 h0_ => el5 h0_ fun y H2 I2 r2 q2 => ?_))
 refine nq (q0C (nq (YE (aZ (hs pins s2 σ H2 x y v ov iv u _ I2 r1 r2 r q2) fun _ s3 h0_ => el3 h0_ fun H3 I3 q3 => ?_))))
 exact wpAny_release ⟨σ,H3,I3,q3⟩
noncomputable def fU (te:TE) (g:TG):TS:=fun D σ H=>te σ H fun x H1=>g x σ H1 D.nx
theorem LV {tg e:Expr} {te:TE} {g:TG} (he:PE X e te) (hg:PG X tg g) (hs:swapsWithSole [tg] e pos.line X.env=pure false:=by rfl) (hw:swappedStores [tg] e X.env=pure none:=by rfl)
  (h1:(assignEach [tg] X.env).map (·.2)=[assign tg X.env]:=by rfl):PS X (.Assign [tg] e pos) (fU te g):=by
 intro pins s σ H D I h
 refine wpAny_Assign_stores (aZ (he pins s σ H _ I h) fun v s1 h0_ => el5 h0_ fun x H1 I1 r1 q1 => ?_) hs hw
 rw[h1]
 exact aZ (hg pins s1 σ H1 x v _ I1 r1 q1) fun _ s2 q=>q
theorem LW {i:Nat} {x:Str} {e:Expr} {te:TE} {pos':Pos} (hN:X.N.Nodup) (hi:X.N[i]? = some x) (hx:Loc X.env.scope x) (he:PE X e te) (hs:swapsWith e (some (.Name x pos')) pos.line X.env=pure false:=by rfl) (hf:X.fn x=true\/X.env.scope.names.lookup x=some .local:=by first | exact .inl rfl | exact .inr rfl | assumption) :
  PS X (.Assign [.Name x pos'] e pos) (fU te (j8 i)):=by
 intro pins s σ H D I h
 refine wpAny_Assign_Name (aZ (he pins s σ H _ I h) fun v s1 h0_ => el5 h0_ fun y H1 I1 r1 q1 => ?_) hs
 exact EV I1 hN hi hx r1 (fun s2 I2=>⟨_,H1,I2,q1⟩) hf
noncomputable def E6 (c:TT) (tb:TS):TS:=fun D σ H=>∃ W:Nat->St->Hp->Prop,(∃ m,W m σ H)/\∀ m σ H,W m σ H →
 c σ H fun b H1=>if b=true then ∃ N:St->Hp->Prop,(∀ σ' H',N σ' H'->∃ m',m' < m/\W m' σ' H')/\tb { D with nx:=N,ct:=N,bk:=D.nx } σ H1 else D.nx σ H1
theorem LX {c:Expr} {body:List Stmt} {tc:TT} {tb:TS} (hp:PassesOwn (model X.prog X.w) X.A X.env X.xe) (hc:PT X c tc) (hb:h9 X body tb):PS X (.While c body [] pos) (E6 tc tb):=by
 intro pins s σ H D I h
 obtain⟨W,⟨m0,w0⟩,turn⟩:=h
 refine wpAny_While (codeAny_whileLoop (fun n s'=>∃ σ' H',Inv X pins σ' H' s'/\W n σ' H') ?_ m0 ⟨σ,H,I,w0⟩)
 rintro n s1 ⟨σ1,H1,I1,w1⟩
 refine q0b hp (aZ (hc pins s1 σ1 H1 _ I1 (turn n σ1 H1 w1)) fun b s2 h0_ => el3 h0_ fun H2 I2 q2 => ?_)
 cases b with
 | true =>
  obtain⟨N,hN,q2⟩:=q2
  rw[XI rfl]
  refine q0b hp (aZ (hb pins s2 σ1 H2 _ I2 q2) fun f s3 q3 => ?_)
  cases f with
  | next =>
   obtain⟨σ3,H3,I3,n3⟩:=q3
   obtain⟨m',hm,w3⟩:=hN σ3 H3 n3
   exact⟨m',hm,σ3,H3,I3,w3⟩
  | cont =>
   obtain⟨σ3,H3,I3,n3⟩:=q3
   obtain⟨m',hm,w3⟩:=hN σ3 H3 n3
   exact⟨m',hm,σ3,H3,I3,w3⟩
  | brk=>exact q3
  | ret v=>exact q3
 | false =>
  rw[Nj Yo]
  exact q1d ⟨σ1,H2,I2,q2⟩
end
structure It where
 go:Nat->Hp->Prop
 sd:Nat->Hp->V->Hp->Prop
 stop:Nat->Hp->Prop
noncomputable def bq (X:Cx) (pins:List (Addr × Obj)) (H:Hp) (b:Addr):Prop :=
 H b=none/\b≠X.env.locals/\b∉X.fs/\(b∈X.ex\/X.s₀.heap.objs.size <= b)/\(∀ x c,X.env.cells.lookup x=some c->c≠b)/\∀ p∈X.pn ++ pins,p.1≠b
theorem Inv.gZ {X:Cx} {pins:List (Addr × Obj)} {σ : St} {H H':Hp} {s:Shared} {b:Addr} (I:Inv X pins σ H s) (hb:s.heap.objs.size <= b) (hn:H' b=none):bq X pins H' b:=by
 refine⟨hn,ZU (Yn I.lt hb),I.zN hb,.inr (Zb I.sz hb),fun x c e z => ?_,fun p hp z => ?_⟩
 ·obtain⟨v,q⟩:=I.cell x c e
  exact absurd (Yn q.lt (by rw[z];exact hb)) (ZE _)
 ·exact absurd (Yn (Ng (I.pin p hp).1) (by rw[z];exact hb)) (ZE _)
structure Turn (P:Program) (w:World) (K:PySem.W.Frag) (tg:Expr) (J:It) (fp:List Addr) (it:Addr) (tn:Nat->Heap->Prop):Prop where
 mem:it∈fp
 obj:∀ i h,tn i h->∀ b∈fp,∃ o,h.get? b=some o/\∀ v,o.data ≠ .cell v
 keep:∀ i h h',tn i h->(∀ b∈fp,∀ o,h.get? b=some o->h'.get? b=some o)->tn i h'
 item:∀ (X:Cx),X.prog=P->X.w=w->X.K=K->X.calm=true->∀ (i:Nat) (pins:List (Addr × Obj)) (s:Shared) (σ : St) (H:Hp) (E:Value->Shared->Prop),Inv X pins σ H s->(∀ b∈fp,bq X pins H b)->tn i s.heap->J.go i H →
  wpAny (model P w) X.A (pyNext (.ref it)) (fun r s1=>∃ u,r=some u ∧
   wpAny (model P w) X.A (letOwnedTupleGo tg (.ref it) u) (fun _ s2=>∃ x H',Inv X pins σ H' s2/\RelV x u/\J.sd i H x H'/\tn (i + 1) s2.heap/\∀ b∈fp,H' b=none) E s1) E s
 done:∀ (X:Cx),X.prog=P->X.w=w->X.K=K->X.calm=true->∀ (i:Nat) (pins:List (Addr × Obj)) (s:Shared) (σ : St) (H:Hp) (E:Value->Shared->Prop),Inv X pins σ H s->(∀ b∈fp,bq X pins H b)->tn i s.heap->J.stop i H →
  wpAny (model P w) X.A (pyNext (.ref it)) (fun r s1=>r=none/\Inv X pins σ H s1) E s
 self:∀ (A:Around) (i:Nat) (s:Shared) (Q:Value->Shared->Prop) (E:Value->Shared->Prop),tn i s.heap->Q (.ref it) s->wpAny (model P w) A (pyIter (.ref it)) Q E s
noncomputable abbrev TI:=St->Hp->(It->Hp->Prop)->Prop
noncomputable def E7 (X:Cx) (pins:List (Addr × Obj)) (σ : St) (tg:Expr) (R:It->Hp->Prop) (zT:Value) (s2:Shared):Prop :=
 ∃ (it:Addr) (fp:List Addr) (tn:Nat->Heap->Prop) (J:It) (H':Hp),zT = .ref it/\Inv X pins σ H' s2/\Turn X.prog X.w X.K tg J fp it tn/\tn 0 s2.heap/\(∀ b∈fp,bq X pins H' b)/\R J H'
noncomputable def PI (X:Cx) (tg iter:Expr) (wi:TI):Prop :=
 ∀ (pins:List (Addr × Obj)) (s:Shared) (σ : St) (H:Hp) (R:It->Hp->Prop),Inv X pins σ H s->wi σ H R →
  wpAny (model X.prog X.w) X.A (eval iter X.env) (fun v s1=>wpAny (model X.prog X.w) X.A (pyIter v) (E7 X pins σ tg R) X.xe s1) X.xe s
theorem zU {M:Model} {A:Around} {E:Value->Shared->Prop} {s:Shared} {tg:Expr} {it:Addr} {u:Value} {o:Obj} {n:String} {vs:Array Value} {Q:Unit->Shared->Prop} (ho:s.heap.get? it=some o) (hc:o.cls = .type n) (hd:o.data = .fields vs)
  (hn:["enumerate", "zip", "dict_itemiterator", "dict_reverseitemiterator", "odict_iterator", "itertools.zip_longest", "itertools.pairwise"].contains n=false) (hQ:Q () s):wpAny M A (letOwnedTupleGo tg (.ref it) u) Q E s:=by
 unfold letOwnedTupleGo
 cases tg<;>first
  | exact xa hQ
  | (cases u<;>first
    | exact xa hQ
    | (refine nq (wpAny_load ho ?_)
       rw[hc,hd]
       show wpAny M A (if (["enumerate", "zip", "dict_itemiterator", "dict_reverseitemiterator", "odict_iterator", "itertools.zip_longest", "itertools.pairwise"].contains n && vs[0]? == some (rawInt _))=true then _ else _) Q E s
       rw[Nj (by intro h;rw[hn,q2i] at h;cases h)]
       exact xa hQ))
noncomputable def E8 (K:PySem.W.Frag) (a:Addr):It :=
 ⟨fun i H=>∃ xs x,aU K H a xs/\xs[i]? = some x,fun i H x H'=>H'=H/\∀ xs,aU K H a xs->xs[i]? = some x,fun i H=>∃ xs,aU K H a xs/\xs.length <= i⟩
noncomputable def E9 (K:PySem.W.Frag) (a:Addr):It :=
 ⟨fun i H=>∃ xs x,bC K H a xs/\xs[i]? = some x,fun i H x H'=>H'=H/\∀ xs,bC K H a xs->xs[i]? = some x,fun i H=>∃ xs,bC K H a xs/\xs.length <= i⟩
noncomputable def tW (lo:Int) (n:Nat):It:=⟨fun i _=>i < n,fun i H x H'=>H'=H/\x = .int (lo + i),fun i _=>n <= i⟩
theorem LY {P:Program} {w:World} {K:PySem.W.Frag} {tg:Expr} (a it:Addr):Turn P w K tg (E8 K a) [it] it (fun i h=>h.IsListIter it a i) where
 mem:=by simp
 obj:=fun i h st b hb=>by
  have e:b=it:=by simpa using hb
  subst e
  obtain⟨o,e,c,d⟩:=st
  exact⟨o,e,fun v z=>by rw[d] at z;cases z⟩
 keep:=fun i h h' st k=>st.at fun o e=>k it (by simp) o e
 item:=by
  intro X hP hw hK hc i pins s σ H E I hf st hg
  subst hP hw hK
  obtain⟨xs,x,hq,hx⟩:=hg
  obtain⟨ag,rv,p,hz⟩:=I.list hq
  obtain⟨u,hu,ru⟩:=rv.get hx
  obtain⟨f0,f1,f2,f3,f4,f5⟩:=hf it (by simp)
  refine wpAny_pyNext_list_item st p.isList (x:=u) (by simpa using hu) fun h' ji sb => ?_
  have I1:Inv X pins σ H { s with heap:=h' }:=I.turned (t':=s.toks) (fun b o hb e=>(sb.2 b hb).trans e) f0 f1 f3 f4 f5
  obtain⟨o,e,c,d⟩:=id ji
  exact⟨u,rfl,zU (s:={ s with heap:=h' }) e c d (by decide) ⟨x,H,I1,ru,⟨rfl,fun ys hy=>by rw[I.dO hy hq];exact hx⟩,ji,fun b hb=>(hf b hb).1⟩⟩
 done:=by
  intro X hP hw hK hc i pins s σ H E I hf st hg
  subst hP hw hK
  obtain⟨xs,hq,hx⟩:=hg
  obtain⟨ag,rv,p,hz⟩:=I.list hq
  obtain⟨f0,f1,f2,f3,f4,f5⟩:=hf it (by simp)
  have hl:=rv.length
  exact wpAny_pyNext_list_end (I.ok.hd hc) st p.isList (by simp;omega) fun h' eb=>⟨rfl,I.turned (t':=s.toks) (fun b o hb e=>eb b o hb e) f0 f1 f3 f4 f5⟩
 self:=fun _ _ _ _ _ st h=>wpAny_pyIter_listiter st h
theorem LZ {P:Program} {w:World} {K:PySem.W.Frag} {tg:Expr} (a it:Addr):Turn P w K tg (E9 K a) [it] it (fun i h=>h.IsTupleIter it a i) where
 mem:=by simp
 obj:=fun i h st b hb=>by
  have e:b=it:=by simpa using hb
  subst e
  obtain⟨o,e,c,d⟩:=st
  exact⟨o,e,fun v z=>by rw[d] at z;cases z⟩
 keep:=fun i h h' st k=>st.at fun o e=>k it (by simp) o e
 item:=by
  intro X hP hw hK hc i pins s σ H E I hf st hg
  subst hP hw hK
  obtain⟨xs,x,hq,hx⟩:=hg
  obtain⟨ag,rv,p,hz⟩:=I.tuple hq
  obtain⟨u,hu,ru⟩:=rv.get hx
  obtain⟨f0,f1,f2,f3,f4,f5⟩:=hf it (by simp)
  refine wpAny_pyNext_tuple_item st (show s.heap.IsTuple a ag.toArray from p) (x:=u) (by simpa using hu) fun h' ji sb => ?_
  have I1:Inv X pins σ H { s with heap:=h' }:=I.turned (t':=s.toks) (fun b o hb e=>(sb.2 b hb).trans e) f0 f1 f3 f4 f5
  obtain⟨o,e,c,d⟩:=id ji
  exact⟨u,rfl,zU (s:={ s with heap:=h' }) e c d (by decide) ⟨x,H,I1,ru,⟨rfl,fun ys hy=>by rw[I.gG hy hq];exact hx⟩,ji,fun b hb=>(hf b hb).1⟩⟩
 done:=by
  intro X hP hw hK hc i pins s σ H E I hf st hg
  subst hP hw hK
  obtain⟨xs,hq,hx⟩:=hg
  obtain⟨ag,rv,p,hz⟩:=I.tuple hq
  obtain⟨f0,f1,f2,f3,f4,f5⟩:=hf it (by simp)
  have hl:=rv.length
  exact wpAny_pyNext_tuple_end (I.ok.hd hc) st (show s.heap.IsTuple a ag.toArray from p) (by simp;omega) fun h' eb=>⟨rfl,I.turned (t':=s.toks) (fun b o hb e=>eb b o hb e) f0 f1 f3 f4 f5⟩
 self:=fun _ _ _ _ _ st h=>wpAny_pyIter_tupleiter st h
theorem L1 {P:Program} {w:World} {K:PySem.W.Frag} {tg:Expr} (it:Addr) (lo:Int) (n:Nat):Turn P w K tg (tW lo n) [it] it (fun i h=>IsRangeIter h it (lo + (i:Nat) * 1) ((n:Int) - (i:Nat)) 1) where
 mem:=by simp
 obj:=fun i h st b hb=>by
  have e:b=it:=by simpa using hb
  subst e
  exact⟨_,st,fun v z=>by
   have z':Data.fields _=Data.cell v:=z
   cases z'⟩
 keep:=fun i h h' st k=>k it (by simp) _ st
 item:=by
  intro X hP hw hK hc i pins s σ H E I hf st hg
  subst hP hw hK
  obtain⟨f0,f1,f2,f3,f4,f5⟩:=hf it (by simp)
  have W:=Walks.range (prog:=X.prog) (w:=X.w) (I.ok.hd hc) it lo 1 n
  refine W.item i s _ _ hg st fun v h' tk hv ji kk => ?_
  obtain⟨t,rfl⟩:=hv
  have I1:Inv X pins σ H { s with heap:=h',toks:=tk }:=I.turned (fun b o hb e=>kk b o (by simpa using hb) e) f0 f1 f3 f4 f5
  refine⟨_,rfl,zU (s:={ s with heap:=h',toks:=tk }) (n := "range_iterator") ji rfl rfl (by decide) ⟨.int (lo + i),H,I1,⟨t,?_⟩,⟨rfl,rfl⟩,ji,fun b hb=>(hf b hb).1⟩⟩
  rw[Int.mul_one]
 done:=by
  intro X hP hw hK hc i pins s σ H E I hf st hg
  subst hP hw hK
  obtain⟨f0,f1,f2,f3,f4,f5⟩:=hf it (by simp)
  exact wpAny_pyNext_range_end (I.ok.hd hc) st (by have:n <= i:=hg;omega) fun h' eb=>⟨rfl,I.turned (t':=s.toks) (fun b o hb e=>eb b o hb e) f0 f1 f3 f4 f5⟩
 self:=fun _ _ _ _ _ st h=>wpAny_pyIter_rangeiter st h
section
variable {X:Cx} {tg:Expr}
theorem E_ {pins:List (Addr × Obj)} {σ : St} {H:Hp} {s:Shared} {R:It->Hp->Prop} {E:Value->Shared->Prop} {lo hi:Int} {t u v:Tok} {tk:Nat} (I:Inv X pins σ H s) (h1 : -(2 ^ 62) <= lo) (h2:lo < 2 ^ 62) (h3 : -(2 ^ 62) <= hi) (h4:hi < 2 ^ 62)
  (q:R (tW lo (hi - lo).toNat) H):wpAny (model X.prog X.w) X.A (pyIter (.ref s.heap.objs.size)) (E7 X pins σ tg R) E { s with heap:=s.heap.push { cls := .type "range",data := .fields #[.int lo t,.int hi u,.int 1 v] },toks:=tk }:=by
 refine wpAny_pyIter_range (IsRange.new ..) (small_one h1 h2 h3 h4) ?_
 have I1:Inv X pins σ H { s with heap:=s.heap.push { cls := .type "range",data := .fields #[.int lo t,.int hi u,.int 1 v] },toks:=tk }:=I.kept fun b o e=>ue _ e
 refine⟨(s.heap.push { cls := .type "range",data := .fields #[.int lo t,.int hi u,.int 1 v] }).objs.size,[(s.heap.push { cls := .type "range",data := .fields #[.int lo t,.int hi u,.int 1 v] }).objs.size],_,_,H,rfl,
  I1.kept (t':=tk) fun b o e=>ue _ e,L1 _ lo (hi - lo).toNat,?_,fun b hb => ?_,q⟩
 ·have e1:lo + ((0:Nat):Int) * 1=lo:=by simp
  have e2:(((hi - lo).toNat:Nat):Int) - ((0:Nat):Int)=Builtin.Range.rangeSize lo hi 1:=by rw[rangeSize_one];split<;>omega
  show IsRangeIter _ _ (lo + ((0:Nat):Int) * 1) ((((hi - lo).toNat:Nat):Int) - ((0:Nat):Int)) 1
  rw[e1,e2]
  exact XJ _ rfl
 ·have e:b=(s.heap.push { cls := .type "range",data := .fields #[.int lo t,.int hi u,.int 1 v] }).objs.size:=by simpa using hb
  subst e
  exact I1.gZ (qq _) (I1.aK.fresh (qq _))
noncomputable def Fb (ta:TA):TI:=fun σ H R=>ta σ H fun vs H1=>∃ j:Int,vs=[.int j] /\ -(2 ^ 62) <= j/\j < 2 ^ 62/\R (tW 0 j.toNat) H1
noncomputable def Fc (ta:TA):TI:=fun σ H R=>ta σ H fun vs H1=>∃ i j:Int,vs=[.int i,.int j]/\(-(2 ^ 62) <= i/\i < 2 ^ 62 /\ -(2 ^ 62) <= j/\j < 2 ^ 62)/\R (tW i (j - i).toNat) H1
theorem L5 {a:Expr} {ta:TA} {p pos:Pos} (hg:Gl X "range") (hm:X.mg "range" = none) (ha:PA X [a] ta) (hs:starEach [a] X.env=[(false,eval a X.env)]:=by rfl):PI X tg (.Call (.Name "range" p) [a] [] pos) (Fb ta):=by
 intro pins s σ H R I h
 refine Call_ (mS I hg hm boot_range (Zk (aZ (ha pos pins s σ H _ I h) fun us s1 h0_ => el5 h0_ fun vs H1 I1 r1 q1 => ?_) hs rfl))
 obtain⟨j,e,q1,q2,q⟩:=q1
 subst e
 cases r1 with
 | cons r rr =>
  cases rr
  obtain⟨t,rfl⟩:=r
  exact call_range_1 (E_ I1 (by omega) (by omega) q1 q2 (by simpa using q))
theorem L7 {a b:Expr} {ta:TA} {p pos:Pos} (hg:Gl X "range") (hm:X.mg "range" = none) (ha:PA X [a,b] ta) (hs:starEach [a,b] X.env=[(false,eval a X.env),(false,eval b X.env)]:=by rfl) (eM:starEach [b] X.env=[(false,eval b X.env)]:=by rfl) :
  PI X tg (.Call (.Name "range" p) [a,b] [] pos) (Fc ta):=by
 intro pins s σ H R I h
 refine Call_ (mS I hg hm boot_range (Zk (aZ (ha pos pins s σ H _ I h) fun us s1 h0_ => el5 h0_ fun vs H1 I1 r1 q1 => ?_) (by rw[hs,eM]) (by rw[eM];rfl)))
 obtain⟨i,j,e,⟨q1,q2,q3,q4⟩,q⟩:=q1
 subst e
 cases r1 with
 | cons r rr =>
  cases rr with
  | cons r' rr =>
   cases rr
   obtain⟨t,rfl⟩:=r
   obtain⟨t',rfl⟩:=r'
   exact call_range_2 (E_ I1 q1 q2 q3 q4 q)
noncomputable def p8 (wi:TI) (g:TG) (tb:TS):TS:=fun D σ H=>wi σ H fun J H1=>∃ W:Nat->Nat->St->Hp->Prop,(∃ m,W 0 m σ H1)/\∀ i m σ H,W i m σ H →
 (J.stop i H/\D.nx σ H)\/(J.go i H/\∃ N:St->Hp->Prop,(∀ σ' H',N σ' H'->∃ m',m' < m/\W (i + 1) m' σ' H')/\∀ x H',J.sd i H x H'->g x σ H' fun σ2 H2=>tb { D with nx:=N,ct:=N,bk:=D.nx } σ2 H2)
noncomputable def tX (fp:List Addr) (h:Heap):List (Addr × Obj):=fp.filterMap fun b=>(h.get? b).map fun o=>(b,o)
theorem wV {fp:List Addr} {h:Heap} {b:Addr} {o:Obj} (hb:b∈fp) (e:h.get? b=some o):(b,o)∈tX fp h:=Z5.mpr ⟨b,hb,by rw[e];rfl⟩
theorem L8 {fp:List Addr} {h:Heap} {p:Addr × Obj} (hp:p∈tX fp h):p.1∈fp/\h.get? p.1=some p.2:=by
 obtain⟨b,hb,e⟩:=Z5.mp hp
 cases q:h.get? b with
 | none=>rw[q] at e;cases e
 | some o =>
  rw[q] at e
  have e':(b,o)=p:=YA e
  subst e'
  exact⟨hb,q⟩
theorem Inv.pinned {pins:List (Addr × Obj)} {σ : St} {H:Hp} {s:Shared} {fp:List Addr} (I:Inv X pins σ H s) (hf:∀ b∈fp,bq X pins H b) (ho:∀ b∈fp,∃ o,s.heap.get? b=some o/\∀ v,o.data ≠ .cell v):Inv X (pins ++ tX fp s.heap) σ H s :=
 I.fH fun p hp=>(YL.mp hp).elim (fun z=>I.pin p (Yq _ z)) fun z=>by
  obtain⟨hb,e⟩:=L8 z
  obtain⟨f0,f1,f2,_⟩:=hf p.1 hb
  obtain⟨o,e',d⟩:=ho p.1 hb
  rw[e] at e';cases e'
  exact⟨e,f0,f1,f2,d⟩
theorem Inv.dP {pins pl:List (Addr × Obj)} {σ : St} {H:Hp} {s:Shared} (I:Inv X (pins ++ pl) σ H s):Inv X pins σ H s:=I.fH fun p hp=>I.pin p (Yq _ (ZC _ hp))
theorem L9 {iter:Expr} {body:List Stmt} {wi:TI} {g:TG} {tb:TS} {pos:Pos} (hp:PassesOwn (model X.prog X.w) X.A X.env X.xe) (hc:X.calm=true) (hi:PI X tg iter wi) (hg:PG X tg g) (hb:h9 X body tb)
  (hs:∀ x,foldedSetIterable iter X.env x=pure x:=by intro _;rfl):PS X (.For tg iter body [] pos) (p8 wi g tb):=by
 intro pins s σ H D I h
 refine wpAny_For (aZ (hi pins s σ H _ I h) fun v s1 h1=>aZ h1 fun zT s2 h2 => ?_) hs
 obtain⟨it,fp,tn,J,H2,e,I2,T,iQ,f2,W,⟨m0,w0⟩,turn⟩:=h2
 subst e
 have iS:∀ {H':Hp},(∀ b∈fp,H' b=none)->∀ b∈fp,bq X pins H' b:=fun hn b hb=>⟨hn b hb,(f2 b hb).2⟩
 refine codeAny_forLoop_any (fun n s'=>∃ i σ' H',Inv X pins σ' H' s'/\tn i s'.heap/\(∀ b∈fp,H' b=none)/\W i n σ' H') ?_ m0 ⟨0,σ,H2,I2,iQ,fun b hb=>(f2 b hb).1,w0⟩
 rintro n s3 ⟨i,σ3,H3,I3,mV,tY,w3⟩
 rcases turn i n σ3 H3 w3 with⟨stop,qn⟩ | ⟨go,N,hN,step⟩
 ·refine q0b hp (aZ (T.done X rfl rfl rfl hc i pins s3 σ3 H3 X.xe I3 (iS tY) mV stop) fun r s4 ⟨hr,I4⟩ => ?_)
  subst hr
  exact q1d ⟨σ3,H3,I4,qn⟩
 ·refine q0b hp (aZ (T.item X rfl rfl rfl hc i pins s3 σ3 H3 X.xe I3 (iS tY) mV go) fun r s4 ⟨u,hr,h4⟩ => ?_)
  subst hr
  refine q0b hp (aZ h4 fun _ s5 ⟨x,H5,I5,r5,y5,p9,zV⟩ => ?_)
  have zW:=I5.pinned (iS zV) (T.obj _ _ p9)
  refine q0b hp (aZ (hg _ s5 σ3 H5 x u _ zW r5 (step x H5 y5)) fun _ s6 ⟨σ6,H6,I6,q6⟩ => ?_)
  refine q0b hp (aZ (hb _ s6 σ6 H6 _ I6 q6) fun f s7 q7 => ?_)
  have again:∀ {σ7:St} {H7:Hp},Inv X (pins ++ tX fp s5.heap) σ7 H7 s7->N σ7 H7->∃ m,m < n/\∃ i σ' H',Inv X pins σ' H' s7/\tn i s7.heap/\(∀ b∈fp,H' b=none)/\W i m σ' H':=fun {σ7 H7} I7 n7=>by
   obtain⟨m',hm,w7⟩:=hN σ7 H7 n7
   refine⟨m',hm,i + 1,σ7,H7,I7.dP,T.keep _ _ _ p9 fun b hb o e=>(I7.pin (b,o) (Yq _ (Yq _ (wV hb e)))).1,fun b hb => ?_,w7⟩
   obtain⟨o,e,d⟩:=T.obj _ _ p9 b hb
   exact (I7.pin (b,o) (Yq _ (Yq _ (wV hb e)))).2.1
  cases f with
  | next=>obtain⟨σ7,H7,I7,n7⟩:=q7;exact again I7 n7
  | cont=>obtain⟨σ7,H7,I7,n7⟩:=q7;exact again I7 n7
  | brk=>obtain⟨σ7,H7,I7,q7⟩:=q7;exact⟨σ7,H7,I7.dP,q7⟩
  | ret v=>obtain⟨x7,σ7,H7,I7,r7,q7⟩:=q7;exact⟨x7,σ7,H7,I7.dP,r7,q7⟩
end
noncomputable abbrev R2:=V->V->Hp->VK->Prop
noncomputable def di (X:Cx) (f:Value->Value->Sem Value) (r:R2):Prop :=
 ∀ (pins:List (Addr × Obj)) (s:Shared) (σ : St) (H:Hp) (x y:V) (v u:Value) (Q:VK),Inv X pins σ H s->RelV x v->RelV y u->r x y H Q →
  wpAny (model X.prog X.w) X.A (f v u) (EP X pins σ Q) X.xe s
noncomputable def gx (X:Cx) (f:Value) (r:List V->Hp->VK->Prop):Prop :=
 ∀ (pins:List (Addr × Obj)) (s:Shared) (σ : St) (H:Hp) (xs:List V) (us:List Value) (Q:VK),Inv X pins σ H s->Vals xs us->r xs H Q →
  wpAny (model X.prog X.w) X.A (call f us) (EP X pins σ Q) X.xe s
noncomputable def kS (r:R2) (ta tb:TE):TE:=fun σ H Q=>ta σ H fun x H1=>tb σ H1 fun y H2=>r x y H2 Q
noncomputable def rI (C:Int->Int->Prop) (g:Int->Int->V):R2:=fun x y H Q=>∃ i j,x = .int i/\y = .int j/\C i j/\Q (g i j) H
noncomputable def mW (g:Int->Int->V):R2:=fun x y H Q=>∃ i j,x = .int i/\y = .int j/\Q (g i j) H
section
variable {X:Cx} {a b c:Expr} {ta tb tc:TE} {pos:Pos}
theorem p_ (ha:PE X a ta) (hb:PE X b tb) {pins:List (Addr × Obj)} {s:Shared} {σ : St} {H:Hp} {R:V->V->Hp->Prop} (I:Inv X pins σ H s)
  (h:ta σ H fun x H1=>tb σ H1 fun y H2=>R x y H2) {Q:Value->Shared->Prop} {f:Value->Value->Sem Value}
  (hf:∀ v u s2 x y H2,Inv X pins σ H2 s2->RelV x v->RelV y u->R x y H2->wpAny (model X.prog X.w) X.A (f v u) Q X.xe s2) :
  wpAny (model X.prog X.w) X.A (eval a X.env) (fun v s₁ => wpAny (model X.prog X.w) X.A (eval b X.env) (fun u s₂ => wpAny (model X.prog X.w) X.A (f v u) Q X.xe s₂) X.xe s₁) X.xe s:=by
 refine aZ (ha pins s σ H _ I h) fun v s1 h0_ => el5 h0_ fun x H1 I1 r1 q1 => ?_
 refine aZ (hb pins s1 σ H1 _ I1 q1) fun u s2 h0_ => el5 h0_ fun y H2 I2 r2 q2 => ?_
 exact hf v u s2 x y H2 I2 r1 r2 q2
theorem L_ {op:Operator} {r:R2} (ho:di X (binaryOp op) r) (ha:PE X a ta) (hb:PE X b tb):PE X (.BinOp a op b pos) (kS r ta tb):=by
 intro pins s σ H Q I h
 exact wpAny_BinOp (p_ ha hb I h fun v u s2 x y H2 I2 rx ry q=>ho pins s2 σ H2 x y v u Q I2 rx ry q)
theorem wW {f:Value->Value->Sem Value} {C:Int->Int->Prop} {g:Int->Int->Int}
  (rule:∀ (i j:Int) (t u:Tok) (s:Shared) (Q:Value->Shared->Prop) (E:Value->Shared->Prop),C i j->Q (.int (g i j) s.toks) { s with toks:=s.toks + 1 }->wpAny (model X.prog X.w) X.A (f (.int i t) (.int j u)) Q E s) :
  di X f (rI C fun i j => .int (g i j)):=by
 intro pins s σ H x y v u Q I rx ry h
 obtain⟨i,j,rfl,rfl,hc,q⟩:=h
 obtain⟨t,rfl⟩:=rx
 obtain⟨t',rfl⟩:=ry
 exact rule i j t t' s _ _ hc ⟨.int (g i j),H,I.tok _,⟨_,rfl⟩,q⟩
theorem tZ {f:Value->Value->Sem Value} {g:Int->Int->Int}
  (rule:∀ (i j:Int) (t u:Tok) (s:Shared) (Q:Value->Shared->Prop) (E:Value->Shared->Prop),Q (.int (g i j) s.toks) { s with toks:=s.toks + 1 }->wpAny (model X.prog X.w) X.A (f (.int i t) (.int j u)) Q E s) :
  di X f (mW fun i j => .int (g i j)):=by
 intro pins s σ H x y v u Q I rx ry h
 obtain⟨i,j,rfl,rfl,q⟩:=h
 obtain⟨t,rfl⟩:=rx
 obtain⟨t',rfl⟩:=ry
 exact rule i j t t' s _ _ ⟨.int (g i j),H,I.tok _,⟨_,rfl⟩,q⟩
theorem mX {f:Value->Value->Sem Value} {g:Int->Int->Bool}
  (rule:∀ (i j:Int) (t u:Tok) (s:Shared) (Q:Value->Shared->Prop) (E:Value->Shared->Prop),Q (.bool (g i j)) s->wpAny (model X.prog X.w) X.A (f (.int i t) (.int j u)) Q E s) :
  di X f (mW fun i j => .bl (g i j)):=by
 intro pins s σ H x y v u Q I rx ry h
 obtain⟨i,j,rfl,rfl,q⟩:=h
 obtain⟨t,rfl⟩:=rx
 obtain⟨t',rfl⟩:=ry
 exact rule i j t t' s _ _ ⟨.bl (g i j),H,I,rfl,q⟩
noncomputable def t4 (i j:Int):Prop:=j≠0/\j.natAbs < 1073741824
noncomputable def g5 (i j:Int):Prop:=0 <= j/\j <= 1000000/\i.natAbs < 2 ^ 64
noncomputable def mY (i j:Int):Prop:=(-(2 ^ 64) < i/\i < 2 ^ 64)\/(-(2 ^ 64) < j/\j < 2 ^ 64)
theorem mY.ok {i j:Int} (h:mY i j):IntMulOk i j:=by
 rcases h with⟨h1,h2⟩ | ⟨h1,h2⟩
 ·exact .of_left (intBits_le_64 h1 h2)
 ·exact .of_right (intBits_le_64 h1 h2)
theorem Fd:di X (binaryOp .Add) (mW fun i j => .int (i + j)):=tZ fun _ _ _ _ _ _ _ q=>add_int q
theorem Ma:di X (binaryOp .Sub) (mW fun i j => .int (i - j)):=tZ fun _ _ _ _ _ _ _ q=>sub_int q
theorem Mb:di X (binaryOp .Mult) (rI mY fun i j => .int (i * j)):=wW fun _ _ _ _ _ _ _ hc q=>mul_int q hc.ok
theorem Mc:di X (binaryOp .FloorDiv) (rI t4 fun i j => .int (i.fdiv j)):=wW fun _ _ _ _ _ _ _ hc q=>floordiv_int hc.1 q (.inl (PyProof.noPylong_small hc.2))
theorem zX:di X (binaryOp .Mod) (rI (fun _ j=>0 < j) fun i j => .int (i % j)):=wW fun i j _ _ _ _ _ hc q=>by
 have h1:(0:Int) < j:=hc
 exact mod_int' (by omega) (by rw[Int.fmod_eq_emod_of_nonneg i (by omega)];exact q)
theorem Md:di X (binaryOp .Pow) (rI g5 fun i j => .int (i ^ j.toNat)):=wW fun _ _ _ _ _ _ _ hc q=>pow_int_small hc.1 hc.2.1 hc.2.2 q
theorem Me {pins:List (Addr × Obj)} {σ : St} {H:Hp} {s:Shared} {Q:VK} {k k':Bool} (I:Inv X pins σ H s) (q:Q (.bl k) H) (e:k=k'):EP X pins σ Q (.bool k') s:=by
 subst e
 exact⟨.bl k,H,I,rfl,q⟩
theorem Mf:di X (compareOp .Lt) (mW fun i j => .bl (decide (i < j))):=mX fun _ _ _ _ _ _ _ q=>lt_int q
theorem Mg:di X (compareOp .LtE) (mW fun i j => .bl (decide (i <= j))):=mX fun _ _ _ _ _ _ _ q=>le_int q
theorem Mh:di X (compareOp .Gt) (mW fun i j => .bl (decide (j < i))):=mX fun _ _ _ _ _ _ _ q=>gt_int q
theorem Mi:di X (compareOp .GtE) (mW fun i j => .bl (decide (j <= i))):=mX fun _ _ _ _ _ _ _ q=>ge_int q
theorem Mj:di X (compareOp .Is) (fun x y H Q=>y = .non/\Q (.bl (decide (x = .non))) H):=by
 intro pins s σ H x y v u Q I rx ry h
 obtain⟨rfl,q⟩:=h
 cases ry
 refine is_none_gen (Me I q ?_)
 cases x<;>first
  | (cases rx;rfl)
  | (obtain⟨t,rfl⟩:=rx;rfl)
theorem zY (b:Expr) {op:CmpOp} (h:op ≠ .In:=by decide) (h2:op ≠ .NotIn:=by decide):behindInMarks op b=false:=by
 have e1:(op == CmpOp.In)=false:=by cases op<;>first | rfl | exact absurd rfl h
 have e2:(op == CmpOp.NotIn)=false:=by cases op<;>first | rfl | exact absurd rfl h2
 cases b<;>simp[behindInMarks,e1,e2]
theorem Ml {op:CmpOp} {r:R2} (ho:di X (compareOp op) r) (ha:PE X a ta) (hb:PE X b tb) (hm:behindInMarks op b=false):PE X (.Compare a [op] [b] pos) (kS r ta tb):=by
 intro pins s σ H Q I h
 exact wpAny_Compare1 (p_ ha hb I h fun v u s2 x y H2 I2 rx ry q=>ho pins s2 σ H2 x y v u Q I2 rx ry q) hm
noncomputable def Fe (t:TE):TT:=fun σ H Q=>t σ H fun x H'=>∃ k,x = .bl k/\Q k H'
theorem Mm {op:CmpOp} {r:R2} (ho:di X (compareOp op) r) (ha:PE X a ta) (hb:PE X b tb) (hm:behindInMarks op b=false):PT X (.Compare a [op] [b] pos) (Fe (kS r ta tb)):=by
 intro pins s σ H Q I h
 refine wpAny_isTrue_Compare1 (aZ (ha pins s σ H _ I h) fun v s1 h0_ => el5 h0_ fun x H1 I1 r1 q1 =>aZ (hb pins s1 σ H1 _ I1 q1) fun u s2 h0_ => el5 h0_ fun y H2 I2 r2 q2 =>
  aZ (ho pins s2 σ H2 x y v u _ I2 r1 r2 q2) fun c s3 ⟨z,H3,I3,r3,k,e,q3⟩ => ?_) hm
 subst e
 cases r3
 exact ZJ ⟨H3,I3,q3⟩
noncomputable def Ff (r r':R2) (ta tb tc:TE):TE:=fun σ H Q=>ta σ H fun x H1=>tb σ H1 fun y H2=>r x y H2 fun z H3=>∃ k,z = .bl k ∧
 (if k=true then tc σ H3 fun w' H4=>r' y w' H4 Q else Q (.bl false) H3)
theorem Mn {op kU:CmpOp} {r r':R2} (ho:di X (compareOp op) r) (jA:di X (compareOp kU) r') (ha:PE X a ta) (hb:PE X b tb) (hc:PE X c tc)
  (hm:lastMarks [op,kU] [b,c]=false:=by with_unfolding_all rfl):PE X (.Compare a [op,kU] [b,c] pos) (Ff r r' ta tb tc):=by
 intro pins s σ H Q I h
 refine Compare_chain (aZ (ha pins s σ H _ I h) fun v s1 h0_ => el5 h0_ fun x H1 I1 r1 q1 =>chain_link (aZ (hb pins s1 σ H1 _ I1 q1) fun u s2 h0_ => el5 h0_ fun y H2 I2 r2 q2 =>
  aZ (ho pins s2 σ H2 x y v u _ I2 r1 r2 q2) fun d s3 ⟨z,H3,I3,r3,k,e,q3⟩ => ?_)) hm
 subst e
 cases r3
 refine ZJ ?_
 cases k with
 | false=>exact ite_ff ⟨.bl false,H3,I3,rfl,q3⟩
 | true=>exact ite_tt (chain_last (aZ (hc pins s3 σ H3 _ I3 q3) fun w' s4 ⟨z',H4,I4,r4,q4⟩=>jA pins s4 σ H4 y z' u w' Q I4 r2 r4 q4))
theorem sg:(sizeLine:Nat) < 2 ^ 63:=by rw[ZW];decide
theorem Mo:di X (binaryOp .Add) (fun x y H Q=>∃ i j,x = .str i/\y = .str j/\i.length + j.length <= sizeLine/\Q (.str (i ++ j)) H):=by
 intro pins s σ H x y v u Q I rx ry h
 obtain⟨i,j,rfl,rfl,hz,q⟩:=h
 obtain⟨t,rfl⟩:=rx
 obtain⟨t',rfl⟩:=ry
 exact add_str (fun t' tk=>⟨.str (i ++ j),H,I.tok _,⟨_,rfl⟩,q⟩) hz
theorem vals1 {x:V} {us:List Value} (r:Vals [x] us):∃ u,us=[u]/\RelV x u:=by
 cases r with
 | cons r1 r2=>cases r2;exact⟨_,rfl,r1⟩
theorem vals2 {x y:V} {us:List Value} (r:Vals [x,y] us):∃ u w',us=[u,w']/\RelV x u/\RelV y w':=by
 cases r with
 | cons r1 r2 =>
  cases r2 with
  | cons r3 r4=>cases r4;exact⟨_,_,rfl,r1,r3⟩
theorem Mp (hc:X.calm=true):gx X (.builtin "max") (fun xs H Q=>∃ i j,xs=[.int i,.int j]/\Q (.int (if j > i then j else i)) H):=by
 intro pins s σ H xs us Q I r h
 obtain⟨i,j,rfl,q⟩:=h
 obtain⟨u,w',rfl,⟨t,rfl⟩,⟨t',rfl⟩⟩:=vals2 r
 refine max_two_ints (I.ok.hd hc) fun h' tk k=>⟨_,H,I.kept k,?_,q⟩
 by_cases hj:j > i
 ·rw[XI hj,XI hj];exact⟨_,rfl⟩
 ·rw[Nj hj,Nj hj];exact⟨_,rfl⟩
theorem Mq (hc:X.calm=true):gx X (.builtin "min") (fun xs H Q=>∃ i j,xs=[.int i,.int j]/\Q (.int (if j < i then j else i)) H):=by
 intro pins s σ H xs us Q I r h
 obtain⟨i,j,rfl,q⟩:=h
 obtain⟨u,w',rfl,⟨t,rfl⟩,⟨t',rfl⟩⟩:=vals2 r
 refine min_two_ints (I.ok.hd hc) fun h' tk k=>⟨_,H,I.kept k,?_,q⟩
 by_cases hj:j < i
 ·rw[XI hj,XI hj];exact⟨_,rfl⟩
 ·rw[Nj hj,Nj hj];exact⟨_,rfl⟩
end
structure qa (h:Heap) (x dx C:Addr) (mA:Str->Option Value):Prop where
 obj:h.get? x=some (PySem.W.instObj C dx)
 ns:h.Ns1 dx mA
 ne:dx≠x
theorem Mr {h:Heap} {dx:Addr} {mA:Str->Option Value} (n:h.Ns1 dx mA):∃ od,h.get? dx=some od/\∀ name,PySem.W.lookIn name od=some (mA name):=by
 obtain⟨o,es,ep,ho,hd,hk,_,hm⟩:=n
 refine⟨o,ho,fun name => ?_⟩
 have e:=hm name
 unfold nsFind findBy at e
 rw[<-Array.find?_toList] at e
 unfold PySem.W.lookIn
 rw[hd]
 dsimp only
 split
 ·rename_i y q
  rw[q] at e
  exact congrArg some e
 ·rename_i q
  rw[q] at e
  have a:es.toList.any (·.refKey)=false:=by
   rw[Z0]
   intro y hy
   obtain⟨z,t,zZ⟩:=hk y (q1b.mp hy)
   simp[DictEntry.refKey,zZ]
  have a':¬ es.toList.any (·.refKey)=true:=by rw[a];exact Yo
  rw[Nj a']
  exact congrArg some e
theorem qa.look {h:Heap} {x dx C:Addr} {mA:Str->Option Value} (I:qa h x dx C mA):∃ od,PySem.W.InstAt h x (PySem.W.instObj C dx) C (some od)/\∀ name,PySem.W.lookIn name od=some (mA name) :=
 let ⟨od,ho,hl⟩:=Mr I.ns
 ⟨od,⟨I.obj,rfl,rfl,ho⟩,hl⟩
section
variable {prog:Program} {w:World} {A:Around} {E:Value->Shared->Prop} {s:Shared} {K:PySem.W.Frag} {x dx C f:Addr} {mA:Str->Option Value} {name:Str} {v:Value}
end
section
variable {P:Program} {w:World} {H H':Hp} {h h':Heap} {a C dx:Addr} {fs Li:List (Str × V)}
theorem Ms (aK:dI P w H h) (e:H a=some (.ins C dx fs)):∃ mA,qa h a dx C mA/\(∀ f,iR (fs.lookup f) (mA f))/\PySem.Within mA (fs.map (·.1))/\fs.length <= 1000/\H dx=some (.own a):=by
 obtain⟨d,z,ne,ob,mA,n,r,q⟩:=(show aF P w H h a (.ins C dx fs) from aK a _ e)
 exact⟨mA,⟨ob,n,ne⟩,r,q,z,d⟩
end
structure z_ (K:PySem.W.Frag) (C:Addr):Prop where
 pg:PySem.W.plainGet K C Str.empty=true
 hd:PySem.W.hasDictIn K C=true
 po:PySem.W.plainOver K C=true
 sa:PySem.W.findIn K (.ref C) "__setattr__" = some (some (.builtin "object.__setattr__"))
theorem z_.get {K:PySem.W.Frag} {C:Addr} (c:z_ K C) (f:Str):PySem.W.plainGet K C f=true:=c.pg
section
variable {X:Cx} {pins:List (Addr × Obj)} {σ : St} {H:Hp} {s:Shared} {a C dx:Addr} {fs:List (Str × V)} {f:Str} {v:V} {A:Around} {E:Value->Shared->Prop}
end
section
variable {X:Cx} {o e value:Expr} {f:Str} {pos pos' Aa:Pos} {ta tv:TE}
end
section
variable {X:Cx} {pins:List (Addr × Obj)} {σ : St} {H:Hp} {s:Shared} {A:Around} {E:Value->Shared->Prop} {Q:Value->Shared->Prop} {c:Value} {b:Bool}
inductive dQ (K:PySem.W.Frag) (H:Hp):V->Value->Prop where
 | non:dQ K H .non (.type "NoneType")
 | bl (x:Bool):dQ K H (.bl x) (.type "bool")
 | int (i:Int):dQ K H (.int i) (.type "int")
 | str (x:Str):dQ K H (.str x) (.type "str")
 | flt (x:UInt64):dQ K H (.flt x) (.type "float")
 | lst {a:Addr} {xs:List V} (e:H a=some (.lst xs)):dQ K H (.ref a) (.type "list")
 | frz {a:Addr} {o:Obj} {xs:List V} (e:H a=some (.frz o (.lst xs))):dQ K H (.ref a) (.type "list")
 | tup {a:Addr} {xs:List V} (e:H a=some (.tup xs)):dQ K H (.ref a) (.type "tuple")
 | dK {a:Addr} {kvs:List (Key × V)} (e:H a=some (.dK kvs)):dQ K H (.ref a) (.type "dict")
 | dT {a:Addr} {kvs:List (List Key × V)} (e:H a=some (.dT kvs)):dQ K H (.ref a) (.type "dict")
 | ins {a C dx:Addr} {fs:List (Str × V)} (e:H a=some (.ins C dx fs)) (cl:z_ K C) (ha:PySem.W.findIn K (.ref C) "__class__" = some (some (.builtin "object.__class__")))
   (hn:PySem.W.specialIn K (.builtin "object.__class__") "__get__" = some (some (.builtin "getset_descriptor.__get__"))) (Fg:PySem.W.takesIn K (.builtin "object.__class__")=some true)
   (hm:PySem.W.mroIn K C (.type "object")=some true):dQ K H (.ref a) (.ref C)
theorem Mt {x:V} {u t:Value} (I:Inv X pins σ H s) (rx:RelV x u) (ty:dQ X.K H x t) (e:PySem.W.kitOne X.K t c=some b) (h:∀ tk,Q (.bool b) { s with toks:=tk }) :
  wpAny (model X.prog X.w) A (call (.builtin "isinstance") [u,c]) Q E s:=by
 cases ty with
 | non=>cases (show u=Value.none from rx);exact Zm PySem.W.kitx_none I.iq True.intro e (fun z=>nomatch z) h
 | bl y=>cases (show u=Value.bool y from rx);exact Zm PySem.W.kitx_bool I.iq True.intro e (fun z=>nomatch z) h
 | int i=>obtain⟨t,q⟩:=(show ∃ t,u=Value.int i t from rx);cases q;exact Zm PySem.W.kitx_int I.iq True.intro e (fun z=>nomatch z) h
 | str y=>obtain⟨t,q⟩:=(show ∃ t,u=Value.str y t from rx);cases q;exact Zm PySem.W.kitx_str I.iq True.intro e (fun z=>nomatch z) h
 | flt y=>obtain⟨t,q⟩:=(show ∃ t,u=Value.float y t from rx);cases q;exact Zm PySem.W.kitx_float I.iq True.intro e (fun z=>nomatch z) h
 | @lst a xs ea =>
  cases (show u=Value.ref a from rx)
  obtain⟨_,_,n,_,h1⟩:=(show aF X.prog X.w H s.heap a (.lst xs) from I.aK a _ ea)
  exact Zm PySem.W.kitx_list I.iq ⟨_,h1,rfl⟩ e (fun z=>nomatch z) h
 | @frz a ob xs ea =>
  cases (show u=Value.ref a from rx)
  obtain⟨_,_,_,n,_,h1⟩:=(show aF X.prog X.w H s.heap a (.frz ob (.lst xs)) from I.aK a _ ea)
  exact Zm PySem.W.kitx_list I.iq ⟨_,h1,rfl⟩ e (fun z=>nomatch z) h
 | @tup a xs ea =>
  cases (show u=Value.ref a from rx)
  obtain⟨_,_,_,p⟩:=(show aF X.prog X.w H s.heap a (.tup xs) from I.aK a _ ea)
  obtain⟨o,h1,h2,_⟩:=p
  exact Zm PySem.W.kitx_tuple I.iq ⟨o,h1,h2⟩ e (fun z=>nomatch z) h
 | @dK a kvs ea =>
  cases (show u=Value.ref a from rx)
  obtain⟨_,_,vs,_,p⟩:=(show aF X.prog X.w H s.heap a (.dK kvs) from I.aK a _ ea)
  obtain⟨o,es,ep,h1,h2,_⟩:=p
  exact Zm PySem.W.kitx_dict I.iq ⟨o,h1,h2.1⟩ e (fun z=>nomatch z) h
 | @dT a kvs ea =>
  cases (show u=Value.ref a from rx)
  obtain⟨_,_,xs,_,o,es,ep,h1,h2,_⟩:=(show aF X.prog X.w H s.heap a (.dT kvs) from I.aK a _ ea)
  exact Zm PySem.W.kitx_dict I.iq ⟨o,h1,h2.1⟩ e (fun z=>nomatch z) h
 | @ins a C dx fs ea cl ha hn Fg hm =>
  cases (show u=Value.ref a from rx)
  obtain⟨mA,O,_⟩:=Ms I.aK ea
  obtain⟨od,J,_⟩:=O.look
  exact Zm (PySem.W.kitx_own (cl.get _) cl.hd ha hn Fg hm) I.iq J e (fun z=>nomatch z) h
end
structure bf (k:Nat) (A:Around):Prop where
 hd:A.handled=none
 dp:A.depth + 3 * k + 5 < recursionLimit
 un:A.units + 16 * k + 200 < cLine
theorem bf.mono {j k:Nat} {A:Around} (r:bf k A) (h:j <= k):bf j A:=⟨r.hd,by have:=r.dp;omega,by have:=r.un;omega⟩
theorem bf.deeper {k:Nat} {A:Around} (r:bf (k + 1) A) (env:Env):bf k (A.deeper env) :=
 ⟨r.hd,by have:=r.dp;show A.depth + 1 + 3 * k + 5 < _;omega,by have:=r.un;show A.units + 3 + 16 * k + 200 < _;omega⟩
theorem bf.in1 {k:Nat} {A:Around} (r:bf (k + 1) A):bf k A.in1 :=
 ⟨r.hd,by have:=r.dp;show A.depth + 3 * k + 5 < _;omega,by have:=r.un;show A.units + 1 + 16 * k + 200 < _;omega⟩
theorem bf.depth {k:Nat} {A:Around} (r:bf k A):A.depth < recursionLimit:=by have:=r.dp;omega
theorem bf.units {k:Nat} {A:Around} (r:bf k A):A.units + 64 < cLine:=by have:=r.un;omega
noncomputable def cV:TA:=fun _ H Q=>Q [] H
noncomputable def dR (ta:TE) (tr:TA):TA:=fun σ H Q=>ta σ H fun x H1=>tr σ H1 fun xs H2=>Q (x :: xs) H2
section
variable {X:Cx} {e:Expr} {es:List Expr} {te:TE} {t:TA} {pos:Pos}
theorem Mu:PA X [] cV:=fun _ _ _ _ H Q I h=>Calls.spliced_nil ⟨[],H,I,.nil,h⟩
theorem qb (ha:PE X e te) (hr:PA X es t) (hs:starEach (e :: es) X.env=(false,eval e X.env) :: starEach es X.env:=by rfl):PA X (e :: es) (dR te t):=by
 intro pos pins s σ H Q I h
 rw[hs]
 show wpAny _ _ (spliced ((false,eval e X.env) :: backTo pos (starEach es X.env))) _ _ s
 refine Calls.spliced_cons (aZ (ha pins s σ H _ I h) fun u s1 h0_ => el5 h0_ fun x H1 I1 r1 q1 => ?_)
 exact aZ (hr pos pins s1 σ H1 _ I1 q1) fun us s2 h0_ => el5 h0_ fun xs H2 I2 r2 q2 =>⟨x :: xs,H2,I2,.cons r1 r2,q2⟩
noncomputable def t5 (t:TA):TE:=fun σ H Q=>t σ H fun xs H1=>xs.length <= sizeLine/\∀ p,H1 p=none->Q (.ref p) (upd H1 p (.tup xs))
noncomputable def jD (t:TA):TE:=fun σ H Q=>t σ H fun xs H1=>xs.length <= sizeLine/\∀ p,H1 p=none->Q (.ref p) (upd H1 p (.lst xs))
theorem Mv {x1} (h:PA X es t):PE X (.Tuple es x1 pos) (t5 t):=by
 intro pins s σ H Q I hq
 refine wpAny_Tuple_spliced (aZ (h pos pins s σ H _ I hq) fun us s1 ⟨xs,H1,I1,r,z,q⟩=>⟨by rw[<-r.length];exact z,?_⟩)
 have hf:H1 s1.heap.objs.size=none:=I1.aK.fresh (qq _)
 refine⟨.ref s1.heap.objs.size,upd H1 s1.heap.objs.size (.tup xs),I1.laid (t':=s1.toks) (fun b u e=>ue _ e) (qq _) ?_,rfl,q _ hf⟩
 exact⟨z,us,r,⟨_,XJ _ rfl,rfl,_,rfl⟩⟩
theorem Mw (h:PA X es t):PE X (.List es pos) (jD t):=by
 intro pins s σ H Q I hq
 refine wpAny_List_spliced (aZ (h pos pins s σ H _ I hq) fun us s1 ⟨xs,H1,I1,r,z,q⟩=>⟨by rw[<-r.length];exact z,?_⟩)
 have hf:H1 s1.heap.objs.size=none:=I1.aK.fresh (qq _)
 refine⟨.ref s1.heap.objs.size,upd H1 s1.heap.objs.size (.lst xs),I1.laid (t':=s1.toks) (fun b u e=>ue _ e) (qq _) ?_,rfl,q _ hf⟩
 exact⟨z,us,0,r,XJ _ rfl⟩
end
noncomputable abbrev Sp:=List V->Hp->VK->XK->Prop
noncomputable abbrev jE:=List Env->Hp->Shared->XK->Value->Shared->Prop
structure mZ (P:Program) (w:World) (K:PySem.W.Frag) (mg:Str->Option Value) (base:Heap) (A:Around) (outer:List Env) (s:Shared) (H:Hp):Prop where
 frames:A.frames=some outer
 mod:Mod K mg base
 bs:∀ b o,base.get? b=some o->s.heap.get? b=some o/\H b=none
 ot:base.objs.size <= s.heap.objs.size
 fA:s.heap.FunFrames base outer
 pR:∀ b∈j7 outer,H b=none
 aK:dI P w H s.heap
 bare:AllBare s.gens
noncomputable def CE (outer:List Env) (P:Program) (w:World) (H:Hp) (s:Shared) (Q:VK) (u:Value) (s':Shared):Prop :=
 ∃ v H',s'.os=s.os/\AllBare s'.gens/\Un (j7 outer) [] H H' s.heap s'.heap/\dI P w H' s'.heap/\RelV v u/\Q v H'
noncomputable def CR (CX:jE) (outer:List Env) (P:Program) (w:World) (H:Hp) (s:Shared) (Q:VK) (E:XK) (r:Result) (s':Shared):Prop :=
 match r with
 | .ok (.ret u)=>CE outer P w H s Q u s'
 | .ok _=>False
 | .error e=>CX outer H s E e s'
structure aM (P:Program) (w:World) (K:PySem.W.Frag) (mg:Str->Option Value) (base:Heap) (CX:jE) (k:Nat) (f:Addr) (fd:FuncData) (ps:List Str) (sp:Sp):Prop where
 len:∀ vs H Q E,sp vs H Q E->vs.length=ps.length
 run:∀ (A:Around) (outer:List Env) (s:Shared) (H:Hp) (args:Args) (us:List Value) (vs:List V) (Q:VK) (E:XK),bf k A->mZ P w K mg base A outer s H->BindsTo s fd args (ps.zip us)->Vals vs us->sp vs H Q E →
  codeAny (model P w) A (.call (.ref f) args) (CR CX outer P w H s Q E) s
section
variable {X:Cx} {pins:List (Addr × Obj)} {σ : St} {H:Hp} {s s':Shared}
theorem Inv.t6 (I:Inv X pins σ H s):mZ X.prog X.w X.K X.mg X.base X.A X.stack s H :=
 ⟨I.ok.frames,I.ok.mod,I.bs,Zb I.ok.ot I.sz,I.stack,I.jg,I.aK,I.bare⟩
theorem Inv.after {Q:VK} {u:Value} (I:Inv X pins σ H s) (h:CE X.stack X.prog X.w H s Q u s'):EP X pins σ Q u s':=by
 obtain⟨v,H',os,bare,un,aK,r,q⟩:=h
 obtain⟨hh,g,d,t,tL⟩:=s'
 obtain rfl:tL=s.os:=os
 exact⟨v,H',I.call (h':=hh) (g':=g) (d':=d) (t':=t) (ch:=[]) un aK bare (fun b z=>absurd z (by simp)),r,q⟩
end
noncomputable def qc (sp:Sp) (kW:List V) (E:XK) (t:TA):TE:=fun σ H Q=>t σ H fun vs H1=>sp (vs ++ kW) H1 Q E
noncomputable def Binds (K:PySem.W.Frag) (fd:FuncData) (ps:List Str) (ds:List Value):Prop :=
 ∀ (s:Shared) (us:List Value),K.In s.heap->(us ++ ds).length=ps.length->BindsTo s fd ⟨us,[]⟩ (ps.zip (us ++ ds))
theorem Binds.all {K:PySem.W.Frag} {fd:FuncData} {ps:List Str} (h:∀ us:List Value,us.length=ps.length->bindArgs fd ⟨us,[]⟩=pure (ps.zip us)):Binds K fd ps []:=fun s us _ hl=>by
 rw[ZM] at hl ⊢
 exact .of_eq (h us hl)
noncomputable def wX (CX:jE) (X:Cx) (E:XK):Prop:=∀ (pins:List (Addr × Obj)) (σ : St) (H:Hp) (s:Shared) (e:Value) (s':Shared),Inv X pins σ H s->CX X.stack H s E e s'->X.xe e s'
section
variable {X:Cx} {CX:jE} {k:Nat} {f C:Addr} {fd:FuncData} {ps:List Str} {sp:Sp} {kW:List V} {ds:List Value} {E:XK} {x m:Str} {p pos apos:Pos} {e o:Expr} {es:List Expr} {ta:TE} {t:TA}
theorem Mx {pins:List (Addr × Obj)} {σ : St} {H:Hp} {s:Shared} {Q:VK} {us:List Value} {vs:List V} (F:aM X.prog X.w X.K X.mg X.base CX k f fd ps sp) (hr:bf k X.A) (hb:Binds X.K fd ps ds) (hd:Vals kW ds) (hx:wX CX X E)
  (I:Inv X pins σ H s) (r:Vals vs us) (h:sp (vs ++ kW) H Q E):wpAny (model X.prog X.w) X.A (call (.ref f) us) (EP X pins σ Q) X.xe s:=by
 have r2:Vals (vs ++ kW) (us ++ ds):=r.append hd
 have hl:(us ++ ds).length=ps.length:=by rw[<-r2.length];exact F.len _ _ _ _ h
 refine wpAny_call (q0w (F.run X.A X.stack s H ⟨us,[]⟩ (us ++ ds) (vs ++ kW) Q E hr I.t6 (hb s us I.iq hl) r2 h) fun r s' hq => ?_)
 cases r with
 | error e=>exact hx pins σ H s e s' I hq
 | ok fl =>
  cases fl with
  | ret u=>exact I.after hq
  | next=>exact False.elim hq
  | brk=>exact False.elim hq
  | cont=>exact False.elim hq
theorem Mz (F:aM X.prog X.w X.K X.mg X.base CX k f fd ps sp) (hr:bf k X.A) (hg:Gl X x) (hm:X.mg x=some (.ref f)) (hk:PySem.W.keepIn X.K (.ref f)=true) (hb:Binds X.K fd ps ds) (hd:Vals kW ds) (hx:wX CX X E)
  (ha:PA X (e :: es) t) (g6:(x == ("__debug__" : Str))=false:=by decide) (he:starEach (e :: es) X.env=(false,eval e X.env) :: starEach es X.env:=by rfl) (gH:(backTo pos (starEach es X.env)).any (·.1)=false:=by rfl) :
  PE X (.Call (.Name x p) (e :: es) [] pos) (qc sp kW E t):=by
 intro pins s σ H Q I h
 refine q0J (EX I hg hm ?_ g6)
 refine PySem.W.callWith_K (h₀ := X.base) I.ok.mod.oq hk (aZ (ha pos pins s σ H _ I h) fun us s1 h0_ => el5 h0_ fun vs H1 I1 r q =>⟨I1.iq,?_⟩) he gH
 exact Mx F hr hb hd hx I1 r q
end
section
variable {X:Cx} {CX:jE} {k:Nat} {f C:Addr} {fd:FuncData} {ps ks:List Str} {sp:Sp} {E:XK} {x m:Str} {p pos apos jF:Pos} {e o:Expr} {es:List Expr} {XE:List Keyword} {te ta:TE} {t tk:TA} {nm:Option Str}
variable {g:List Value->List Value->List Value} {gV:List V->List V->List V}
end
structure cA (N P:List Str) (sc:Scope):Prop where
 kind:sc.kind = .function
 co:sc.isCoroutine=false
 gen:sc.isGenerator=false
 nd:N.Nodup
 pre:N.take P.length=P
 par:∀ x∈P,sc.names.lookup x=some .local\/sc.names.lookup x=some .cell
 qd:∀ y∈sc.names,y.2 ≠ .free
theorem Fh {kindOf:Str->Option NameKind} {x:Str}:∀ {binds:List (Str × Value)} {m:Str->Option Value},(∀ v,(x,v)∉binds)->bindL kindOf binds m x=m x
 | [],_,_=>rfl
 | (n,v) :: r,m,h=>by
  unfold bindL
  rw[Fh fun w hw=>h w (My _ hw)]
  split
  ·have:x≠n:=by rintro rfl;exact h v FN
   simp[this]
  ·rfl
theorem Fi {kindOf:Str->Option NameKind} {x:Str}:∀ {binds:List (Str × Value)} {m:Str->Option Value},(∀ v,(x,v)∉binds)->bindC kindOf binds m x=m x
 | [],_,_=>rfl
 | (n,v) :: r,m,h=>by
  unfold bindC
  rw[Fi fun w hw=>h w (My _ hw)]
  split
  ·rfl
  ·have:x≠n:=by rintro rfl;exact h v FN
   simp[this]
theorem Fj {kindOf:Str->Option NameKind} {x:Str} {v:Value}:∀ {P:List Str} {vs:List Value} {i:Nat} {m:Str->Option Value},P.Nodup->P[i]? = some x->vs[i]? = some v->kindOf x=some .local →
  bindL kindOf (P.zip vs) m x=some v
 | [],_,_,_,_,h,_,_=>by simp at h
 | _ :: _,[],_,_,_,_,h,_=>by simp at h
 | p :: P,w :: vs,0,m,nd,h1,h2,hk=>by
  simp at h1 h2;subst h1;subst h2
  show bindL kindOf ((p,w) :: P.zip vs) m p=_
  unfold bindL
  rw[Fh fun v hv=>(q0m.mp nd).1 (q15 hv).1,XI hk]
  simp
 | p :: P,w :: vs,i + 1,m,nd,h1,h2,hk=>by
  show bindL kindOf ((p,w) :: P.zip vs) m x=_
  unfold bindL
  exact Fj (i:=i) (q0m.mp nd).2 (by simpa using h1) (by simpa using h2) hk
theorem Fl {kindOf:Str->Option NameKind} {x:Str} {v:Value}:∀ {P:List Str} {vs:List Value} {i:Nat} {m:Str->Option Value},P.Nodup->P[i]? = some x->vs[i]? = some v->kindOf x≠some .local →
  bindC kindOf (P.zip vs) m x=some v
 | [],_,_,_,_,h,_,_=>by simp at h
 | _ :: _,[],_,_,_,_,h,_=>by simp at h
 | p :: P,w :: vs,0,m,nd,h1,h2,hk=>by
  simp at h1 h2;subst h1;subst h2
  show bindC kindOf ((p,w) :: P.zip vs) m p=_
  unfold bindC
  rw[Fi fun v hv=>(q0m.mp nd).1 (q15 hv).1,Nj hk]
  simp
 | p :: P,w :: vs,i + 1,m,nd,h1,h2,hk=>by
  show bindC kindOf ((p,w) :: P.zip vs) m x=_
  unfold bindC
  exact Fl (i:=i) (q0m.mp nd).2 (by simpa using h1) (by simpa using h2) hk
noncomputable def start (N:List Str) (vs:List V):St:=vs.map some ++ List.replicate (N.length - vs.length) none
noncomputable def gy (CX:jE) (P:Program) (w:World) (K:PySem.W.Frag) (mg:Str->Option Value) (base:Heap) (N:List Str) (qual:Str) (scope:Scope) (f:Addr) (cd:Value) (A:Around) (outer:List Env) (s:Shared) (H:Hp) (E:XK):Cx where
 prog:=P
 w:=w
 K:=K
 mg:=mg
 base:=base
 A:=A.deeper (envOfC qual scope s.heap.objs.size f cd)
 N:=N
 s₀ := s
 H₀ := H
 env:=envOfC qual scope s.heap.objs.size f cd
 outer:=outer
 stack:=envOfC qual scope s.heap.objs.size f cd :: outer
 ex:=[]
 calm:=true
 fn:=fun _=>true
 pn:=[]
 xe:=fun e s'=>wpAny (model P w) (A.deeper (envOfC qual scope s.heap.objs.size f cd)) (leaving (envOfC qual scope s.heap.objs.size f cd) e) (fun _ iT=>CX outer H s E e iT) (fun e' iT=>CX outer H s E e' iT) s'
theorem Fm {sc:Scope} {n:Nat} {x:Str} (h:sc.names.lookup x=some .cell):∃ c,(cellsFrom n sc.names []).lookup x=some c:=by
 have q:=q0W sc.names n [] (.inl h)
 exact q0D.mp q
theorem MA {CX:jE} {P:Program} {w:World} {K:PySem.W.Frag} {mg:Str->Option Value} {base:Heap} {N ps:List Str} {qual:Str} {scope:Scope} {f:Addr} {cd:Value} {A:Around} {outer:List Env} {s s1:Shared} {H:Hp} {E:XK} {us:List Value} {vs:List V}
  (S:cA N ps scope) (hd:A.handled=none) (e0:mZ P w K mg base A outer s H) (hl:vs.length=ps.length) (r:Vals vs us)
  (x:InCallC s s.heap.objs.size (bindL (envOfC qual scope s.heap.objs.size f cd).kindOf (ps.zip us) fun _=>none) (cellsFrom (s.heap.objs.size + 1) scope.names []) (bindC (envOfC qual scope s.heap.objs.size f cd).kindOf (ps.zip us) fun _=>none) s1) :
  Inv (gy CX P w K mg base N qual scope f cd A outer s H E) [] (start N vs) H s1:=by
 have gH:ps.length <= N.length:=by have:=congrArg List.length S.pre;rw[YD] at this;omega
 obtain⟨h1,tk,rfl,hk⟩:=x.done
 have m8:∀ b:Addr,b∉(gy CX P w K mg base N qual scope f cd A outer s H E).ex:=fun b z=>absurd (show b∈([]:List Addr) from z) (by simp)
 refine⟨⟨e0.mod,S.kind,rfl,rfl,qq _,fun y z c h1 h2 => ?_,fun y hy => ?_,fun y c _ h => ?_,fun _=>hd,Around.frames_deeper e0.frames,.inr ⟨rfl,rfl⟩,fun b z=>absurd z (m8 b),e0.bs,e0.ot,fun b _ _=>m8 b,fun b z=>absurd z (m8 b),e0.fA,e0.pR⟩,
  rfl,e0.bare,Un.kept hk,⟨_,x.toInCall.ns,fun i y v h1 h2 h3 => ?_⟩,fun y c h=>⟨_,x.cell y c h⟩,e0.aK.fresh (qq _),fun y c h => ?_,fun p hp=>absurd (show p∈([]:List (Addr × Obj)) from hp) (by simp),e0.aK.kept hk,?_⟩
 ·exact name_of_addr x.apart (Zf h1) (Zf h2)
 ·have hy:scope.names.lookup y=some .cell\/scope.names.lookup y=some .free:=hy
  rcases hy with hy | hy
  ·exact Fm hy
  ·exact absurd rfl (S.qd _ (Zf hy))
 ·exact Zp (x.above y c (Zf h))
 ·have hi:i < vs.length:=by
   unfold start at h2
   by_cases hi:i < vs.length
   ·exact hi
   ·rw[Yi (by simpa using hi)] at h2
    rw[q0L] at h2
    split at h2<;>cases h2
  have ha:vs[i]? = some v:=by
   unfold start at h2
   rw[XO (by simpa using hi),Ni] at h2
   cases e:vs[i]? with
   | none=>rw[e] at h2;cases h2
   | some a=>rw[e] at h2;cases h2;rfl
  obtain⟨u,hu,rv⟩:=r.get ha
  have hp:ps[i]? = some y:=by
   rw[<-S.pre,YQ (by omega)];exact h1
  have Fo:ps.Nodup:=by rw[<-S.pre];exact S.nd.sublist (List.take_sublist _ _)
  refine⟨u,rv,?_⟩
  rcases S.par y (YO hp) with k | k
  ·exact .inl ⟨k,Fj Fo hp hu k⟩
  ·obtain⟨c,e⟩:=Fm (n:=s.heap.objs.size + 1) k
   refine .inr ⟨.inl k,c,e,?_⟩
   have q:=x.cell y c e
   rw[Fl Fo hp hu (by show scope.names.lookup y≠_;rw[k];decide)] at q
   exact q
 ·exact e0.aK.fresh (Zp (x.above y c (Zf h)))
 ·unfold start
  show _=N.length
  rw[Aw,qp,q01]
  omega
theorem Fp {CX:jE} {P:Program} {w:World} {K:PySem.W.Frag} {mg:Str->Option Value} {base:Heap} {k:Nat} {f:Addr} {name qual:Str} {params:Arguments} {body:List Stmt} {scope:Scope} {dV kV doc pm a0 ct oc:Value} {an od:Option Addr}
  {m9:Array (Option Value)} {N ps:List Str} {sp:Sp} (lk:K.lookup f=some ⟨oc,od,.func (PySem.W.fnOf name qual params body scope dV kV doc pm an a0 ct),m9⟩) (fR:PySem.W.codeIn K a0 qual=true) (S:cA N ps scope)
  (len:∀ vs H Q E,sp vs H Q E->vs.length=ps.length)
  (dS:∀ (A:Around) (outer:List Env) (s:Shared) (H:Hp) (vs:List V) (Q:VK) (E:XK),bf k (A.deeper (envOfC qual scope s.heap.objs.size f a0))->sp vs H Q E →
   ∃ t,h9 (gy CX P w K mg base N qual scope f a0 A outer s H E) body t/\t { nx:=fun _ H'=>Q .non H',rt:=Q } (start N vs) H) :
  aM P w K mg base CX (k + 1) f (PySem.W.fnOf name qual params body scope dV kV doc pm an a0 ct) ps sp:=by
 refine⟨len,fun A outer s H args us vs Q E hr e0 hb r oB => ?_⟩
 have hl:=len _ _ _ _ oB
 have KX:K.In s.heap:=e0.mod.oq.keeps fun b o e=>(e0.bs b o e).1
 have lim:s.heap.NoLimit:=e0.mod.nolimit.keeps fun b o e=>(e0.bs b o e).1
 have t7:∀ y∈ps.zip us,scope.names.lookup y.1=some .local\/(scope.names.lookup y.1=some .cell/\((cellsFrom (s.heap.objs.size + 1) scope.names []).lookup y.1).isSome=true):=fun ⟨n,v⟩ hy=>by
  rcases S.par n (q15 hy).1 with q | q
  ·exact .inl q
  ·exact .inr ⟨q,q0W _ _ _ (.inl q)⟩
 refine codeAny_call_function hr.depth (KX _ _ lk) rfl S.co S.gen rfl (PySem.W.codeRec_of KX fR) (hb _ _ _ _ ?_)
 refine wpAny_newFunctionEnv_cells S.kind t7 fun env he s1 x => ?_
 subst he
 refine⟨lim.keeps x.toInCall.keep,codeAny_func ?_⟩
 obtain⟨t,ht,hq⟩:=dS A outer s H vs Q E (hr.deeper _) oB
 have I:Inv (gy CX P w K mg base N qual scope f a0 A outer s H E) [] (start N vs) H s1:=MA S hr.hd e0 hl r x
 refine Z3 (ht [] s1 (start N vs) H _ I hq) (fun fl s' hs => ?_) fun e s' hs=>hs
 have fin:∀ {σ':St} {H':Hp} {v:V} {u:Value},Inv (gy CX P w K mg base N qual scope f a0 A outer s H E) [] σ' H' s'->RelV v u->Q v H'->CE outer P w H s Q u s' :=
  fun {σ' H' v u} J rv q=>⟨v,H',J.os,J.bare,J.base,J.aK,rv,q⟩
 cases fl with
 | ret u =>
  obtain⟨v,σ',H',J,rv,q⟩:=hs
  exact fin J rv q
 | next =>
  obtain⟨σ',H',J,q⟩:=hs
  exact fin (v:=V.non) (u:=Value.none) J rfl q
 | brk =>
  obtain⟨_,_,_,q⟩:=hs
  exact False.elim q
 | cont =>
  obtain⟨_,_,_,q⟩:=hs
  exact False.elim q
section
variable {X:Cx} {x:Str} {p pos:Pos} {e:Expr} {es:List Expr} {t:TA} {id T:String} {r:List V->Hp->VK->Prop}
noncomputable def si (r:List V->Hp->VK->Prop) (t:TA):TE:=fun σ H Q=>t σ H fun vs H1=>r vs H1 Q
theorem MB (hc:gx X (.builtin id) r) (hg:Gl X x) (hm:X.mg x=none) (hv:bootBuiltins x=some (.builtin id)) (ha:PA X (e :: es) t) (hn:x ≠ "__name__" := by decide) (g6:(x == ("__debug__" : Str))=false:=by decide)
  (he:starEach (e :: es) X.env=(false,eval e X.env) :: starEach es X.env:=by rfl) (gH:(backTo pos (starEach es X.env)).any (·.1)=false:=by rfl):PE X (.Call (.Name x p) (e :: es) [] pos) (si r t):=by
 intro pins s σ H Q I h
 refine q0J (mS I hg hm hv ?_ hn g6)
 exact PyProof.Rows.callWith_builtin1 (aZ (ha pos pins s σ H _ I h) fun us s1 h0_ => el5 h0_ fun vs H1 I1 r1 q1 =>hc pins s1 σ H1 vs us Q I1 r1 q1) he gH
theorem MC (hc:gx X (.type T) r) (hg:Gl X x) (hm:X.mg x=none) (hv:bootBuiltins x=some (.type T)) (ha:PA X (e :: es) t) (hn:x ≠ "__name__" := by decide) (g6:(x == ("__debug__" : Str))=false:=by decide)
  (he:starEach (e :: es) X.env=(false,eval e X.env) :: starEach es X.env:=by rfl) (gH:(backTo pos (starEach es X.env)).any (·.1)=false:=by rfl):PE X (.Call (.Name x p) (e :: es) [] pos) (si r t):=by
 intro pins s σ H Q I h
 refine q0J (mS I hg hm hv ?_ hn g6)
 exact Zk (aZ (ha pos pins s σ H _ I h) fun us s1 h0_ => el5 h0_ fun vs H1 I1 r1 q1 =>hc pins s1 σ H1 vs us Q I1 r1 q1) he gH
end
end L2
namespace HT
open PySem PyProof.Rows
noncomputable def lexLt:List Int->List Int->Bool
 | [],[]=>false
 | [],_ :: _=>true
 | _ :: _,[]=>false
 | x :: xs,y :: ys=>if x=y then lexLt xs ys else decide (x < y)
theorem m_ (x y:Int) (xs ys:List Int):lexLt (x :: xs) (y :: ys)=if x=y then lexLt xs ys else decide (x < y):=rfl
theorem MD:lexLt [] []=false:=rfl
theorem ME (y:Int) (ys:List Int):lexLt [] (y :: ys)=true:=rfl
theorem MF (x:Int) (xs:List Int):lexLt (x :: xs) []=false:=rfl
theorem MG (A:Around) (s:Shared) (a:Int) (t:Tok) (c:Int) (u:Tok):∃ e,SeqAt.EqAt A s (.int a t) (.int c u) e/\(e=true↔a=c) :=
 ⟨(a == c),SeqAt.EqAt.int_int a t c u,by simp⟩
theorem MH (A:Around) (s:Shared) (a:Int) (t:Tok) (c:Int) (u:Tok) (prog:Program) (w:World) (E:Value->Shared->Prop) (Q:Value->Shared->Prop) (h:Q (.bool (decide (a < c))) s) :
  wpAny (model prog w) A (richCompare .Lt (.int a t) (.int c u)) Q E s :=
 (q1h h:wpAny (model prog w) A (compareOp .Lt (.int a t) (.int c u)) Q E s)
section
open PySem.SeqAt
open PySem.AutoSeq1 (wpAny_loadPart')
open PySem.MeetsSeq PySem.MeetsSeq2 PySem.MeetsSeq3
theorem MI (l b:Addr) (items b_:Array Value) (n n2:Nat) (dd oC:Option Addr) (sl oD:Array (Option Value)) (ns ms:List Int) (hi:IntsAre items.toList ns) (hj:IntsAre b_.toList ms) :
  Meets (Builtin.«tuple.__lt__» ⟨[.ref l,.ref b],[]⟩)
   (fun _ R s=>s.heap.get? l=some { cls := .type "tuple",dict:=dd,data := .seq items n,slots:=sl }/\s.heap.get? b=some { cls := .type "tuple",dict:=oC,data := .seq b_ n2,slots:=oD } ∧
    R (.ok (.ret (.bool (lexLt ns ms)))) s) :=
 .of_wp fun prog w A R s h=>by
  obtain⟨hp,g,d,tk,os⟩:=s;obtain⟨hl,hb,h⟩:=h
  have f2:=AutoSeq1.sub_tuple_tuple
  have z1:items.size=ns.length:=by rw[<-hi.length];simp
  have z2:b_.size=ms.length:=by rw[<-hj.length];simp
  wp_walk using ZN hl,ZN hb,q07 _ (fun rest b s'=>b.1=none/\s'=⟨hp,g,d,tk,os⟩/\∃ (vs ws:List Value) (eN sj:List Int),rest=vs.zip ws ∧
   IntsAre vs eN/\IntsAre ws sj/\eN.length + b_.size=sj.length + items.size/\R (.ok (.ret (.bool (lexLt eN sj)))) ⟨hp,g,d,tk,os⟩) _
  case turn =>
   rintro ⟨y,x⟩ rest b s' ⟨dJ,rfl,vs,ws,eN,sj,hz,Ab,wY,hlen,hR⟩
   cases Ab with
   | nil=>rw[q0X] at hz;cases hz
   | cons a t Ac =>
    cases wY with
    | nil=>rw[List.zip_nil_right] at hz;cases hz
    | cons c u Ad =>
     rw[q0k] at hz
     injection hz with MJ t8
     injection MJ with hy hx
     subst hy hx
     rw[m_] at hR
     simp only[FL] at hlen
     obtain⟨e,he,t9⟩:=MG A.in1 ⟨hp,g,d,tk,os⟩ a t c u
     refine nq (he prog w _ _ ?_)
     cases e with
     | true =>
      rw[XI (t9.mp rfl)] at hR
      wp_walk
      exact⟨rfl,rfl,_,_,_,_,t8,Ac,Ad,by omega,hR⟩
     | false =>
      rw[Nj (fun q=>absurd (t9.mpr q) Yo)] at hR
      have MK:=MH A.in1 ⟨hp,g,d,tk,os⟩ a t c u prog w
      wp_walk using MK
      exact⟨_,rfl,by simpa using hR⟩
  case fin =>
   rintro ⟨b1,b2⟩ s' ⟨dJ,rfl,vs,ws,eN,sj,hz,Ab,wY,hlen,hR⟩
   simp only at dJ
   subst dJ
   have hv:lexLt eN sj=decide (items.size < b_.size):=by
    cases Ab with
    | nil =>
     cases wY with
     | nil =>
      simp only[q0n] at hlen
      rw[MD]
      exact (Yz (by omega)).symm
     | cons c u hw =>
      simp only[q0n,FL] at hlen
      rw[ME]
      exact (Yk (by omega)).symm
    | cons a t hv =>
     cases wY with
     | nil =>
      simp only[q0n,FL] at hlen
      rw[MF]
      exact (Yz (by omega)).symm
     | cons c u hw =>
      rw[q0k] at hz
      cases hz
   rw[hv] at hR
   wp_walk
   exact⟨_,rfl,by simpa [Builtin.Tuple.tupleCompareSizes] using hR⟩
  case h =>
   exact⟨rfl,rfl,items.toList,b_.toList,ns,ms,rfl,hi,hj,by omega,h⟩
end
section
variable {prog:Program} {w:World} {A:Around} {E:Value->Shared->Prop} {s:Shared}
theorem Ae {l b:Addr} {items b_:Array Value} {ns ms:List Int} {Q:Value->Shared->Prop} (hl:IsTup s.heap l items) (hb:IsTup s.heap b b_) (hi:IntsAre items.toList ns) (hj:IntsAre b_.toList ms)
  (hu:A.units < cLine) (h:Q (.bool (lexLt ns ms)) s):wpAny (model prog w) A (compareOp .Lt (.ref l) (.ref b)) Q E s:=by
 obtain⟨⟨cls,dd,data,sl⟩,ho,hc,n,hd⟩:=id hl
 obtain⟨⟨t_,oC,data2,oD⟩,gq,j9,n2,hd2⟩:=id hb
 simp only at hc hd j9 hd2
 subst hc hd j9 hd2
 exact richCompare_meets_room (op := .Lt) ⟨_,ho,rfl⟩ ⟨_,gq,rfl⟩ PySem.F.slot_tuple_lt PySem.F.entry_tuple_lt (PySem.F.args_tuple_lt_2 _ _) (MI l b items b_ n n2 dd oC sl oD ns ms hi hj)
  ⟨ho,gq,show Value.bool (lexLt ns ms)≠Value.notImplemented/\Q (.bool (lexLt ns ms)) s from ⟨(fun x=>nomatch x),h⟩⟩ hu
theorem ML {t b:Addr} {vs ws:List Value} {Q:Value->Shared->Prop} (ht:IsTup s.heap t vs.toArray) (hb:IsTup s.heap b ws.toArray) (hv:vs≠[])
  (h1:ws=[]->Q (.ref t) s) (h2:ws≠[]->Q (.ref s.heap.objs.size) { s with heap:=s.heap.push { cls := .type "tuple",data := .seq (vs ++ ws).toArray } })
  (hsz:vs.length + ws.length <= sizeLine):wpAny (model prog w) A (binaryOp .Add (.ref t) (.ref b)) Q E s:=by
 obtain⟨⟨cls,dd,data,sl⟩,ho,hc,n,hd⟩:=id ht
 obtain⟨⟨t_,oC,data2,oD⟩,gq,j9,n2,hd2⟩:=id hb
 simp only at hc hd j9 hd2
 subst hc hd j9 hd2
 have e:vs.toArray ++ ws.toArray=(vs ++ ws).toArray:=by simp
 by_cases hw:ws=[]
 ·exact concat_meets ⟨_,ho,rfl⟩ ⟨_,gq,rfl⟩ noFill_tuple_add seq_tuple_add q0Y q0M (q0E _ _)
   (tuple_addW1 t b vs.toArray ws.toArray n n2 dd oC sl oD (by simpa using hv) (by simp[hw])) ⟨ho,gq,h1 hw⟩
 ·refine concat_meets ⟨_,ho,rfl⟩ ⟨_,gq,rfl⟩ noFill_tuple_add seq_tuple_add q0Y q0M (q0E _ _)
   (tuple_addW2 t b vs.toArray ws.toArray n n2 dd oC sl oD (by simpa using hv) (by simpa using hw) (by rw[xb,xb];exact hsz)) ⟨ho,gq,?_⟩
  rw[e]
  exact h2 hw
noncomputable def aX (n d:Nat):Option Int->Nat
 | none=>d
 | some v=>if v < 0 then (v + (n:Int)).toNat else min v.toNat n
theorem Fq (n d:Nat):aX n d none=d:=rfl
theorem wZ (n d k:Nat):aX n d (some (k:Int))=min k n:=by
 show (if (k:Int) < 0 then ((k:Int) + (n:Int)).toNat else min (k:Int).toNat n)=min k n
 rw[Nj (by omega),Yv]
theorem MM (n d:Nat) (hd:d <= n) (o:Option Int):aX n d o <= n:=by
 cases o with
 | none=>exact hd
 | some v =>
  show (if v < 0 then (v + (n:Int)).toNat else min v.toNat n) <= n
  by_cases hv:v < 0
  ·rw[XI hv];omega
  ·rw[Nj hv];exact Nat.min_le_right _ _
theorem Fs (v:Int) (n d:Nat):(if v < 0 then max (v + (n:Int)) 0 else min v (n:Int))=((aX n d (some v):Nat):Int):=by
 show (if v < 0 then max (v + (n:Int)) 0 else min v (n:Int))=(((if v < 0 then (v + (n:Int)).toNat else min v.toNat n):Nat):Int)
 by_cases hv:v < 0
 ·simp only[XI hv];omega
 ·simp only[Nj hv];omega
theorem MN (lo hi:Option Int) (n:Nat):Builtin.Slice.sliceAdjust lo hi 1 (n:Int)=(((aX n 0 lo:Nat):Int),((aX n n hi:Nat):Int)):=by
 have h1:¬ ((1:Int) < 0):=by omega
 unfold Builtin.Slice.sliceAdjust
 simp only[h1,Y1]
 refine Prod.ext ?_ ?_
 ·cases lo with
  | none=>rfl
  | some v=>exact Fs v n 0
 ·cases hi with
  | none=>rfl
  | some v=>exact Fs v n n
theorem MO (i j:Nat):Builtin.Slice.slicePlaces (i:Int) (j:Int) 1=j - i:=by
 unfold Builtin.Slice.slicePlaces
 have h1:(1:Int) > 0:=by omega
 simp only[h1,Z9,Int.ediv_one]
 split<;>omega
theorem Ft {v:Value} {o:Option Int} {Q:Option Int->Shared->Prop} (p:IsPart v o) (h:Q o s):wpAny (model prog w) A (Builtin.Slice.slicePartIndex v) Q E s:=by
 cases p with
 | none=>exact slicePart_none h
 | int i t=>exact slicePart_int h
theorem Fu {sl:Addr} {vl vu:Value} {lo hi:Option Int} {n:Nat} {Q:Int × Int × Nat->Shared->Prop} (hs:s.heap.IsSliceOf sl vl vu .none) (pl:IsPart vl lo) (pu:IsPart vu hi)
  (h:Q (((aX n 0 lo:Nat):Int),1,aX n n hi - aX n 0 lo) s):wpAny (model prog w) A (Builtin.Slice.sliceApplied (.ref sl) (pure (n:Int))) Q E s:=by
 obtain⟨os,qe,sk,ua⟩:=id hs
 unfold Builtin.Slice.sliceApplied Builtin.Slice.sliceFields
 refine nq (nq (q0N qe ua (x:=vl) rfl (nq (q0N qe ua (x:=vu) rfl (nq (q0N qe ua (x := .none) rfl (xa ?_)))))))
 refine nq (slicePart_none ?_)
 show wpAny _ _ (if ((1:Int) == 0)=true then _ else _) _ _ s
 rw[Nj (by decide)]
 refine nq (Ft pl (nq (Ft pu (nq (xa ?_)))))
 show wpAny _ _ (match Builtin.Slice.sliceAdjust lo hi 1 (n:Int) with | (lo,hi)=>pure (lo,(1:Int),Builtin.Slice.slicePlaces lo hi 1)) _ _ s
 rw[MN lo hi n]
 show wpAny _ _ (pure (((aX n 0 lo:Nat):Int),(1:Int),Builtin.Slice.slicePlaces ((aX n 0 lo:Nat):Int) ((aX n n hi:Nat):Int) 1)) _ _ s
 rw[MO]
 exact xa h
theorem MP (xs:Array Value) (i k:Nat):((List.range k).filterMap fun (m:Nat)=>xs[((i:Int) + (m:Int) * 1).toNat]?).toArray=((xs.toList.drop i).take k).toArray:=by
 have e:(fun (m:Nat)=>xs[((i:Int) + (m:Int) * 1).toNat]?)=fun m=>xs[i + m]? := by
  funext m
  have:((i:Int) + (m:Int) * 1).toNat=i + m:=by omega
  rw[this]
 rw[e]
 have:=pick_run xs i k
 rw[List.filterMap_map] at this
 have e2:((fun x=>xs[x]?) ∘ fun x=>i + x)=fun m=>xs[i + m]? := rfl
 rw[e2] at this
 rw[this]
theorem MQ {t sl:Addr} {items:Array Value} {vl vu:Value} {lo hi:Option Int} {Q:Value->Shared->Prop} (ht:IsTup s.heap t items) (hs:s.heap.IsSliceOf sl vl vu .none) (pl:IsPart vl lo) (pu:IsPart vu hi)
  (hw:¬ (aX items.size 0 lo=0/\aX items.size items.size hi=items.size))
  (h:Q (.ref s.heap.objs.size) { s with heap:=s.heap.push { cls := .type "tuple",data := .seq ((items.toList.drop (aX items.size 0 lo)).take (aX items.size items.size hi - aX items.size 0 lo)).toArray } })
  (hsz:items.size <= sizeLine):wpAny (model prog w) A (getItem (.ref t) (.ref sl)) Q E s:=by
 have jj:sizeOk (.seq ((items.toList.drop (aX items.size 0 lo)).take (aX items.size items.size hi - aX items.size 0 lo)).toArray):=by
  show ((items.toList.drop (aX items.size 0 lo)).take (aX items.size items.size hi - aX items.size 0 lo)).toArray.size <= sizeLine
  rw[xb,YD,ZP,FO]
  omega
 have hj:aX items.size items.size hi <= items.size:=MM _ _ (qq _) hi
 obtain⟨os,qe,sk,ua⟩:=id hs
 have Af:s.TypeIs (.ref sl) "slice" := ⟨os,qe,sk⟩
 unfold getItem
 try with_reducible refine YE ?_
 first | refine nq (xa ?_) | skip
 refine nq (wpAny_sequenceKey ht.typeIs (by decide) ?_)
 refine nq (ZA (name:=Str.ofString "__getitem__") ht.typeIs YX
  (Zr YX ht.typeIs entry_tuple_getitem ?_ (args_tuple_getitem _ _)))
 show wpAny _ _ (Builtin.Tuple.tupleItemsOf (.ref t) >>= _) _ _ s
 refine nq (tupleItemsOf_ ht ?_)
 refine nq (q0V Af ?_)
 rw[XI (by decide)]
 refine nq (Fu hs pl pu ?_)
 have MR:¬ ((((aX items.size 0 lo:Nat):Int) == 0 && (1:Int) == 1 && (aX items.size items.size hi - aX items.size 0 lo) == items.size)=true):=by
  intro q
  rw[YI,YI] at q
  have q1:((aX items.size 0 lo:Nat):Int)=0:=Zd q.1.1
  have q2:aX items.size items.size hi - aX items.size 0 lo=items.size:=Zd q.2
  exact hw ⟨by omega,by omega⟩
 show wpAny _ _ (if (((aX items.size 0 lo:Nat):Int) == 0 && (1:Int) == 1 && (aX items.size items.size hi - aX items.size 0 lo) == items.size)=true then _ else _) _ _ s
 rw[Nj MR,MP]
 first
  | exact nq (m:=Builtin.Tuple.tupleExact _) (Y4 (xa ⟨_,rfl,xa h⟩) jj)
  | exact nq (m:=Builtin.Tuple.tupleExact _) (Y4 (nq (xa (xa ⟨_,rfl,xa h⟩))) jj)
  | exact nq (nq (m:=Builtin.Tuple.tupleExact _) (Y4 (xa (xa ⟨_,rfl,xa h⟩)) jj))
  | exact nq (nq (m:=Builtin.Tuple.tupleExact _) (Y4 (xa ⟨_,rfl,xa h⟩) jj))
end
end HT
namespace L2
open PySem PySem.Spec PyProof.Rows
noncomputable abbrev TO:=St->Hp->(Option Int->Hp->Prop)->Prop
noncomputable def PO (X:Cx) (e:Option Expr) (t:TO):Prop :=
 ∀ (pins:List (Addr × Obj)) (s:Shared) (σ : St) (H:Hp) (Q:Option Int->Hp->Prop),Inv X pins σ H s->t σ H Q →
  wpAny (model X.prog X.w) X.A (evalPart e X.env) (fun u s'=>∃ o H',Inv X pins σ H' s'/\IsPart u o/\Q o H') X.xe s
noncomputable def MS:TO:=fun _ H Q=>Q none H
noncomputable def MT (t:TE):TO:=fun σ H Q=>t σ H fun x H1=>∃ i,x = .int i/\Q (some i) H1
theorem intsAre_of {ns:List Int}:∀ {us:List Value},Vals (ns.map V.int) us->IntsAre us ns:=by
 induction ns with
 | nil=>intro us r;rw[Z4] at r;cases r;exact .nil
 | cons n ns ih =>
  intro us r
  rw[Yt] at r
  cases r with
  | cons r1 r2 =>
   obtain⟨t,e⟩:=r1
   subst e
   exact .cons n t (ih r2)
section
variable {X:Cx} {e:Expr} {te:TE} {lo hi:Option Expr} {tl th:TO} {pos p2:Pos}
theorem Fv:PO X none MS:=by
 intro pins s σ H Q I h
 rw[evalPart_none]
 exact xa ⟨none,H,I,.none,h⟩
theorem w_ (h:PE X e te):PO X (some e) (MT te):=by
 intro pins s σ H Q I hw
 rw[evalPart_some]
 refine aZ (h pins s σ H _ I hw) fun u s1 h0_ => el5 h0_ fun x H1 I1 r1 q1 => ?_
 obtain⟨i,rfl,q⟩:=q1
 obtain⟨t,rfl⟩:=r1
 exact⟨some i,H1,I1,.int i t,q⟩
noncomputable def nh (X:Cx) (r:V->Option Int->Option Int->Hp->VK->Prop):Prop :=
 ∀ (pins:List (Addr × Obj)) (s:Shared) (σ : St) (H:Hp) (x:V) (v vl vu:Value) (lo hi:Option Int) (sl:Addr) (Q:VK),Inv X pins σ H s->RelV x v->s.heap.IsSliceOf sl vl vu .none->IsPart vl lo->IsPart vu hi->r x lo hi H Q →
  ∃ T id,typeLookup (.type T) "__getitem__" = pure (some (.builtin id))/\s.TypeIs v T/\wpAny (model X.prog X.w) X.A (getItem v (.ref sl)) (EP X pins σ Q) X.xe s
theorem nh.or {r r':V->Option Int->Option Int->Hp->VK->Prop} (h:nh X r) (h':nh X r'):nh X (fun x lo hi H Q=>r x lo hi H Q\/r' x lo hi H Q):=by
 intro pins s σ H x v vl vu lo hi sl Q I rx hs pl pu q
 rcases q with q | q
 ·exact h pins s σ H x v vl vu lo hi sl Q I rx hs pl pu q
 ·exact h' pins s σ H x v vl vu lo hi sl Q I rx hs pl pu q
noncomputable def Fw (r:V->Option Int->Option Int->Hp->VK->Prop) (te:TE) (tl th:TO):TE:=fun σ H Q=>te σ H fun x H1=>tl σ H1 fun l H2=>th σ H2 fun u H3=>r x l u H3 Q
theorem MU {r:V->Option Int->Option Int->Hp->VK->Prop} (hr:nh X r) (he:PE X e te) (hl:PO X lo tl) (hu:PO X hi th):PE X (.Subscript e (.Slice lo hi none p2) pos) (Fw r te tl th):=by
 intro pins s σ H Q I h
 refine Subscript_ (aZ (he pins s σ H _ I h) fun v s1 h0_ => el5 h0_ fun x H1 I1 r1 q1 => ?_)
 refine wpAny_Slice (aZ (hl pins s1 σ H1 _ I1 q1) fun vl s2 h0_ => el5 h0_ fun l H2 I2 pl q2 =>aZ (hu pins s2 σ H2 _ I2 q2) fun vu s3 h0_ => el5 h0_ fun u H3 I3 pu q3 => ?_)
 rw[evalPart_none]
 refine xa ?_
 have I4:Inv X pins σ H3 { s3 with heap:=s3.heap.push { cls := .type "slice",data := .fields #[vl,vu,.none] } }:=I3.kept (t':=s3.toks) fun b ob q=>ue _ q
 obtain⟨T,id,hT,ht,hg⟩:=hr pins { s3 with heap:=s3.heap.push { cls := .type "slice",data := .fields #[vl,vu,.none] } } σ H3 x v vl vu l u s3.heap.objs.size Q I4 r1 (Heap.IsSliceOf.new ..) pl pu q3
 show wpAny (model X.prog X.w) X.A (subscriptTail e (.Slice lo hi none p2) v (.ref s3.heap.objs.size)) (EP X pins σ Q) X.xe { s3 with heap:=s3.heap.push { cls := .type "slice",data := .fields #[vl,vu,.none] } }
 exact tail_any (ops:=[.ref s3.heap.objs.size,v]) ht hT hg (by with_unfolding_all rfl)
noncomputable def c7 (xs:List V) (lo hi:Option Int):List V:=(xs.drop (HT.aX xs.length 0 lo)).take (HT.aX xs.length xs.length hi - HT.aX xs.length 0 lo)
theorem Fx (xs:List V) (lo hi:Option Int):(c7 xs lo hi).length <= xs.length:=by
 unfold c7
 rw[YD,ZP]
 omega
noncomputable def Ag (K:PySem.W.Frag):V->Option Int->Option Int->Hp->VK->Prop:=fun x lo hi H Q=>∃ a xs,x = .ref a/\bC K H a xs ∧
 ¬ (HT.aX xs.length 0 lo=0/\HT.aX xs.length xs.length hi=xs.length)/\∀ p,H p=none->Q (.ref p) (upd H p (.tup (c7 xs lo hi)))
theorem MV:nh X (Ag X.K):=by
 intro pins s σ H x v vl vu lo hi sl Q I rx hs pl pu h
 obtain⟨a,xs,rfl,hx,hw,q⟩:=h
 cases rx
 obtain⟨ag,r,ht,hz⟩:=I.tuple hx
 have hlen:ag.toArray.size=xs.length:=by rw[xb];exact r.length.symm
 refine⟨"tuple",_,YX.lookup,ht.typeIs,?_⟩
 refine HT.MQ ht hs pl pu (by rw[hlen];exact hw) ?_ (by rw[hlen];exact hz)
 rw[hlen]
 refine⟨.ref s.heap.objs.size,_,I.laid (t':=s.toks) (o := .tup (c7 xs lo hi)) (fun b ob q=>ue _ q) (qq _) ?_,rfl,q _ (I.aK.fresh (qq _))⟩
 exact⟨Zb (Fx xs lo hi) hz,_,(r.drop (HT.aX xs.length 0 lo)).take (HT.aX xs.length xs.length hi - HT.aX xs.length 0 lo),IsTup.new _ _⟩
noncomputable def Ah (K:PySem.W.Frag):R2:=fun x y H Q=>∃ a b ns ms,x = .ref a/\y = .ref b/\bC K H a (ns.map V.int)/\bC K H b (ms.map V.int)/\Q (.bl (HT.lexLt ns ms)) H
theorem MW (hu:X.A.units < cLine):di X (compareOp .Lt) (Ah X.K):=by
 intro pins s σ H x y v u Q I rx ry h
 obtain⟨a,b,ns,ms,rfl,rfl,ha,hb,q⟩:=h
 cases rx
 cases ry
 obtain⟨ag,r1,p1,_⟩:=I.tuple ha
 obtain⟨a5,r2,p2,_⟩:=I.tuple hb
 have i1:IntsAre ag.toArray.toList ns:=intsAre_of r1
 have i2:IntsAre a5.toArray.toList ms:=intsAre_of r2
 exact HT.Ae p1 p2 i1 i2 hu ⟨.bl (HT.lexLt ns ms),H,I,rfl,q⟩
noncomputable def MX (K:PySem.W.Frag):R2:=fun x y H Q=>∃ a b xs ys,x = .ref a/\y = .ref b/\bC K H a xs/\bC K H b ys/\xs≠[]/\xs.length + ys.length <= sizeLine ∧
 (ys=[]->Q (.ref a) H)/\(ys≠[]->∀ p,H p=none->Q (.ref p) (upd H p (.tup (xs ++ ys))))
theorem Vals.fJ {xs:List V} {us:List Value} (r:Vals xs us):us=[]↔xs=[]:=by
 cases r with
 | nil=>simp
 | cons _ _=>simp
theorem MY:di X (binaryOp .Add) (MX X.K):=by
 intro pins s σ H x y v u Q I rx ry h
 obtain⟨a,b,xs,ys,rfl,rfl,ha,hb,hx,hz,q1,q2⟩:=h
 cases rx
 cases ry
 obtain⟨ag,r1,p1,_⟩:=I.tuple ha
 obtain⟨a5,r2,p2,_⟩:=I.tuple hb
 refine HT.ML p1 p2 (fun z=>hx (r1.fJ.mp z)) (fun z=>⟨.ref a,H,I,rfl,q1 (r2.fJ.mp z)⟩) (fun z => ?_) (by rw[<-r1.length,<-r2.length];exact hz)
 refine⟨.ref s.heap.objs.size,_,I.laid (t':=s.toks) (o := .tup (xs ++ ys)) (fun b ob q=>ue _ q) (qq _) ?_,rfl,q2 (fun w=>z (r2.fJ.mpr w)) _ (I.aK.fresh (qq _))⟩
 exact⟨by rw[Aw];exact hz,_,r1.append r2,IsTup.new _ _⟩
end
noncomputable def jk (n:Nat) (i:Int):Option Nat:=if 0 <= i then (if i < n then some i.toNat else none) else if -(n:Int) <= i then some (i + n).toNat else none
noncomputable def fB {α : Type} (xs:List α) (i:Int):Option α := (jk xs.length i).bind fun j=>xs[j]?
theorem Fy {n:Nat} {i:Int} {j:Nat} (h:jk n i=some j):seqIndex? i n=some j/\j < n /\ -(n:Int) <= i/\i < n:=by
 unfold jk at h
 by_cases h0:0 <= i
 ·rw[XI h0] at h
  by_cases h1:i < n
  ·rw[XI h1] at h
   have e:i.toNat=j:=YA h
   exact⟨by rw[seqIndex_of h0 h1,e],by omega,by omega,h1⟩
  ·rw[Nj h1] at h;cases h
 ·rw[Nj h0] at h
  by_cases h1 : -(n:Int) <= i
  ·rw[XI h1] at h
   have e:(i + n).toNat=j:=YA h
   exact⟨by rw[seqIndex_neg (by omega) h1,e],by omega,h1,by omega⟩
  ·rw[Nj h1] at h;cases h
theorem Ai {α : Type} {xs:List α} {i:Int} {v : α} (h:fB xs i=some v):∃ j,seqIndex? i xs.length=some j/\xs[j]? = some v/\j < xs.length /\ -(xs.length:Int) <= i/\i < xs.length:=by
 unfold fB at h
 cases e:jk xs.length i with
 | none=>rw[e] at h;cases h
 | some j =>
  rw[e] at h
  obtain⟨h1,h2,h3,h4⟩:=Fy e
  exact⟨j,h1,h,h2,h3,h4⟩
theorem oE {α : Type} {xs:List α} {j:Nat} {v : α} (h:xs[j]? = some v):fB xs (j:Int)=some v:=by
 have hj:j < xs.length:=(su.mp h).1
 have e:jk xs.length (j:Int)=some j:=by
  unfold jk
  rw[XI (by omega),XI (by omega)];simp
 unfold fB;rw[e];exact h
noncomputable def Aj (b:Expr):Prop:=∀ o i,subscripted b false o i=operate [o,i] (getItem o i)
noncomputable def so (X:Cx) (r:R2):Prop :=
 ∀ (value slice:Expr) (pins:List (Addr × Obj)) (s:Shared) (σ : St) (H:Hp) (x y:V) (v u:Value) (Q:VK),Inv X pins σ H s->RelV x v->RelV y u->r x y H Q →
  subscripted slice false v u=operate [v,u] (getItem v u)->wpAny (model X.prog X.w) X.A (subscriptTail value slice v u) (EP X pins σ Q) X.xe s
noncomputable def ub (X:Cx) (id:String) (r:V->List V->Hp->VK->Prop):Prop :=
 ∀ (pins:List (Addr × Obj)) (s:Shared) (σ : St) (H:Hp) (x:V) (xs:List V) (v:Value) (us:List Value) (Q:VK),Inv X pins σ H s->RelV x v->Vals xs us->r x xs H Q →
  wpAny (model X.prog X.w) X.A (call (.builtin id) (v :: us)) (EP X pins σ Q) X.xe s
section
variable {X:Cx} {a b:Expr} {ta tb:TE} {pos:Pos}
theorem MZ {r:R2} (hr:so X r) (ha:PE X a ta) (hb:PE X b tb) (hs:Aj b):PE X (.Subscript a b pos) (kS r ta tb):=by
 intro pins s σ H Q I h
 exact Subscript_ (p_ ha hb I h fun v u s2 x y H2 I2 rx ry q=>hr a b pins s2 σ H2 x y v u Q I2 rx ry q (hs _ _))
noncomputable def qf (K:PySem.W.Frag):R2:=fun x y H Q=>∃ p xs i v,x = .ref p/\y = .int i/\aU K H p xs/\fB xs i=some v/\Q v H
noncomputable def Ak (K:PySem.W.Frag):R2:=fun x y H Q=>∃ p xs i v,x = .ref p/\y = .int i/\bC K H p xs/\fB xs i=some v/\Q v H
noncomputable def Al:R2:=fun x y H Q=>∃ z i c,x = .str z/\y = .int i/\z.length <= sizeLine/\fB z.cps.toList i=some c/\Q (.str ⟨#[c]⟩) H
theorem Am:so X (qf X.K):=by
 intro value slice pins s σ H x y v u Q I rx ry h hs
 obtain⟨p,xs,i,z,rfl,rfl,hq,he,q⟩:=h
 cases rx
 obtain⟨t,rfl⟩:=ry
 obtain⟨ag,r,pl,hz⟩:=I.list hq
 obtain⟨j,h1,h2,h3,h4,h5⟩:=Ai he
 obtain⟨w,ew,uc⟩:=r.get h2
 have hl:=r.length
 have hn:=sg
 have fin:EP X pins σ Q w s:=⟨z,H,I,uc,q⟩
 by_cases h0:0 <= i
 ·have hj:i.toNat=j:=by
   rw[seqIndex_of h0 h5] at h1
   exact YA h1
  exact item_listR pl.isList h0 (by omega) (by rw[hj];simpa using ew) fin hs
 ·have hj:(i + (ag.toArray.size:Int)).toNat=j:=by
   rw[seqIndex_neg (by omega) h4] at h1
   rw[xb,<-hl]
   exact YA h1
  exact subscriptTail_builtinR (x:=w) pl.isList.typeIs slot_list_getitem.lookup
   (wpAny_getItem_list_neg (Q:=fun r s'=>r=w/\EP X pins σ Q r s') pl.isList (by omega) (by rw[xb]<;>omega) (by omega) (by rw[hj];simpa using ew) ⟨rfl,fin⟩) hs
theorem M0:so X (Ak X.K):=by
 intro value slice pins s σ H x y v u Q I rx ry h hs
 obtain⟨p,xs,i,z,rfl,rfl,hq,he,q⟩:=h
 cases rx
 obtain⟨t,rfl⟩:=ry
 obtain⟨ag,r,pl,hz⟩:=I.tuple hq
 obtain⟨j,h1,h2,h3,h4,h5⟩:=Ai he
 obtain⟨w,ew,uc⟩:=r.get h2
 have hl:=r.length
 have hn:=sg
 have fin:EP X pins σ Q w s:=⟨z,H,I,uc,q⟩
 exact subscriptTail_builtinR (x:=w) pl.typeIs slot_tuple_getitem.lookup
  (getItem_tuple (j:=j) (Q:=fun r s'=>r=w/\EP X pins σ Q r s') pl (by omega) (by omega) (by rw[xb,<-hl];exact h1) (by simpa using ew) ⟨rfl,fin⟩) hs
theorem M1:so X Al:=by
 intro value slice pins s σ H x y v u Q I rx ry h hs
 obtain⟨z,i,c,rfl,rfl,hz,he,q⟩:=h
 obtain⟨t,rfl⟩:=rx
 obtain⟨t',rfl⟩:=ry
 obtain⟨j,h1,h2,h3,h4,h5⟩:=Ai he
 have hl:z.cps.toList.length=z.length:=by simp[Str.length]
 rw[hl] at h1 h4 h5
 have hn:=sg
 exact tail_any (typeIs_str s z t) slot_str_getitem.lookup (getItem_str (c:=c) (by
  have e1:decide (i < -(2 ^ 63:Int))=false:=Yz (by omega)
  have e2:decide (i ≥ 2 ^ 63)=false:=Yz (by omega)
  rw[e1,e2,Bool.or_false]) (by rw[h1];simpa using h2) ⟨.str ⟨#[c]⟩,H,I.tok _,⟨_,rfl⟩,q⟩) hs
theorem M3 (ag:List Value) (n j:Nat) (u:Value):Obj.mapSeq (·.setIfInBounds j u) { cls := .type "list",data := .seq ag.toArray n }={ cls := .type "list",data := .seq (ag.set j u).toArray n }:=by
 simp[Obj.mapSeq]
theorem Inv.lst {pins:List (Addr × Obj)} {σ : St} {H:Hp} {s:Shared} {p:Addr} {xs:List V} (I:Inv X pins σ H s) (h:H p=some (.lst xs)) :
  ∃ (ag:List Value) (n:Nat),Vals xs ag/\s.heap.get? p=some { cls := .type "list",data := .seq ag.toArray n }/\xs.length <= sizeLine:=by
 obtain⟨z,ag,n,r,e⟩:=I.aK p _ h
 exact⟨ag,n,r,e,z⟩
theorem Inv.qg {pins:List (Addr × Obj)} {σ : St} {H:Hp} {s:Shared} {p:Addr} {xs ys:List V} {ag its':List Value} {n n':Nat} {f:Obj->Obj} (I:Inv X pins σ H s) (h:H p=some (.lst xs))
  (ho:s.heap.get? p=some { cls := .type "list",data := .seq ag.toArray n }) (hf:f { cls := .type "list",data := .seq ag.toArray n }={ cls := .type "list",data := .seq its'.toArray n' }) (r:Vals ys its') (hz:ys.length <= sizeLine) (t:Nat) :
  Inv X pins σ (upd H p (.lst ys)) { s with heap:=s.heap.update p f,toks:=t }:=by
 have e:(s.heap.update p f).get? p=some { cls := .type "list",data := .seq its'.toArray n' }:=by
  rw[YS f ho (by rw[hf]<;>rfl),hf]
 refine I.write (x:=p) (e:=p) (by rw[h];trivial) (.inl rfl) (fun b u hb q=>(Za _ _ (ZV hb)).trans q) ⟨_,e⟩ ?_
 exact⟨hz,its',n',r,e⟩
noncomputable def FA:V->V->V->Hp->(Hp->Prop)->Prop:=fun o i v H Q=>∃ p xs k j,o = .ref p/\i = .int k/\H p=some (.lst xs)/\jk xs.length k=some j/\Q (upd H p (.lst (xs.set j v)))
theorem set_list:pW X FA:=by
 intro pins s σ H o i v ov iv u Q I ro ri rv h
 obtain⟨p,xs,k,j,rfl,rfl,hp,hj,q⟩:=h
 cases ro
 obtain⟨t,rfl⟩:=ri
 obtain⟨ag,n,r,ho,hz⟩:=I.lst hp
 obtain⟨h1,h2,h3,h4⟩:=Fy hj
 have hl:=r.length
 have hn:=sg
 have I':Inv X pins σ (upd H p (.lst (xs.set j v))) { s with heap:=s.heap.update p (Obj.mapSeq (·.setIfInBounds j u)) } :=
  I.qg hp ho (M3 ag n j u) (r.set rv j) (by rw[Zn];exact hz) s.toks
 by_cases h0:0 <= k
 ·have hk:k.toNat=j:=by
   rw[seqIndex_of h0 h4] at h1
   exact YA h1
  exact PySem.W.ki_setAt ho h0 (by omega) (by rw[xb,<-hl];exact h4) (by rw[hk];exact⟨_,I',q⟩)
 ·have hk:(k + (ag.toArray.size:Int)).toNat=j:=by
   rw[seqIndex_neg (by omega) h3] at h1
   rw[xb,<-hl]
   exact YA h1
  exact PySem.W.ki_setBack ho (by omega) (by rw[xb,<-hl];exact h3) (by omega) (by rw[hk];exact⟨_,I',q⟩)
theorem M4 (lo hi:Option Int) (n:Nat):(sliceBounds lo hi none n).1=((HT.aX n 0 lo:Nat):Int)/\(sliceBounds lo hi none n).2.1=((HT.aX n n hi:Nat):Int)/\(sliceBounds lo hi none n).2.2=1:=by
 refine⟨?_,?_,rfl⟩
 ·cases lo with
  | none=>simp[sliceBounds,HT.aX]
  | some i =>
   simp only[sliceBounds,HT.aX,q08,show (1:Int) > 0 by decide,Z9]
   by_cases h:i < 0
   ·simp only[h,Z9]<;>omega
   ·simp only[h,Y1]<;>omega
 ·cases hi with
  | none=>simp[sliceBounds,HT.aX]
  | some i =>
   simp only[sliceBounds,HT.aX,q08,show (1:Int) > 0 by decide,Z9]
   by_cases h:i < 0
   ·simp only[h,Z9]<;>omega
   ·simp only[h,Y1]<;>omega
theorem M5 (ag:List Value) (lo hi:Option Int):slicePick ag.toArray lo hi none=((ag.drop (HT.aX ag.length 0 lo)).take (HT.aX ag.length ag.length hi - HT.aX ag.length 0 lo)).toArray:=by
 obtain⟨h1,h2,h3⟩:=M4 lo hi ag.toArray.size
 unfold slicePick
 rw[h1,h2,h3]
 simp only[sliceRange_one,pick_run,xb]<;>rfl
noncomputable def An (K:PySem.W.Frag):V->Option Int->Option Int->Hp->VK->Prop:=fun x lo hi H Q=>∃ a xs,x = .ref a/\aU K H a xs/\∀ p,H p=none->Q (.ref p) (upd H p (.lst (c7 xs lo hi)))
theorem g7:nh X (An X.K):=by
 intro pins s σ H x v vl vu lo hi sl Q I rx hs pl pu h
 obtain⟨a,xs,rfl,hx,q⟩:=h
 cases rx
 obtain⟨ag,r,ht,hz⟩:=I.list hx
 have hlen:=r.length
 refine⟨"list",_,slot_list_getitem.lookup,ht.isList.typeIs,?_⟩
 refine wpAny_getItem_list_slice ht.isList hs pl pu .none (by simp) ?_ (by rw[xb]<;>omega)
 rw[M5,<-hlen]
 refine⟨.ref s.heap.objs.size,_,I.laid (t':=s.toks) (o := .lst (c7 xs lo hi)) (fun b ob q=>ue _ q) (qq _) ?_,rfl,q _ (I.aK.fresh (qq _))⟩
 exact⟨Zb (Fx xs lo hi) hz,_,0,(r.drop (HT.aX xs.length 0 lo)).take (HT.aX xs.length xs.length hi - HT.aX xs.length 0 lo),XJ _ rfl⟩
theorem FC:gx X (.builtin "len") (fun xs H Q=>∃ p ys,xs=[.ref p]/\(aU X.K H p ys\/bC X.K H p ys)/\Q (.int ys.length) H):=by
 intro pins s σ H xs us Q I r h
 obtain⟨p,ys,rfl,hq,q⟩:=h
 obtain⟨u,rfl,rx⟩:=vals1 r
 cases rx
 have hn:=sg
 rcases hq with hq | hq
 ·obtain⟨ag,r',pl,hz⟩:=I.list hq
  have hlen:=r'.length
  exact Calls.call_len_list pl.isList (by simp only[xb]<;>omega) ⟨.int ys.length,H,I.tok _,⟨s.toks + 1,by rw[xb,hlen]⟩,q⟩
 ·obtain⟨ag,r',pl,hz⟩:=I.tuple hq
  have hlen:=r'.length
  exact len_tuple pl (by simp only[xb]<;>omega) ⟨.int ys.length,H,I.tok _,⟨s.toks + 1,by rw[xb,hlen]⟩,q⟩
theorem M6:gx X (.builtin "len") (fun xs H Q=>∃ z,xs=[.str z]/\z.length <= sizeLine/\Q (.int z.length) H):=by
 intro pins s σ H xs us Q I r h
 obtain⟨z,rfl,hz,q⟩:=h
 obtain⟨u,rfl,t,rfl⟩:=vals1 r
 have hn:=sg
 exact len_str (by omega) ⟨.int z.length,H,I.tok _,⟨_,rfl⟩,q⟩
theorem M7:gx X (.type "list") (fun xs H Q=>∃ p ys,xs=[.ref p]/\(aU X.K H p ys\/bC X.K H p ys)/\∀ l,H l=none->Q (.ref l) (upd H l (.lst ys))):=by
 intro pins s σ H xs us Q I r h
 obtain⟨p,ys,rfl,hq,q⟩:=h
 obtain⟨u,rfl,rx⟩:=vals1 r
 cases rx
 have fin:∀ (ag:List Value),Vals ys ag->ys.length <= sizeLine->∀ (h':Heap) (c':Nat),(∀ b o',s.heap.get? b=some o'->h'.get? b=some o') →
   h'.get? s.heap.objs.size=some { cls := .type "list",dict:=none,data := .seq ag.toArray c',slots := #[] }->EP X pins σ Q (.ref s.heap.objs.size) { s with heap:=h' }:=fun ag r' hz h' c' kp e =>
  ⟨.ref s.heap.objs.size,_,I.laid (t':=s.toks) kp (qq _) (show aF X.prog X.w _ h' _ (.lst ys) from ⟨hz,ag,c',r',e⟩),rfl,q _ (I.aK.fresh (qq _))⟩
 rcases hq with hq | hq
 ·obtain⟨ag,r',pl,hz⟩:=I.list hq
  have hlen:=r'.length
  obtain⟨o,ho,hc,n,hd⟩:=pl.isList
  exact call_list_seq p (.inl rfl) ho hc hd (fun h' c' kp e=>fin ag r' hz h' c' kp e) (by simp only[xb]<;>omega)
 ·obtain⟨ag,r',pl,hz⟩:=I.tuple hq
  have hlen:=r'.length
  obtain⟨o,ho,hc,n,hd⟩:=pl
  exact call_list_seq p (.inr rfl) ho hc hd (fun h' c' kp e=>fin ag r' hz h' c' kp e) (by simp only[xb]<;>omega)
theorem FD:gx X (.type "tuple") (fun xs H Q=>∃ p ys,xs=[.ref p]/\((aU X.K H p ys/\∀ l,H l=none->Q (.ref l) (upd H l (.tup ys)))\/(bC X.K H p ys/\Q (.ref p) H))):=by
 intro pins s σ H xs us Q I r h
 obtain⟨p,ys,rfl,h⟩:=h
 obtain⟨u,rfl,rx⟩:=vals1 r
 cases rx
 rcases h with⟨hq,q⟩ | ⟨hq,q⟩
 ·obtain⟨ag,r',pl,hz⟩:=I.list hq
  have hlen:=r'.length
  refine call_tuple_list pl.isList (fun h' kp => ?_) (by simp only[xb]<;>omega)
  have I1:Inv X pins σ H { s with heap:=h' }:=I.kept (t':=s.toks) kp
  have I2:Inv X pins σ (upd H h'.objs.size (.tup ys)) { s with heap:=h'.push { cls := .type "tuple",data := .seq ag.toArray } } :=
   I1.laid (t':=s.toks) (fun b o e=>ue _ e) (qq _) (show aF X.prog X.w _ _ _ (.tup ys) from ⟨hz,ag,r',IsTup.new _ _⟩)
  exact⟨.ref h'.objs.size,_,I2,rfl,q _ (I1.aK.fresh (qq _))⟩
 ·obtain⟨ag,r',pl,hz⟩:=I.tuple hq
  exact call_tuple_same pl ⟨.ref p,H,I,rfl,q⟩
noncomputable def Ao (K:PySem.W.Frag) (T:String) (x:V) (H:Hp):Prop:=match x with
 | .str _=>T = "str"
 | .int _=>T = "int"
 | .ref p=>(T = "list" /\ ∃ xs,aU K H p xs)\/(T = "tuple" /\ ∃ o,K.lookup p=some o/\o.cls = .type "tuple" /\ o.dict=none) ∨
   (T = "dict" /\ ((∃ kvs,H p=some (.dK kvs))\/∃ kvs,H p=some (.dT kvs)))\/(T = "set" /\ ∃ S n,H p=some (.set S n))
 | _=>False
theorem FE {pins:List (Addr × Obj)} {σ : St} {H:Hp} {s:Shared} {T:String} {x:V} {v:Value} (I:Inv X pins σ H s) (r:RelV x v) (ty:Ao X.K T x H) :
  s.TypeIs v T/\∀ a,v = .ref a->∃ ob,s.heap.get? a=some ob/\ob.dict=none:=by
 cases x with
 | str z =>
  obtain⟨t,rfl⟩:=r
  cases (show T = "str" from ty)
  exact⟨typeIs_str s z t,fun _ e=>nomatch e⟩
 | int i =>
  obtain⟨t,rfl⟩:=r
  cases (show T = "int" from ty)
  exact⟨typeIs_int s i t,fun _ e=>nomatch e⟩
 | ref p =>
  cases r
  rcases ty with⟨rfl,xs,hq⟩ | ⟨rfl,o,hk,hc,hd⟩ | ⟨rfl,hk⟩ | ⟨rfl,S,n,hk⟩
  ·obtain⟨ag,_,pl,_⟩:=I.list hq
   refine⟨pl.isList.typeIs,fun a e => ?_⟩
   cases e
   obtain⟨o,n,e,c,hd,_⟩:=pl
   exact⟨o,e,hd⟩
  ·refine⟨⟨o,I.iq p o hk,hc⟩,fun a e => ?_⟩
   cases e
   exact⟨o,I.iq _ o hk,hd⟩
  ·have z:∃ o,s.heap.get? p=some o/\o.ExactDict:=by
    rcases hk with⟨kvs,hk⟩ | ⟨kvs,hk⟩
    ·obtain⟨_,_,_,_,o,_,_,e,ex,_⟩:=I.aK p _ hk
     exact⟨o,e,ex⟩
    ·obtain⟨_,_,_,_,o,_,_,e,ex,_⟩:=I.aK p _ hk
     exact⟨o,e,ex⟩
   obtain⟨o,e,ex⟩:=z
   refine⟨⟨o,e,ex.1⟩,fun a e2 => ?_⟩
   cases e2
   exact⟨o,e,ex.2.1⟩
  ·obtain⟨o,_,_,_,e,ex,_⟩:=I.aK p _ hk
   refine⟨⟨o,e,ex.1⟩,fun a e2 => ?_⟩
   cases e2
   exact⟨o,e,ex.2.1⟩
 | _=>exact False.elim ty
noncomputable def qh (K:PySem.W.Frag) (T:String) (r:V->List V->Hp->VK->Prop) (to:TE):TE:=fun σ H Q=>to σ H fun x H1=>Ao K T x H1/\r x [] H1 Q
noncomputable def j_ (K:PySem.W.Frag) (T:String) (r:V->List V->Hp->VK->Prop) (to:TE) (t:TA):TE:=fun σ H Q=>to σ H fun x H1=>Ao K T x H1/\t σ H1 fun xs H2=>r x xs H2 Q
variable {o e:Expr} {es:List Expr} {to:TE} {t:TA} {name:Str} {apos cB:Pos} {T id:String} {r:V->List V->Hp->VK->Prop}
theorem M8 (pa:PlainAttrs T) (slot:Slot T name id) (qi:typeOf (.builtin id)=pure (.type "method_descriptor")) (hm:ub X id r) (ho:PE X o to)
  (fV:attributeBase o name X.env (eval o X.env)=eval o X.env:=by rfl) (fW:(apos.endLine == cB.line)=true:=by rfl):PE X (.Call (.Attribute o name apos) [] [] cB) (qh X.K T r to):=by
 intro pins s σ H Q I h
 refine wpAny_Call_method0_late fV fW (aZ (ho pins s σ H _ I h) fun v s1 ⟨x,H1,I1,r1,ty,q1⟩ => ?_)
 obtain⟨h1,h2⟩:=FE I1 r1 ty
 exact⟨T,id,pa,slot,qi,h1,h2,Calls.callWith_builtin rfl (PySem.evalArgs_none (hm pins s1 σ H1 x [] v [] Q I1 r1 .nil q1))⟩
theorem M9 (pa:PlainAttrs T) (slot:Slot T name id) (qi:typeOf (.builtin id)=pure (.type "method_descriptor")) (hm:ub X id r) (ho:PE X o to) (ha:PA X (e :: es) t)
  (fV:attributeBase o name X.env (eval o X.env)=eval o X.env:=by rfl)
  (qj:((backTo cB (starEach (e :: es) X.env)).all (fun x => !x.1) && (backToKw cB (keywordEach [] X.env)).all (fun x=>x.1.isSome)
   && decide ((e :: es).length + ([]:List Keyword).length + (if ([]:List Keyword).isEmpty then 0 else 1) < 30))=true:=by rfl)
  (fW:(apos.endLine == cB.line)=true:=by rfl) (hs:starEach (e :: es) X.env=(false,eval e X.env) :: starEach es X.env:=by rfl) (hplain:(backTo cB (starEach es X.env)).any (·.1)=false:=by rfl) :
  PE X (.Call (.Attribute o name apos) (e :: es) [] cB) (j_ X.K T r to t):=by
 intro pins s σ H Q I h
 refine wpAny_Call_method_late fV qj fW rfl (aZ (ho pins s σ H _ I h) fun v s1 ⟨x,H1,I1,r1,ty,q1⟩ => ?_)
 obtain⟨h1,h2⟩:=FE I1 r1 ty
 refine⟨T,id,pa,slot,qi,h1,h2,?_⟩
 have hA:=ha cB pins s1 σ H1 _ I1 q1
 rw[hs] at hA ⊢
 refine Calls.callWith_builtin (by show (false || (backTo cB (starEach es X.env)).any (·.1))=false;rw[hplain]<;>rfl) (Calls.evalArgs_plain ?_)
 exact aZ hA fun us s2 h0_ => el5 h0_ fun vs H2 I2 r2 q2 =>hm pins s2 σ H2 x vs v us Q I2 r1 r2 q2
end
noncomputable def uf (X:Cx) (id:String) (r:V->List V->Hp->VK->Prop):Prop :=
 ∀ (pins:List (Addr × Obj)) (s:Shared) (σ : St) (H:Hp) (x:V) (xs:List V) (v:Value) (us:List Value) (Q:VK),Inv X pins σ H s->RelV x v->Vals xs us->r x xs H Q →
  wpAny (model X.prog X.w) X.A (call (.builtin id) (v :: us)) (EP X pins σ Q) X.xe s
theorem Vals.one:∀ {x:V} {us:List Value},Vals [x] us->∃ u,us=[u]/\RelV x u:=by
 intro x us h
 cases h with
 | cons r h=>cases h;exact⟨_,rfl,r⟩
theorem Vals.two:∀ {x y:V} {us:List Value},Vals [x,y] us->∃ u v,us=[u,v]/\RelV x u/\RelV y v:=by
 intro x y us h
 cases h with
 | cons r h =>
  obtain⟨v,rfl,q⟩:=Vals.one h
  exact⟨_,_,rfl,r,q⟩
theorem Vals.eraseIdx:∀ {xs:List V} {us:List Value} (i:Nat),Vals xs us->Vals (xs.eraseIdx i) (us.eraseIdx i)
 | _,_,_,.nil => .nil
 | _,_,0,.cons _ t=>t
 | _,_,i + 1,.cons r t => .cons r (Vals.eraseIdx i t)
theorem Vals.rep {xs:List V} {us:List Value} (h:Vals xs us):∀ k:Nat,Vals (List.replicate k xs).flatten (List.replicate k us).flatten
 | 0 => .nil
 | k + 1=>by
  rw[Zg,Zg,ZK,ZK]
  exact Vals.append h (Vals.rep h k)
theorem FF {α : Type}:∀ (l:List α) (i:Nat),(l.eraseIdx i).length <= l.length
 | [],_=>qq _
 | _ :: _,0=>q1B _
 | _ :: r,i + 1=>Nat.succ_le_succ (FF r i)
theorem foldl_rep (ag:List Value):∀ (k:Nat) (acc:List Value),
  List.foldl (fun x1 x2=>x1 ++ x2) acc.toArray (List.replicate k ag.toArray)=(acc ++ (List.replicate k ag).flatten).toArray
 | 0,acc=>by simp
 | k + 1,acc=>by
  have e:acc.toArray ++ ag.toArray=(acc ++ ag).toArray:=by simp
  have e2:(acc ++ ag) ++ (List.replicate k ag).flatten=acc ++ (List.replicate (k + 1) ag).flatten:=by
   rw[Zg,ZK,ZH]
  rw[<-e2,<-foldl_rep ag k (acc ++ ag),<-e,Zg,q12]
section
variable {X:Cx} {pins:List (Addr × Obj)} {σ : St} {H:Hp} {s:Shared} {l b:Addr} {xs ys zs:List V}
theorem Inv.qk {ag its':List Value} {n:Nat} {f:Array Value->Array Value} {t':Nat} (I:Inv X pins σ H s) (hH:H l=some (.lst xs))
  (e:s.heap.get? l=some { cls := .type "list",data := .seq ag.toArray n }) (hf:f ag.toArray=its'.toArray) (hv:Vals ys its') (hz:ys.length <= sizeLine) :
  Inv X pins σ (upd H l (.lst ys)) { s with heap:=s.heap.update l (Obj.mapSeq f),toks:=t' }:=by
 have q:=PySem.IsL.update e f
 rw[hf] at q
 refine I.write (x:=l) (e:=l) (by rw[hH];exact trivial) (.inl rfl) (fun b' u hb hu=>(Za s.heap (Obj.mapSeq f) (ZV hb)).trans hu) ⟨_,q⟩ ?_
 exact⟨hz,its',_,hv,q⟩
theorem Inv.cm {ag:List Value} {t':Nat} (I:Inv X pins σ H s) (hv:Vals ys ag) (hz:ys.length <= sizeLine) :
  Inv X pins σ (upd H s.heap.objs.size (.lst ys)) { s with heap:=s.heap.push { cls := .type "list",data := .seq ag.toArray },toks:=t' } :=
 I.laid (fun _ _ q=>ue _ q) (qq _) ⟨hz,ag,0,hv,XJ _ rfl⟩
theorem Inv.fresh (I:Inv X pins σ H s):H s.heap.objs.size=none:=I.aK.fresh (qq _)
theorem Inv.iU (I:Inv X pins σ H s) (hH:H l=some (.lst xs)):xs.length <= sizeLine/\∃ (ag:List Value) (n:Nat),Vals xs ag/\xs.length=ag.length/\s.heap.get? l=some { cls := .type "list",data := .seq ag.toArray n }:=by
 obtain⟨z,ag,n,r,e⟩:=I.aK l _ hH
 exact⟨z,ag,n,r,r.length,e⟩
theorem FG {n:Nat} (h:n <= sizeLine):Builtin.List.listTooLong n=false:=by
 unfold Builtin.List.listTooLong
 exact Yz (by omega)
end
section
variable {X:Cx}
noncomputable def oF:V->List V->Hp->VK->Prop:=fun x vs H Q=>∃ l xs y,x = .ref l/\vs=[y]/\H l=some (.lst xs)/\xs.length < sizeLine/\Q .non (upd H l (.lst (xs ++ [y])))
theorem ql:uf X "list.append" oF:=by
 intro pins s σ H x vs v us Q I rx rv h
 obtain⟨l,xs,y,rfl,rfl,hH,hz,q⟩:=h
 cases rx
 obtain⟨u,rfl,ru⟩:=rv.one
 obtain⟨z,ag,n,r,hl,e⟩:=I.iU hH
 refine q1V F.slot_list_append ⟨_,e,rfl⟩ F.entry_list_append (F.args_list_append_2 _ _) (PySem.list_append l ag.toArray n u (by rw[xb];omega)) ⟨e,?_⟩
 refine⟨.non,_,I.qk (its':=ag ++ [u]) hH e (by simp) (r.append (.cons ru .nil)) ?_,rfl,q⟩
 rw[Aw,Yu]
 omega
noncomputable def FH:V->List V->Hp->VK->Prop:=fun x vs H Q=>∃ l b xs zs,x = .ref l/\vs=[.ref b]/\H l=some (.lst xs)/\H b=some (.lst zs)/\xs.length + zs.length <= sizeLine/\Q .non (upd H l (.lst (xs ++ zs)))
theorem M_:uf X "list.extend" FH:=by
 intro pins s σ H x vs v us Q I rx rv h
 obtain⟨l,b,xs,zs,rfl,rfl,hH,hB,hz,q⟩:=h
 cases rx
 obtain⟨u,rfl,ru⟩:=rv.one
 cases ru
 obtain⟨z,ag,n,r,hl,e⟩:=I.iU hH
 obtain⟨z2,a5,n2,r2,sq,e2⟩:=I.iU hB
 have hsz:ag.toArray.size + a5.toArray.size <= sizeLine:=by rw[xb,xb];omega
 have kX:¬ (!ag.toArray.isEmpty && Builtin.List.listTooLong (ag.toArray.size + a5.toArray.size))=true:=by
  rw[FG hsz,Bool.and_false]
  exact Yo
 refine q1V F.slot_list_extend ⟨_,e,rfl⟩ F.entry_list_extend (F.args_list_extend_2 _ _)
  (AutoSeq1.list_extend_list_list_0 l ag.toArray n b a5.toArray n2 kX (by rw[xb];omega) (by omega)) ⟨e,e2,?_⟩
 refine⟨.non,_,I.qk (its':=ag ++ a5) hH e (by simp) (r.append r2) ?_,rfl,q⟩
 rw[Aw]
 omega
noncomputable def FI:V->List V->Hp->VK->Prop:=fun x vs H Q=>∃ l xs i k y,x = .ref l/\vs=[.int i]/\H l=some (.lst xs) /\ -(2 ^ 63) <= i/\i < 2 ^ 63/\seqIndex? i xs.length=some k/\xs[k]? = some y/\Q y (upd H l (.lst (xs.eraseIdx k)))
theorem Na:uf X "list.pop" FI:=by
 intro pins s σ H x vs v us Q I rx rv h
 obtain⟨l,xs,i,k,y,rfl,rfl,hH,h1,h2,hk,hy,q⟩:=h
 cases rx
 obtain⟨u,rfl,ru⟩:=rv.one
 obtain⟨t,rfl⟩:=ru
 obtain⟨z,ag,n,r,hl,e⟩:=I.iU hH
 obtain⟨w,hw,uc⟩:=r.get hy
 refine q1V F.slot_list_pop ⟨_,e,rfl⟩ F.entry_list_pop (F.args_list_pop_2 _ _)
  (MeetsSeq.list_pop_at l ag.toArray n i t k w (fitsIndex_both h1 h2) (by rw[xb,<-hl];exact hk) (by rw[<-Yp];exact hw) (by rw[xb];omega)) ⟨e,?_⟩
 refine⟨y,_,I.qk (its':=ag.eraseIdx k) hH e ?_ (r.eraseIdx k) ?_,uc,q⟩
 ·show ag.toArray.eraseIdxIfInBounds k=(ag.eraseIdx k).toArray
  rw[List.eraseIdxIfInBounds_toArray]
 ·have:=FF xs k
  omega
noncomputable def Ap:R2:=fun x y H Q=>∃ l b xs zs,x = .ref l/\y = .ref b/\H l=some (.lst xs)/\H b=some (.lst zs)/\xs.length + zs.length <= sizeLine/\∀ p,H p=none->Q (.ref p) (upd H p (.lst (xs ++ zs)))
theorem FJ:di X (binaryOp .Add) Ap:=by
 intro pins s σ H x y v u Q I rx ry h
 obtain⟨l,b,xs,zs,rfl,rfl,hH,hB,hz,q⟩:=h
 cases rx
 cases ry
 obtain⟨z,ag,n,r,hl,e⟩:=I.iU hH
 obtain⟨z2,a5,n2,r2,sq,e2⟩:=I.iU hB
 refine PySem.P.add_list e e2 ?_ (by rw[xb,xb];omega)
 have ea:ag.toArray ++ a5.toArray=(ag ++ a5).toArray:=by simp
 rw[ea]
 exact⟨.ref _,_,I.cm (t':=s.toks) (r.append r2) (by rw[Aw];omega),rfl,q _ I.fresh⟩
noncomputable def Aq:R2:=fun x y H Q=>∃ l k xs,x = .ref l/\y = .int k/\H l=some (.lst xs) /\ -(2 ^ 63) <= k/\k < 2 ^ 63/\xs.length * k.toNat <= sizeLine ∧
 ∀ p,H p=none->Q (.ref p) (upd H p (.lst (List.replicate k.toNat xs).flatten))
theorem len_rep {α : Type} (xs:List α) (k:Nat):(List.replicate k xs).flatten.length=k * xs.length:=by
 induction k with
 | zero=>simp
 | succ k ih=>rw[Zg,ZK,Aw,ih,Nat.succ_mul,Nat.add_comm]
theorem Nc:di X (binaryOp .Mult) Aq:=by
 intro pins s σ H x y v u Q I rx ry h
 obtain⟨l,k,xs,rfl,rfl,hH,h1,h2,hz,q⟩:=h
 cases rx
 obtain⟨t,rfl⟩:=ry
 obtain⟨z,ag,n,r,hl,e⟩:=I.iU hH
 have hlen:ag.toArray.size * k.toNat <= sizeLine:=by rw[xb,<-hl];exact hz
 have Ar:¬ ag.toArray.size * k.toNat > (2 ^ 63 - 1) / 8:=by
  have:(sizeLine:Nat) <= (2 ^ 63 - 1) / 8:=by decide
  omega
 have As:¬ (!Builtin.List.listFitsIndex k)=true:=by
  rw[fitsIndex_both h1 h2]
  exact Yo
 have kX:¬ Builtin.List.listTooLong (ag.toArray.size * k.toNat)=true:=by
  rw[FG hlen]
  exact Yo
 have Au:List.foldl (fun x1 x2=>x1 ++ x2) #[] (List.replicate (if ag.toArray.isEmpty=true then 0 else k.toNat) ag.toArray)=(List.replicate k.toNat ag).flatten.toArray:=by
  have f0:∀ m:Nat,List.foldl (fun x1 x2=>x1 ++ x2) #[] (List.replicate m ag.toArray)=(List.replicate m ag).flatten.toArray:=fun m=>by
   have:=foldl_rep ag m []
   rw[List.nil_append] at this
   exact this
  rw[f0]
  cases ag with
  | nil=>simp
  | cons a r'=>rw[Nj (by simp)]
 refine wpAny_binaryOp_repeat_ref (T := "list") (U := "int") (by decide) ⟨_,e,rfl⟩ (fun s'=>typeIs_int s' k t) noFill_list_mul F.fills_int_mul F.slot_int_rmul repeat_list F.slot_int_index.lookup
  (q1V F.slot_int_rmul (typeIs_int s k t) F.entry_int_rmul (F.args_int_rmul_2 _ _) (int___rmul___int_list k t l ag.toArray n)
   ⟨e,rfl,⟨_,e,rfl⟩,q1V F.slot_list_mul ⟨_,e,rfl⟩ F.entry_list_mul (F.args_list_mul_2 _ _) (AutoListH.list___mul___list_int_3 l ag.toArray n k t As Ar kX) ⟨e,?_⟩⟩)
 rw[Au]
 exact⟨.ref _,_,I.cm (t':=s.toks) (r.rep k.toNat) (by rw[len_rep,Nat.mul_comm];exact hz),rfl,q _ I.fresh⟩
end
section
variable {prog:Program} {w:World} {A:Around} {E:Value->Shared->Prop} {s:Shared}
end
section
variable {X:Cx}
end
end L2
namespace Att
open PySem PySem.W PySem.Calls PyProof.Rows
theorem fD {P:Params} {h:Heap}:∀ (ns:List Int) (vs:List Value),WellAll P h vs (ns.map WData.int)->IntsAre vs ns:=by
 intro ns
 induction ns with
 | nil =>
  intro vs w
  rw[Z4] at w
  cases w
  exact .nil
 | cons n ns ih =>
  intro vs w
  rw[Yt] at w
  cases w with
  | cons a b =>
   cases a
   exact .cons _ _ (ih _ b)
theorem jG {l:OpenLaw} {n:Nat} (hn:l.most=some n) {P:Params} {h:Heap} {args:List WData} {vals:List Value}
  (ni:l.row.toRowW.claim.pre args=true) (Av:WellAll P h vals args) :
  ∃ a vs ns,vals=[Value.ref a]/\args=[WData.list (ns.map WData.int)]/\h.get? a=some { cls := .type "list",data := .seq vs.toArray }/\IntsAre vs ns/\ns.length <= n:=by
 have Nd:WShape.hasAll [] args [.list .int]=true:=(pre_splitW ni).1
 have hc:l.pre.holds [] { args:=args }=true:=(pre_splitW ni).2
 obtain⟨d,r,rfl,h1,h2⟩:=hasAllW_cons Nd
 obtain rfl:=hasAllW_nil h2
 obtain⟨xs,rfl,h3⟩:=hasW_list h1
 obtain⟨ns,rfl⟩:=items_int h3
 have hlen:ns.length <= n:=by
  unfold OpenLaw.pre at hc
  have h4:(WTm.not (.lt (.lit (.int (n:Int))) (.len (.arg 0)))).holds [] { args:=[.list (ns.map .int)] }=true:=by
   have h4:=(holds_andW hc).1
   rw[hn] at h4
   exact h4
  have h5:=condW_of h4 (w_not (w_lt w_lit (w_len_list (w_arg rfl))))
  rw[qp] at h5
  refine q04 fun q => ?_
  have q':(n:Int) < ((ns.length:Nat):Int):=by omega
  first
   | (rw[Yk q'] at h5;exact absurd h5 (by decide))
   | (simp at h5;omega)
 cases Av with
 | cons w1 w2 =>
  cases w2
  cases w1 with
  | list ho gr=>exact⟨_,_,ns,rfl,rfl,ho,fD ns _ gr,hlen⟩
theorem jH (l:OpenLaw) (args:List WData):l.row.toRowW.claim.post args (.bool true) args=true :=
 postW_of (r:=l.row.toRowW) (X:=(true == true))
  (show WShape.has [] (.bool true) .bool=true by first | rfl | decide | simp[WShape.has,WShape.arms,WShape.armsAll])
  (show (WTm.eq .res (.lit (.bool true))).value [] { args:=args,res:=some (.bool true),after:=args }=some (.bool (true == true)) from w_eq_bool (w_res rfl) w_lit) rfl
theorem iw {l:OpenLaw} {n:Nat} {q:Program} {loose:List Str} {XP:(Str->Option Value)->Heap->Prop} {YP:World->Heap->Prop} {d:DefRec}
  (hn:l.most=some n) (ug:d.params.defaults=[])
  (call:∀ (w:World) (s₀ s₁ : Shared) (mg mb:Str->Option Value) (fa:Addr) (o:Obj) (pm cd doc:Value) (a:Addr) (vs:List Value) (ns:List Int),
   Ground q loose [] XP w s₀ mg mb s₁.heap->YP w s₁.heap →
   s₁.heap.get? fa=some o->o.data = .func (docDef d.name d.params d.body d.scope pm cd doc)->s₁.heap.CodeRec cd d.name->mg d.name=some (.ref fa) →
   s₁.heap.get? a=some { cls := .type "list",data := .seq vs.toArray }->IntsAre vs ns->ns.length <= n->s₁.gens = #[] →
   codeAny (model l.prog w) callerA (.call (.ref fa) ⟨[.ref a],[]⟩) (fun r s'=>r = .ok (.ret (.bool true))/\OldK s₁.heap s'.heap/\s'.os=s₁.os/\AllBare s'.gens) s₁) :
  WalkO q loose XP YP l.row.toRowW d [] (fun f vs=>PySem.call f vs):=by
 intro w s₀ s₁ mg mb G Y fa o pm cd doc dV kV ho hd fR hD nk hg args vals as ni Nf XF Av XG
 obtain rfl:dV = .none:=Dflts.none hD ug
 obtain rfl:kV = .none:=Dflts.noKw hD
 obtain⟨a,vs,ns,rfl,rfl,qm,hints,hlen⟩:=jG hn ni Av
 refine enter_call (q0w (call w s₀ s₁ mg mb fa o pm cd doc a vs ns G Y ho (fd_plain hd) fR nk qm hints hlen hg) fun r s' hq => ?_)
 obtain⟨rfl,h2,h3,h4⟩:=hq
 exact⟨.inl ⟨.bool true,.bool true,[],rfl,fun _=>rfl,.bool true,jH l _,fun _=>⟨List.Pairwise.nil,fun _ hm=>(nomatch hm)⟩⟩,h2,h3,h4⟩
section
variable {prog:Program} {w:World} {A:Around} {E:Value->Shared->Prop} {s:Shared} {K:Frag}
end
end Att
namespace L2
open PySem PySem.Spec PyProof.Rows
theorem FK:∀ {vs:List Value} {ns:List Int},IntsAre vs ns->Vals (ns.map V.int) vs
 | _,_,.nil => .nil
 | _,_,.cons n t h => .cons ⟨t,rfl⟩ (FK h)
noncomputable def oG (s:Stmt):Arguments:=match s with
 | .FunctionDef _ a _ _ _ _ _ _ _ _=>a
 | _=>{ posonlyargs:=[],args:=[],vararg:=none,kwonlyargs:=[],kw_defaults:=[],kwarg:=none,defaults:=[] }
noncomputable def jI (s:Stmt):List Stmt:=match s with
 | .FunctionDef _ _ b _ _ _ _ _ _ _=>b
 | _=>[]
noncomputable def bA (s:Stmt):Scope:=match s with
 | .FunctionDef _ _ _ _ _ _ sc _ _ _=>sc
 | _=>{ kind := .function,names:=[],isGenerator:=false,isCoroutine:=false }
noncomputable abbrev bJ:jE:=fun _ _ _ _ _ _=>False
noncomputable abbrev E0:XK:=fun _ _ _=>False
theorem uh {X:Cx}:wX bJ X E0:=fun _ _ _ _ _ _ _ h=>h.elim
structure bQ (K:PySem.W.Frag) (x qual:Str) (st:Stmt) (f:Addr) (fd:FuncData):Prop where
 ex:∃ (oc:Value) (od:Option Addr) (kV doc pm:Value) (an:Option Addr) (a0 ct:Value) (m9:Array (Option Value)),
  fd=PySem.W.fnOf x qual (oG st) (jI st) (bA st) .none kV doc pm an a0 ct/\K.lookup f=some ⟨oc,od,.func fd,m9⟩/\PySem.W.codeIn K a0 qual=true
 kp:PySem.W.keepIn K (.ref f)=true
section
variable {P:Program} {w:World} {K:PySem.W.Frag} {mg:Str->Option Value} {base:Heap}
theorem bQ.ok {x qual:Str} {st:Stmt} {f:Addr} {fd:FuncData} {N ps:List Str} {k:Nat} {sp:Sp} (F:bQ K x qual st f fd) (S:cA N ps (bA st)) (len:∀ vs H Q E,sp vs H Q E->vs.length=ps.length)
  (dS:∀ (a0:Value) (A:Around) (outer:List Env) (s:Shared) (H:Hp) (vs:List V) (Q:VK) (E:XK),bf k (A.deeper (envOfC qual (bA st) s.heap.objs.size f a0))->sp vs H Q E →
   ∃ t,h9 (gy bJ P w K mg base N qual (bA st) f a0 A outer s H E).mT (jI st) t/\t { nx:=fun _ H'=>Q .non H',rt:=Q } (start N vs) H):aM P w K mg base bJ (k + 1) f fd ps sp:=by
 obtain⟨oc,od,kV,doc,pm,an,a0,ct,m9,rfl,lk,fR⟩:=F.ex
 refine Fp lk fR S len fun A outer s H vs Q E hr oB => ?_
 obtain⟨t,h,q⟩:=dS a0 A outer s H vs Q E hr oB
 exact⟨t,h.mT,q⟩
theorem bQ.binds {x qual:Str} {st:Stmt} {f:Addr} {fd:FuncData} {ps:List Str} (F:bQ K x qual st f fd)
  (h:∀ (kV doc pm:Value) (an:Option Addr) (a0 ct:Value) (us:List Value),us.length=ps.length->bindArgs (PySem.W.fnOf x qual (oG st) (jI st) (bA st) .none kV doc pm an a0 ct) ⟨us,[]⟩=pure (ps.zip us)):Binds K fd ps []:=by
 obtain⟨oc,od,kV,doc,pm,an,a0,ct,m9,rfl,lk,fR⟩:=F.ex
 exact .all (h kV doc pm an a0 ct)
theorem Nl {x qual:Str} {st:Stmt} {f:Addr} {oc:Value} {od an:Option Addr} {m9:Array (Option Value)} {kV doc pm a0 ct:Value} (l:K.lookup f=some ⟨oc,od,.func (PySem.W.fnOf x qual (oG st) (jI st) (bA st) .none kV doc pm an a0 ct),m9⟩)
  (c:PySem.W.codeIn K a0 qual=true) (k:PySem.W.keepIn K (.ref f)=true):bQ K x qual st f (PySem.W.fnOf x qual (oG st) (jI st) (bA st) .none kV doc pm an a0 ct):=⟨⟨oc,od,kV,doc,pm,an,a0,ct,m9,rfl,l,c⟩,k⟩
end
theorem ka {n:Nat} (h:n <= 1000):n < sizeLine:=q0I h (by decide)
section
variable {X:Cx}
theorem pv (i:Nat) {x:Str} {pos:Pos} (hN:X.N[i]? = some x:=by rfl) (hv:pQ X.env.scope x:=by first | exact Or.inl rfl | exact Or.inr (Or.inl rfl) | exact Or.inr (Or.inr rfl)) (hd:(x == ("__debug__" : Str))=false:=by decide)
  (fR:(x == ("__classdict__" : Str))=false:=by decide):PE X (.Name x pos) (c5 i):=EW hN hv hd fR
end
noncomputable def ax (H H':Hp):Prop:=∀ b o,H b=some o->H' b=some o
theorem ax.trans {H H1 H2:Hp} (a:ax H H1) (b:ax H1 H2):ax H H2:=fun c o h=>b c o (a c o h)
theorem ax.free {H H':Hp} (e:ax H H') {l:Addr} (h:H' l=Option.none):H l=Option.none:=by
 cases q:H l with
 | none=>rfl
 | some o =>
  rw[e l o q] at h
  cases h
theorem ax.seq {K:PySem.W.Frag} {H H':Hp} {a:Addr} {xs:List V} (e:ax H H') (h:aU K H a xs):aU K H' a xs:=by
 rcases h with (h | ⟨o,h⟩) | h
 ·exact .inl (.inl (e _ _ h))
 ·exact .inl (.inr ⟨o,e _ _ h⟩)
 ·exact .inr h
theorem Nm {prog:Program} {w:World} {A:Around} {R:Result->Shared->Prop} {s:Shared} {elt target iter:Expr} {ifs:List Expr} {scope:Scope} {pos:Pos} {it acc:Value} {env:Env} (I:Nat->Shared->Prop)
  (turn:∀ n s,I n s->wpAny (model prog w) A (pyNext it) (fun r s₁ => match r with
   | none=>R (.ok .next) s₁
   | some v=>wpAny (model prog w) A (letOwnedTupleGo target it v) (fun _ s₂ => wpAny (model prog w) A (assign target env v) (fun _ s₃ =>
     wpAny (model prog w) A (forIn ifs true fun c r=>if r=true then do let ok <- isTrue c env (eval c env);pure (ForInStep.yield ok) else pure (ForInStep.yield r)) (fun ok s₄ =>
      if ok=true then wpAny (model prog w) A (eval elt env) (fun x s₅ =>
       wpAny (model prog w) A (call (.builtin "list.append") [acc,x]) (fun _ s₆ => ∃ m,m < n/\I m s₆) (fun _ _=>False) s₅) (fun _ _=>False) s₄
      else ∃ m,m < n/\I m s₄) (fun _ _=>False) s₃) (fun _ _=>False) s₂) (fun _ _=>False) s₁) (fun _ _=>False) s)
  (n:Nat) (h:I n s) :
  codeAny (model prog w) A (.compLoop (.ListComp elt [⟨target,iter,ifs,0⟩] scope pos) 0 it acc env) R s:=by
 refine codeAny_loop rfl I (fun n s hI => ?_) n h
 show wpAny _ A ((compTurn (.ListComp elt [⟨target,iter,ifs,0⟩] scope pos) 0 it acc env).onRaise (fun x=>do noteFrame x env;theTreesLotGoes x)) _ _ s
 refine wpAny_noted ?_
 rw[compTurn_list]
 refine nq (q0C (nq (Z3 (turn n s hI) (fun r s₁ h₁ => ?_) fun _ _ h'=>False.elim h')))
 cases r with
 | none=>exact xa h₁
 | some v =>
  refine nq (Z3 h₁ (fun _ s₂ h₂ => ?_) fun _ _ h'=>False.elim h')
  refine nq (Z3 h₂ (fun _ s₃ h₃ => nq (Z3 h₃ (fun ok s₄ h₄ => ?_) fun _ _ h'=>False.elim h')) fun _ _ h'=>False.elim h')
  cases ok with
  | false=>exact xa ⟨rfl,h₄⟩
  | true =>
   exact nq (nq (Z3 h₄ (fun x s₄ h₄ => nq (Z3 h₄ (fun _ s₅ h₅ => xa (xa ⟨rfl,h₅⟩)) fun _ _ h'=>False.elim h')) fun _ _ h'=>False.elim h'))
theorem Ax {env:Env}:∀ (names:List (Str × NameKind)) (acc:List (Str × Addr)),(∀ y∈names,y.2 = .free->∃ c,env.cells.lookup y.1=some c)->(∀ x c,acc.lookup x=some c->env.cells.lookup x=some c) →
  ∃ cl,(forIn names acc (fun (x:Str × NameKind) (cs:List (Str × Addr))=>if x.2 == NameKind.free then cellOf env x.1 >>= fun a=>pure (ForInStep.yield ((x.1,a) :: cs)) else pure (ForInStep.yield cs)):Sem (List (Str × Addr)))=pure cl ∧
   (∀ x c,cl.lookup x=some c->env.cells.lookup x=some c)/\(∀ y∈names,y.2 = .free->∃ c,cl.lookup y.1=some c)/\(∀ x c,acc.lookup x=some c->∃ c,cl.lookup x=some c)
 | [],acc,_,h2=>⟨acc,rfl,h2,fun _ hy=>absurd hy (by simp),fun x c e=>⟨c,e⟩⟩
 | (n,k) :: r,acc,h1,h2=>by
  rw[List.forIn_cons]
  by_cases hk:k = .free
  ·subst hk
   obtain⟨c,hc⟩:=h1 (n,.free) FN rfl
   have jB:env.cells.lookup n=some c:=hc
   have ec:cellOf env n=pure c:=by unfold cellOf;rw[jB]
   have fP:∀ x d,((n,c) :: acc).lookup x=some d->env.cells.lookup x=some d:=fun x d e=>by
    rw[Yy] at e
    cases q:x == n with
    | true =>
     rw[q] at e
     cases e
     rw[Zd q];exact jB
    | false =>
     rw[q] at e
     exact h2 x d e
   obtain⟨cl,e,p1,p2,p3⟩:=Ax r ((n,c) :: acc) (fun y hy=>h1 y (My _ hy)) fP
   refine⟨cl,?_,p1,fun y hy hf => ?_,fun x d e => ?_⟩
   ·dsimp only
    rw[XI (by decide),ec]
    exact e
   ·rcases Nh.mp hy with rfl | hy
    ·exact p3 n c (by simp)
    ·exact p2 y hy hf
   ·cases q:x == n with
    | true=>exact p3 x c (by rw[Yy,q])
    | false=>exact p3 x d (by rw[Yy,q];exact e)
  ·obtain⟨cl,e,p1,p2,p3⟩:=Ax r acc (fun y hy=>h1 y (My _ hy)) h2
   refine⟨cl,?_,p1,fun y hy hf => ?_,p3⟩
   ·dsimp only
    rw[Nj (by simpa using hk)]
    exact e
   ·rcases Nh.mp hy with rfl | hy
    ·exact absurd hf hk
    ·exact p2 y hy hf
theorem FQ {scope:Scope} {env:Env} (h:∀ y∈scope.names,y.2 = .free->∃ c,env.cells.lookup y.1=some c) :
  ∃ cl,closureFor scope env=pure cl/\(∀ x c,cl.lookup x=some c->env.cells.lookup x=some c)/\∀ y∈scope.names,y.2 = .free->∃ c,cl.lookup y.1=some c:=by
 obtain⟨cl,e,p1,p2,_⟩:=Ax scope.names [] h (fun x c e=>by simp at e)
 refine⟨cl,?_,p1,p2⟩
 have e':closureFor scope env=(forIn scope.names ([]:List (Str × Addr)) (fun (x:Str × NameKind) (cs:List (Str × Addr))=>if x.2 == NameKind.free then cellOf env x.1 >>= fun a=>pure (ForInStep.yield ((x.1,a) :: cs)) else pure (ForInStep.yield cs)):Sem (List (Str × Addr))) >>= pure:=rfl
 rw[e',e]
 rfl
structure BD where
 cl:List (Str × Addr)
 C:Addr
 s:Shared
 H:Hp
 fp:List Addr
@[reducible] noncomputable def cC (X:Cx) (scope:Scope) (Nb:List Str) (d:BD):Cx where
 prog:=X.prog
 w:=X.w
 K:=X.K
 mg:=X.mg
 base:=X.base
 A:=X.A
 N:=Nb
 s₀ := d.s
 H₀ := d.H
 env:=compEnvC scope d.cl d.C X.env
 outer:=X.stack
 stack:=X.stack
 ex:=d.fp
 fn:=fun x=>decide (scope.names.lookup x=some .cell)
 calm:=X.calm
 pn:=[]
 xe:=fun _ _=>False
noncomputable def iM (cp:List (Option Nat)) (σ : St):St:=cp.map fun o=>match o with
 | some i=>(σ[i]?).join
 | none=>none
noncomputable def l8 (N:List Str) (xc scope:Scope) (Nb:List Str) (cp:List (Option Nat)):Bool :=
 (scope.names.all fun y=>(decide (y.2 ≠ .cell) || decide (scope.names.lookup y.1=some .cell)) && (decide (y.2 ≠ .local) || decide (scope.names.lookup y.1=some .local)) && (decide (y.2 ≠ .free) || decide (xc.names.lookup y.1=some .cell) || decide (xc.names.lookup y.1=some .free))) &&
 decide (cp.length=Nb.length) && (cp.zip Nb).all fun z=>match z.1 with
  | none=>true
  | some i=>decide (N[i]? = some z.2) && decide (scope.names.lookup z.2=some .free)
structure xf (X:Cx) (scope:Scope) (Nb:List Str) (cp:List (Option Nat)):Prop where
 kind:scope.kind = .function
 cell:∀ y∈scope.names,y.2 = .cell->scope.names.lookup y.1=some .cell
 names:∀ y∈scope.names,y.2 = .local->scope.names.lookup y.1=some .local
 free:∀ y∈scope.names,y.2 = .free->(X.env.kindOf y.1=some .cell\/X.env.kindOf y.1=some .free)
 len:cp.length=Nb.length
 ui:∀ (j i:Nat) (x:Str),cp[j]? = some (some i)->Nb[j]? = some x->X.N[i]? = some x/\scope.names.lookup x=some .free
theorem x2j {X:Cx} {scope:Scope} {Nb:List Str} {cp:List (Option Nat)} (hk:scope.kind = .function) (h:l8 X.N X.env.scope scope Nb cp=true):xf X scope Nb cp:=by
 unfold l8 at h
 simp only[YI,Zy,Bool.or_eq_true,YB] at h
 obtain⟨⟨h1,h2⟩,h3⟩:=h
 refine⟨hk,fun y hy e=>(h1 y hy).1.1.resolve_left (fun z=>z e),fun y hy e => ?_,fun y hy e => ?_,h2,fun j i x e1 e2 => ?_⟩
 ·rcases (h1 y hy).1.2 with z | z
  ·exact absurd e z
  ·exact z
 ·rcases (h1 y hy).2 with (z | z) | z
  ·exact absurd e z
  ·exact .inl z
  ·exact .inr z
 ·have hm:(some i,x)∈cp.zip Nb:=by
   have:(cp.zip Nb)[j]? = some (some i,x):=by
    rw[List.getElem?_zip_eq_some];exact⟨e1,e2⟩
   exact YO this
  have:=h3 _ hm
  simpa using this
theorem Ay {env:Env} {x:Str}:∀ {names:List (Str × NameKind)} {k:NameKind},names.lookup x=some k →
  (names.map fun (n,k)=>if (k == NameKind.free && env.scope.kind == .function && env.kindOf n == some .cell) then (n,NameKind.cell) else (n,k)).lookup x =
   some (if (k == NameKind.free && env.scope.kind == .function && env.kindOf x == some .cell) then NameKind.cell else k)
 | [],k,h=>by simp at h
 | (n,k') :: r,k,h=>by
  have ih:=@Ay env x r k
  show List.lookup x ((if (k' == NameKind.free && env.scope.kind == .function && env.kindOf n == some .cell)=true then (n,NameKind.cell) else (n,k')) :: _)=_
  cases hx:x == n with
  | true =>
   simp only[Yy,hx] at h
   cases h
   have e:x=n:=Zd hx
   subst e
   by_cases hc:(k' == NameKind.free && env.scope.kind == .function && env.kindOf x == some .cell)=true
   ·rw[XI hc,XI hc];simp[Yy]
   ·rw[Nj hc,Nj hc];simp[Yy]
  | false =>
   simp only[Yy,hx] at h
   by_cases hc:(k' == NameKind.free && env.scope.kind == .function && env.kindOf n == some .cell)=true
   ·rw[XI hc];simp only[Yy,hx];exact ih h
   ·rw[Nj hc];simp only[Yy,hx];exact ih h
theorem FR {env:Env} {x:Str}:∀ {names:List (Str × NameKind)},names.lookup x=none →
  (names.map fun (n,k)=>if (k == NameKind.free && env.scope.kind == .function && env.kindOf n == some .cell) then (n,NameKind.cell) else (n,k)).lookup x=none
 | [],h=>by simp
 | (n,k') :: r,h=>by
  have ih:=@FR env x r
  show List.lookup x ((if (k' == NameKind.free && env.scope.kind == .function && env.kindOf n == some .cell)=true then (n,NameKind.cell) else (n,k')) :: _)=_
  cases hx:x == n with
  | true=>simp only[Yy,hx] at h;cases h
  | false =>
   simp only[Yy,hx] at h
   by_cases hc:(k' == NameKind.free && env.scope.kind == .function && env.kindOf n == some .cell)=true
   ·rw[XI hc];simp only[Yy,hx];exact ih h
   ·rw[Nj hc];simp only[Yy,hx];exact ih h
noncomputable def PF (X:Cx) (ifs:List Expr) (t:TT):Prop :=
 ∀ (pins:List (Addr × Obj)) (s:Shared) (σ : St) (H:Hp) (Q:Bool->Hp->Prop),Inv X pins σ H s->t σ H Q →
  wpAny (model X.prog X.w) X.A (forIn ifs true fun c r=>if r=true then do let ok <- isTrue c X.env (eval c X.env);pure (ForInStep.yield ok) else pure (ForInStep.yield r)) (TP X pins σ Q) X.xe s
noncomputable def uj:TT:=fun _ H Q=>Q true H
theorem Nn {X:Cx}:PF X [] uj:=fun _ _ _ H _ I h=>wpAny_tests_nil ⟨H,I,h⟩
theorem Np {X:Cx} {c:Expr} {t:TT} (h:PT X c t):PF X [c] t:=fun pins s σ H Q I hw=>wpAny_tests_one (h pins s σ H Q I hw)
noncomputable def Nq (g:TG) (tf:TT) (te:TE) (l:Addr) (x:V) (τ : St) (H:Hp) (N:St->Hp->Prop):Prop :=
 g x τ H fun τ2 H2=>tf τ2 H2 fun b H3=>if b=true then te τ2 H3 fun y H4=>∃ ys,H4 l=some (.lst ys)/\ys.length < sizeLine/\N τ2 (upd H4 l (.lst (ys ++ [y]))) else N τ2 H3
noncomputable def FT (J:It) (g:TG) (tf:TT) (te:TE) (l:Addr) (τ0:St) (H0:Hp) (Q:VK):Prop :=
 ∃ W:Nat->Nat->St->Hp->Prop,(∃ m,W 0 m τ0 H0)/\∀ i m τ H,W i m τ H →
  (J.stop i H/\Q (.ref l) H)\/(J.go i H/\∃ N:St->Hp->Prop,(∀ τ' H',N τ' H'->∃ m',m' < m/\W (i + 1) m' τ' H')/\∀ x H',J.sd i H x H'->Nq g tf te l x τ H' N)
noncomputable def qr (wi:TI) (cp:List (Option Nat)) (g:BD->TG) (tf:BD->TT) (te:BD->TE):TE:=fun σ H Q=>wi σ H fun J H1=>∀ (d:BD) (l:Addr),H1 l=none->FT J (g d) (tf d) (te d) l (iM cp σ) (upd H1 l (.lst [])) Q
theorem sv:∀ {names:List (Str × NameKind)} {n:Nat} {acc:List (Str × Addr)} {x:Str} {c:Addr},(cellsFrom n names acc).lookup x=some c->acc.lookup x=some c\/(n <= c/\(x,NameKind.cell)∈names)
 | [],n,acc,x,c,h => .inl h
 | (y,k) :: r,n,acc,x,c,h=>by
  unfold cellsFrom at h
  split at h
  ·rename_i hk
   have ek:k = .cell:=Zd hk
   subst ek
   rcases sv h with h | ⟨h,m⟩
   ·rw[Yy] at h
    cases q:x == y with
    | true=>rw[q] at h;cases h;rw[Zd q];exact .inr ⟨qq _,FN ..⟩
    | false=>rw[q] at h;exact .inl h
   ·exact .inr ⟨by omega,My _ m⟩
  ·rcases sv h with h | ⟨h,m⟩
   ·exact .inl h
   ·exact .inr ⟨h,My _ m⟩
theorem Az:∀ {names:List (Str × NameKind)} {n:Nat} {acc:List (Str × Addr)} {x:Str} {c:Addr},(x,NameKind.cell)∈names->(cellsFrom n names acc).lookup x=some c->n <= c
 | [],n,acc,x,c,m,h=>by cases m
 | (y,k) :: r,n,acc,x,c,m,h=>by
  unfold cellsFrom at h
  by_cases mr:(x,NameKind.cell)∈r
  ·split at h
   ·have:=Az mr h;omega
   ·exact Az mr h
  ·have e:(x,NameKind.cell)=(y,k):=by
    rcases Nh.mp m with e | e
    ·exact e
    ·exact absurd e mr
   cases e
   rw[XI (by decide)] at h
   rcases sv h with h | ⟨h,_⟩
   ·rw[Yy,beq_self_eq_true] at h
    cases h;exact qq _
   ·omega
theorem AA:∀ {names:List (Str × NameKind)} {n:Nat} {acc:List (Str × Addr)} {x y:Str} {c:Addr},(∀ u v c,acc.lookup u=some c->acc.lookup v=some c->u=v)->(∀ u c,acc.lookup u=some c->c < n)->(cellsFrom n names acc).lookup x=some c->(cellsFrom n names acc).lookup y=some c->x=y
 | [],n,acc,x,y,c,hi,_,h1,h2=>hi x y c h1 h2
 | (z,k) :: r,n,acc,x,y,c,hi,hb,h1,h2=>by
  unfold cellsFrom at h1 h2
  split at h1
  ·rename_i hk
   rw[XI hk] at h2
   refine AA (fun u v c q1 q2 => ?_) (fun u c q => ?_) h1 h2
   ·rw[Yy] at q1 q2
    cases e1:u == z with
    | true =>
     rw[e1] at q1;cases q1
     cases e2:v == z with
     | true=>rw[Zd e1,Zd e2]
     | false=>rw[e2] at q2;exact absurd (hb v _ q2) (ZE _)
    | false =>
     rw[e1] at q1
     cases e2:v == z with
     | true=>rw[e2] at q2;cases q2;exact absurd (hb u _ q1) (ZE _)
     | false=>rw[e2] at q2;exact hi u v c q1 q2
   ·rw[Yy] at q
    cases e1:u == z with
    | true=>rw[e1] at q;cases q;exact Y0 _
    | false=>rw[e1] at q;exact YR (hb u c q)
  ·rename_i hk
   rw[Nj hk] at h2
   exact AA hi hb h1 h2
theorem AB:∀ {names:List (Str × NameKind)} {n:Nat} {acc:List (Str × Addr)} {x:Str},(x,NameKind.cell)∉names->(cellsFrom n names acc).lookup x=acc.lookup x
 | [],n,acc,x,_=>rfl
 | (y,k) :: r,n,acc,x,m=>by
  unfold cellsFrom
  split
  ·rename_i hk
   have ek:k = .cell:=Zd hk
   subst ek
   rw[AB fun z=>m (My _ z),Yy]
   cases q:x == y with
   | true=>exact absurd (by rw[Zd q];exact FN ..) m
   | false=>rfl
  ·exact AB fun z=>m (My _ z)
theorem AD:∀ {names:List (Str × NameKind)} {h:Heap} {acc:List (Str × Addr)} {x:Str} {c:Addr},(∀ u c,acc.lookup u=some c->∃ v,h.IsCell c v)->(cellsFrom h.objs.size names acc).lookup x=some c->∃ v,(pushCells h names).IsCell c v
 | [],h,acc,x,c,hc,e=>hc x c e
 | (y,k) :: r,h,acc,x,c,hc,e=>by
  unfold cellsFrom at e
  unfold pushCells
  split at e
  ·rename_i hk
   rw[XI hk]
   have hz:(h.push { cls := .type "cell",data := .cell none }).objs.size=h.objs.size + 1:=ZX ..
   rw[<-hz] at e
   refine AD (fun u c q => ?_) e
   rw[Yy] at q
   cases e1:u == y with
   | true=>rw[e1] at q;cases q;exact⟨none,_,XJ _ rfl,rfl⟩
   | false =>
    rw[e1] at q
    obtain⟨v,o,g1,g2⟩:=hc u c q
    exact⟨v,o,ue _ g1,g2⟩
  ·rename_i hk
   rw[Nj hk]
   exact AD hc e
theorem Nr {M:Model} {A:Around} {E:Value->Shared->Prop} {s:Shared} {scope:Scope} {g:Addr} {cl:List (Str × Addr)} {qual:Str} {env:Env} {Q:Env->Shared->Prop}
  (h:Q (newEnv scope s.heap.objs.size g (cellsFrom (s.heap.objs.size + 1) scope.names cl) qual none .none (some env) builtinsNs) { s with heap:=pushCells (s.heap.push { cls := .type "dict",data := .dict #[] }) scope.names }) :
  wpAny M A (newFunctionEnv scope g cl [] qual none .none (some env)) Q E s:=by
 simp only[newFunctionEnv,Option.isSome_some,Z9]
 refine nq (wpAny_alloc ?_)
 refine nq (wpAny_layCells _ (fun name kind cells=>by cases Nt:kind == NameKind.cell<;>simp[Nt]) _ _ _ _ ?_)
 rw[show ({ s with heap:=s.heap.push { cls := .type "dict",data := .dict #[] } }:Shared).heap.objs.size=s.heap.objs.size + 1 from ZX ..]
 refine nq ?_
 rw[List.forIn_nil]
 exact xa (xa h)
section
variable {X:Cx} {elt tg iter:Expr} {ifs:List Expr} {scope:Scope} {pos:Pos} {Nb:List Str} {cp:List (Option Nat)} {wi:TI} {g:BD->TG} {tf:BD->TT} {te:BD->TE}
variable {pins:List (Addr × Obj)} {σ : St} {H:Hp} {s:Shared}
noncomputable abbrev um (scope:Scope) (s:Shared) (cl:List (Str × Addr)):List (Str × Addr):=cellsFrom (s.heap.objs.size + 1) scope.names cl
theorem Nu {fp:List Addr} {cl:List (Str × Addr)} (S:xf X scope Nb cp) (I:Inv X pins σ H s) (hf:∀ b∈fp,bq X pins H b) (ho:∀ b∈fp,∃ o,s.heap.get? b=some o)
  (c1:∀ x c,cl.lookup x=some c->X.env.cells.lookup x=some c) (c2:∀ y∈scope.names,y.2 = .free->∃ c,cl.lookup y.1=some c):(cC X scope Nb ⟨um scope s cl,s.heap.objs.size,s,H,fp⟩).Ok:=by
 have Nv:∀ b∈fp,b∉j7 X.stack:=fun b hb z=>by
  obtain⟨_,f1,f2,_⟩:=hf b hb
  rcases Nh.mp (I.gY b z) with e | e
  ·exact f1 e
  ·exact f2 e
 have lt:∀ u c,cl.lookup u=some c->c < s.heap.objs.size:=fun u c e=>by
  obtain⟨v,q⟩:=I.cell u c (c1 _ _ e)
  exact q.lt
 refine⟨I.ok.mod,?_,I.ok.glob,I.ok.blt,qq _,fun x y c h1 h2 => ?_,fun x hx => ?_,fun x c h hc => ?_,I.ok.hd,I.ok.frames,.inl rfl,fun b hb=>⟨?_,fun x c e => ?_⟩,I.bs,Zb I.ok.ot I.sz,fun b o e hb => ?_,Nv,I.stack,I.jg⟩
 ·exact S.kind
 ·exact AA (fun u v c q1 q2=>I.ok.inj u v c (c1 _ _ q1) (c1 _ _ q2)) (fun u c e=>YR (lt u c e)) h1 h2
 ·cases q:scope.names.lookup x with
  | none =>
   have z:(relabel scope X.env).names.lookup x=none:=FR q
   have iN:(relabel scope X.env).names.lookup x=some .cell\/(relabel scope X.env).names.lookup x=some .free:=hx
   rw[z] at iN
   rcases iN with h | h<;>cases h
  | some k =>
   have hm:=Zf q
   have z:(relabel scope X.env).names.lookup x=_:=Ay (env:=X.env) q
   have iN:(relabel scope X.env).names.lookup x=some .cell\/(relabel scope X.env).names.lookup x=some .free:=hx
   rw[z] at iN
   have kf:k = .free\/k = .cell:=by
    by_cases hk:k = .free
    ·exact .inl hk
    ·have:(k == NameKind.free)=false:=by simpa using hk
     simp only[this,q2i,Ym,Y1] at iN
     rcases iN with h | h
     ·exact .inr (YA h)
     ·exact absurd (YA h) hk
   refine q0D.mp (q0W scope.names _ cl ?_)
   rcases kf with rfl | rfl
   ·obtain⟨c,e⟩:=c2 (x,.free) hm rfl
    exact .inr (by rw[show cl.lookup x=some c from e];rfl)
   ·exact .inl q
 ·have hl:scope.names.lookup x=some .cell:=Zt h
  have:=Az (Zf hl) hc
  exact Nat.le_of_succ_le this
 ·obtain⟨o,e⟩:=ho b hb
  exact XN (Ng e)
 ·rcases sv e with e | ⟨e,_⟩
  ·exact (hf b hb).2.2.2.2.1 x c (c1 _ _ e)
  ·obtain⟨o,eo⟩:=ho b hb
   have AE:=Ng eo
   intro z
   subst z
   exact absurd (Nat.lt_of_succ_le e) (Nat.not_lt.mpr (Zp AE))
 ·rcases (hf b hb).2.2.2.1 with z | z
  ·exact I.ok.kP b o e z
  ·exact absurd (Yn (Ng (I.ok.bs b o e).1) z) (ZE _)
theorem Nx {cp:List (Option Nat)} {σ : St} {j:Nat} {v:V} (h:(iM cp σ)[j]? = some (some v)):∃ i,cp[j]? = some (some i) /\ σ[i]? = some (some v):=by
 unfold iM at h
 rw[Ni] at h
 cases e:cp[j]? with
 | none=>rw[e] at h;cases h
 | some o =>
  rw[e] at h
  cases o with
  | none=>cases h
  | some i =>
   refine⟨i,rfl,?_⟩
   have h':(σ[i]?).join=some v:=YA h
   cases q : σ[i]? with
   | none=>rw[q] at h';cases h'
   | some z =>
    rw[q] at h'
    have:z=some v:=h'
    rw[this]
theorem Ny {fp:List Addr} {cl:List (Str × Addr)} {h1:Heap} {tk:Nat} (S:xf X scope Nb cp) (I:Inv X pins σ H s) (hf:∀ b∈fp,bq X pins H b) (ho:∀ b∈fp,∃ o,s.heap.get? b=some o)
  (c1:∀ x c,cl.lookup x=some c->X.env.cells.lookup x=some c) (c2:∀ y∈scope.names,y.2 = .free->∃ c,cl.lookup y.1=some c)
  (hn:h1.Ns s.heap.objs.size (fun x=>([]:List (Str × Value)).reverse.lookup x)) (hk:∀ b o,s.heap.get? b=some o->h1.get? b=some o) (sk:∀ x c,(um scope s cl).lookup x=some c->∃ v,h1.IsCell c v) :
  Inv (cC X scope Nb ⟨um scope s cl,s.heap.objs.size,s,H,fp⟩) [] (iM cp σ) H { s with heap:=h1,toks:=tk }:=by
 refine⟨Nu S I hf ho c1 c2,rfl,I.bare,Un.kept hk,⟨_,hn,fun j x v e1 e2 e3 => ?_⟩,sk,I.aK.fresh (qq _),fun x c e => ?_,fun p hp=>absurd (show p∈([]:List (Addr × Obj)) from hp) (by simp),I.aK.kept hk,?_⟩
 ·obtain⟨i,q1,q2⟩:=Nx e2
  obtain⟨q3,q4⟩:=S.ui j i x q1 e1
  have hm:=Zf q4
  have oH:=S.free _ hm rfl
  obtain⟨m,_,hl⟩:=I.loc
  have Nz:pQ X.env.scope x:=by
   rcases oH with h | h
   ·exact .inr (.inl h)
   ·exact .inr (.inr h)
  obtain⟨u,ru,lk⟩:=hl i x v q3 q2 Nz
  refine⟨u,ru,?_⟩
  have nl:X.env.kindOf x≠some .local:=by
   rcases oH with h | h
   ·intro z;rw[h] at z;cases z
   ·intro z;rw[h] at z;cases z
  rcases lk with⟨k,_⟩ | ⟨_,c,ec,hc⟩
  ·exact absurd k nl
  ·obtain⟨c',FU⟩:=c2 (x,.free) hm rfl
   have FV:=c1 _ _ FU
   rw[ec] at FV;cases FV
   have nc:(x,NameKind.cell)∉scope.names:=fun z=>by have:=S.cell _ z rfl;rw[show scope.names.lookup x=some .free from q4] at this;cases this
   refine .inr ⟨?_,c,(AB nc).trans FU,?_⟩
   ·have z:(relabel scope X.env).names.lookup x=_:=Ay (env:=X.env) q4
    show (relabel scope X.env).names.lookup x=some .cell\/(relabel scope X.env).names.lookup x=some .free
    rw[z]
    split
    ·exact .inl rfl
    ·exact .inr rfl
   ·obtain⟨o,e,d⟩:=hc
    exact⟨o,hk _ _ e,d⟩
 ·rcases sv e with e | ⟨e,_⟩
  ·exact I.cR x c (c1 _ _ e)
  ·exact I.aK.fresh (Nat.le_of_succ_le e)
 ·unfold iM
  rw[qp]
  exact S.len
theorem NA {fp:List Addr} {d:BD} {it l:Addr} {tn:Nat->Heap->Prop} {J:It} {R:Result->Shared->Prop} {Q:VK} {H1:Hp} {s1:Shared} {τ : St} (hc:X.calm=true)
  (hg:PG (cC X scope Nb d) tg (g d)) (hf:PF (cC X scope Nb d) ifs (tf d)) (he:PE (cC X scope Nb d) elt (te d)) (T:Turn X.prog X.w X.K tg J fp it tn)
  (XQ:d.fp=fp) (I1:Inv (cC X scope Nb d) [] τ H1 s1) (kR:tn 0 s1.heap) (FW:∀ b∈fp,bq (cC X scope Nb d) [] H1 b)
  (W:Nat->Nat->St->Hp->Prop) (w0:∃ m,W 0 m τ H1)
  (turn:∀ i m τ H,W i m τ H->(J.stop i H/\Q (.ref l) H)\/(J.go i H/\∃ N:St->Hp->Prop,(∀ τ' H',N τ' H'->∃ m',m' < m/\W (i + 1) m' τ' H')/\∀ x H',J.sd i H x H'->g d x τ H' fun τ2 H2=>tf d τ2 H2 fun b H3 =>
   if b=true then te d τ2 H3 fun y H4=>∃ ys,H4 l=some (.lst ys)/\ys.length < sizeLine/\N τ2 (upd H4 l (.lst (ys ++ [y]))) else N τ2 H3))
  (fin:∀ τ' H' s',Inv (cC X scope Nb d) [] τ' H' s'->Q (.ref l) H'->R (.ok .next) s') :
  codeAny (model X.prog X.w) X.A (.compStart (.ListComp elt [⟨tg,iter,ifs,0⟩] scope pos) 0 (.ref it) (.ref l) (compEnvC scope d.cl d.C X.env)) R s1:=by
 have iS:∀ {H':Hp},(∀ b∈fp,H' b=none)->∀ b∈fp,bq (cC X scope Nb d) [] H' b:=fun hn b hb=>⟨hn b hb,(FW b hb).2⟩
 have loop:codeAny (model X.prog X.w) X.A (.compLoop (.ListComp elt [⟨tg,iter,ifs,0⟩] scope pos) 0 (.ref it) (.ref l) (compEnvC scope d.cl d.C X.env)) R s1:=by
  obtain⟨m0,w0⟩:=w0
  refine Nm (fun n s'=>∃ i τ' H',Inv (cC X scope Nb d) [] τ' H' s'/\tn i s'.heap/\(∀ b∈fp,H' b=none)/\W i n τ' H') ?_ m0 ⟨0,τ,H1,I1,kR,fun b hb=>(FW b hb).1,w0⟩
  rintro n s3 ⟨i,σ3,H3,I3,mV,tY,w3⟩
  rcases turn i n σ3 H3 w3 with⟨stop,qn⟩ | ⟨go,N,hN,step⟩
  ·refine aZ (T.done (cC X scope Nb d) rfl rfl rfl hc i [] s3 σ3 H3 (fun _ _=>False) I3 (iS tY) mV stop) fun r s4 ⟨hr,I4⟩ => ?_
   subst hr
   exact fin σ3 H3 s4 I4 qn
  ·refine aZ (T.item (cC X scope Nb d) rfl rfl rfl hc i [] s3 σ3 H3 (fun _ _=>False) I3 (iS tY) mV go) fun r s4 ⟨u,hr,h4⟩ => ?_
   subst hr
   refine aZ h4 fun _ s5 ⟨x,H5,I5,r5,y5,p9,zV⟩ => ?_
   have zW:=I5.pinned (iS zV) (T.obj _ _ p9)
   refine aZ (hg _ s5 σ3 H5 x u _ zW r5 (step x H5 y5)) fun _ s6 ⟨σ6,H6,I6,q6⟩ => ?_
   have again:∀ {σ7:St} {H7:Hp} {s7:Shared} {m':Nat},Inv (cC X scope Nb d) ([] ++ tX fp s5.heap) σ7 H7 s7->m' < n->W (i + 1) m' σ7 H7->∃ m,m < n/\∃ i σ' H',Inv (cC X scope Nb d) [] σ' H' s7/\tn i s7.heap/\(∀ b∈fp,H' b=none)/\W i m σ' H':=fun {σ7 H7 s7 m'} I7 hm w7=>by
    refine⟨m',hm,i + 1,σ7,H7,I7.dP,T.keep _ _ _ p9 fun b hb o e=>(I7.pin (b,o) (Yq _ (Yq _ (wV hb e)))).1,fun b hb => ?_,w7⟩
    obtain⟨o,e,d⟩:=T.obj _ _ p9 b hb
    exact (I7.pin (b,o) (Yq _ (Yq _ (wV hb e)))).2.1
   refine aZ (hf _ s6 σ6 H6 _ I6 q6) fun ok s7 h0_ => el3 h0_ fun H7 I7 q7 => ?_
   cases ok with
   | false =>
    rw[Nj Yo] at q7 ⊢
    obtain⟨m',hm,w7⟩:=hN _ _ q7
    exact again I7 hm w7
   | true =>
    rw[XI rfl] at q7 ⊢
    refine aZ (he _ s7 σ6 H7 _ I7 q7) fun y s8 ⟨yv,H8,I8,r8,ys,hy,hz,q8⟩ => ?_
    obtain⟨m',hm,w8⟩:=hN _ _ q8
    refine aZ (ql _ s8 σ6 H8 (.ref l) [yv] (.ref l) [y] (fun _ H9=>H9=upd H8 l (.lst (ys ++ [yv]))) I8 rfl (.cons r8 .nil) ⟨l,ys,yv,rfl,rfl,hy,hz,rfl⟩) fun _ s9 h0_ => el5 h0_ fun _ H9 I9 _ e9 => ?_
    subst e9
    exact again I9 hm w8
 exact codeAny_compStart_list loop (T.self _ 0 s1 _ _ kR loop)
theorem NB {fp:List Addr} {d:BD} {τ : St} {H1 H':Hp} {s1 s':Shared} (I1:Inv X pins σ H1 s1) (hs:d.s=s1) (hH:d.H=H1) (hd:d.fp=fp) (hf:∀ b∈fp,bq X pins H1 b) (J:Inv (cC X scope Nb d) [] τ H' s'):Inv X pins σ H' s':=by
 subst hs hH hd
 exact I1.tT (ch:=d.fp) J.os J.base J.aK J.bare fun b hb=>⟨(hf b hb).2.2.2.1,(hf b hb).2.1,(hf b hb).2.2.2.2.1,(hf b hb).2.2.2.2.2⟩
theorem FX {use:Option (Value->Sem Unit)} {P:Value->Shared->Prop} {Q:VK} (hc:X.calm=true) (S:xf X scope Nb cp) (hi:PI X tg iter wi) (hg:∀ d,PG (cC X scope Nb d) tg (g d)) (hf:∀ d,PF (cC X scope Nb d) ifs (tf d)) (he:∀ d,PE (cC X scope Nb d) elt (te d))
  (hs:∀ x,foldedSetIterable iter X.env x=pure x) (I:Inv X pins σ H s) (h:qr wi cp g tf te σ H Q)
  (fin:∀ (l C:Addr) (H':Hp) (s':Shared) (m:Str->Option Value),Inv X pins σ H' s'->bq X pins H' C->(∀ p c,X.env.cells.lookup p=some c->c≠C)->s'.heap.Ns C m->Q (.ref l) H'->compPost (model X.prog X.w) X.A X.xe use P (.ref l) C (.ok .next) s') :
  wpAny (model X.prog X.w) X.A (comprehension (.ListComp elt [⟨tg,iter,ifs,0⟩] scope pos) scope X.env (firstIterPos [⟨tg,iter,ifs,0⟩] pos) (newList []) false (eval iter X.env) use) P X.xe s:=by
 obtain⟨cl,NC,c1,c2⟩:=FQ (scope:=scope) (env:=X.env) fun y hy ND=>by
  rcases S.free y hy ND with z | z
  ·exact I.ok.has _ (.inl z)
  ·exact I.ok.has _ (.inr z)
 refine wpAny_comprehension_free (cl:=cl) rfl hs NC S.kind S.names (aZ (hi pins s σ H _ I h) fun v s1 h1=>aZ h1 fun zT s2 h2 => ?_)
 obtain⟨it,fp,tn,J,H2,e,I2,T,iQ,f2,q2⟩:=h2
 subst e
 refine Y4 ?_
 have hl:H2 s2.heap.objs.size=none:=I2.fresh
 have I3:Inv X pins σ (upd H2 s2.heap.objs.size (.lst [])) { s2 with heap:=s2.heap.push { cls := .type "list",data := .seq ([]:List Value).toArray } }:=I2.cm (t':=s2.toks) (ys:=[]) .nil (YK _)
 have k3:∀ b o,s2.heap.get? b=some o->(s2.heap.push { cls := .type "list",data := .seq ([]:List Value).toArray }).get? b=some o:=fun b o e=>ue _ e
 have f3:∀ b∈fp,bq X pins (upd H2 s2.heap.objs.size (.lst [])) b:=fun b hb=>by
  obtain⟨o,e,_⟩:=T.obj _ _ iQ b hb
  refine⟨?_,(f2 b hb).2⟩
  rw[aH (XN (Ng e))]
  exact (f2 b hb).1
 generalize NF:upd H2 s2.heap.objs.size (.lst [])=H3 at I3 f3
 generalize NG:({ s2 with heap:=s2.heap.push { cls := .type "list",data := .seq ([]:List Value).toArray } }:Shared)=s3 at I3
 have FY:∀ b o,s2.heap.get? b=some o->s3.heap.get? b=some o:=by rw[<-NG];exact k3
 have o3:∀ b∈fp,∃ o,s3.heap.get? b=some o:=fun b hb=>let ⟨o,e,_⟩:=T.obj _ _ iQ b hb; ⟨o,FY b o e⟩
 refine Nr ?_
 have k4:∀ b o,s3.heap.get? b=some o->(pushCells (s3.heap.push { cls := .type "dict",data := .dict #[] }) scope.names).get? b=some o:=fun b o e=>pushCells_keeps _ _ _ _ (ue _ e)
 have uo:(pushCells (s3.heap.push { cls := .type "dict",data := .dict #[] }) scope.names).Ns s3.heap.objs.size (fun x=>([]:List (Str × Value)).reverse.lookup x):=(Heap.Ns.new s3.heap (.type "dict")).keeps (pushCells_keeps _ _)
 have I4:=Ny (Nb:=Nb) (tk:=s3.toks) S I3 f3 o3 c1 c2 uo k4 fun x c e=>by
  have hz:(s3.heap.push { cls := .type "dict",data := .dict #[] }).objs.size=s3.heap.objs.size + 1:=ZX ..
  have e':(cellsFrom (s3.heap.push { cls := .type "dict",data := .dict #[] }).objs.size scope.names cl).lookup x=some c:=by rw[hz];exact e
  refine AD (fun u c q => ?_) e'
  obtain⟨v,o,g1,g2⟩:=I3.cell u c (c1 _ _ q)
  exact⟨v,o,ue _ g1,g2⟩
 generalize XR:pushCells (s3.heap.push { cls := .type "dict",data := .dict #[] }) scope.names=h₁ at k4 uo I4 ⊢
 obtain⟨W,w0,turn⟩:=q2 ⟨um scope s3 cl,s3.heap.objs.size,s3,H3,fp⟩ s2.heap.objs.size hl
 rw[NF] at w0
 refine NA (d:=⟨um scope s3 cl,s3.heap.objs.size,s3,H3,fp⟩) (fp:=fp) (tn:=tn) (J:=J) (Q:=Q) hc (hg _) (hf _) (he _) T rfl I4 (T.keep _ _ _ iQ fun b hb o e=>k4 b o (FY b o e)) (fun b hb => ?_) W w0 turn fun τ' H' s' I5 q5 => ?_
 ·obtain⟨o,e⟩:=o3 b hb
  refine⟨(f3 b hb).1,XN (Ng e),fun z => ?_,.inl hb,fun x c ec => ?_,fun p hp=>absurd (show p∈([]:List (Addr × Obj)) from hp) (by simp)⟩
  ·rcases Nh.mp (I3.gY b z) with r | r
   ·exact (f3 b hb).2.1 r
   ·exact (f3 b hb).2.2.1 r
  ·rcases sv ec with q | ⟨q,_⟩
   ·exact (f3 b hb).2.2.2.2.1 x c (c1 _ _ q)
   ·have AE:=Ng e
    intro z
    subst z
    exact absurd (Nat.lt_of_succ_le q) (Nat.not_lt.mpr (Zp AE))
 ·have I6:Inv X pins σ H' s':=NB I3 rfl rfl rfl f3 I5
  obtain⟨m,hn,_⟩:=I5.loc
  have fC:bq X pins H' s3.heap.objs.size:=I3.gZ (qq _) I5.free
  exact fin _ _ _ _ m I6 fC (fun p c e=>fC.2.2.2.2.1 p c e) hn q5
theorem NH (cp:List (Option Nat)) (Nb:List Str) (hc:X.calm=true) (hi:PI X tg iter wi) (hg:∀ d,PG (cC X scope Nb d) tg (g d)) (hf:∀ d,PF (cC X scope Nb d) ifs (tf d)) (he:∀ d,PE (cC X scope Nb d) elt (te d))
  (hk:scope.kind = .function:=by rfl) (ho:l8 X.N X.env.scope scope Nb cp=true:=by first | rfl | kernel_rfl) (hs:∀ x,foldedSetIterable iter X.env x=pure x:=by intro _;rfl) :
  PE X (.ListComp elt [⟨tg,iter,ifs,0⟩] scope pos) (qr wi cp g tf te):=by
 intro pins s σ H Q I h
 rw[eval_ListComp]
 refine FX (use:=none) hc (x2j hk ho) hi hg hf he hs I h fun l C H' s' m I' fC hcc hn q=>⟨m,hn,fun h' uq=>⟨.ref l,H',?_,rfl,q⟩⟩
 exact I'.turned (t':=s'.toks) (fun b o hb e=>(uq.2 b hb).trans e) fC.1 fC.2.1 fC.2.2.2.1 fC.2.2.2.2.1 fC.2.2.2.2.2
theorem NI (cp:List (Option Nat)) (Nb:List Str) {i:Nat} {x:Str} {pos' iy:Pos} (hN:X.N.Nodup) (hi:X.N[i]? = some x) (hx:Loc X.env.scope x) (hc:X.calm=true) (hit:PI X tg iter wi) (hg:∀ d,PG (cC X scope Nb d) tg (g d)) (hf:∀ d,PF (cC X scope Nb d) ifs (tf d)) (he:∀ d,PE (cC X scope Nb d) elt (te d))
  (hk:scope.kind = .function:=by rfl) (ho:l8 X.N X.env.scope scope Nb cp=true:=by first | rfl | kernel_rfl) (hs:∀ x,foldedSetIterable iter X.env x=pure x:=by intro _;rfl)
  (ur:swapsWith (.ListComp elt [⟨tg,iter,ifs,0⟩] scope pos) (some (.Name x pos')) iy.line X.env=pure true:=by rfl)
  (mR:X.fn x=true\/X.env.scope.names.lookup x=some .local:=by first | exact .inl rfl | exact .inr rfl | assumption) :
  PS X (.Assign [.Name x pos'] (.ListComp elt [⟨tg,iter,ifs,0⟩] scope pos) iy) (fU (qr wi cp g tf te) (j8 i)):=by
 intro pins s σ H D I h
 rw[exec_Assign_Name_used _ _ _ _ ur]
 refine nq (q0C (nq ?_))
 show wpAny _ X.A (do let _ <- comprehension (.ListComp elt [⟨tg,iter,ifs,0⟩] scope pos) scope X.env _ (newList []) false (eval iter X.env) (some (assign (.Name x pos') X.env))) _ _ s
 refine nq (aZ (FX (use:=some (assign (.Name x pos') X.env)) (P:=fun _ s'=>SP X pins D .next s') hc (x2j hk ho) hit hg hf he hs I h fun l C H' s' m I' fC hcc hn q => ?_) fun _ s' hq=>xa (xa hq))
 show wpAny _ X.A (assign (.Name x pos') X.env (.ref l)) _ _ s'
 refine wpAny_assign_Name (ES I' hN hi hx (v := .ref l) rfl (fun iT NJ ⟨a,sb,ha⟩ => ?_) mR)
 have nC:C≠a:=by
  rcases ha with e | e
  ·rw[e];exact fC.2.1
  ·exact ZV (hcc _ _ e)
 refine⟨m,hn.sameBut sb nC,fun h' uq=>⟨_,H',?_,q⟩⟩
 exact NJ.turned (t':=iT.toks) (fun b o hb e=>(uq.2 b hb).trans e) fC.1 fC.2.1 fC.2.2.2.1 fC.2.2.2.2.1 fC.2.2.2.2.2
end
section
variable {g:TG} {tf:TT} {te:TE}
end
section
variable {X:Cx} {pins:List (Addr × Obj)} {σ : St} {H:Hp} {s:Shared} {h':Heap} {T:Addr} {o:HO} {ch:List Addr} {t':Nat}
theorem Inv.fX (I:Inv X pins σ H s) (hf:∀ b∈ch,bq X pins H b) (k:∀ b u,b∉ch->s.heap.get? b=some u->h'.get? b=some u) (hT:s.heap.objs.size <= T) (new:aF X.prog X.w (upd H T o) h' T o) :
  Inv X pins σ (upd H T o) { s with heap:=h',toks:=t' }:=by
 have hn:H T=none:=I.aK.fresh hT
 have kQ:∀ b u,H b=some u->b∉ch:=fun b u e hb=>by rw[(hf b hb).1] at e;cases e
 refine I.step (g':=s.gens) (d':=s.drawn) (ch:=ch) (fun b hb=>⟨(hf b hb).2.2.2.1,(hf b hb).2.1,(hf b hb).2.2.2.2.1,(hf b hb).2.2.2.2.2⟩) (fun b u _ _ hc e _=>k b u hc e) (fun b u _ _ hc e _=>⟨u.slots,k b u hc e⟩)
  (fun b u _ e n=>by rw[aH (XN (Yn (Ng e) hT))];exact n) (fun b u hc e=>⟨u,k b u hc e⟩) (fun b xs e=>by rw[aH (cf e hn)];exact e)
  (fun b u xs e=>by rw[aH (cf e hn)];exact e) (fun b ps e=>⟨#[],by rw[aH (cf e hn),e];simp⟩) (fun m hm => ?_) (fun b u e => ?_) I.bare
 ·obtain⟨u,es,ep,ho,r⟩:=hm
  exact⟨u,es,ep,k _ u (fun hb=>(hf _ hb).2.1 rfl) ho,r⟩
 ·by_cases hb:b=T
  ·subst hb;rw[bz] at e;cases e;exact new
  ·rw[aH hb] at e
   refine (I.aK b u e).gX (fun c v hc q=>k c v ?_ q) (fun c q=>by rw[aH (cf q hn)];exact q) fun c xs q=>by rw[aH (cf q hn)];exact q
   rcases hc with z | z
   ·rw[z];exact kQ b u e
   ·exact kQ c _ z
theorem Inv.jJ (I:Inv X pins σ H s) (hf:∀ b∈ch,bq X pins H b) (k:∀ b u,b∉ch->s.heap.get? b=some u->h'.get? b=some u):Inv X pins σ H { s with heap:=h',toks:=t' }:=by
 have kQ:∀ b u,H b=some u->b∉ch:=fun b u e hb=>by rw[(hf b hb).1] at e;cases e
 refine I.step (g':=s.gens) (d':=s.drawn) (ch:=ch) (fun b hb=>⟨(hf b hb).2.2.2.1,(hf b hb).2.1,(hf b hb).2.2.2.2.1,(hf b hb).2.2.2.2.2⟩) (fun b u _ _ hc e _=>k b u hc e) (fun b u _ _ hc e _=>⟨u.slots,k b u hc e⟩)
  (fun b u _ e n=>n) (fun b u hc e=>⟨u,k b u hc e⟩) (fun b xs e=>e)
  (fun b u xs e=>e) (fun b ps e=>⟨#[],by rw[e];simp⟩) (fun m hm => ?_) (fun b u e => ?_) I.bare
 ·obtain⟨u,es,ep,ho,r⟩:=hm
  exact⟨u,es,ep,k _ u (fun hb=>(hf _ hb).2.1 rfl) ho,r⟩
 ·refine (I.aK b u e).gX (fun c v hc q=>k c v ?_ q) (fun c q=>q) fun c xs q=>q
  rcases hc with z | z
  ·rw[z];exact kQ b u e
  ·exact kQ c _ z
end
noncomputable def sx (K:PySem.W.Frag) (a:Addr):It :=
 ⟨fun i H=>∃ xs x,aU K H a xs/\xs[i]? = some x,fun i H x H'=>∃ T v,x = .ref T/\H T=none/\H'=upd H T (.tup [.int (i:Nat),v])/\∀ xs,aU K H a xs->xs[i]? = some v,fun i H=>∃ xs,aU K H a xs/\xs.length <= i⟩
theorem FZ {P:Program} {w:World} {K:PySem.W.Frag} {elts:List Expr} {x1} {tp:Pos} (a e it:Addr) (h8:e≠it) :
  Turn P w K (.Tuple elts x1 tp) (sx K a) [e,it] e (fun i h=>(∃ old,IsEnum h e it (i:Nat) old)/\h.IsListIter it a i) where
 mem:=by simp
 obj:=fun i h st b hb=>by
  obtain⟨⟨old,he⟩,o,hi,hc,hd⟩:=st
  rcases Nh.mp hb with rfl | hb
  ·exact⟨_,he,fun v z=>by cases z⟩
  ·have z:b=it:=by simpa using hb
   subst z
   exact⟨o,hi,fun v z=>by rw[hd] at z;cases z⟩
 keep:=fun i h h' st k=>by
  obtain⟨⟨old,he⟩,hi⟩:=st
  exact⟨⟨old,k e (by simp) _ he⟩,hi.at fun o q=>k it (by simp) o q⟩
 item:=by
  intro X hP hw hK hc i pins s σ H E I hf st hg
  subst hP hw hK
  obtain⟨⟨old,he⟩,hi⟩:=st
  obtain⟨xs,x,hq,hx⟩:=hg
  obtain⟨ag,rv,p,hz⟩:=I.list hq
  obtain⟨u,hu,ru⟩:=rv.get hx
  refine wpAny_pyNext_enum_item he hi p.isList (x:=u) (by simpa using hu) h8 fun h1 lZ uu uv hsz hk=>⟨_,rfl,?_⟩
  refine wpAny_letOwnedTupleGo_enum lZ fun h2 uw eM => ?_
  have hT:s.heap.objs.size≠e:=ZU (Ng he)
  have jK:h2.get? s.heap.objs.size=some { cls := .type "tuple",data := .seq #[.int i s.toks,u] }:=(eM.2 _ hT).trans uv
  have k2:∀ b o,b∉[e,it]->s.heap.get? b=some o->h2.get? b=some o:=fun b o hb q=>by
   have nr:b≠e:=fun z=>hb (by simp[z])
   have fP:b≠it:=fun z=>hb (by simp[z])
   exact (eM.2 _ nr).trans (hk b o nr fP q)
  have hn:H s.heap.objs.size=none:=I.aK.fresh (qq _)
  refine⟨.ref s.heap.objs.size,upd H s.heap.objs.size (.tup [.int i,x]),I.fX (ch:=[e,it]) (t':=s.toks + 1) hf k2 (qq _) ?_,rfl,⟨_,x,rfl,hn,rfl,fun ys hy=>by rw[I.dO hy hq];exact hx⟩,⟨⟨u,?_⟩,?_⟩,fun b hb => ?_⟩
  ·exact⟨by show 2 <= sizeLine;decide,[.int i s.toks,u],.cons ⟨_,rfl⟩ (.cons ru .nil),_,jK,rfl,_,rfl⟩
  ·have e3:((i:Int) + 1)=(((i + 1:Nat)):Int):=by omega
   rw[e3] at uw
   exact uw
  ·exact uu.at fun o q=>(eM.2 _ (ZV h8)).trans q
  ·have:b < s.heap.objs.size:=by
    obtain⟨o,q,_⟩:=hi
    rcases Nh.mp hb with rfl | hb
    ·exact Ng he
    ·have z:b=it:=by simpa using hb
     subst z;exact Ng q
   rw[aH (XN this)]
   exact (hf b hb).1
 done:=by
  intro X hP hw hK hc i pins s σ H E I hf st hg
  subst hP hw hK
  obtain⟨⟨old,he⟩,hi⟩:=st
  obtain⟨xs,hq,hx⟩:=hg
  obtain⟨ag,rv,p,hz⟩:=I.list hq
  have hl:=rv.length
  refine wpAny_pyNext_enum_end (I.ok.hd hc) he hi p.isList (by simp;omega) fun h1 eb=>⟨rfl,?_⟩
  obtain⟨f0,f1,f2,f3,f4,f5⟩:=hf it (by simp)
  exact I.turned (t':=s.toks) (fun b o hb q=>eb b o hb q) f0 f1 f3 f4 f5
 self:=fun A i s Q E st h=>by
  obtain⟨⟨old,he⟩,hi⟩:=st
  have hT:s.TypeIs (.ref e) "enumerate" := ⟨_,he,rfl⟩
  exact Z1 he h
section
variable {X:Cx} {elts:List Expr} {x1:Nat} {tp:Pos}
noncomputable def AF (K:PySem.W.Frag) (ta:TA):TI:=fun σ H R=>ta σ H fun vs H1=>∃ a,vs=[.ref a]/\(∃ xs,aU K H1 a xs)/\R (sx K a) H1
theorem F7:bootBuiltins "enumerate" = some (.type "enumerate"):=by decide +kernel
theorem NK:bootBuiltins "zip" = some (.type "zip"):=by decide +kernel
theorem NL {a:Expr} {ta:TA} {p pos:Pos} (hg:Gl X "enumerate") (hm:X.mg "enumerate" = none) (ha:PA X [a] ta) (hs:starEach [a] X.env=[(false,eval a X.env)]:=by rfl) :
  PI X (.Tuple elts x1 tp) (.Call (.Name "enumerate" p) [a] [] pos) (AF X.K ta):=by
 intro pins s σ H R I h
 refine Call_ (mS I hg hm F7 (Zk (aZ (ha pos pins s σ H _ I h) fun us s1 h0_ => el5 h0_ fun vs H1 I1 r1 q1 => ?_) hs rfl))
 obtain⟨l,e,⟨xs,hq⟩,q⟩:=q1
 subst e
 cases r1 with
 | cons r rr =>
  cases rr
  cases r
  obtain⟨ag,rv,p,hz⟩:=I1.list hq
  refine call_enumerate_list p.isList fun h' he hi hsz hk => ?_
  have I2:Inv X pins σ H1 { s1 with heap:=h' }:=I1.kept (t':=s1.toks) hk
  refine Z1 he ?_
  refine⟨_,_,_,_,H1,rfl,I2,FZ l (s1.heap.objs.size + 1) s1.heap.objs.size (q1K _),⟨⟨_,he⟩,hi⟩,fun b hb => ?_,q⟩
  have dJ:s1.heap.objs.size <= b:=by
   rcases Nh.mp hb with rfl | hb
   ·exact q1B _
   ·have z:b=s1.heap.objs.size:=by simpa using hb
    rw[z];exact qq _
  exact I1.gZ dJ (I1.aK.fresh dJ)
end
noncomputable def F8 (K:PySem.W.Frag) (a b:Addr):It :=
 ⟨fun i H=>∃ xs ys x y,aU K H a xs/\aU K H b ys/\xs[i]? = some x/\ys[i]? = some y,
  fun i H v H'=>∃ T x y,v = .ref T/\H T=none/\H'=upd H T (.tup [x,y])/\(∀ xs,aU K H a xs->xs[i]? = some x)/\∀ ys,aU K H b ys->ys[i]? = some y,
  fun i H=>∃ xs ys,aU K H a xs/\aU K H b ys/\(xs.length <= i\/ys.length <= i)⟩
structure NM (z TI TO i1 i2 l1 l2:Addr) (i:Nat) (h:Heap):Prop where
 hz:IsZip h z TI TO .none
 kg:IsPair h TI (.ref i1) (.ref i2)
 kY:∃ x y,IsPair h TO x y
 h1:h.IsListIter i1 l1 i
 h2:h.IsListIter i2 l2 i
theorem NN {P:Program} {w:World} {K:PySem.W.Frag} {elts:List Expr} {x1} {tp:Pos} {z TI TO i1 i2 l1 l2:Addr} (D:ZipApart z TI TO i1 i2 l1 l2) :
  Turn P w K (.Tuple elts x1 tp) (F8 K l1 l2) [z,TI,TO,i1,i2] z (NM z TI TO i1 i2 l1 l2) where
 mem:=by simp
 obj:=fun i h st b hb=>by
  obtain⟨hz,kg,⟨x,y,kY⟩,⟨o1,q1,c1,d1⟩,⟨o2,q2,c2,d2⟩⟩:=st
  simp only[Nh,Yx,ZI] at hb
  rcases hb with rfl | rfl | rfl | rfl | rfl
  ·exact⟨_,hz,fun v z=>by cases z⟩
  ·exact⟨_,kg,fun v z=>by cases z⟩
  ·exact⟨_,kY,fun v z=>by cases z⟩
  ·exact⟨_,q1,fun v z=>by rw[d1] at z;cases z⟩
  ·exact⟨_,q2,fun v z=>by rw[d2] at z;cases z⟩
 keep:=fun i h h' st k=>by
  obtain⟨hz,kg,⟨x,y,kY⟩,h1,h2⟩:=st
  exact⟨k z (by simp) _ hz,k TI (by simp) _ kg,⟨x,y,k TO (by simp) _ kY⟩,h1.at fun o q=>k i1 (by simp) o q,h2.at fun o q=>k i2 (by simp) o q⟩
 item:=by
  intro X hP hw hK hc i pins s σ H E I hf st hg
  subst hP hw hK
  obtain⟨hz,kg,⟨a,b,kY⟩,h1,h2⟩:=id st
  obtain⟨xs,ys,x,y,sy,sA,hx,hy⟩:=hg
  obtain⟨ag,rv,p,_⟩:=I.list sy
  obtain⟨a5,xg,p2,_⟩:=I.list sA
  obtain⟨u,hu,ru⟩:=rv.get hx
  obtain⟨v,hv,NO⟩:=xg.get hy
  refine wpAny_pyNext_zip_item D hz kg kY h1 h2 p.isList p2.isList (x:=u) (y:=v) (by simpa using hu) (by simpa using hv) fun g1 z1 t1 a1 a2 NP XS k1=>⟨_,rfl,?_⟩
  refine wpAny_letOwnedTupleGo_zip z1 fun g2 z2 eM => ?_
  have NQ:s.heap.objs.size≠z:=ZU (Ng hz)
  have NR:IsPair g2 s.heap.objs.size u v:=(eM.2 _ NQ).trans NP
  have k2:∀ b o,b∉[z,TI,TO,i1,i2]->s.heap.get? b=some o->g2.get? b=some o:=fun b o hb q=>by
   simp only[Nh,Yx,ZI,q2g] at hb
   exact (eM.2 _ hb.1).trans (k1 b o hb.1 hb.2.2.1 hb.2.2.2.1 hb.2.2.2.2 q)
  have hn:H s.heap.objs.size=none:=I.aK.fresh (qq _)
  refine⟨.ref s.heap.objs.size,upd H s.heap.objs.size (.tup [x,y]),I.fX (ch:=[z,TI,TO,i1,i2]) (t':=s.toks) hf k2 (qq _) ?_,rfl,⟨_,x,y,rfl,hn,rfl,fun zs hy=>by rw[I.dO hy sy];exact hx,fun zs sC=>by rw[I.dO sC sA];exact hy⟩,⟨z2,?_,⟨u,v,(eM.2 _ D.TOz).trans t1⟩,a1.at fun o q=>(eM.2 _ D.i1z).trans q,a2.at fun o q=>(eM.2 _ D.i2z).trans q⟩,fun b hb => ?_⟩
  ·exact⟨by show 2 <= sizeLine;decide,[u,v],.cons ru (.cons NO .nil),_,NR,rfl,_,rfl⟩
  ·exact (eM.2 _ D.TIz).trans (k1 TI _ D.TIz D.TITO D.TIi1 D.TIi2 kg)
  ·have:b < s.heap.objs.size:=by
    obtain⟨o1,q1,_⟩:=h1
    obtain⟨o2,q2,_⟩:=h2
    simp only[Nh,Yx,ZI] at hb
    rcases hb with rfl | rfl | rfl | rfl | rfl
    ·exact Ng hz
    ·exact Ng kg
    ·exact Ng kY
    ·exact Ng q1
    ·exact Ng q2
   rw[aH (XN this)]
   exact (hf b hb).1
 done:=by
  intro X hP hw hK hc i pins s σ H E I hf st hg
  subst hP hw hK
  obtain⟨hz,kg,⟨a,b,kY⟩,h1,h2⟩:=id st
  obtain⟨xs,ys,sy,sA,hx⟩:=hg
  obtain⟨ag,rv,p,_⟩:=I.list sy
  obtain⟨a5,xg,p2,_⟩:=I.list sA
  have hl:=rv.length
  have sq:=xg.length
  refine wpAny_pyNext_zip_end (I.ok.hd hc) D hz kg kY h1 h2 p.isList p2.isList ?_ fun g1 k1=>⟨rfl,I.jJ (t':=s.toks) (ch:=[z,TI,TO,i1,i2]) hf fun b o hb q => ?_⟩
  ·rcases hx with hx | hx
   ·exact .inl (by simp;omega)
   ·exact .inr (by simp;omega)
  ·simp only[Nh,Yx,ZI,q2g] at hb
   exact k1 b o hb.1 hb.2.2.1 hb.2.2.2.1 hb.2.2.2.2 q
 self:=fun A i s Q E st h=>wpAny_pyIter_zip st.hz h
theorem NS (n l1 l2:Nat) (q1:l1 < n) (q2:l2 < n):ZipApart (n + 4) (n + 2) (n + 3) n (n + 1) l1 l2:=by
 constructor<;>(show @Ne Nat _ _;omega)
section
variable {X:Cx} {elts:List Expr} {x1:Nat} {tp:Pos}
noncomputable def ux (K:PySem.W.Frag) (ta:TA):TI:=fun σ H R=>ta σ H fun vs H1=>∃ a b,vs=[.ref a,.ref b]/\(∃ xs,aU K H1 a xs)/\(∃ ys,aU K H1 b ys)/\R (F8 K a b) H1
theorem NT {a b:Expr} {ta:TA} {p pos:Pos} (hg:Gl X "zip") (hm:X.mg "zip" = none) (ha:PA X [a,b] ta) (hs:starEach [a,b] X.env=[(false,eval a X.env),(false,eval b X.env)]:=by rfl) (eM:starEach [b] X.env=[(false,eval b X.env)]:=by rfl) :
  PI X (.Tuple elts x1 tp) (.Call (.Name "zip" p) [a,b] [] pos) (ux X.K ta):=by
 intro pins s σ H R I h
 refine Call_ (mS I hg hm NK (Zk (aZ (ha pos pins s σ H _ I h) fun us s1 h0_ => el5 h0_ fun vs H1 I1 r1 q1 => ?_) (by rw[hs,eM]) (by rw[eM];rfl)))
 obtain⟨l1,l2,e,⟨xs,sy⟩,⟨ys,sA⟩,q⟩:=q1
 subst e
 cases r1 with
 | cons r rr =>
  cases rr with
  | cons r' NU =>
   cases NU
   cases r
   cases r'
   obtain⟨ag,rv,p,_⟩:=I1.list sy
   obtain⟨a5,xg,p2,_⟩:=I1.list sA
   have b1:l1 < s1.heap.objs.size:=by obtain⟨o,q,_⟩:=p.isList;exact Ng q
   have b2:l2 < s1.heap.objs.size:=by obtain⟨o,q,_⟩:=p2.isList;exact Ng q
   refine call_zip_2 p.isList p2.isList fun h' hz kg kY uu nu hsz hk => ?_
   have I2:Inv X pins σ H1 { s1 with heap:=h' }:=I1.kept (t':=s1.toks) hk
   have D:=NS s1.heap.objs.size l1 l2 b1 b2
   refine wpAny_pyIter_zip hz ?_
   refine⟨_,_,_,_,H1,rfl,I2,NN D,⟨hz,kg,⟨_,_,kY⟩,uu,nu⟩,fun b hb => ?_,q⟩
   have dJ:s1.heap.objs.size <= b:=by
    simp only[Nh,Yx,ZI] at hb
    rcases hb with rfl | rfl | rfl | rfl | rfl
    ·exact ZR _ _
    ·exact ZR _ _
    ·exact ZR _ _
    ·exact qq _
    ·exact ZR _ _
   exact I1.gZ dJ (I1.aK.fresh dJ)
end
section
variable {X:Cx} {nm:Str} {tp:Pos}
end
end L2
namespace L2
open PySem PySem.Spec PyProof.Rows PySem.W
open Builtin Builtin.ObjectAttr
section
variable {prog:Program} {w:World} {A:Around} {E:Value->Shared->Prop} {s:Shared} {K:Frag} {x D:Addr} {ox:Obj} {XT:Option Obj} {name:Str}
variable {h:Heap} {g:Array GenState} {d:Drawn} {t:Nat} {os:OsState} {nm q:Str} {C N:Addr} {bs bm XU:List Value} {NV:Bool} {sn:List Str} {sub:List Value} {ab:Bool} {col:Option Bool} {dd:Option Addr} {k0 k1 k2 k3 k5:Option Value} {B newId AG:String}
end
end L2
namespace L2
open PySem PySem.Spec PyProof.Rows
section
variable {X:Cx} {pins:List (Addr × Obj)} {σ : St} {H:Hp} {s:Shared} {C f:Addr} {CX:jE} {k:Nat} {fd:FuncData} {ps:List Str} {sp:Sp} {E:XK} {x:Str} {p pos pos':Pos} {e o value:Expr} {es:List Expr} {ta tv:TE} {t:TA}
end
section
variable {X:Cx}
noncomputable def uy:V->Option Value
 | .ty n=>some (.type n)
 | .ref a=>some (.ref a)
 | _=>none
theorem NW {y:V} {u c:Value} (r:RelV y u) (e:uy y=some c):u=c:=by
 cases y with
 | ty n=>cases e;exact r
 | ref a=>cases e;exact r
 | _=>cases e
theorem NX:gx X (.builtin "isinstance") (fun xs H Q=>∃ x y c t b,xs=[x,y]/\uy y=some c/\dQ X.K H x t/\PySem.W.kitOne X.K t c=some b/\Q (.bl b) H):=by
 intro pins s σ H xs us Q I rv h
 obtain⟨x,y,c,t,b,rfl,hc,ty,e,q⟩:=h
 obtain⟨u,w',rfl,rx,ry⟩:=rv.two
 rw[NW ry hc]
 exact Mt I rx ty e fun tk=>⟨.bl b,H,I.tok tk,rfl,q⟩
end
theorem F9 {K:PySem.W.Frag} {a:Addr} {xs:List V} {g:TG} {tb:TS} {D:Ends} {σ : St} {H:Hp} (Pv:Nat->St->Hp->Prop) (h0:Pv 0 σ H) (hl:∀ i σ H,i <= xs.length->Pv i σ H->aU K H a xs)
  (hs:∀ i x T σ H,xs[i]? = some x->Pv i σ H->H T=none->g (.ref T) σ (upd H T (.tup [.int (i:Nat),x])) fun σ2 H2=>tb { D with nx:=Pv (i + 1),ct:=Pv (i + 1),bk:=D.nx } σ2 H2) (hd:∀ σ H,Pv xs.length σ H->D.nx σ H) :
  ∃ W:Nat->Nat->St->Hp->Prop,(∃ m,W 0 m σ H)/\∀ i m σ H,W i m σ H →
   ((sx K a).stop i H/\D.nx σ H)\/((sx K a).go i H/\∃ N:St->Hp->Prop,(∀ σ' H',N σ' H'->∃ m',m' < m/\W (i + 1) m' σ' H')/\∀ x H',(sx K a).sd i H x H'->g x σ H' fun σ2 H2=>tb { D with nx:=N,ct:=N,bk:=D.nx } σ2 H2):=by
 refine⟨fun i m σ H=>m=xs.length - i/\i <= xs.length/\Pv i σ H,⟨xs.length,by simp,YK _,h0⟩,?_⟩
 rintro i m σ H ⟨rfl,hi,p⟩
 have q:=hl i σ H hi p
 by_cases cQ:i < xs.length
 ·refine .inr ⟨⟨xs,xs[i],q,by simp[cQ]⟩,Pv (i + 1),fun σ' H' p'=>⟨xs.length - (i + 1),by omega,rfl,cQ,p'⟩,fun x H' y => ?_⟩
  obtain⟨T,v,rfl,hT,rfl,y⟩:=y
  exact hs i v T σ H (y xs q) p hT
 ·have e:i=xs.length:=by omega
  subst e
  exact .inl ⟨⟨xs,q,qq _⟩,hd σ H p⟩
section
variable {g:TG} {tf:TT} {te:TE} {l:Addr} {τ0:St} {H0:Hp} {Q:VK}
end
section
variable {X:Cx} {es:List Expr} {te:TE} {t:TA}
theorem AH {c j p} (ha:PE X (.Constant c j p) te) (hr:PA X es t):PA X (.Constant c j p :: es) (dR te t):=qb ha hr rfl
theorem AI {x p} (ha:PE X (.Name x p) te) (hr:PA X es t):PA X (.Name x p :: es) (dR te t):=qb ha hr rfl
theorem AJ {f a k p} (ha:PE X (.Call f a k p) te) (hr:PA X es t):PA X (.Call f a k p :: es) (dR te t):=qb ha hr rfl
theorem AK {a p} (ha:PE X (.List a p) te) (hr:PA X es t):PA X (.List a p :: es) (dR te t):=qb ha hr rfl
theorem AL {a k p} (ha:PE X (.Tuple a k p) te) (hr:PA X es t):PA X (.Tuple a k p :: es) (dR te t):=qb ha hr rfl
theorem AM {a k p} (ha:PE X (.Subscript a k p) te) (hr:PA X es t):PA X (.Subscript a k p :: es) (dR te t):=qb ha hr rfl
end
inductive D where
 | non | bl (b:Bool) | int (i:Int) | str (x:Str) | tup (xs:List D) | lst (xs:List D)
mutual
noncomputable def Is (H:Hp):D->V->Prop
 | .non,v=>v = .non
 | .bl b,v=>v = .bl b
 | .int i,v=>v = .int i
 | .str x,v=>v = .str x
 | .tup ds,v=>∃ a vs,v = .ref a/\H a=some (.tup vs)/\af H ds vs
 | .lst ds,v=>∃ a vs,v = .ref a/\H a=some (.lst vs)/\af H ds vs
noncomputable def af (H:Hp):List D->List V->Prop
 | [],vs=>vs=[]
 | d :: ds,vs=>∃ v r,vs=v :: r/\Is H d v/\af H ds r
end
mutual
theorem Is.same {H H':Hp} (s:ax H H'):∀ {d:D} {v:V},Is H d v->Is H' d v
 | .non,_,h=>h
 | .bl _,_,h=>h
 | .int _,_,h=>h
 | .str _,_,h=>h
 | .tup _,_,h=>by
  simp only[Is] at h ⊢
  obtain⟨a,vs,e,h1,h2⟩:=h
  exact⟨a,vs,e,s _ _ h1,af.same s h2⟩
 | .lst _,_,h=>by
  simp only[Is] at h ⊢
  obtain⟨a,vs,e,h1,h2⟩:=h
  exact⟨a,vs,e,s _ _ h1,af.same s h2⟩
theorem af.same {H H':Hp} (s:ax H H'):∀ {d:List D} {v:List V},af H d v->af H' d v
 | [],_,h=>h
 | _ :: _,_,h=>by
  simp only[af] at h ⊢
  obtain⟨v,r,e,h1,h2⟩:=h
  exact⟨v,r,e,Is.same s h1,af.same s h2⟩
end
theorem af.length {H:Hp}:∀ {ds:List D} {vs:List V},af H ds vs->vs.length=ds.length
 | [],_,h=>by simp only[af] at h;rw[h];rfl
 | _ :: _,_,h=>by
  simp only[af] at h
  obtain⟨v,r,rfl,_,h2⟩:=h
  rw[FL,FL,af.length h2]
theorem af.get {H:Hp}:∀ {ds:List D} {vs:List V} {i:Nat} {v:V},af H ds vs->vs[i]? = some v->∃ d,ds[i]? = some d/\Is H d v
 | [],_,i,v,h,e=>by simp only[af] at h;rw[h] at e;simp at e
 | d :: ds,_,i,v,h,e=>by
  simp only[af] at h
  obtain⟨v',r,rfl,h1,h2⟩:=h
  cases i with
  | zero=>simp at e;subst e;exact⟨d,rfl,h1⟩
  | succ i=>simp at e;simpa using af.get h2 e
theorem af.nil {H:Hp}:af H [] []:=by simp only[af]
theorem af.cons {H:Hp} {d:D} {ds:List D} {v:V} {vs:List V} (h:Is H d v) (r:af H ds vs):af H (d :: ds) (v :: vs):=by
 simp only[af]
 exact⟨v,vs,rfl,h,r⟩
theorem af.snoc {H:Hp} {d:D} {v:V}:∀ {ds:List D} {vs:List V},af H ds vs->Is H d v->af H (ds ++ [d]) (vs ++ [v])
 | [],_,h,q=>by simp only[af] at h;subst h;exact .cons q .nil
 | _ :: _,_,h,q=>by
  simp only[af] at h
  obtain⟨v',r,rfl,h1,h2⟩:=h
  exact .cons h1 (af.snoc h2 q)
mutual
noncomputable def dep:D->Nat
 | .tup ds=>a_ ds + 1
 | .lst ds=>a_ ds + 1
 | _=>0
noncomputable def a_:List D->Nat
 | []=>0
 | d :: ds=>max (dep d) (a_ ds)
end
mutual
noncomputable def jL:D->Bool
 | .tup _=>false
 | .lst ds=>decide (ds.length <= 1000) && l9 ds
 | _=>true
noncomputable def l9:List D->Bool
 | []=>true
 | d :: ds=>jL d && l9 ds
end
theorem AN:∀ {ds:List D} {i:Nat} {d:D},ds[i]? = some d->dep d <= a_ ds
 | [],i,d,e=>by simp at e
 | d' :: ds,0,d,e=>by simp at e;subst e;simp only[a_];exact Nat.le_max_left _ _
 | d' :: ds,i + 1,d,e=>by simp at e;simp only[a_];exact Zb (AN e) (Nat.le_max_right _ _)
noncomputable def cg:D->String
 | .non => "NoneType" | .bl _ => "bool" | .int _ => "int" | .str _ => "str" | .tup _ => "tuple" | .lst _ => "list"
theorem Is.ty {K:PySem.W.Frag} {H:Hp}:∀ {d:D} {v:V},Is H d v->dQ K H v (.type (cg d))
 | .non,_,h=>by cases (show _=_ from h);exact .non
 | .bl b,_,h=>by cases (show _=_ from h);exact .bl b
 | .int i,_,h=>by cases (show _=_ from h);exact .int i
 | .str x,_,h=>by cases (show _=_ from h);exact .str x
 | .tup _,_,h=>by
  simp only[Is] at h
  obtain⟨a,vs,rfl,h1,_⟩:=h
  exact .tup h1
 | .lst _,_,h=>by
  simp only[Is] at h
  obtain⟨a,vs,rfl,h1,_⟩:=h
  exact .lst h1
noncomputable def aQ (T c:String):Bool:=T == c || (T == "bool" && c == "int")
section
variable {K:PySem.W.Frag}
theorem NY:∀ T∈["NoneType", "bool", "int", "str", "tuple", "list"],PySem.W.kitOne K (.type T) (.type "bool")=some (aQ T "bool"):=by
 intro T hT
 simp only[Nh,Yx,ZI] at hT
 rcases hT with rfl | rfl | rfl | rfl | rfl | rfl<;>kernel_rfl
theorem NZ:∀ T∈["NoneType", "bool", "int", "str", "tuple", "list"],PySem.W.kitOne K (.type T) (.type "int")=some (aQ T "int"):=by
 intro T hT
 simp only[Nh,Yx,ZI] at hT
 rcases hT with rfl | rfl | rfl | rfl | rfl | rfl<;>kernel_rfl
theorem N0:∀ T∈["NoneType", "bool", "int", "str", "tuple", "list"],PySem.W.kitOne K (.type T) (.type "str")=some (aQ T "str"):=by
 intro T hT
 simp only[Nh,Yx,ZI] at hT
 rcases hT with rfl | rfl | rfl | rfl | rfl | rfl<;>kernel_rfl
theorem kit_tuple:∀ T∈["NoneType", "bool", "int", "str", "tuple", "list"],PySem.W.kitOne K (.type T) (.type "tuple")=some (aQ T "tuple"):=by
 intro T hT
 simp only[Nh,Yx,ZI] at hT
 rcases hT with rfl | rfl | rfl | rfl | rfl | rfl<;>kernel_rfl
theorem N3:∀ T∈["NoneType", "bool", "int", "str", "tuple", "list"],PySem.W.kitOne K (.type T) (.type "list")=some (aQ T "list"):=by
 intro T hT
 simp only[Nh,Yx,ZI] at hT
 rcases hT with rfl | rfl | rfl | rfl | rfl | rfl<;>kernel_rfl
theorem uz (d:D):cg d∈["NoneType", "bool", "int", "str", "tuple", "list"]:=by cases d<;>simp[cg]
end
section
variable {X:Cx}
theorem PE.weak {e:Expr} {t t':TE} (h:PE X e t) (k:∀ σ H Q,t' σ H Q->t σ H Q):PE X e t':=fun pins s σ H Q I q=>h pins s σ H Q I (k σ H Q q)
theorem PT.weak {e:Expr} {t t':TT} (h:PT X e t) (k:∀ σ H Q,t' σ H Q->t σ H Q):PT X e t':=fun pins s σ H Q I q=>h pins s σ H Q I (k σ H Q q)
theorem PA.weak {es:List Expr} {t t':TA} (h:PA X es t) (k:∀ σ H Q,t' σ H Q->t σ H Q):PA X es t':=fun pos pins s σ H Q I q=>h pos pins s σ H Q I (k σ H Q q)
theorem PS.weak {st:Stmt} {t t':TS} (h:PS X st t) (k:∀ D σ H,t' D σ H->t D σ H):PS X st t':=fun pins s σ H D I q=>h pins s σ H D I (k D σ H q)
theorem h9.weak {st:List Stmt} {t t':TS} (h:h9 X st t) (k:∀ D σ H,t' D σ H->t D σ H):h9 X st t':=fun pins s σ H D I q=>h pins s σ H D I (k D σ H q)
end
section
variable {κ : Type} [DecidableEq κ]
noncomputable def bU (kvs:List (κ × V)) (k : κ):Option V:=(kvs.find? fun kv=>decide (kv.1=k)).map (·.2)
noncomputable def putK (kvs:List (κ × V)) (k : κ) (v:V):List (κ × V) :=
 if (kvs.any fun kv=>decide (kv.1=k))=true then kvs.map (fun kv=>if kv.1=k then (kv.1,v) else kv) else kvs ++ [(k,v)]
theorem uA {p : κ × V} {r:List (κ × V)} {k : κ} (e:p.1=k):bU (p :: r) k=some p.2:=by simp[bU,q0o,e]
theorem uB {p : κ × V} {r:List (κ × V)} {k : κ} (e:¬ p.1=k):bU (p :: r) k=bU r k:=by simp[bU,q0o,e]
theorem AO (k : κ):∀ kvs:List (κ × V),(kvs.any fun kv=>decide (kv.1=k))=(bU kvs k).isSome
 | []=>rfl
 | p :: r=>by
  rw[q0e]
  by_cases e:p.1=k
  ·simp only[uA e,Yk e,Bool.true_or,Option.isSome_some]
  ·rw[uB e,Yz e,Bool.false_or];exact AO k r
theorem AQ (kvs:List (κ × V)) (k : κ) (v:V):(putK kvs k v).length <= kvs.length + 1:=by
 unfold putK
 split
 ·rw[qp];omega
 ·rw[Aw,FL,q0n];omega
theorem N4 {kvs:List (κ × V)} {k : κ} (v:V) (h:bU kvs k=none):putK kvs k v=kvs ++ [(k,v)]:=by
 unfold putK
 rw[AO,h]
 exact Nj (by decide)
theorem iR.eT {o:Option V} {u:Option Value} (r:iR o u):o.isSome=u.isSome:=by
 cases o with
 | none=>cases u with
  | none=>rfl
  | some _=>exact (show False from r).elim
 | some _=>cases u with
  | none=>exact (show False from r).elim
  | some _=>rfl
theorem KV.val {kvs:List (κ × V)} {vs:List (κ × Value)} (r:KV kvs vs) (k : κ):iR (bU kvs k) (valueAt vs k):=by
 unfold KV at r
 induction r with
 | nil=>exact True.intro
 | @cons p q ps qs h t ih =>
  obtain⟨h1,h2⟩:=h
  by_cases e:p.1=k
  ·have e':q.1=k:=h1.symm.trans e
   have b:valueAt (q :: qs) k=some q.2:=by simp[valueAt,q0o,e']
   rw[uA e,b];exact h2
  ·have e':¬ q.1=k:=fun z=>e (h1.trans z)
   have b:valueAt (q :: qs) k=valueAt qs k:=by simp[valueAt,q0o,e']
   rw[uB e,b];exact ih
theorem KV.any {kvs:List (κ × V)} {vs:List (κ × Value)} (r:KV kvs vs) (k : κ):(kvs.any fun kv=>decide (kv.1=k))=vs.any fun kv=>decide (kv.1=k):=by
 unfold KV at r
 induction r with
 | nil=>rfl
 | cons h t ih=>rw[q0e,q0e,ih,h.1]
theorem KV.iV {kvs:List (κ × V)} {vs:List (κ × Value)} (r:KV kvs vs) (k : κ) {y:V} {u:Value} (ry:RelV y u) :
  KV (kvs.map fun kv=>if kv.1=k then (kv.1,y) else kv) (vs.map fun kv=>if kv.1=k then (kv.1,u) else kv):=by
 unfold KV at r ⊢
 induction r with
 | nil=>exact .nil
 | @cons p q ps qs h t ih =>
  rw[Yt,Yt]
  refine .cons ?_ ih
  obtain⟨h1,h2⟩:=h
  by_cases e:p.1=k
  ·rw[XI e,XI (h1.symm.trans e)];exact⟨h1,ry⟩
  ·rw[Nj e,Nj (fun z=>e (h1.trans z))];exact⟨h1,h2⟩
theorem KV.put {kvs:List (κ × V)} {vs:List (κ × Value)} (r:KV kvs vs) (k : κ) {y:V} {u:Value} (ry:RelV y u):KV (putK kvs k y) (stored vs k u):=by
 unfold putK stored
 rw[r.any k]
 by_cases e:(vs.any fun kv=>decide (kv.1=k))=true
 ·rw[XI e,XI e];exact r.iV k ry
 ·rw[Nj e,Nj e];exact Paired.snoc r ⟨rfl,ry⟩
theorem KV.length {kvs:List (κ × V)} {vs:List (κ × Value)} (r:KV kvs vs):kvs.length=vs.length:=Paired.length r
end
theorem xh {P:Program} {w:World} {k:Key} {u:Value} (r:RelV (kV k) u):(ip P w).is k u=true:=by
 cases k with
 | inl i=>obtain⟨t,e⟩:=(show ∃ t,u=Value.int i t from r);subst e;exact Lf P w i t
 | inr x=>obtain⟨t,e⟩:=(show ∃ t,u=Value.str x t from r);subst e;exact Lg P w x t
theorem F_ {P:Program} {w:World}:∀ {ks:List Key} {us:List Value},Vals (ks.map kV) us->ItemsAre (ip P w) ks us
 | [],_,r=>by rw[Z4] at r;cases r;exact .nil
 | k :: ks,_,r=>by
  rw[Yt] at r
  cases r with
  | cons h t=>exact .cons (xh h) (F_ t)
noncomputable abbrev KT (H:Hp):List (List Key × V)->List (List Key × Addr × Value)->Prop:=Paired fun p q=>p.1=q.1/\H q.2.1=some (.tup (p.1.map kV))/\RelV p.2 q.2.2
theorem KT.val {H:Hp} {kvs:List (List Key × V)} {xs:List (List Key × Addr × Value)} (r:KT H kvs xs) (k:List Key):iR (bU kvs k) ((atKey xs k).map (·.2)):=by
 induction r with
 | nil=>exact True.intro
 | @cons p q ps qs h t ih =>
  obtain⟨h1,_,h2⟩:=h
  by_cases e:p.1=k
  ·have e':q.1=k:=h1.symm.trans e
   have b:atKey (q :: qs) k=some q.2:=by simp[atKey,q0o,e']
   rw[uA e,b];exact h2
  ·have e':¬ q.1=k:=fun z=>e (h1.trans z)
   have b:atKey (q :: qs) k=atKey qs k:=by simp[atKey,q0o,e']
   rw[uB e,b];exact ih
theorem KT.iV {H:Hp} {kvs:List (List Key × V)} {xs:List (List Key × Addr × Value)} (r:KT H kvs xs) (k:List Key) {y:V} {u:Value} (ry:RelV y u) :
  KT H (kvs.map fun kv=>if kv.1=k then (kv.1,y) else kv) (xs.map (putAt k u)):=by
 induction r with
 | nil=>exact .nil
 | @cons p q ps qs h t ih =>
  rw[Yt,Yt]
  refine .cons ?_ ih
  obtain⟨h1,h2,h3⟩:=h
  unfold putAt
  by_cases e:p.1=k
  ·rw[XI e,XI (h1.symm.trans e)];exact⟨h1,h2,ry⟩
  ·rw[Nj e,Nj (fun z=>e (h1.trans z))];exact⟨h1,h2,h3⟩
theorem KT.put {H:Hp} {kvs:List (List Key × V)} {xs:List (List Key × Addr × Value)} (r:KT H kvs xs) (k:List Key) {b:Addr} {y:V} {u:Value} (hb:H b=some (.tup (k.map kV))) (ry:RelV y u) :
  KT H (putK kvs k y) (storedH xs k b u):=by
 have e:(kvs.any fun kv=>decide (kv.1=k))=(atKey xs k).isSome:=by
  rw[AO,(r.val k).eT,Option.isSome_map]
 unfold putK storedH
 rw[e]
 by_cases q:(atKey xs k).isSome=true
 ·rw[XI q,XI q];exact r.iV k ry
 ·rw[Nj q,Nj q];exact Paired.snoc r ⟨rfl,hb,ry⟩
theorem KT.keeps {H H':Hp} {kvs:List (List Key × V)} {xs:List (List Key × Addr × Value)} (r:KT H kvs xs) (ht:∀ b ys,H b=some (.tup ys)->H' b=some (.tup ys)):KT H' kvs xs :=
 Paired.pO r fun _ _ z=>⟨z.1,ht _ _ z.2.1,z.2.2⟩
section
variable {P:Program} {w:World} {H:Hp} {h:Heap} {a:Addr}
theorem Ga {u:HO} (ok:dI P w H h) (e:Rd H a u):aF P w H h a u:=e.ok ok
theorem Gb {kvs:List (Key × V)} (ok:dI P w H h) (e:Rd H a (.dK kvs)):kvs.length <= sizeLine/\(a == sysModules)=false/\∃ vs,KV kvs vs/\h.DictOf (ip P w) a vs :=
 show aF P w H h a (.dK kvs) from Ga ok e
theorem xi {kvs:List (Key × V)} (ok:dI P w H h) (e:H a=some (.dK kvs)):kvs.length <= sizeLine/\(a == sysModules)=false/\∃ vs,KV kvs vs/\h.DictOf (ip P w) a vs:=Gb ok (.inl e)
theorem AR {ks:List Key} (ok:dI P w H h) (e:H a=some (.tup (ks.map kV))):(tupleKind (ip P w)).is h ks a:=by
 obtain⟨_,ag,r,o,h1,h2,n,h3⟩:=(show aF P w H h a (.tup (ks.map kV)) from ok a _ e)
 exact⟨o,ag.toArray,n,h1,h2,h3,by simpa using F_ r⟩
theorem Gd {kvs:List (List Key × V)} (ok:dI P w H h) (e:Rd H a (.dT kvs)):kvs.length <= sizeLine/\(a == sysModules)=false ∧
  ∃ xs,KT H kvs xs/\h.DictOfH (tupleKind (ip P w)) a xs:=by
 obtain⟨z,y,xs,r,o,es,ep,h1,h2,h3,h4,h5⟩:=(show aF P w H h a (.dT kvs) from Ga ok e)
 refine⟨z,y,xs,r,o,es,ep,h1,h2,h3,h4,fun x hx => ?_,h5⟩
 have all:∀ {l:List (List Key × V)} {m:List (List Key × Addr × Value)},KT H l m->∀ x∈m,(tupleKind (ip P w)).is h x.1 x.2.1:=by
  intro l m q
  induction q with
  | nil=>intro x hx;exact nomatch hx
  | @cons p q ps qs hq t ih =>
   intro x hx
   rcases Nh.mp hx with e | hx
   ·subst e
    exact AR ok (by rw[<-hq.1];exact hq.2.1)
   ·exact ih x hx
 exact all r x hx
theorem N5 {kvs:List (List Key × V)} (ok:dI P w H h) (e:H a=some (.dT kvs)):kvs.length <= sizeLine/\(a == sysModules)=false ∧
  ∃ xs,KT H kvs xs/\h.DictOfH (tupleKind (ip P w)) a xs:=Gd ok (.inl e)
end
noncomputable def jM (H:Hp) (a:Addr) (y:V) (r:Option V):Prop :=
 (∃ kvs k,Rd H a (.dK kvs)/\y=kV k/\r=bU kvs k)\/∃ kvs k b,Rd H a (.dT kvs)/\y = .ref b/\H b=some (.tup (k.map kV))/\r=bU kvs k
noncomputable def kZ (H:Hp) (a:Addr) (y v:V) (H':Hp):Prop :=
 (∃ kvs k,H a=some (.dK kvs)/\y=kV k/\kvs.length < sizeLine/\H'=upd H a (.dK (putK kvs k v))) ∨
 ∃ kvs k b,H a=some (.dT kvs)/\y = .ref b/\H b=some (.tup (k.map kV))/\kvs.length < sizeLine/\H'=upd H a (.dT (putK kvs k v))
theorem jM.k {H:Hp} {a:Addr} {kvs:List (Key × V)} {k:Key} (e:H a=some (.dK kvs)):jM H a (kV k) (bU kvs k) := .inl ⟨kvs,k,.inl e,rfl,rfl⟩
theorem kZ.k {H:Hp} {a:Addr} {kvs:List (Key × V)} {k:Key} {v:V} (e:H a=some (.dK kvs)) (hl:kvs.length < sizeLine):kZ H a (kV k) v (upd H a (.dK (putK kvs k v))) := .inl ⟨kvs,k,e,rfl,hl,rfl⟩
section
variable {X:Cx} {pins:List (Addr × Obj)} {σ : St} {H:Hp} {s:Shared} {a:Addr} {y v:V} {u r:Value} {o:Option V} {A:Around} {E:Value->Shared->Prop}
theorem Inv.big (I:Inv X pins σ H s):sysModules < s.heap.objs.size:=by
 have h:mainGlobals < s.heap.objs.size:=(I.mod.glob.keeps I.bk).lt
 exact q1Q (by decide) h
theorem AS {Q:Value->Shared->Prop} (hu:A.units + 1 < cLine) (I:Inv X pins σ H s) (g:jM H a y o) (ry:RelV y u) (h:∀ s',Inv X pins σ H s'->Q (.bool o.isSome) s') :
  wpAny (model X.prog X.w) A (compareOp .In u (.ref a)) Q E s:=by
 rcases g with⟨kvs,k,e,ey,l⟩ | ⟨kvs,k,b,e,ey,eb,l⟩
 ·subst ey
  obtain⟨z,hd,vs,rel,dd⟩:=Gb I.aK e
  refine wpAny_in_of (xh ry) hd dd.mapOf ?_
  rw[<-(rel.val k).eT,<-l]
  exact h _ (I.tok _)
 ·subst ey
  cases (show u=Value.ref b from ry)
  obtain⟨z,hd,xs,rel,dd⟩:=Gd I.aK e
  refine wpAny_in_heap (tupleKind_room_in1 hu) (AR I.aK eb) hd dd ?_
  have q:=(rel.val k).eT
  rw[Option.isSome_map] at q
  rw[<-q,<-l]
  exact h _ (I.tok _)
theorem AU {h':Heap} {t':Nat} {ob:HO} (I:Inv X pins σ H s) (mu:tN (H a)) (hs:Heap.SameBut a s.heap h') (he:∃ q,h'.get? a=some q) (new:aF X.prog X.w (upd H a ob) h' a ob) :
  Inv X pins σ (upd H a ob) { s with heap:=h',toks:=t' } :=
 I.write (x:=a) (e:=a) mu (.inl rfl) (fun b q hb z=>(hs.2 b hb).trans z) he new
theorem Ge {P:Program} {w:World} {H':Hp} {h':Heap} {kvs:List (Key × V)} {vs:List (Key × Value)} (z:kvs.length <= sizeLine) (hd:(a == sysModules)=false) (rel:KV kvs vs) (dd:h'.DictOf (ip P w) a vs) :
  aF P w H' h' a (.dK kvs):=⟨z,hd,vs,rel,dd⟩
theorem N6 {H':Hp} {Q:Unit->Shared->Prop} (hu:A.units + 1 < cLine) (I:Inv X pins σ H s) (g:kZ H a y v H') (ry:RelV y u) (rv:RelV v r) (h:∀ s',Inv X pins σ H' s'->Q () s') :
  wpAny (model X.prog X.w) A (setItem (.ref a) u r) Q E s:=by
 rcases g with⟨kvs,k,e,ey,l,eH⟩ | ⟨kvs,k,b,e,ey,eb,l,eH⟩
 ·subst ey eH
  obtain⟨z,hd,vs,rel,dd⟩:=xi I.aK e
  have hz:vs.length <= sizeLine:=by rw[<-rel.length];exact z
  have hl:(putK kvs k v).length <= sizeLine:=by have:=AQ kvs k v;omega
  refine wpAny_setItem_pairs (hsz:=hz) (xh ry) dd fun h' qt hs=>h _ ?_
  have he:∃ q,h'.get? a=some q:=let ⟨q,_,_,hq,_⟩:=qt; ⟨q,hq⟩
  exact AU I (by rw[e];exact True.intro) hs he (Ge hl hd (rel.put k rv) qt)
 ·subst ey eH
  cases (show u=Value.ref b from ry)
  obtain⟨z,hd,xs,rel,dd⟩:=N5 I.aK e
  have hz:xs.length <= sizeLine:=by rw[<-Paired.length rel];exact z
  have hl:(putK kvs k v).length <= sizeLine:=by have:=AQ kvs k v;omega
  refine wpAny_setItem_heap (hsz:=hz) (tupleKind_room_in1 hu) (AR I.aK eb) dd fun h' qt hs=>h _ ?_
  obtain⟨q,es,ep,hq,h2,h3,h4,_,h5⟩:=qt
  refine AU I (by rw[e];exact True.intro) hs ⟨q,hq⟩ ⟨hl,hd,_,(rel.put k eb rv).keeps fun c ys ec => ?_,q,es,ep,hq,h2,h3,h4,h5⟩
  rw[aH (Lh ec e (fun z=>nomatch z))]
  exact ec
end
section
variable {X:Cx} {pins:List (Addr × Obj)} {σ : St} {H:Hp} {s:Shared} {a:Addr} {kvs:List (Key × V)} {k:Key} {u:Value} {A:Around} {E:Value->Shared->Prop}
end
noncomputable def qu (ty td:TE):TE:=fun σ H Q=>ty σ H fun y H1=>td σ H1 fun x H2=>∃ a o,x = .ref a/\jM H2 a y o/\Q (.bl o.isSome) H2
noncomputable def Gf (td ty tv:TE):TS:=fun D σ H=>tv σ H fun v H1=>td σ H1 fun x H2=>ty σ H2 fun y H3=>∃ a H4,x = .ref a/\kZ H3 a y v H4/\D.nx σ H4
section
variable {X:Cx} {o i e value:Expr} {pos pos' Aa:Pos} {td ty tv:TE}
theorem N7 (hu:X.A.units + 1 < cLine) (hi:PE X i ty) (ho:PE X o td):PC X .In i o (qu ty td):=by
 intro pins s σ H Q I h
 refine aZ (hi pins s σ H _ I h) fun iv s1 h0_ => el5 h0_ fun y H1 I1 ry q1 =>aZ (ho pins s1 σ H1 _ I1 q1) fun u s2 ⟨x,H2,I2,rx,a,ov,ex,g,q2⟩ => ?_
 subst ex
 obtain rfl:u=Value.ref a:=rx
 exact AS hu I2 g ry fun s3 I3=>⟨.bl ov.isSome,H2,I3,rfl,q2⟩
theorem N8 (hu:X.A.units + 1 < cLine) (ho:PE X o td) (hi:PE X i ty) (hv:PE X value tv) (hs:swapsWith value (some (.Subscript o i pos')) pos.line X.env=pure false) :
  PS X (.Assign [.Subscript o i pos'] value pos) (Gf td ty tv):=by
 intro pins s σ H D I h
 refine wpAny_Assign_Subscript (aZ (hv pins s σ H _ I h) fun r s1 h0_ => el5 h0_ fun v H1 I1 rv q1 =>aZ (ho pins s1 σ H1 _ I1 q1) fun u s2 h0_ => el5 h0_ fun x H2 I2 rx q2 =>aZ (hi pins s2 σ H2 _ I2 q2) fun iv s3 ⟨y,H3,I3,ry,a,H4,ex,g,q3⟩ => ?_) hs
 subst ex
 obtain rfl:u=Value.ref a:=rx
 exact N6 hu I3 g ry rv fun s4 I4=>⟨σ,H4,I4,q3⟩
end
theorem N9 {P:Program} {w:World} {H:Hp} (h:Heap) (hb:sysModules < h.objs.size):aF P w H (h.push { cls := .type "dict",data := .dict #[] }) h.objs.size (.dK []) :=
 ⟨YK _,beq_eq_false_iff_ne.mpr (ZV (XN hb)),[],.nil,Heap.DictOf.new h⟩
noncomputable def AV:TE:=fun _ H Q=>∀ p,H p=none->Q (.ref p) (upd H p (.dK []))
section
variable {X:Cx} {pos:Pos}
theorem N_:PE X (.Dict [] [] pos) AV:=fun pins s σ H Q I h =>
 wpAny_Dict_empty ⟨.ref s.heap.objs.size,_,I.laid (a:=s.heap.objs.size) (o := .dK []) (t':=s.toks) (fun _ _ q=>ue _ q) (qq _) (N9 s.heap I.big),rfl,h _ (I.aK.fresh (qq _))⟩
end
section
variable {X:Cx} {pins:List (Addr × Obj)} {σ : St} {H:Hp} {s:Shared} {a:Addr} {y d:V} {u r:Value} {o:Option V} {A:Around} {E:Value->Shared->Prop}
end
section
variable {X:Cx} {o e f:Expr} {apos cB:Pos} {td ty tx:TE}
end
section
variable {X:Cx} {pins:List (Addr × Obj)} {σ : St} {H:Hp} {s:Shared} {a:Addr} {kvs:List (Key × V)} {A:Around} {E:Value->Shared->Prop}
end
section
variable {X:Cx} {pins:List (Addr × Obj)} {σ : St} {H:Hp} {s:Shared} {a:Addr} {y:V} {u:Value} {A:Around} {E:Value->Shared->Prop}
end
end L2
namespace L2
section
variable {κ : Type} [DecidableEq κ]
end
end L2
namespace L2
open PySem PySem.Spec PyProof.Rows
structure JE (X:Cx) (e:Expr) (t:TE):Prop where
 out:PE X e t
structure JT (X:Cx) (e:Expr) (t:TT):Prop where
 out:PT X e t
structure JW (X:Cx) (e:Expr) (t:TT):Prop where
 out:PW X e t
structure JA (X:Cx) (es:List Expr) (t:TA):Prop where
 out:PA X es t
structure JS (X:Cx) (st:Stmt) (t:TS):Prop where
 out:PS X st t
structure fK (X:Cx) (st:List Stmt) (t:TS):Prop where
 out:h9 X st t
structure JF (X:Cx) (ifs:List Expr) (t:TT):Prop where
 out:PF X ifs t
structure JG (X:Cx) (tg:Expr) (t:TG):Prop where
 out:PG X tg t
structure kh (X:Cx) (ts:List Expr) (t:jh):Prop where
 out:tV X ts t
structure JI (X:Cx) (tg iter:Expr) (wi:TI):Prop where
 out:PI X tg iter wi
structure JC (X:Cx) (op:CmpOp) (a b:Expr) (t:TE):Prop where
 out:PC X op a b t
theorem JE.weak {X:Cx} {e:Expr} {t t':TE} (h:JE X e t) (k:∀ σ H Q,t' σ H Q->t σ H Q):JE X e t':=⟨PE.weak h.out k⟩
theorem JT.weak {X:Cx} {e:Expr} {t t':TT} (h:JT X e t) (k:∀ σ H Q,t' σ H Q->t σ H Q):JT X e t':=⟨PT.weak h.out k⟩
theorem JA.weak {X:Cx} {es:List Expr} {t t':TA} (h:JA X es t) (k:∀ σ H Q,t' σ H Q->t σ H Q):JA X es t':=⟨PA.weak h.out k⟩
theorem JS.weak {X:Cx} {st:Stmt} {t t':TS} (h:JS X st t) (k:∀ D σ H,t' D σ H->t D σ H):JS X st t':=⟨PS.weak h.out k⟩
theorem fK.weak {X:Cx} {st:List Stmt} {t t':TS} (h:fK X st t) (k:∀ D σ H,t' D σ H->t D σ H):fK X st t':=⟨h9.weak h.out k⟩
theorem JW.jt {X:Cx} {e:Expr} {t:TT} (h:JW X e t):JT X e t:=⟨PW.pt h.out⟩
theorem Oa {X:Cx} {i:Nat} {x:Str} {pos:Pos} (hN:X.N[i]? = some x) (hv:pQ X.env.scope x) (hd:(x == ("__debug__" : Str))=false:=by decide) (fR:(x == ("__classdict__" : Str))=false:=by decide):JE X (.Name x pos) (c5 i):=⟨L2.EW hN hv hd fR⟩
theorem cb {X:Cx} {i j pos}:JE X (.Constant (.int i) j pos) (tC (.int i)):=⟨L2.Lm⟩
theorem Ob {X:Cx} {b j pos}:JE X (.Constant (.bool b) j pos) (tC (.bl b)):=⟨L2.Ln⟩
theorem Oc {X:Cx} {j pos}:JE X (.Constant .none j pos) (tC .non):=⟨L2.Lo⟩
theorem Od {X:Cx} {x:Str} {v:V} {u:Value} {pos:Pos} (hg:Gl X x) (hm:X.mg x=some u) (r:RelV v u) (hd:(x == ("__debug__" : Str))=false:=by decide):JE X (.Name x pos) (tC v):=⟨L2.Lp hg hm r hd⟩
theorem Oe {X:Cx} {x:Str} {v:V} {u:Value} {pos:Pos} (hg:Gl X x) (hm:X.mg x=none) (hv:bootBuiltins x=some u) (r:RelV v u) (hn:x ≠ "__name__" := by decide) (hd:(x == ("__debug__" : Str))=false:=by decide):JE X (.Name x pos) (tC v):=⟨L2.Lq hg hm hv r hn hd⟩
theorem Of {X:Cx} {a b:Expr} {pos:Pos} {op:CmpOp} {t:TE} (h:JC X op a b t) (h1:behindInMarks op b=false:=by first | exact Ls _ (by decide) (by decide) | rfl):JT X (.Compare a [op] [b] pos) (tB t):=⟨L2.Lr h.out h1⟩
theorem Og {X:Cx} {e:Expr} {t:TE} (h:JE X e t) (he:∀ whole,isTrue e X.env whole=(do let v <- whole;standAt e.pos;holding [v] (truthy v)):=by intro _;rfl):JT X e (tB t):=⟨L2.Lu h.out he⟩
theorem Oh {X:Cx} {a:Expr} {pos:Pos} {tA:TT} (ha:JT X a tA):JW X (.BoolOp .And [a] pos) tA:=⟨L2.Lw ha.out⟩
theorem Oi {X:Cx} {a:Expr} {pos:Pos} {tA:TT} (ha:JT X a tA):JW X (.BoolOp .Or [a] pos) tA:=⟨L2.Lx ha.out⟩
theorem Oj {X:Cx} {a b:Expr} {pos:Pos} {tA l7:TT} {rest:List Expr} (ha:JT X a tA) (hb:JW X (.BoolOp .And (b :: rest) pos) l7):JW X (.BoolOp .And (a :: b :: rest) pos) (pU tA l7):=⟨L2.Ly ha.out hb.out⟩
theorem Ol {X:Cx} {a b:Expr} {pos:Pos} {tA l7:TT} {rest:List Expr} (ha:JT X a tA) (hb:JW X (.BoolOp .Or (b :: rest) pos) l7):JW X (.BoolOp .Or (a :: b :: rest) pos) (zR tA l7):=⟨L2.Lz ha.out hb.out⟩
theorem Om {X:Cx} {a:Expr} {pos:Pos} {tA:TT} (ha:JT X a tA):JT X (.UnaryOp .Not a pos) (tU tA):=⟨L2.LA ha.out⟩
theorem Oo {X:Cx} {a:Expr} {pos:Pos} {op} {t:TE} (h:JE X a t):JE X (.BoolOp op [a] pos) t:=⟨L2.LB h.out⟩
theorem Oq {X:Cx} {a b:Expr} {ta tb:TE} {pos:Pos} {rest:List Expr} (ha:JE X a ta) (hb:JE X (.BoolOp .And (b :: rest) pos) tb):JE X (.BoolOp .And (a :: b :: rest) pos) (EY ta tb):=⟨L2.LC ha.out hb.out⟩
theorem Ot {X:Cx} {a:Expr} {ta:TE} {pos:Pos} (ha:JE X a ta):JE X (.UnaryOp .Not a pos) (EZ ta):=⟨L2.LF ha.out⟩
theorem Ou {X:Cx} {a b:Expr} {ta tb:TE} {pos:Pos} {tA:TT} {c:Expr} (hc:JT X c tA) (ha:JE X a ta) (hb:JE X b tb):JE X (.IfExp c a b pos) (E5 tA ta tb):=⟨L2.LG hc.out ha.out hb.out⟩
theorem g8 {X:Cx}  : fK X [] r_:=⟨L2.LH⟩
theorem l_ {X:Cx} {st:Stmt} {rest:List Stmt} {t u:TS} (h1:JS X st t) (h2:fK X rest u):fK X (st :: rest) (ir t u):=⟨L2.LI h1.out h2.out⟩
theorem qv {X:Cx} {st:Stmt} {t:TS} (h1:JS X st t):fK X [st] t:=⟨L2.LL h1.out⟩
theorem xj {X:Cx} {e:Expr} {te:TE} {pos:Pos} (he:JE X e te) (hs:swapsWith e none pos.line X.env=pure false:=by rfl):JS X (.Expr e pos) (oA te):=⟨L2.LM he.out hs⟩
theorem AW {X:Cx} {e:Expr} {te:TE} {pos:Pos} (he:JE X e te):JS X (.Return (some e) pos) (pV te):=⟨L2.LN he.out⟩
theorem AX {X:Cx} {t u:TS} {pos:Pos} {c:Expr} {a b:List Stmt} {tc:TT} (hc:JT X c tc) (ha:fK X a t) (hb:fK X b u):JS X (.If c a b pos) (jC tc t u):=⟨L2.LO hc.out ha.out hb.out⟩
theorem uC {X:Cx} {pos:Pos} {i:Nat} {x:Str} (hN:X.N.Nodup) (hi:X.N[i]? = some x) (hx:Loc X.env.scope x) (hf:X.fn x=true\/X.env.scope.names.lookup x=some .local:=by first | exact .inl rfl | exact .inr rfl | assumption):JG X (.Name x pos) (j8 i):=⟨L2.LP hN hi hx hf⟩
theorem g9 {X:Cx}  : kh X [] pX:=⟨L2.LQ⟩
theorem uD {X:Cx} {e:Expr} {es:List Expr} {t:TG} {u:jh} (h1:JG X e t) (h2:kh X es u) (hs:(assignEach (e :: es) X.env).map (·.2)=assign e X.env :: (assignEach es X.env).map (·.2):=by rfl):kh X (e :: es) (wU t u):=⟨L2.LR h1.out h2.out hs⟩
theorem AY {X:Cx} {pos:Pos} {es:List Expr} {k:Nat} {t:jh} {n:Nat} (hc:X.calm=true) (h:kh X es t) (hn:(assignEach es X.env).length=n:=by rfl) (kR:(assignEach es X.env).findIdx? (·.1)=none:=by rfl):JG X (.Tuple es k pos) (pY X.K n t):=⟨L2.LS hc h.out hn kR⟩
theorem uE {X:Cx} {pos:Pos} {o i:Expr} {to ti:TE} {t:mU} (ho:JE X o to) (hi:JE X i ti) (hs:pW X t) (ha:∀ v,assign (.Subscript o i pos) X.env v=(do
   let ov <- holding [v] (eval o X.env)
   let iv <- holding [v,ov] (eval i X.env)
   standAt pos
   holding [v,ov,iv] (setItem ov iv v)
   release [v,ov,iv] []):=by intro _;rfl):JG X (.Subscript o i pos) (pZ to ti t):=⟨L2.LU ho.out hi.out hs ha⟩
theorem sD {X:Cx} {pos:Pos} {tg e:Expr} {te:TE} {g:TG} (he:JE X e te) (hg:JG X tg g) (hs:swapsWithSole [tg] e pos.line X.env=pure false:=by rfl) (hw:swappedStores [tg] e X.env=pure none:=by rfl) (h1:(assignEach [tg] X.env).map (·.2)=[assign tg X.env]:=by rfl):JS X (.Assign [tg] e pos) (fU te g):=⟨L2.LV he.out hg.out hs hw h1⟩
theorem uF {X:Cx} {pos:Pos} {i:Nat} {x:Str} {e:Expr} {te:TE} {pos':Pos} (hN:X.N.Nodup) (hi:X.N[i]? = some x) (hx:Loc X.env.scope x) (he:JE X e te) (hs:swapsWith e (some (.Name x pos')) pos.line X.env=pure false:=by rfl) (hf:X.fn x=true\/X.env.scope.names.lookup x=some .local:=by first | exact .inl rfl | exact .inr rfl | assumption):JS X (.Assign [.Name x pos'] e pos) (fU te (j8 i)):=⟨L2.LW hN hi hx he.out hs hf⟩
theorem Ov {X:Cx} {pos:Pos} {c:Expr} {body:List Stmt} {tc:TT} {tb:TS} (hp:PassesOwn (model X.prog X.w) X.A X.env X.xe) (hc:JT X c tc) (hb:fK X body tb):JS X (.While c body [] pos) (E6 tc tb):=⟨L2.LX hp hc.out hb.out⟩
theorem Ox {X:Cx} {tg:Expr} {a:Expr} {ta:TA} {p pos:Pos} (hg:Gl X "range") (hm:X.mg "range" = none) (ha:JA X [a] ta) (hs:starEach [a] X.env=[(false,eval a X.env)]:=by rfl):JI X tg (.Call (.Name "range" p) [a] [] pos) (Fb ta):=⟨L2.L5 hg hm ha.out hs⟩
theorem Oy {X:Cx} {tg:Expr} {a b:Expr} {ta:TA} {p pos:Pos} (hg:Gl X "range") (hm:X.mg "range" = none) (ha:JA X [a,b] ta) (hs:starEach [a,b] X.env=[(false,eval a X.env),(false,eval b X.env)]:=by rfl) (eM:starEach [b] X.env=[(false,eval b X.env)]:=by rfl):JI X tg (.Call (.Name "range" p) [a,b] [] pos) (Fc ta):=⟨L2.L7 hg hm ha.out hs eM⟩
theorem AZ {X:Cx} {tg:Expr} {iter:Expr} {body:List Stmt} {wi:TI} {g:TG} {tb:TS} {pos:Pos} (hp:PassesOwn (model X.prog X.w) X.A X.env X.xe) (hc:X.calm=true) (hi:JI X tg iter wi) (hg:JG X tg g) (hb:fK X body tb) (hs:∀ x,foldedSetIterable iter X.env x=pure x:=by intro _;rfl):JS X (.For tg iter body [] pos) (p8 wi g tb):=⟨L2.L9 hp hc hi.out hg.out hb.out hs⟩
theorem uG {X:Cx} {a b:Expr} {ta tb:TE} {pos:Pos} {op:Operator} {r:R2} (ho:di X (binaryOp op) r) (ha:JE X a ta) (hb:JE X b tb):JE X (.BinOp a op b pos) (kS r ta tb):=⟨L2.L_ ho ha.out hb.out⟩
theorem Oz {X:Cx} {a b:Expr} {ta tb:TE} {pos:Pos} {op:CmpOp} {r:R2} (ho:di X (compareOp op) r) (ha:JE X a ta) (hb:JE X b tb) (hm:behindInMarks op b=false):JE X (.Compare a [op] [b] pos) (kS r ta tb):=⟨L2.Ml ho ha.out hb.out hm⟩
theorem OA {X:Cx} {a b:Expr} {ta tb:TE} {pos:Pos} {op:CmpOp} {r:R2} (ho:di X (compareOp op) r) (ha:JE X a ta) (hb:JE X b tb) (hm:behindInMarks op b=false):JT X (.Compare a [op] [b] pos) (Fe (kS r ta tb)):=⟨L2.Mm ho ha.out hb.out hm⟩
theorem OB {X:Cx} {a b c:Expr} {ta tb tc:TE} {pos:Pos} {op kU:CmpOp} {r r':R2} (ho:di X (compareOp op) r) (jA:di X (compareOp kU) r') (ha:JE X a ta) (hb:JE X b tb) (hc:JE X c tc) (hm:lastMarks [op,kU] [b,c]=false:=by with_unfolding_all rfl):JE X (.Compare a [op,kU] [b,c] pos) (Ff r r' ta tb tc):=⟨L2.Mn ho jA ha.out hb.out hc.out hm⟩
theorem aV {X:Cx}  : JA X [] cV:=⟨L2.Mu⟩
theorem qw {X:Cx} {e:Expr} {es:List Expr} {te:TE} {t:TA} (ha:JE X e te) (hr:JA X es t) (hs:starEach (e :: es) X.env=(false,eval e X.env) :: starEach es X.env:=by rfl):JA X (e :: es) (dR te t):=⟨L2.qb ha.out hr.out hs⟩
theorem OC {X:Cx} {es:List Expr} {t:TA} {pos:Pos} {x1} (h:JA X es t):JE X (.Tuple es x1 pos) (t5 t):=⟨L2.Mv h.out⟩
theorem uH {X:Cx} {es:List Expr} {t:TA} {pos:Pos} (h:JA X es t):JE X (.List es pos) (jD t):=⟨L2.Mw h.out⟩
theorem uI {X:Cx} {CX:jE} {k:Nat} {f:Addr} {fd:FuncData} {ps:List Str} {sp:Sp} {kW:List V} {ds:List Value} {E:XK} {x:Str} {p pos:Pos} {e:Expr} {es:List Expr} {t:TA} (F:aM X.prog X.w X.K X.mg X.base CX k f fd ps sp) (hr:bf k X.A) (hg:Gl X x) (hm:X.mg x=some (.ref f)) (hk:PySem.W.keepIn X.K (.ref f)=true) (hb:Binds X.K fd ps ds) (hd:Vals kW ds) (hx:wX CX X E) (ha:JA X (e :: es) t) (g6:(x == ("__debug__" : Str))=false:=by decide) (he:starEach (e :: es) X.env=(false,eval e X.env) :: starEach es X.env:=by rfl) (gH:(backTo pos (starEach es X.env)).any (·.1)=false:=by rfl):JE X (.Call (.Name x p) (e :: es) [] pos) (qc sp kW E t):=⟨L2.Mz F hr hg hm hk hb hd hx ha.out g6 he gH⟩
theorem xk {X:Cx} {x:Str} {p pos:Pos} {e:Expr} {es:List Expr} {t:TA} {id:String} {r:List V->Hp->VK->Prop} (hc:gx X (.builtin id) r) (hg:Gl X x) (hm:X.mg x=none) (hv:bootBuiltins x=some (.builtin id)) (ha:JA X (e :: es) t) (hn:x ≠ "__name__" := by decide) (g6:(x == ("__debug__" : Str))=false:=by decide) (he:starEach (e :: es) X.env=(false,eval e X.env) :: starEach es X.env:=by rfl) (gH:(backTo pos (starEach es X.env)).any (·.1)=false:=by rfl):JE X (.Call (.Name x p) (e :: es) [] pos) (si r t):=⟨L2.MB hc hg hm hv ha.out hn g6 he gH⟩
theorem nv {X:Cx} {x:Str} {p pos:Pos} {e:Expr} {es:List Expr} {t:TA} {T:String} {r:List V->Hp->VK->Prop} (hc:gx X (.type T) r) (hg:Gl X x) (hm:X.mg x=none) (hv:bootBuiltins x=some (.type T)) (ha:JA X (e :: es) t) (hn:x ≠ "__name__" := by decide) (g6:(x == ("__debug__" : Str))=false:=by decide) (he:starEach (e :: es) X.env=(false,eval e X.env) :: starEach es X.env:=by rfl) (gH:(backTo pos (starEach es X.env)).any (·.1)=false:=by rfl):JE X (.Call (.Name x p) (e :: es) [] pos) (si r t):=⟨L2.MC hc hg hm hv ha.out hn g6 he gH⟩
theorem A0 {X:Cx} {e:Expr} {te:TE} {lo hi:Option Expr} {tl th:TO} {pos p2:Pos} {r:V->Option Int->Option Int->Hp->VK->Prop} (hr:nh X r) (he:JE X e te) (hl:PO X lo tl) (hu:PO X hi th):JE X (.Subscript e (.Slice lo hi none p2) pos) (Fw r te tl th):=⟨L2.MU hr he.out hl hu⟩
theorem A1 {X:Cx} {a b:Expr} {ta tb:TE} {pos:Pos} {r:R2} (hr:so X r) (ha:JE X a ta) (hb:JE X b tb) (hs:Aj b):JE X (.Subscript a b pos) (kS r ta tb):=⟨L2.MZ hr ha.out hb.out hs⟩
theorem OD {X:Cx} {o:Expr} {to:TE} {name:Str} {apos cB:Pos} {T id:String} {r:V->List V->Hp->VK->Prop} (pa:PlainAttrs T) (slot:Slot T name id) (qi:typeOf (.builtin id)=pure (.type "method_descriptor")) (hm:ub X id r) (ho:JE X o to) (fV:attributeBase o name X.env (eval o X.env)=eval o X.env:=by rfl) (fW:(apos.endLine == cB.line)=true:=by rfl):JE X (.Call (.Attribute o name apos) [] [] cB) (qh X.K T r to):=⟨L2.M8 pa slot qi hm ho.out fV fW⟩
theorem ny {X:Cx} {o e:Expr} {es:List Expr} {to:TE} {t:TA} {name:Str} {apos cB:Pos} {T id:String} {r:V->List V->Hp->VK->Prop} (pa:PlainAttrs T) (slot:Slot T name id) (qi:typeOf (.builtin id)=pure (.type "method_descriptor")) (hm:ub X id r) (ho:JE X o to) (ha:JA X (e :: es) t) (fV:attributeBase o name X.env (eval o X.env)=eval o X.env:=by rfl) (qj:((backTo cB (starEach (e :: es) X.env)).all (fun x => !x.1) && (backToKw cB (keywordEach [] X.env)).all (fun x=>x.1.isSome)
   && decide ((e :: es).length + ([]:List Keyword).length + (if ([]:List Keyword).isEmpty then 0 else 1) < 30))=true:=by rfl) (fW:(apos.endLine == cB.line)=true:=by rfl) (hs:starEach (e :: es) X.env=(false,eval e X.env) :: starEach es X.env:=by rfl) (hplain:(backTo cB (starEach es X.env)).any (·.1)=false:=by rfl):JE X (.Call (.Attribute o name apos) (e :: es) [] cB) (j_ X.K T r to t):=⟨L2.M9 pa slot qi hm ho.out ha.out fV qj fW hs hplain⟩
theorem jv {X:Cx} (i:Nat) {x:Str} {pos:Pos} (hN:X.N[i]? = some x:=by rfl) (hv:pQ X.env.scope x:=by first | exact Or.inl rfl | exact Or.inr (Or.inl rfl) | exact Or.inr (Or.inr rfl)) (hd:(x == ("__debug__" : Str))=false:=by decide) (fR:(x == ("__classdict__" : Str))=false:=by decide):JE X (.Name x pos) (c5 i):=⟨L2.pv i hN hv hd fR⟩
theorem OE {X:Cx} {o i:Expr} {td ty:TE} (hu:X.A.units + 1 < cLine) (hi:JE X i ty) (ho:JE X o td):JC X .In i o (qu ty td):=⟨L2.N7 hu hi.out ho.out⟩
theorem OF {X:Cx} {o i value:Expr} {pos pos':Pos} {td ty tv:TE} (hu:X.A.units + 1 < cLine) (ho:JE X o td) (hi:JE X i ty) (hv:JE X value tv) (hs:swapsWith value (some (.Subscript o i pos')) pos.line X.env=pure false):JS X (.Assign [.Subscript o i pos'] value pos) (Gf td ty tv):=⟨L2.N8 hu ho.out hi.out hv.out hs⟩
theorem iz {X:Cx} {pos:Pos}  : JE X (.Dict [] [] pos) AV:=⟨L2.N_⟩
theorem qx {X:Cx}:JF X [] uj:=⟨L2.Nn⟩
theorem OG {X:Cx} {c:Expr} {t:TT} (h:JT X c t):JF X [c] t:=⟨L2.Np h.out⟩
theorem Gg {X:Cx} {elt tg iter:Expr} {ifs:List Expr} {scope:Scope} {pos:Pos} {wi:TI} {g:BD->TG} {tf:BD->TT} {te:BD->TE} (cp:List (Option Nat)) (Nb:List Str) (hc:X.calm=true) (hi:JI X tg iter wi) (hg:∀ d,JG (cC X scope Nb d) tg (g d)) (hf:∀ d,JF (cC X scope Nb d) ifs (tf d)) (he:∀ d,JE (cC X scope Nb d) elt (te d)) (hk:scope.kind = .function:=by rfl) (ho:l8 X.N X.env.scope scope Nb cp=true:=by first | rfl | kernel_rfl) (hs:∀ x,foldedSetIterable iter X.env x=pure x:=by intro _;rfl):JE X (.ListComp elt [⟨tg,iter,ifs,0⟩] scope pos) (qr wi cp g tf te):=⟨L2.NH cp Nb hc hi.out (fun dd=>(hg dd).out) (fun dd=>(hf dd).out) (fun dd=>(he dd).out) hk ho hs⟩
theorem OH {X:Cx} {elt tg iter:Expr} {ifs:List Expr} {scope:Scope} {pos:Pos} {wi:TI} {g:BD->TG} {tf:BD->TT} {te:BD->TE} (cp:List (Option Nat)) (Nb:List Str) {i:Nat} {x:Str} {pos' iy:Pos} (hN:X.N.Nodup) (hi:X.N[i]? = some x) (hx:Loc X.env.scope x) (hc:X.calm=true) (hit:JI X tg iter wi) (hg:∀ d,JG (cC X scope Nb d) tg (g d)) (hf:∀ d,JF (cC X scope Nb d) ifs (tf d)) (he:∀ d,JE (cC X scope Nb d) elt (te d)) (hk:scope.kind = .function:=by rfl) (ho:l8 X.N X.env.scope scope Nb cp=true:=by first | rfl | kernel_rfl) (hs:∀ x,foldedSetIterable iter X.env x=pure x:=by intro _;rfl) (ur:swapsWith (.ListComp elt [⟨tg,iter,ifs,0⟩] scope pos) (some (.Name x pos')) iy.line X.env=pure true:=by rfl) (mR:X.fn x=true\/X.env.scope.names.lookup x=some .local:=by first | exact .inl rfl | exact .inr rfl | assumption):JS X (.Assign [.Name x pos'] (.ListComp elt [⟨tg,iter,ifs,0⟩] scope pos) iy) (fU (qr wi cp g tf te) (j8 i)):=⟨L2.NI cp Nb hN hi hx hc hit.out (fun dd=>(hg dd).out) (fun dd=>(hf dd).out) (fun dd=>(he dd).out) hk ho hs ur mR⟩
theorem Gh {X:Cx} {elts:List Expr} {x1:Nat} {tp:Pos} {a:Expr} {ta:TA} {p pos:Pos} (hg:Gl X "enumerate") (hm:X.mg "enumerate" = none) (ha:JA X [a] ta) (hs:starEach [a] X.env=[(false,eval a X.env)]:=by rfl):JI X (.Tuple elts x1 tp) (.Call (.Name "enumerate" p) [a] [] pos) (AF X.K ta):=⟨L2.NL hg hm ha.out hs⟩
theorem OI {X:Cx} {elts:List Expr} {x1:Nat} {tp:Pos} {a b:Expr} {ta:TA} {p pos:Pos} (hg:Gl X "zip") (hm:X.mg "zip" = none) (ha:JA X [a,b] ta) (hs:starEach [a,b] X.env=[(false,eval a X.env),(false,eval b X.env)]:=by rfl) (eM:starEach [b] X.env=[(false,eval b X.env)]:=by rfl):JI X (.Tuple elts x1 tp) (.Call (.Name "zip" p) [a,b] [] pos) (ux X.K ta):=⟨L2.NT hg hm ha.out hs eM⟩
theorem uJ {X:Cx} {es:List Expr} {te:TE} {t:TA} {c j p} (ha:JE X (.Constant c j p) te) (hr:JA X es t):JA X (.Constant c j p :: es) (dR te t):=⟨L2.AH ha.out hr.out⟩
theorem iA {X:Cx} {es:List Expr} {te:TE} {t:TA} {x p} (ha:JE X (.Name x p) te) (hr:JA X es t):JA X (.Name x p :: es) (dR te t):=⟨L2.AI ha.out hr.out⟩
theorem iW {X:Cx} {es:List Expr} {te:TE} {t:TA} {f a k p} (ha:JE X (.Call f a k p) te) (hr:JA X es t):JA X (.Call f a k p :: es) (dR te t):=⟨L2.AJ ha.out hr.out⟩
theorem uK {X:Cx} {es:List Expr} {te:TE} {t:TA} {a p} (ha:JE X (.List a p) te) (hr:JA X es t):JA X (.List a p :: es) (dR te t):=⟨L2.AK ha.out hr.out⟩
theorem A2 {X:Cx} {es:List Expr} {te:TE} {t:TA} {a k p} (ha:JE X (.Tuple a k p) te) (hr:JA X es t):JA X (.Tuple a k p :: es) (dR te t):=⟨L2.AL ha.out hr.out⟩
theorem A3 {X:Cx} {es:List Expr} {te:TE} {t:TA} {a k p} (ha:JE X (.Subscript a k p) te) (hr:JA X es t):JA X (.Subscript a k p :: es) (dR te t):=⟨L2.AM ha.out hr.out⟩
theorem bQ.xm {P:Program} {w:World} {K:PySem.W.Frag} {mg:Str->Option Value} {base:Heap} {x qual:Str} {st:Stmt} {f:Addr} {fd:FuncData} {N ps:List Str} {k:Nat} {sp:Sp} (F:bQ K x qual st f fd) (S:cA N ps (bA st)) (len:∀ vs H Q E,sp vs H Q E->vs.length=ps.length)
  (dS:∀ (a0:Value) (A:Around) (outer:List Env) (s:Shared) (H:Hp) (vs:List V) (Q:VK) (E:XK),bf k (A.deeper (envOfC qual (bA st) s.heap.objs.size f a0))->sp vs H Q E →
   ∃ t,fK (gy bJ P w K mg base N qual (bA st) f a0 A outer s H E).mT (jI st) t/\t { nx:=fun _ H'=>Q .non H',rt:=Q } (start N vs) H):aM P w K mg base bJ (k + 1) f fd ps sp :=
 F.ok S len fun a0 A outer s H vs Q E hr h=>let ⟨t,g,q⟩:=dS a0 A outer s H vs Q E hr h; ⟨t,g.out,q⟩
end L2
namespace LJS
open PySem
noncomputable def hp (i j:Int):Int:=reduceHash (Builtin.Tuple.tupleHashOf [hashInt i,hashInt j])
theorem Gi {prog:Program} {w:World} (i j:Int):hT prog w [i,j]=hp i j:=rfl
noncomputable def xn:List (Int × Int):=(List.range 12).flatMap fun j=>(List.range j).map fun i:Nat=>(Int.ofNat i,Int.ofNat j)
theorem OJ:∀ a∈xn,∀ b∈xn,hp a.1 a.2=hp b.1 b.2->a=b:=by decide +kernel
theorem Gj {i j:Int} (h0:0 <= i) (h1:i < j) (h2:j < 12):(i,j)∈xn:=by
 obtain⟨a,rfl⟩:∃ a:Nat,i=a:=⟨i.toNat,by omega⟩
 obtain⟨b,rfl⟩:∃ b:Nat,j=b:=⟨j.toNat,by omega⟩
 unfold xn
 exact List.mem_flatMap.mpr ⟨b,Yr.mpr (by omega),Nk.mpr ⟨a,Yr.mpr (by omega),rfl⟩⟩
end LJS
namespace L2
open PySem PySem.Spec PyProof.Rows
noncomputable def k6 (S:Addr) (n:Nat):HO := .ext fun h=>∃ hs:List Int,hs.length=n/\LJS.kJ h S hs
theorem OK {P:Program} {w:World} {H:Hp} {h:Heap} {S:Addr} {hs:List Int} {n:Nat} (e:LJS.kJ h S hs) (hn:hs.length=n):aF P w H h S (k6 S n) :=
 ⟨⟨hs,hn,e⟩,let ⟨o,_,_,_,ho,_⟩:=e; ⟨o,ho⟩,fun h1 h2 ⟨xo,en,e1⟩ k=>⟨xo,en,LJS.KG e1 fun o eo=>k o eo⟩⟩
section
variable {X:Cx}
theorem Gk:∀ {ps:List Addr} {ag:List Value},Vals (ps.map V.ref) ag->ag=ps.map Value.ref
 | [],_,.nil=>rfl
 | _ :: _,_,.cons r rs=>by cases r;rw[Gk rs];rfl
theorem OL:gx X (.builtin "len") (fun xs H Q=>∃ (p:Addr) (n:Nat),xs=[.ref p]/\H p=some (k6 p n)/\n < 1000/\Q (.int n) H):=by
 intro pins s σ H xs us Q I r h
 obtain⟨p,n,rfl,hp,hn,q⟩:=h
 obtain⟨u,rfl,rx⟩:=vals1 r
 cases rx
 obtain⟨⟨hs,hl,o,es,ep,t,ho,hex,hd,T⟩,_⟩:=I.aK p _ hp
 have e:es.size=n:=by rw[T.num,hl]
 refine call_len_set ho hex hd T.fits (by omega) ⟨.int n,H,I.tok _,⟨_,by rw[e]⟩,q⟩
theorem Gm:∀ {bs:List Bool} {ag:List Value},Vals (bs.map V.bl) ag->ag=bs.map Value.bool
 | [],_,.nil=>rfl
 | _ :: _,_,.cons r rs=>by cases r;rw[Gm rs];rfl
theorem all_range (bs:List Bool):(List.range bs.length).all (fun i=>bs.getD i true)=bs.all id:=by
 rw[Bool.eq_iff_iff,Zy,Zy]
 constructor
 ·intro h b hb
  obtain⟨i,hi⟩:=Yj.mp hb
  have hl:=(su.mp hi).1
  have:=h i (Yr.mpr hl)
  rw[FP,hi] at this
  exact this
 ·intro h i hi
  have hl:=Yr.mp hi
  rw[FP,qo hl]
  exact h _ (ZQ hl)
theorem OM (hc:X.calm=true):gx X (.builtin "all") (fun xs H Q=>∃ (l:Addr) (bs:List Bool),xs=[.ref l]/\aU X.K H l (bs.map V.bl)/\Q (.bl (bs.all id)) H):=by
 intro pins s σ H xs us Q I r h
 obtain⟨l,bs,rfl,hq,q⟩:=h
 obtain⟨u,rfl,rx⟩:=vals1 r
 cases rx
 obtain⟨ag,r',pl,_⟩:=I.list hq
 obtain rfl:=Gm r'
 have hL:=pl.isList
 have ll:l < s.heap.objs.size:=by obtain⟨o,e,_⟩:=hL;exact Ng e
 have nI:l≠s.heap.objs.size:=XN ll
 refine call_all_walk (q0d hL ?_)
 refine⟨s.heap.objs.size,_,_,_,_,_,fun i=>bs.getD i true,rfl,q1o (by rw[q1r];exact I.ok.hd hc) s.heap.objs.size l nI _,⟨⟨_,XJ _ rfl,rfl,rfl⟩,hL.push _⟩,fun i v s' Q' E' hv xp => ?_,fun h' tk kp => ?_⟩
 ·have hv:(bs.map Value.bool).toArray[i]? = some v:=hv
  have xp:Q' (bs.getD i true) s':=xp
  rw[q0r,Ni] at hv
  obtain⟨b,eb,rfl⟩:=XM.mp hv
  rw[FP,eb] at xp
  exact ZJ xp
 ·refine⟨.bl (bs.all id),H,I.kept (t':=tk) fun b o e=>kp b o (fun z => ?_) (ue _ e),?_,q⟩
  ·have:=Ng e
   rw[YF.mp z] at this
   exact ZE _ this
  ·show Value.bool _=Value.bool _
   rw[xb,qp,all_range]
end
end L2
namespace LJ
open PySem L2
structure Fn (P:Program) (w:World) (K:PySem.W.Frag) (mg:Str->Option Value) (base:Heap) (k:Nat) (x:Str) (ps:List Str) (sp:Sp) (f:Addr) (fd:FuncData):Prop where
 ok:aM P w K mg base bJ k f fd ps sp
 bD:mg x=some (.ref f)
 kp:PySem.W.keepIn K (.ref f)=true
 bd:Binds K fd ps []
theorem uL:bootBuiltins "bool" = some (.type "bool"):=by decide +kernel
theorem A4:bootBuiltins "int" = some (.type "int"):=by decide +kernel
theorem Gn:bootBuiltins "str" = some (.type "str"):=by decide +kernel
theorem uM:bootBuiltins "tuple" = some (.type "tuple"):=by decide +kernel
theorem qy:bootBuiltins "list" = some (.type "list"):=by decide +kernel
theorem xq:bootBuiltins "set" = some (.type "set"):=by decide +kernel
theorem ON:bootBuiltins "all" = some (.builtin "all"):=by decide +kernel
section
variable {K:PySem.W.Frag}
end
structure dz (many:Int) (ys:List (Int × Int × Int)):Prop where
 m1:1 <= many
 ki:many <= 12
 jf:ys.length <= 30
 ends:∀ y∈ys,0 <= y.1/\y.1 < y.2.1/\y.2.1 < many/\0 <= y.2.2/\y.2.2 <= 1000000000
 unlike:(ys.map fun y=>(y.1,y.2.1)).Nodup
end LJ
namespace L2
open PySem PySem.Spec PyProof.Rows
section
variable {X:Cx}
end
end L2
namespace LJ
open PySem L2
noncomputable def jm:Nat->List (Int × Int)
 | 0=>[]
 | n + 1=>jm n ++ (List.range n).map fun a:Nat=>(Int.ofNat a,Int.ofNat n)
theorem A5:∀ {n:Nat} {k:Int × Int},k∈jm n->0 <= k.1/\k.1 < k.2/\k.2 < n
 | 0,_,h=>nomatch h
 | n + 1,k,h=>by
  rcases YL.mp h with h | h
  ·have:=A5 h;omega
  ·obtain⟨a,ha,rfl⟩:=Nk.mp h
   have:=Yr.mp ha
   refine⟨Int.natCast_nonneg a,?_,?_⟩
   ·show (a:Int) < (n:Int);omega
   ·show (n:Int) < ((n + 1:Nat):Int);omega
theorem Gp:∀ n:Nat,(jm n).Nodup
 | 0=>Zu
 | n + 1=>by
  refine Y3.mpr ⟨Gp n,?_,fun k h1 k' h2 e => ?_⟩
  ·refine Zi.mpr (q1H.imp fun {a b} ne e=>ne ?_)
   exact Int.ofNat.inj (congrArg Prod.fst e)
  ·subst e
   obtain⟨a,ha,rfl⟩:=Nk.mp h2
   have:=(A5 h1).2.2
   have:(n:Int) < (n:Int):=this
   omega
theorem Gq:∀ n:Nat,n <= 12->(jm n).length <= 66:=by
 intro n h
 rcases n with _ | _ | _ | _ | _ | _ | _ | _ | _ | _ | _ | _ | _ | n
 all_goals first | decide | omega
end LJ
namespace LJ
open PySem
theorem OO {j n:Nat} (h:j < n):seqIndex? (j:Int) n=some j:=by
 unfold seqIndex?
 first | (simp;omega) | skip
end LJ
namespace L2
open PySem PySem.Spec PyProof.Rows
section
variable {X:Cx}
theorem Gr:gx X (.type "range") (fun xs H Q=>∃ j:Int,xs=[.int j]/\∀ r,H r=none->Q (.ref r) (upd H r (.rng 0 j))):=by
 intro pins s σ H xs us Q I r h
 obtain⟨j,rfl,q⟩:=h
 obtain⟨u,rfl,t,rfl⟩:=vals1 r
 refine call_range_1 ⟨.ref s.heap.objs.size,_,I.laid (t':=s.toks + 1 + 1) (o := .rng 0 j) (fun b o e=>ue _ e) (qq _) ?_,rfl,q _ (I.aK.fresh (qq _))⟩
 exact⟨_,_,_,XJ _ rfl⟩
noncomputable def ba (n:Nat):List Int:=(List.range n).map fun a:Nat=>(a:Int)
theorem Gs:∀ {ns:List Int} {us:List Value},us.length=ns.length->(∀ (i:Nat) (u:Value),us[i]? = some u->∃ t,u = .int (ns.getD i 0) t)->Vals (ns.map V.int) us
 | [],[],_,_ => .nil
 | [],_ :: _,h,_=>by simp at h
 | _ :: _,[],h,_=>by simp at h
 | n :: ns,u :: us,h,g=>by
  obtain⟨t,e⟩:=g 0 u rfl
  refine .cons ⟨t,e⟩ (Gs (by simpa using h) fun i v e2 => ?_)
  obtain⟨t,e⟩:=g (i + 1) v (by simpa using e2)
  exact⟨t,by simpa using e⟩
theorem Gu (hc:X.calm=true):gx X (.type "list") (fun xs H Q=>∃ (r:Addr) (n:Nat),xs=[.ref r]/\H r=some (.rng 0 (n:Int))/\n <= 1000/\∀ l,H l=none->Q (.ref l) (upd H l (.lst ((ba n).map V.int)))):=by
 intro pins s σ H xs us Q I r h
 obtain⟨a,n,rfl,ha,hn,q⟩:=h
 obtain⟨u,rfl,rx⟩:=vals1 r
 cases rx
 obtain⟨t,u,v,e⟩:=(show ∃ t u v,s.heap.get? a=some { cls := .type "range",data := .fields #[.int 0 t,.int (n:Int) u,.int 1 v] } from I.aK a _ ha)
 have hs:Builtin.Range.rangeSize 0 (n:Int) 1=n:=by rw[rangeSize_one];split<;>omega
 refine call_list_range (n:=n) (I.ok.hd hc) e (small_one (by omega) (by omega) (by omega) (by omega)) hs (by omega) fun h' tk acc c' kp e' it => ?_
 refine⟨.ref s.heap.objs.size,_,I.laid (t':=tk) (o := .lst ((ba n).map V.int)) kp (qq _) ?_,rfl,q _ (I.aK.fresh (qq _))⟩
 refine⟨Zp (ka (by rw[qp,ba,qp,Zh];exact hn)),acc.toList,c',?_,by simpa using e'⟩
 refine Gs ?_ fun i u e => ?_
 ·rw[FO,it.1,ba,qp,Zh]
 ·rw[Yp] at e
  obtain⟨t',e2⟩:=it.2 i u e
  have hi:i < n:=by rw[<-it.1];exact (ZF.mp e).1
  refine⟨t',e2.trans ?_⟩
  rw[ba,FP,Ni,Ze hi]
  show Value.int (0 + (i:Int) * 1) t'=Value.int (i:Int) t'
  rw[Int.zero_add,Int.mul_one]
theorem A6:∀ {us:List Value} {ns:List Int},IntsAre us ns->Vals (ns.map V.int) us
 | _,_,.nil => .nil
 | _,_,.cons n t r => .cons ⟨t,rfl⟩ (A6 r)
theorem OQ:gx X (.builtin "sorted") (fun xs H Q=>∃ (l:Addr) (ns:List Int),xs=[.ref l]/\aU X.K H l (ns.map V.int)/\ns.length < 64/\∀ (r:Addr) (eN:List Int),eN.Perm ns->eN.Pairwise (· <= ·)->H r=none->Q (.ref r) (upd H r (.lst (eN.map V.int)))):=by
 intro pins s σ H xs us Q I r h
 obtain⟨l,ns,rfl,hq,oJ,q⟩:=h
 obtain⟨u,rfl,rx⟩:=vals1 r
 cases rx
 obtain⟨ag,r',pl,_⟩:=I.list hq
 have hl:=r'.length
 rw[qp] at hl
 refine sorted_ints pl.isList (by simpa using intsAre_of r') (by omega) fun out eN hI pm pw => ?_
 have hf:H (s.heap.objs.size + 1)=none:=I.aK.fresh (q1B _)
 obtain⟨e,he⟩:=sortedAll_at s.heap ag out
 refine⟨.ref (s.heap.objs.size + 1),_,I.laid (t':=s.toks) (o := .lst (eN.map V.int)) (fun b o e=>sortedAll_old e) (q1B _) ?_,rfl,q _ eN pm pw hf⟩
 refine⟨Zp (ka (by rw[qp,pm.length_eq];omega)),out.toList,e,A6 hI,?_⟩
 simpa [seqObj] using he
theorem Gv {prog:Program} {w:World} {A:Around} {E:Value->Shared->Prop} {I l:Addr} {items:Array Value} (W:Walks prog w A I [I,l] [I] items.size (fun i v=>items[i]? = some v) (fun i h=>h.IsListIter I l i/\h.IsList l items)) :
  ∀ (k i:Nat) (s:Shared) (Q:List Value->Shared->Prop),i + k <= items.size->(s.heap.IsListIter I l i/\s.heap.IsList l items) →
   (∀ h' tk,(h'.IsListIter I l (i + k)/\h'.IsList l items)->(∀ b o,b∉[I]->s.heap.get? b=some o->h'.get? b=some o)->Q ((items.toList.drop i).take k) { s with heap:=h',toks:=tk })->wpAny (model prog w) A (draw (.ref I) k) Q E s
 | 0,i,s,Q,_,st,g=>by
  show wpAny _ _ (pure []) Q E s
  refine xa ?_
  have:=g s.heap s.toks st fun _ _ _ e=>e
  rw[q1s] at this
  exact this
 | k + 1,i,s,Q,hk,st,g=>by
  have hi:i < items.size:=by omega
  show wpAny _ _ (pyNext (.ref I) >>= _) Q E s
  refine nq (W.item i s _ _ hi st fun v h1 k7 hv j6 sE => ?_)
  refine nq (YE (Gv W k (i + 1) _ _ (by omega) j6 fun h2 A7 iQ pM=>xa ?_))
  have e:items.toList.drop i=v :: items.toList.drop (i + 1):=by
   rw[Z_ (by rw[FO];exact hi)]
   congr 1
   have Gw:items[i]? = some v:=hv
   rw[XH hi] at Gw
   simpa using Gw
  have:=g h2 A7 (by rw[show i + (k + 1)=i + 1 + k by omega];exact iQ) fun b o hb e=>pM b o hb (sE b o hb e)
  rw[e,List.take_succ_cons] at this
  exact this
theorem OR {prog:Program} {w:World} {A:Around} {E:Value->Shared->Prop} {s:Shared} {l:Addr} {items:Array Value} {Q:List Value->Shared->Prop} (hh:A.handled=none) (hl:s.heap.IsList l items)
  (g:∀ h' tk,(∀ b o,b≠s.heap.objs.size->s.heap.get? b=some o->h'.get? b=some o)->Q items.toList { s with heap:=h',toks:=tk }):wpAny (model prog w) A (unpackItems (.ref l) items.size none) Q E s:=by
 have ll:l < s.heap.objs.size:=by obtain⟨o,e,_⟩:=hl;exact Ng e
 have W:=q1o (prog:=prog) (w:=w) hh s.heap.objs.size l (XN ll) items
 unfold unpackItems
 refine nq ?_
 unfold notIterableAtAll
 refine nq (wpAny_specialOf hl.typeIs slot_list_iter.lookup (xa ?_))
 simp only[Ym,Y1]
 refine nq (YE (q0d hl ?_))
 refine nq (YE (Gv W items.size 0 _ _ (by omega) ⟨⟨_,XJ _ rfl,rfl,rfl⟩,hl.push _⟩ fun h1 k7 j6 sE => ?_))
 rw[q0Q,YT (by rw[FO];exact qq _),Nj (by rw[FO];exact ZE _)]
 rw[YY] at j6
 refine nq (YE (W.done _ _ _ j6 fun h2 A7 pM => ?_))
 simp only[Option.isSome_none,Ym,Y1]
 refine xa (g h2 A7 fun b o hb e=>pM b o (by simpa using hb) (sE b o (by simpa using hb) (ue _ e)))
noncomputable def OS (K:PySem.W.Frag) (n:Nat) (t:jh):TG:=fun v σ H Q=>∃ a xs,v = .ref a/\aU K H a xs/\xs.length=n/\t xs σ H Q
theorem OT {es:List Expr} {k:Nat} {t:jh} {n:Nat} {pos:Pos} (hc:X.calm=true) (h:kh X es t)
  (hn:(assignEach es X.env).length=n:=by rfl) (kR:(assignEach es X.env).findIdx? (·.1)=none:=by rfl):JG X (.Tuple es k pos) (OS X.K n t):=by
 refine⟨?_⟩
 intro pins s σ H v u Q I r hw
 obtain⟨a,xs,e1,hq,hl,hw⟩:=hw
 subst e1
 cases r
 obtain⟨ag,rv,ht,hz⟩:=I.list hq
 have hlen:=rv.length
 rw[assign_Tuple]
 refine nq (q0C ?_)
 unfold unpack
 rw[kR,show (assignEach es X.env).length=ag.toArray.size by rw[hn,<-hl,hlen];simp]
 refine nq (YE (OR (I.ok.hd hc) ht.isList fun h' tk kp => ?_))
 have I1:Inv X pins σ H { s with heap:=h',toks:=tk }:=I.kept fun b o e=>kp b o (XN (Ng e)) e
 exact h.out pins _ σ H xs _ Q I1 (by simpa using rv) hw
theorem OU:uf X "dict.setdefault" (fun x vs H Q=>∃ (d:Addr) (kvs:List (Key × V)) (k:Key) (dv:V),x = .ref d/\vs=[kV k,dv]/\H d=some (.dK kvs)/\kvs.length < sizeLine/\(∀ v,bU kvs k=some v->Q v H)/\(bU kvs k=none->Q dv (upd H d (.dK (putK kvs k dv))))):=by
 intro pins s σ H x xs v us Q I rx rv h
 obtain⟨d,kvs,k,dv,rfl,rfl,hd,hz,q1,q2⟩:=h
 cases rx
 cases rv with
 | cons rk rr =>
  cases rr with
  | cons rd rn =>
   cases rn
   rename_i uk ud
   obtain⟨z,lo,vs,rel,dd⟩:=xi I.aK hd
   have rl:=rel.val k
   refine call_meetsIn q1e dd.typeIs PySem.F.entry_dict_setdefault (PySem.F.args_dict_setdefault_3 _ _ _) (PySem.kt_meets_setdefault (ip X.prog X.w) d (xh rk) lo ud) ⟨vs,dd,by rw[<-rel.length];exact z,fun v hv => ?_,fun hn h' qt hs => ?_⟩
   ·rw[hv] at rl
    cases e:bU kvs k with
    | none=>rw[e] at rl;exact rl.elim
    | some y =>
     rw[e] at rl
     exact⟨y,H,I.tok _,rl,q1 y e⟩
   ·rw[hn] at rl
    cases e:bU kvs k with
    | some y=>rw[e] at rl;exact rl.elim
    | none =>
     have he:∃ q,h'.get? d=some q:=let ⟨q,_,_,hq,_⟩:=qt; ⟨q,hq⟩
     have hl:=AQ kvs k dv
     exact⟨dv,_,AU (t':=s.toks + 1) I (by rw[hd];exact True.intro) hs he (Ge (by omega) lo (rel.put k rd) qt),rd,q2 e⟩
noncomputable def iB (v d:Addr):HO := .ext fun h=>h.IsValuesView v d
theorem OW:uf X "dict.values" (fun x vs H Q=>∃ (d:Addr) (kvs:List (Key × V)),x = .ref d/\vs=[]/\H d=some (.dK kvs)/\∀ r,H r=none->Q (.ref r) (upd H r (iB r d))):=by
 intro pins s σ H x xs v us Q I rx rv h
 obtain⟨d,kvs,rfl,rfl,hd,q⟩:=h
 cases rx
 cases rv
 obtain⟨z,lo,vs,rel,dd⟩:=xi I.aK hd
 refine call_meetsIn q1F dd.typeIs PySem.F.entry_dict_values (PySem.F.args_dict_values_1 _) (meets_dict_values (ip X.prog X.w) d lo) ⟨⟨vs,dd⟩,?_⟩
 have e:(s.heap.push { cls := .type "dict_values",data := .fields #[.ref d] }).IsValuesView s.heap.objs.size d:=⟨_,XJ _ rfl,rfl,rfl⟩
 refine⟨.ref s.heap.objs.size,_,I.laid (t':=s.toks) (o:=iB s.heap.objs.size d) (fun b o e=>ue _ e) (qq _) ⟨e,⟨_,XJ _ rfl⟩,fun h1 h2 ⟨o,ho,r⟩ k=>⟨o,k o ho,r⟩⟩,rfl,q _ (I.aK.fresh (qq _))⟩
theorem Gx:∀ {kvs:List (Key × V)} {vs:List (Key × Value)},KV kvs vs->Vals (kvs.map (·.2)) (vs.map (·.2))
 | [],_,.nil => .nil
 | _ :: _,_,.cons r rs => .cons r.2 (Gx rs)
theorem OX (hc:X.calm=true):gx X (.type "list") (fun xs H Q=>∃ (r d:Addr) (kvs:List (Key × V)),xs=[.ref r]/\H r=some (iB r d)/\H d=some (.dK kvs)/\∀ l,H l=none->Q (.ref l) (upd H l (.lst (kvs.map (·.2))))):=by
 intro pins s σ H xs us Q I r' h
 obtain⟨r,d,kvs,rfl,hr,hd,q⟩:=h
 obtain⟨u,rfl,rx⟩:=vals1 r'
 cases rx
 obtain⟨iv,_⟩:=I.aK r _ hr
 obtain⟨z,lo,vs,rel,dd⟩:=xi I.aK hd
 obtain⟨o,es,ep,ho,rest⟩:=dd
 have da:s.heap.DictAt (ip X.prog X.w) d vs ep:=⟨o,es,ho,rest⟩
 have lv:=rel.length
 refine PySem.W.kdl_call (PySem.W.kdl_values (r:=r) (d:=d) (kvs:=vs) (ep:=ep) (knd:=ip X.prog X.w)) (I.ok.hd hc) ⟨iv,da⟩ (by omega) fun h' tk acc c' kp e' it => ?_
 have ea:acc.toList=vs.map (·.2):=PySem.W.kdl_vals_eq acc.toList (by rw[FO];exact it.1) fun j v e=>it.2 j v (by rw[<-Yp];exact e)
 refine⟨.ref s.heap.objs.size,_,I.laid (t':=tk) (o := .lst (kvs.map (·.2))) kp (qq _) ?_,rfl,q _ (I.aK.fresh (qq _))⟩
 exact⟨by rw[qp];exact z,acc.toList,c',by rw[ea];exact Gx rel,by simpa using e'⟩
end
section
variable {X:Cx} {e:Expr} {te:TE} {pos p2 p3 p4:Pos}
end
inductive DV where
 | p (d:D) | o (k:Nat)
inductive OV where
 | lst (ds:List D) | dct (kvs:List (Key × D))
structure aw where
 sl:List (Option DV)
 mu:List (Option OV)
noncomputable def fY (F:Hp):List (Key × D)->List (Key × V)->Prop
 | [],ws=>ws=[]
 | kd :: r,ws=>∃ v t,ws=(kd.1,v) :: t/\Is F kd.2 v/\fY F r t
noncomputable def gf (F:Hp):OV->HO->Prop
 | .lst ds,o=>∃ vs,o = .lst vs/\af F ds vs
 | .dct kvs,o=>∃ ws,o = .dK ws/\fY F kvs ws
theorem fY.same {F F':Hp} (s:ax F F'):∀ {gz:List (Key × D)} {ws:List (Key × V)},fY F gz ws->fY F' gz ws
 | [],_,h=>h
 | _ :: _,_,⟨v,t,e,h1,h2⟩=>⟨v,t,e,h1.same s,fY.same s h2⟩
theorem gf.same {F F':Hp} (s:ax F F'):∀ {ov:OV} {o:HO},gf F ov o->gf F' ov o
 | .lst _,_,⟨vs,e,h⟩=>⟨vs,e,h.same s⟩
 | .dct _,_,⟨ws,e,h⟩=>⟨ws,e,h.same s⟩
noncomputable def gJ (F:Hp) (ad:List Addr):DV->V->Prop
 | .p d,v=>Is F d v
 | .o k,v=>∃ a,ad[k]? = some a/\v = .ref a
noncomputable def Lv (ad:List Addr) (mu:List (Option OV)) (a:Addr):Prop:=∃ (k:Nat) (ov:OV),ad[k]? = some a/\mu[k]? = some (some ov)
class aD where
 ad:List Addr
 ok:Hp->Prop
 same:∀ {H H':Hp},ok H->ax H H'->ok H'
 put:∀ {H:Hp} {a:Addr} {o o':HO},ok H->H a=some o->((∃ vs,o = .lst vs)\/∃ ws,o = .dK ws)->ok (upd H a o')
 tb:∀ {H:Hp} {a:Addr},ok H->a∈ad->∃ ps,H a=some (.tbl ps)
theorem gf.kind {F:Hp}:∀ {ov:OV} {o:HO},gf F ov o->(∃ vs,o = .lst vs)\/∃ ws,o = .dK ws
 | .lst _,_,⟨vs,e,_⟩ => .inl ⟨vs,e⟩
 | .dct _,_,⟨ws,e,_⟩ => .inr ⟨ws,e⟩
variable [aD]
structure SR (F:Hp) (ad:List Addr) (δ : aw) (σ : St) (H:Hp):Prop where
 sub:ax F H
 off:∀ a,Lv ad δ.mu a->F a=none
 cj:ad.length = δ.mu.length
 inj:∀ (k l:Nat) (a:Addr) (ov ow:OV),ad[k]? = some a->ad[l]? = some a -> δ.mu[k]? = some (some ov) -> δ.mu[l]? = some (some ow)->k=l
 mu:∀ (k:Nat) (ov:OV),δ.mu[k]? = some (some ov)->∃ a o,ad[k]? = some a/\H a=some o/\gf F ov o
 sl:∀ (i:Nat) (x:DV),δ.sl[i]? = some (some x)->∃ v,σ[i]? = some (some v)/\gJ F ad x v
 len : σ.length = δ.sl.length
 tab:aD.ok H
 nt:∀ a∈aD.ad,F a=none
structure Ext (F:Hp) (ad:List Addr) (mu:List (Option OV)) (H:Hp) (F':Hp) (aA:List Addr) (dE:List (Option OV)) (H':Hp):Prop where
 same:ax F F'
 new:∀ a o,F' a=some o->F a=some o\/H a=none\/Lv ad mu a
 keep:∀ a o,H a=some o->¬ Lv ad mu a->a∉aD.ad->H' a=some o
 pre:∀ (k:Nat) (a:Addr),ad[k]? = some a->aA[k]? = some a
 cm:∀ a,Lv aA dE a->Lv ad mu a\/H a=none
 g_:∀ a o,H a=some o->∃ o',H' a=some o'
section
variable {F F' Gy H H' kj:Hp} {ad aA uN:List Addr} {mu dE uO:List (Option OV)} {δ : aw} {σ : St}
theorem cW {H:Hp} {a:Addr} {o:HO} (h:H a=none):ax H (upd H a o):=fun b u e=>by rw[aH (cf e h)];exact e
theorem Ext.refl:Ext F ad mu H F ad mu H:=⟨fun _ _ e=>e,fun _ _ e => .inl e,fun _ _ e _ _=>e,fun _ _ e=>e,fun _ e => .inl e,fun _ o e=>⟨o,e⟩⟩
theorem Ext.trans (x:Ext F ad mu H F' aA dE H') (y:Ext F' aA dE H' Gy uN uO kj):Ext F ad mu H Gy uN uO kj where
 same:=x.same.trans y.same
 new:=fun a o e=>by
  rcases y.new a o e with h | h | h
  ·exact x.new a o h
  ·refine .inr (.inl ?_)
   cases q:H a with
   | none=>rfl
   | some u=>obtain⟨u',h'⟩:=x.g_ a u q;rw[h] at h';cases h'
  ·rcases x.cm a h with h | h
   ·exact .inr (.inr h)
   ·exact .inr (.inl h)
 keep:=fun a o e n t=>y.keep a o (x.keep a o e n t) (fun l=>by
  rcases x.cm a l with h | h
  ·exact n h
  ·rw[e] at h;cases h) t
 pre:=fun k a e=>y.pre k a (x.pre k a e)
 cm:=fun a l=>by
  rcases y.cm a l with h | h
  ·exact x.cm a h
  ·refine .inr ?_
   cases q:H a with
   | none=>rfl
   | some u=>obtain⟨u',h'⟩:=x.g_ a u q;rw[h] at h';cases h'
 g_:=fun a o e=>let ⟨o1,e1⟩:=x.g_ a o e;y.g_ a o1 e1
theorem gJ.ext {x:DV} {v:V} (h:gJ F ad x v) (e:Ext F ad mu H F' aA dE H'):gJ F' aA x v:=by
 cases x with
 | p d=>exact Is.same e.same h
 | o k=>obtain⟨a,h1,h2⟩:=h;exact⟨a,e.pre k a h1,h2⟩
noncomputable def Nw (F H H':Hp):Hp:=fun a=>match H a with
 | none=>H' a
 | some _=>F a
theorem Nw.same (s:ax F H):ax F (Nw F H H'):=fun a o e=>by
 unfold Nw;rw[s a o e];exact e
theorem Nw.sub (s:ax F H) (k:ax H H'):ax (Nw F H H') H':=fun a o e=>by
 unfold Nw at e
 cases q:H a with
 | none=>rw[q] at e;exact e
 | some u=>rw[q] at e;exact k a o (s a o e)
theorem Nw.upd {p:Addr} {o:HO} (s:ax F H) (hp:H p=none):Nw F H (upd H p o)=upd F p o:=by
 funext a
 unfold Nw L2.upd
 by_cases c:a=p
 ·subst c;rw[hp,XI rfl];simp
 ·rw[Nj c,Nj c]
  cases q:H a with
  | none =>
   cases q2:F a with
   | none=>rfl
   | some u=>rw[s a u q2] at q;cases q
  | some u=>rfl
theorem Nw.refl (s:ax F H):Nw F H H=F:=by
 funext a
 unfold Nw
 cases q:H a with
 | none =>
  cases q2:F a with
  | none=>rfl
  | some u=>rw[s a u q2] at q;cases q
 | some u=>rfl
theorem SR.al (S:SR F ad δ σ H) (k:ax H H'):SR (Nw F H H') ad δ σ H':=by
 have sm:=Nw.same (H':=H') S.sub
 refine⟨Nw.sub S.sub k,fun a l => ?_,S.cj,S.inj,fun i ov e => ?_,fun i x e => ?_,S.len,aD.same S.tab k,fun a ha=>by obtain⟨ps,q⟩:=aD.tb S.tab ha;unfold Nw;rw[q];exact S.nt a ha⟩
 ·obtain⟨i,ov,e1,e2⟩:=l
  obtain⟨a',o,e3,e4,_⟩:=S.mu i ov e2
  rw[e1] at e3;cases e3
  unfold Nw;rw[e4];exact S.off a ⟨i,ov,e1,e2⟩
 ·obtain⟨a,o,e1,e2,h⟩:=S.mu i ov e
  exact⟨a,o,e1,k a o e2,h.same sm⟩
 ·obtain⟨v,e1,h⟩:=S.sl i x e
  refine⟨v,e1,?_⟩
  cases x with
  | p d=>exact Is.same sm h
  | o k=>exact h
theorem Ext.al (S:SR F ad δ σ H) (k:ax H H'):Ext F ad δ.mu H (Nw F H H') ad δ.mu H' where
 same:=Nw.same S.sub
 new:=fun a o e=>by
  unfold Nw at e
  cases q:H a with
  | none=>exact .inr (.inl rfl)
  | some u=>rw[q] at e;exact .inl e
 keep:=fun a o e _ _=>k a o e
 pre:=fun _ _ e=>e
 cm:=fun _ l => .inl l
 g_:=fun a o e=>⟨o,k a o e⟩
theorem SR.own {p:Addr} {o:HO} {ov:OV} (S:SR F ad δ σ H) (hp:H p=none) (h:gf F ov o):SR F (ad ++ [p]) ⟨δ.sl,δ.mu ++ [some ov]⟩ σ (upd H p o):=by
 have old:∀ {k:Nat} {w:OV},(δ.mu ++ [some ov])[k]? = some (some w)->(k < δ.mu.length /\ δ.mu[k]? = some (some w))\/(k = δ.mu.length/\w=ov):=fun {k w} e=>by
  by_cases c:k < δ.mu.length
  ·rw[XO c] at e;exact .inl ⟨c,e⟩
  ·have hl:=(su.mp e).1
   rw[Aw,Yu] at hl
   have ek:k = δ.mu.length:=by omega
   subst ek
   rw[Yi (qq _),YZ] at e
   exact .inr ⟨rfl,by simpa using e.symm⟩
 have pre:∀ {k:Nat},k < δ.mu.length->(ad ++ [p])[k]? = ad[k]? := fun {k} c=>XO (by rw[S.cj];exact c)
 have last:(ad ++ [p])[δ.mu.length]? = some p:=by rw[<-S.cj,Yi (qq _),YZ];rfl
 have np:∀ {k:Nat} {a:Addr} {w:OV},ad[k]? = some a -> δ.mu[k]? = some (some w)->a≠p:=fun {k a w} e1 e2=>by
  obtain⟨a',u,e3,e4,_⟩:=S.mu k w e2
  rw[e1] at e3;cases e3
  exact cf e4 hp
 refine⟨fun a u e => ?_,fun a l => ?_,by rw[Aw,Aw,S.cj];rfl,fun k l a w w' e1 e2 e3 e4 => ?_,fun k w e => ?_,fun i x e => ?_,S.len,aD.same S.tab (cW hp),S.nt⟩
 ·have:=S.sub a u e
  rw[aH (cf this hp)];exact this
 ·obtain⟨k,w,e1,e2⟩:=l
  rcases old e2 with⟨c,e3⟩ | ⟨c,e3⟩
  ·rw[pre c] at e1;exact S.off a ⟨k,w,e1,e3⟩
  ·subst c;rw[last] at e1;cases e1
   cases q:F p with
   | none=>rfl
   | some u=>rw[S.sub p u q] at hp;cases hp
 ·rcases old e3 with⟨c,q⟩ | ⟨c,q⟩
  ·rw[pre c] at e1
   rcases old e4 with⟨c',q'⟩ | ⟨c',q'⟩
   ·rw[pre c'] at e2;exact S.inj k l a w w' e1 e2 q q'
   ·subst c';rw[last] at e2;cases e2;exact absurd rfl (np e1 q)
  ·subst c;rw[last] at e1;cases e1
   rcases old e4 with⟨c',q'⟩ | ⟨c',q'⟩
   ·rw[pre c'] at e2;exact absurd rfl (np e2 q')
   ·exact c'.symm
 ·rcases old e with⟨c,q⟩ | ⟨c,q⟩
  ·obtain⟨a,u,e1,e2,h'⟩:=S.mu k w q
   exact⟨a,u,by rw[pre c];exact e1,by rw[aH (np e1 q)];exact e2,h'⟩
  ·subst c;subst q;exact⟨p,o,last,bz,h⟩
 ·obtain⟨v,e1,h'⟩:=S.sl i x e
  refine⟨v,e1,?_⟩
  cases x with
  | p d=>exact h'
  | o k =>
   obtain⟨a,e2,e3⟩:=h'
   exact⟨a,by rw[XO (su.mp e2).1];exact e2,e3⟩
theorem Ext.own {p:Addr} {o:HO} {ov:OV} (S:SR F ad δ σ H) (hp:H p=none):Ext F ad δ.mu H F (ad ++ [p]) (δ.mu ++ [some ov]) (upd H p o) where
 same:=fun _ _ e=>e
 new:=fun _ _ e => .inl e
 keep:=fun a u e _ _=>by rw[aH (cf e hp)];exact e
 pre:=fun k a e=>by rw[XO (su.mp e).1];exact e
 cm:=fun a l=>by
  obtain⟨k,w,e1,e2⟩:=l
  by_cases c:k < δ.mu.length
  ·rw[XO c] at e2
   rw[XO (by rw[S.cj];exact c)] at e1
   exact .inl ⟨k,w,e1,e2⟩
  ·have hl:=(su.mp e2).1
   rw[Aw,Yu] at hl
   have ek:k=ad.length:=by rw[S.cj];omega
   subst ek
   rw[Yi (qq _),YZ] at e1
   have:p=a:=by simpa using e1
   subst this;exact .inr hp
 g_:=fun a u e=>⟨u,by rw[aH (cf e hp)];exact e⟩
theorem SR.put {k:Nat} {a:Addr} {o:HO} {ov ow:OV} (S:SR F ad δ σ H) (hk : δ.mu[k]? = some (some ow)) (ha:ad[k]? = some a) (h:gf F ov o):SR F ad ⟨δ.sl,δ.mu.set k (some ov)⟩ σ (upd H a o):=by
 have kl:=(su.mp hk).1
 have old:∀ {l:Nat} {w:OV},(δ.mu.set k (some ov))[l]? = some (some w)->(l≠k /\ δ.mu[l]? = some (some w))\/(l=k/\w=ov):=fun {l w} e=>by
  by_cases c:k=l
  ·subst c;rw[YN kl] at e;exact .inr ⟨rfl,by simpa using e.symm⟩
  ·rw[YU c] at e;exact .inl ⟨fun z=>c z.symm,e⟩
 have lv:∀ {l:Nat} {w:OV} {b:Addr},ad[l]? = some b->(δ.mu.set k (some ov))[l]? = some (some w)->Lv ad δ.mu b:=fun {l w b} e1 e2=>by
  rcases old e2 with⟨_,q⟩ | ⟨c,_⟩
  ·exact⟨l,w,e1,q⟩
  ·subst c;exact⟨l,ow,e1,hk⟩
 have tk:aD.ok (upd H a o):=by
  obtain⟨a',u,e1,e2,h'⟩:=S.mu k ow hk
  rw[ha] at e1;cases e1
  exact aD.put S.tab e2 h'.kind
 refine⟨fun b u e => ?_,fun b l => ?_,by rw[Zn];exact S.cj,fun l l' b w w' e1 e2 e3 e4 => ?_,fun l w e => ?_,fun i x e => ?_,S.len,tk,S.nt⟩
 ·have nb:b≠a:=fun z=>by
   subst z
   rw[S.off b ⟨k,ow,ha,hk⟩] at e;cases e
  rw[aH nb];exact S.sub b u e
 ·obtain⟨l,w,e1,e2⟩:=l
  exact S.off b (lv e1 e2)
 ·have h1:∃ w,δ.mu[l]? = some (some w):=by
   rcases old e3 with⟨_,q⟩ | ⟨c,_⟩
   ·exact⟨_,q⟩
   ·subst c;exact⟨_,hk⟩
  have h2:∃ w,δ.mu[l']? = some (some w):=by
   rcases old e4 with⟨_,q⟩ | ⟨c,_⟩
   ·exact⟨_,q⟩
   ·subst c;exact⟨_,hk⟩
  obtain⟨w1,q1⟩:=h1
  obtain⟨w2,q2⟩:=h2
  exact S.inj l l' b _ _ e1 e2 q1 q2
 ·rcases old e with⟨c,q⟩ | ⟨c,q⟩
  ·obtain⟨b,u,e1,e2,h'⟩:=S.mu l w q
   have nb:b≠a:=fun z=>by subst z;exact c (S.inj l k b _ _ e1 ha q hk)
   exact⟨b,u,e1,by rw[aH nb];exact e2,h'⟩
  ·subst c;subst q;exact⟨a,o,ha,bz,h⟩
 ·exact S.sl i x e
theorem Ext.put {k:Nat} {a:Addr} {o:HO} {ov ow:OV} (S:SR F ad δ σ H) (hk : δ.mu[k]? = some (some ow)) (ha:ad[k]? = some a):Ext F ad δ.mu H F ad (δ.mu.set k (some ov)) (upd H a o) where
 same:=fun _ _ e=>e
 new:=fun _ _ e => .inl e
 keep:=fun b u e n _=>by rw[aH fun z=>n (by subst z;exact⟨k,ow,ha,hk⟩)];exact e
 pre:=fun _ _ e=>e
 cm:=fun b l=>by
  obtain⟨l,w,e1,e2⟩:=l
  by_cases c:k=l
  ·subst c;exact .inl ⟨k,ow,e1,hk⟩
  ·rw[YU c] at e2;exact .inl ⟨l,w,e1,e2⟩
 g_:=fun b u e=>by
  by_cases c:b=a
  ·subst c;exact⟨o,bz⟩
  ·exact⟨u,by rw[aH c];exact e⟩
theorem SR.fix {k:Nat} {a:Addr} {o:HO} {ow:OV} (S:SR F ad δ σ H) (hk : δ.mu[k]? = some (some ow)) (ha:ad[k]? = some a) (ho:H a=some o):SR (upd F a o) ad ⟨δ.sl,δ.mu.set k none⟩ σ H:=by
 have kl:=(su.mp hk).1
 have fa:=S.off a ⟨k,ow,ha,hk⟩
 have sm:ax F (upd F a o):=fun b u e=>by rw[aH (cf e fa)];exact e
 have old:∀ {l:Nat} {w:OV},(δ.mu.set k none)[l]? = some (some w)->l≠k /\ δ.mu[l]? = some (some w):=fun {l w} e=>by
  by_cases c:k=l
  ·subst c;rw[YN kl] at e;cases e
  ·rw[YU c] at e;exact⟨fun z=>c z.symm,e⟩
 refine⟨fun b u e => ?_,fun b l => ?_,by rw[Zn];exact S.cj,fun l l' b w w' e1 e2 e3 e4=>S.inj l l' b w w' e1 e2 (old e3).2 (old e4).2,fun l w e => ?_,fun i x e => ?_,S.len,S.tab,fun b hb => ?_⟩
 ·by_cases c:b=a
  ·subst c;rw[bz] at e;cases e;exact ho
  ·rw[aH c] at e;exact S.sub b u e
 ·obtain⟨l,w,e1,e2⟩:=l
  obtain⟨c,q⟩:=old e2
  have nb:b≠a:=fun z=>by subst z;exact c (S.inj l k b _ _ e1 ha q hk)
  rw[aH nb];exact S.off b ⟨l,w,e1,q⟩
 ·obtain⟨b,u,e1,e2,h'⟩:=S.mu l w (old e).2
  exact⟨b,u,e1,e2,h'.same sm⟩
 ·obtain⟨v,e1,h'⟩:=S.sl i x e
  refine⟨v,e1,?_⟩
  cases x with
  | p d=>exact Is.same sm h'
  | o k=>exact h'
 ·obtain⟨ps,q⟩:=aD.tb S.tab hb
  have nb:b≠a:=fun z=>by
   subst z
   obtain⟨a',u,e1,e2,h'⟩:=S.mu k ow hk
   rw[ha] at e1;cases e1
   rw[q] at e2;cases e2
   rcases h'.kind with⟨_,z⟩ | ⟨_,z⟩<;>cases z
  rw[aH nb];exact S.nt b hb
theorem Ext.fix {k:Nat} {a:Addr} {o:HO} {ow:OV} (S:SR F ad δ σ H) (hk : δ.mu[k]? = some (some ow)) (ha:ad[k]? = some a):Ext F ad δ.mu H (upd F a o) ad (δ.mu.set k none) H where
 same:=fun b u e=>by rw[aH (cf e (S.off a ⟨k,ow,ha,hk⟩))];exact e
 new:=fun b u e=>by
  by_cases c:b=a
  ·subst c;exact .inr (.inr ⟨k,ow,ha,hk⟩)
  ·rw[aH c] at e;exact .inl e
 keep:=fun b u e _ _=>e
 pre:=fun _ _ e=>e
 cm:=fun b l=>by
  obtain⟨l,w,e1,e2⟩:=l
  by_cases c:k=l
  ·subst c;rw[YN (su.mp hk).1] at e2;cases e2
  ·rw[YU c] at e2;exact .inl ⟨l,w,e1,e2⟩
 g_:=fun b u e=>⟨u,e⟩
theorem SR.set {i:Nat} {x:DV} {v:V} (S:SR F ad δ σ H) (h:gJ F ad x v):SR F ad ⟨δ.sl.set i (some x),δ.mu⟩ (σ.set i (some v)) H:=by
 refine⟨S.sub,S.off,S.cj,S.inj,S.mu,fun j y e => ?_,by rw[Zn,Zn];exact S.len,S.tab,S.nt⟩
 by_cases c:i=j
 ·subst c
  have hl:=(su.mp e).1
  rw[Zn] at hl
  rw[YN hl] at e
  cases e
  exact⟨v,YN (by rw[S.len];exact hl),h⟩
 ·rw[YU c] at e
  obtain⟨w,e1,h1⟩:=S.sl j y e
  exact⟨w,by rw[YU c];exact e1,h1⟩
end
noncomputable abbrev WE:=aw->(DV->aw->Prop)->Prop
noncomputable abbrev WA:=aw->(List DV->aw->Prop)->Prop
noncomputable abbrev WT:=aw->(Bool->aw->Prop)->Prop
noncomputable def dU (F:Hp) (ad:List Addr):List DV->List V->Prop
 | [],vs=>vs=[]
 | x :: xs,vs=>∃ v r,vs=v :: r/\gJ F ad x v/\dU F ad xs r
theorem dU.ext {F F' H H':Hp} {ad aA:List Addr} {mu dE:List (Option OV)} (e:Ext F ad mu H F' aA dE H'):∀ {xs:List DV} {vs:List V},dU F ad xs vs->dU F' aA xs vs
 | [],_,h=>h
 | _ :: _,_,⟨v,r,q,h1,h2⟩=>⟨v,r,q,h1.ext e,dU.ext e h2⟩
noncomputable def tD (f:WE):TE:=fun σ H Q=>∃ F ad δ K,SR F ad δ σ H/\f δ K/\∀ x δ',K x δ'->∀ v F' aA H',Ext F ad δ.mu H F' aA δ'.mu H'->SR F' aA δ' σ H'->gJ F' aA x v->Q v H'
noncomputable def cX (f:WA):TA:=fun σ H Q=>∃ F ad δ K,SR F ad δ σ H/\f δ K/\∀ xs δ',K xs δ'->∀ vs F' aA H',Ext F ad δ.mu H F' aA δ'.mu H'->SR F' aA δ' σ H'->dU F' aA xs vs->Q vs H'
noncomputable def cS (f:WT):TT:=fun σ H Q=>∃ F ad δ K,SR F ad δ σ H/\f δ K/\∀ b δ',K b δ'->∀ F' aA H',Ext F ad δ.mu H F' aA δ'.mu H'->SR F' aA δ' σ H'->Q b H'
noncomputable def h_ (F H:Hp):D->V->Prop
 | .lst ds,v=>∃ a vs,v = .ref a/\H a=some (.lst vs)/\af F ds vs
 | d,v=>Is F d v
noncomputable def ib (x:DV) (δ : aw) (K:D->Prop):Prop:=match x with
 | .p d=>K d
 | .o k=>match δ.mu[k]? with
  | some (some (.lst ds))=>K (.lst ds)
  | _=>False
theorem h_.of {F H:Hp} (s:ax F H):∀ {d:D} {v:V},Is F d v->h_ F H d v
 | .lst _,_,h=>by
  simp only[Is] at h
  obtain⟨a,vs,e,h1,h2⟩:=h
  exact⟨a,vs,e,s _ _ h1,h2⟩
 | .tup _,_,h=>h
 | .non,_,h=>h
 | .bl _,_,h=>h
 | .int _,_,h=>h
 | .str _,_,h=>h
theorem h_.is {F H:Hp} (s:ax F H):∀ {d:D} {v:V},h_ F H d v->Is H d v
 | .lst _,_,h=>by
  obtain⟨a,vs,e,h1,h2⟩:=h
  simp only[Is]
  exact⟨a,vs,e,h1,h2.same s⟩
 | .tup _,_,h=>Is.same s h
 | .non,_,h=>Is.same s h
 | .bl _,_,h=>Is.same s h
 | .int _,_,h=>Is.same s h
 | .str _,_,h=>Is.same s h
theorem km {F H:Hp} {ad:List Addr} {δ : aw} {σ : St} {x:DV} {v:V} {K:D->Prop} (S:SR F ad δ σ H) (hv:gJ F ad x v) (h:ib x δ K):∃ d,K d/\h_ F H d v:=by
 cases x with
 | p d=>exact⟨d,h,h_.of S.sub hv⟩
 | o k =>
  unfold ib at h
  dsimp only at h
  split at h
  ·rename_i ds e
   obtain⟨a,e1,rfl⟩:=hv
   obtain⟨a',o,e2,e3,vs,rfl,h4⟩:=S.mu k _ e
   rw[e1] at e2;cases e2
   exact⟨_,h,a,vs,rfl,e3,h4⟩
  ·exact h.elim
noncomputable def jN:List DV->aw->(List D->Prop)->Prop
 | [],_,K=>K []
 | x :: xs,δ,K=>ib x δ fun d=>jN xs δ fun ds=>K (d :: ds)
noncomputable def jO (F H:Hp):List D->List V->Prop
 | [],vs=>vs=[]
 | d :: ds,vs=>∃ v r,vs=v :: r/\h_ F H d v/\jO F H ds r
theorem xr {F H:Hp} {ad:List Addr} {δ : aw} {σ : St} (S:SR F ad δ σ H):∀ {xs:List DV} {vs:List V} {K:List D->Prop},dU F ad xs vs->jN xs δ K->∃ ds,K ds/\jO F H ds vs
 | [],_,_,hv,h=>⟨[],h,hv⟩
 | x :: xs,_,_,⟨v,r,rfl,h1,h2⟩,h=>by
  obtain⟨d,h',rd⟩:=km S h1 h
  obtain⟨ds,sF,qz⟩:=xr S h2 h'
  exact⟨d :: ds,sF,v,r,rfl,rd,qz⟩
noncomputable abbrev Made (F H:Hp) (K:D->Prop) (Q:VK):Prop:=∀ z v H',K z->ax H H'->Is (Nw F H H') z v->Q v H'
noncomputable def fL (X:Cx) (f:Value->Value->Sem Value) (g:D->D->(D->Prop)->Prop):Prop :=
 di X f fun x y H Q=>∃ F d e K,ax F H/\h_ F H d x/\h_ F H e y/\g d e K/\Made F H K Q
noncomputable def Gz (X:Cx) (g:D->D->(D->Prop)->Prop):Prop :=
 so X fun x y H Q=>∃ F d e K,ax F H/\h_ F H d x/\h_ F H e y/\g d e K/\Made F H K Q
noncomputable def dW (X:Cx) (f:Value) (g:List D->(D->Prop)->Prop):Prop :=
 gx X f fun xs H Q=>∃ F ds K,ax F H/\jO F H ds xs/\g ds K/\Made F H K Q
noncomputable def d2 (f g:WE) (op:D->D->(D->Prop)->Prop):WE:=fun δ K=>f δ fun x δ1=>g δ1 fun y δ2=>ib x δ2 fun d=>ib y δ2 fun e=>op d e fun z=>K (.p z) δ2
noncomputable def d1 (f:WE) (op:D->(D->Prop)->Prop):WE:=fun δ K=>f δ fun x δ1=>ib x δ1 fun d=>op d fun z=>K (.p z) δ1
noncomputable def dN (f:WA) (op:List D->(D->Prop)->Prop):WE:=fun δ K=>f δ fun xs δ1=>jN xs δ1 fun ds=>op ds fun z=>K (.p z) δ1
noncomputable def dC (d:D):WE:=fun δ K=>K (.p d) δ
noncomputable def aa (i:Nat):WE:=fun δ K=>match δ.sl[i]? with
 | some (some x)=>K x δ
 | _=>False
noncomputable def ah:WA:=fun δ K=>K [] δ
noncomputable def ao (f:WE) (g:WA):WA:=fun δ K=>f δ fun x δ1=>g δ1 fun xs δ2=>K (x :: xs) δ2
section
variable {X:Cx} {a b c:Expr} {f g h:WE} {fa:WA} {pos:Pos}
theorem xt {e:Expr} {d:D} {v:V} (h:JE X e (tC v)) (hi:∀ F,Is F d v):JE X e (tD (dC d)):=h.weak fun σ H Q h0_ => el7 h0_ fun F ad δ K S q k =>k _ _ q _ _ _ _ .refl S (hi F)
theorem az {i j pos}:JE X (.Constant (.int i) j pos) (tD (dC (.int i))):=xt cb fun _=>rfl
theorem k8 {i j pos}:JE X (.Constant (.bool i) j pos) (tD (dC (.bl i))):=xt Ob fun _=>rfl
theorem GA {j pos}:JE X (.Constant .none j pos) (tD (dC .non)):=xt Oc fun _=>rfl
theorem A8 {x:Str} {i:Int} {u:Value} {pos:Pos} (hg:Gl X x) (hm:X.mg x=some u) (r:RelV (.int i) u) (hd:(x == ("__debug__" : Str))=false:=by decide):JE X (.Name x pos) (tD (dC (.int i))):=xt (Od hg hm r hd) fun _=>rfl
theorem dv (i:Nat) {x:Str} {pos:Pos} (hN:X.N[i]? = some x:=by rfl) (hv:pQ X.env.scope x:=by first | exact Or.inl rfl | exact Or.inr (Or.inl rfl) | exact Or.inr (Or.inr rfl))
  (hd:(x == ("__debug__" : Str))=false:=by decide) (fR:(x == ("__classdict__" : Str))=false:=by decide):JE X (.Name x pos) (tD (aa i)) :=
 (Oa hN hv hd fR).weak fun σ H Q h0_ => el7 h0_ fun F ad δ K S q k =>by
  unfold aa at q
  split at q
  ·rename_i x e
   obtain⟨v,e1,h1⟩:=S.sl i x e
   exact⟨v,e1,k _ _ q _ _ _ _ .refl S h1⟩
  ·exact q.elim
theorem xu {r:R2} {ta tb:TE} {op:D->D->(D->Prop)->Prop} (hr:∀ x y H Q,(∃ F d e K,ax F H/\h_ F H d x/\h_ F H e y/\op d e K/\Made F H K Q)->r x y H Q):∀ σ H Q,tD (d2 f g op) σ H Q->kS r (tD f) (tD g) σ H Q:=by
 rintro σ H Q ⟨F,ad,δ,K,S,q,k⟩
 refine⟨F,ad,δ,_,S,q,fun x δ1 h1 v1 F1 aP H1 E1 S1 V1=>⟨F1,aP,δ1,_,S1,h1,fun y δ2 h2 v2 F2 bV H2 E2 S2 V2=>hr _ _ _ _ ?_⟩⟩
 obtain⟨d,h3,rd⟩:=km S2 (V1.ext E2) h2
 obtain⟨e,h4,re⟩:=km S2 V2 h3
 exact⟨F2,d,e,_,S2.sub,rd,re,h4,fun z v H' hz sm is=>k _ _ hz _ _ _ _ ((E1.trans E2).trans (Ext.al S2 sm)) (S2.al sm) is⟩
theorem bx {op:Operator} {o:D->D->(D->Prop)->Prop} (ho:fL X (binaryOp op) o) (ha:JE X a (tD f)) (hb:JE X b (tD g)):JE X (.BinOp a op b pos) (tD (d2 f g o)) :=
 (uG ho ha hb).weak (xu (ta:=tD f) (tb:=tD g) fun _ _ _ _ h=>h)
theorem iX {op:CmpOp} {o:D->D->(D->Prop)->Prop} (ho:fL X (compareOp op) o) (ha:JE X a (tD f)) (hb:JE X b (tD g)) (hm:behindInMarks op b=false):JE X (.Compare a [op] [b] pos) (tD (d2 f g o)) :=
 (Oz ho ha hb hm).weak (xu (ta:=tD f) (tb:=tD g) fun _ _ _ _ h=>h)
theorem bE {o:D->D->(D->Prop)->Prop} (ho:Gz X o) (ha:JE X a (tD f)) (hb:JE X b (tD g)) (hs:Aj b):JE X (.Subscript a b pos) (tD (d2 f g o)) :=
 (A1 ho ha hb hs).weak (xu (ta:=tD f) (tb:=tD g) fun _ _ _ _ h=>h)
theorem aE:JA X [] (cX ah):=aV.weak fun σ H Q h0_ => el7 h0_ fun F ad δ K S q k =>k _ _ q _ _ _ _ .refl S rfl
theorem sG:∀ σ H Q,cX (ao f fa) σ H Q->dR (tD f) (cX fa) σ H Q:=by
 rintro σ H Q ⟨F,ad,δ,K,S,q,k⟩
 exact⟨F,ad,δ,_,S,q,fun x δ1 h1 v1 F1 aP H1 E1 S1 V1=>⟨F1,aP,δ1,_,S1,h1,fun xs δ2 h2 vs F2 bV H2 E2 S2 V2=>k _ _ h2 _ _ _ _ (E1.trans E2) S2 ⟨v1,vs,rfl,V1.ext E2,V2⟩⟩⟩
theorem jn {e:Expr} {es:List Expr} (ha:JE X e (tD f)) (hr:JA X es (cX fa)) (hs:starEach (e :: es) X.env=(false,eval e X.env) :: starEach es X.env:=by rfl):JA X (e :: es) (cX (ao f fa)):=(qw ha hr hs).weak sG
theorem a7 {es:List Expr} {c j p} (ha:JE X (.Constant c j p) (tD f)) (hr:JA X es (cX fa)):JA X (.Constant c j p :: es) (cX (ao f fa)):=(uJ ha hr).weak sG
theorem aq {es:List Expr} {x p} (ha:JE X (.Name x p) (tD f)) (hr:JA X es (cX fa)):JA X (.Name x p :: es) (cX (ao f fa)):=(iA ha hr).weak sG
theorem fE {es:List Expr} {x y k p} (ha:JE X (.Call x y k p) (tD f)) (hr:JA X es (cX fa)):JA X (.Call x y k p :: es) (cX (ao f fa)):=(iW ha hr).weak sG
theorem A9 {es:List Expr} {x k p} (ha:JE X (.Tuple x k p) (tD f)) (hr:JA X es (cX fa)):JA X (.Tuple x k p :: es) (cX (ao f fa)):=(A2 ha hr).weak sG
theorem bF {es:List Expr} {x k p} (ha:JE X (.Subscript x k p) (tD f)) (hr:JA X es (cX fa)):JA X (.Subscript x k p :: es) (cX (ao f fa)):=(A3 ha hr).weak sG
theorem GB {r:List V->Hp->VK->Prop} {op:List D->(D->Prop)->Prop} (hr:∀ xs H Q,(∃ F ds K,ax F H/\jO F H ds xs/\op ds K/\Made F H K Q)->r xs H Q):∀ σ H Q,tD (dN fa op) σ H Q->si r (cX fa) σ H Q:=by
 rintro σ H Q ⟨F,ad,δ,K,S,q,k⟩
 refine⟨F,ad,δ,_,S,q,fun xs δ1 h1 vs F1 aP H1 E1 S1 V1=>hr _ _ _ ?_⟩
 obtain⟨ds,h2,qz⟩:=xr S1 V1 h1
 exact⟨F1,ds,_,S1.sub,qz,h2,fun z v H' hz sm is=>k _ _ hz _ _ _ _ (E1.trans (Ext.al S1 sm)) (S1.al sm) is⟩
theorem gK {x:Str} {p:Pos} {e:Expr} {es:List Expr} {id:String} {o:List D->(D->Prop)->Prop} (hc:dW X (.builtin id) o) (hg:Gl X x) (hm:X.mg x=none) (hv:bootBuiltins x=some (.builtin id)) (ha:JA X (e :: es) (cX fa)) (hn:x ≠ "__name__" := by decide) (g6:(x == ("__debug__" : Str))=false:=by decide)
  (he:starEach (e :: es) X.env=(false,eval e X.env) :: starEach es X.env:=by rfl) (gH:(backTo pos (starEach es X.env)).any (·.1)=false:=by rfl):JE X (.Call (.Name x p) (e :: es) [] pos) (tD (dN fa o)) :=
 (xk hc hg hm hv ha hn g6 he gH).weak (GB fun _ _ _ h=>h)
theorem OY {x:Str} {p:Pos} {e:Expr} {es:List Expr} {T:String} {o:List D->(D->Prop)->Prop} (hc:dW X (.type T) o) (hg:Gl X x) (hm:X.mg x=none) (hv:bootBuiltins x=some (.type T)) (ha:JA X (e :: es) (cX fa)) (hn:x ≠ "__name__" := by decide) (g6:(x == ("__debug__" : Str))=false:=by decide)
  (he:starEach (e :: es) X.env=(false,eval e X.env) :: starEach es X.env:=by rfl) (gH:(backTo pos (starEach es X.env)).any (·.1)=false:=by rfl):JE X (.Call (.Name x p) (e :: es) [] pos) (tD (dN fa o)) :=
 (nv hc hg hm hv ha hn g6 he gH).weak (GB fun _ _ _ h=>h)
end
noncomputable def GC (k:Nat) (ds:List D):Option DV->Option DV
 | some (.o j)=>if j=k then some (.p (.lst ds)) else some (.o j)
 | s=>s
noncomputable def aw.fix (δ : aw) (k:Nat) (ds:List D):aw:=⟨δ.sl.map (GC k ds),δ.mu.set k none⟩
noncomputable def nA (x:DV) (δ : aw) (K:D->aw->Prop):Prop:=match x with
 | .p d=>K d δ
 | .o k=>match δ.mu[k]? with
  | some (some (.lst ds))=>K (.lst ds) (δ.fix k ds)
  | _=>False
noncomputable def jP:List DV->aw->(List D->aw->Prop)->Prop
 | [],δ,K=>K [] δ
 | x :: xs,δ,K=>nA x δ fun d δ1=>jP xs δ1 fun ds δ2=>K (d :: ds) δ2
section
variable {F F' H H':Hp} {ad aA:List Addr} {δ δ':aw} {σ σ':St}
theorem SR.fixed {k:Nat} {a:Addr} {vs:List V} {ds:List D} (S:SR F ad δ σ H) (hk : δ.mu[k]? = some (some (.lst ds))) (ha:ad[k]? = some a) (ho:H a=some (.lst vs)) (hi:af F ds vs):SR (upd F a (.lst vs)) ad (δ.fix k ds) σ H:=by
 have S1:=S.fix hk ha ho
 have sm:ax F (upd F a (.lst vs)):=(Ext.fix (o := .lst vs) S hk ha).same
 refine⟨S1.sub,S1.off,S1.cj,S1.inj,S1.mu,fun i x e => ?_,by rw[S.len];unfold aw.fix;rw[qp],S1.tab,S1.nt⟩
 unfold aw.fix at e
 rw[Ni] at e
 obtain⟨s,e1,e2⟩:=XM.mp e
 match s,e2 with
 | none,e2=>cases e2
 | some (.p d),e2 =>
  cases (show some (DV.p d)=some x from e2)
  exact S1.sl i _ e1
 | some (.o j),e2 =>
  have e3:(if j=k then some (DV.p (.lst ds)) else some (DV.o j))=some x:=e2
  clear e2
  obtain⟨v,h1,a',h2,h3⟩:=S.sl i _ e1
  by_cases c:j=k
  ·rw[XI c] at e3
   subst c
   cases e3
   rw[ha] at h2;cases h2
   refine⟨v,h1,?_⟩
   show Is _ (.lst ds) v
   simp only[Is]
   exact⟨a,vs,h3,bz,hi.same sm⟩
  ·rw[Nj c] at e3
   cases e3
   exact⟨v,h1,a',h2,h3⟩
theorem uP {x:DV} {v:V} {K:D->aw->Prop} (S:SR F ad δ σ H) (hv:gJ F ad x v) (h:nA x δ K):∃ d δ' F',K d δ'/\Ext F ad δ.mu H F' ad δ'.mu H/\SR F' ad δ' σ H/\Is F' d v:=by
 cases x with
 | p d=>exact⟨d,δ,F,h,.refl,S,hv⟩
 | o k =>
  unfold nA at h
  dsimp only at h
  split at h
  ·rename_i ds e
   obtain⟨a,e1,rfl⟩:=hv
   obtain⟨a',o,e2,e3,vs,rfl,h4⟩:=S.mu k _ e
   rw[e1] at e2;cases e2
   refine⟨_,_,_,h,Ext.fix S e e1,S.fixed e e1 e3 h4,?_⟩
   simp only[Is]
   exact⟨a,vs,rfl,bz,h4.same (Ext.fix (o := .lst vs) S e e1).same⟩
  ·exact h.elim
theorem xv:∀ {xs:List DV} {vs:List V} {δ : aw} {F:Hp} {K:List D->aw->Prop},SR F ad δ σ H->dU F ad xs vs->jP xs δ K->∃ ds δ' F',K ds δ'/\Ext F ad δ.mu H F' ad δ'.mu H/\SR F' ad δ' σ H/\af F' ds vs
 | [],_,δ,F,_,S,hv,h=>⟨[],δ,F,h,.refl,S,by simp only[af];exact hv⟩
 | x :: xs,_,δ,F,_,S,⟨v,r,e,h1,h2⟩,h=>by
  subst e
  obtain⟨d,δ1,F1,h',E1,S1,i1⟩:=uP S h1 h
  obtain⟨ds,δ2,F2,sF,E2,S2,i2⟩:=xv S1 (h2.ext E1) h'
  exact⟨d :: ds,δ2,F2,sF,E1.trans E2,S2,.cons (i1.same E2.same) i2⟩
end
noncomputable def fZ (fa:WA):WE:=fun δ K=>fa δ fun xs δ1=>jP xs δ1 fun ds δ2=>ds.length <= 1000/\K (.p (.tup ds)) δ2
noncomputable def eU (fa:WA):WE:=fun δ K=>fa δ fun xs δ1=>jP xs δ1 fun ds δ2=>ds.length <= 1000/\K (.p (.lst ds)) δ2
noncomputable def sH (fa:WA):WE:=fun δ K=>fa δ fun xs δ1=>jP xs δ1 fun ds δ2=>ds.length <= 1000/\K (.o δ2.mu.length) ⟨δ2.sl,δ2.mu ++ [some (.lst ds)]⟩
section
variable {X:Cx} {a b c:Expr} {es:List Expr} {f g h:WE} {fa:WA} {t u:WT} {pos:Pos}
theorem k9 {n:Nat} (h:n <= 1000):n <= sizeLine:=Zp (ka h)
theorem nB {x1} (ha:JA X es (cX fa)):JE X (.Tuple es x1 pos) (tD (fZ fa)):=(OC ha).weak fun σ H Q h0_ => el7 h0_ fun F ad δ K S q k =>
 ⟨F,ad,δ,_,S,q,fun xs δ1 h1 vs F1 aP H1 E1 S1 V1=>by
  obtain⟨ds,δ2,F2,⟨hl,h2⟩,E2,S2,i2⟩:=xv S1 V1 h1
  refine⟨k9 (by rw[i2.length];exact hl),fun p hp => ?_⟩
  have sm:ax H1 (upd H1 p (.tup vs)):=cW hp
  refine k _ _ h2 _ _ _ _ ((E1.trans E2).trans (Ext.al S2 sm)) (S2.al sm) ?_
  show Is _ (.tup ds) _
  simp only[Is]
  rw[Nw.upd S2.sub hp]
  refine⟨p,vs,rfl,bz,i2.same fun b o e => ?_⟩
  rw[aH (cf (S2.sub b o e) hp)];exact e⟩
theorem nD (ha:JA X es (cX fa)):JE X (.List es pos) (tD (eU fa)):=(uH ha).weak fun σ H Q h0_ => el7 h0_ fun F ad δ K S q k =>
 ⟨F,ad,δ,_,S,q,fun xs δ1 h1 vs F1 aP H1 E1 S1 V1=>by
  obtain⟨ds,δ2,F2,⟨hl,h2⟩,E2,S2,i2⟩:=xv S1 V1 h1
  refine⟨k9 (by rw[i2.length];exact hl),fun p hp => ?_⟩
  have sm:ax H1 (upd H1 p (.lst vs)):=cW hp
  refine k _ _ h2 _ _ _ _ ((E1.trans E2).trans (Ext.al S2 sm)) (S2.al sm) ?_
  show Is _ (.lst ds) _
  simp only[Is]
  rw[Nw.upd S2.sub hp]
  refine⟨p,vs,rfl,bz,i2.same fun b o e => ?_⟩
  rw[aH (cf (S2.sub b o e) hp)];exact e⟩
theorem xw (ha:JA X es (cX fa)):JE X (.List es pos) (tD (sH fa)):=(uH ha).weak fun σ H Q h0_ => el7 h0_ fun F ad δ K S q k =>
 ⟨F,ad,δ,_,S,q,fun xs δ1 h1 vs F1 aP H1 E1 S1 V1=>by
  obtain⟨ds,δ2,F2,⟨hl,h2⟩,E2,S2,i2⟩:=xv S1 V1 h1
  refine⟨k9 (by rw[i2.length];exact hl),fun p hp => ?_⟩
  have oi:gf F2 (.lst ds) (.lst vs):=⟨vs,rfl,i2⟩
  refine k _ _ h2 _ _ _ _ ((E1.trans E2).trans (Ext.own S2 hp)) (S2.own hp oi) ⟨p,?_,rfl⟩
  rw[<-S2.cj,Yi (qq _),YZ];rfl⟩
noncomputable def sI (x:DV) (P:Bool->Prop):Prop:=match x with
 | .p (.bl b)=>P b
 | _=>False
noncomputable def dT (f:WE):WT:=fun δ K=>f δ fun x δ1=>sI x fun b=>K b δ1
noncomputable def k_ (t u:WT):WT:=fun δ K=>t δ fun b δ1=>if b=true then u δ1 K else K false δ1
noncomputable def qA (t u:WT):WT:=fun δ K=>t δ fun b δ1=>if b=true then K true δ1 else u δ1 K
noncomputable def gA (t:WT):WT:=fun δ K=>t δ fun b δ1=>K (!b) δ1
noncomputable def uQ (t:WT) (f g:WE):WE:=fun δ K=>t δ fun b δ1=>if b=true then f δ1 K else g δ1 K
noncomputable def kn (f g:WE):WE:=fun δ K=>f δ fun x δ1=>sI x fun b=>if b=true then g δ1 K else K (.p (.bl false)) δ1
noncomputable def A_ (f:WE):WE:=fun δ K=>f δ fun x δ1=>sI x fun b=>K (.p (.bl (!b))) δ1
theorem uR {F:Hp} {ad:List Addr} {x:DV} {v:V} {P:Bool->Prop} (hv:gJ F ad x v) (h:sI x P):∃ b,v = .bl b/\P b:=by
 unfold sI at h
 split at h
 ·rename_i b
  exact⟨b,hv,h⟩
 ·exact h.elim
theorem iY (ha:JE X a (tD f)) (he:∀ whole,isTrue a X.env whole=(do let v <- whole;standAt a.pos;holding [v] (truthy v)):=by intro _;rfl):JT X a (cS (dT f)) :=
 (Og ha he).weak fun σ H Q h0_ => el7 h0_ fun F ad δ K S q k =>⟨F,ad,δ,_,S,q,fun x δ1 h1 v F1 aP H1 E1 S1 V1=>by
  obtain⟨b,rfl,h2⟩:=uR V1 h1
  exact⟨b,rfl,k _ _ h2 _ _ _ E1 S1⟩⟩
theorem eV {op:CmpOp} {o:D->D->(D->Prop)->Prop} (ho:fL X (compareOp op) o) (ha:JE X a (tD f)) (hb:JE X b (tD g)) (hm:behindInMarks op b=false):JT X (.Compare a [op] [b] pos) (cS (dT (d2 f g o))) :=
 (OA ho ha hb hm).weak fun σ H Q h0_ => el7 h0_ fun F ad δ K S q k =>xu (ta:=tD f) (tb:=tD g) (fun _ _ _ _ h=>h) σ H _ ⟨F,ad,δ,_,S,q,fun x δ1 h1 v F1 aP H1 E1 S1 V1=>by
  obtain⟨b,rfl,h2⟩:=uR V1 h1
  exact⟨b,rfl,k _ _ h2 _ _ _ E1 S1⟩⟩
theorem oK (ha:JT X a (cS t)):JT X (.UnaryOp .Not a pos) (cS (gA t)):=(Om ha).weak fun σ H Q h0_ => el7 h0_ fun F ad δ K S q k =>⟨F,ad,δ,_,S,q,fun b δ1 h1 F1 aP H1 E1 S1=>k _ _ h1 _ _ _ E1 S1⟩
theorem OZ:∀ σ H Q,cS (k_ t u) σ H Q->pU (cS t) (cS u) σ H Q:=fun σ H Q h0_ => el7 h0_ fun F ad δ K S q k =>⟨F,ad,δ,_,S,q,fun b δ1 h1 F1 aP H1 E1 S1=>by
 cases b with
 | true =>
  rw[XI rfl] at h1 ⊢
  exact⟨F1,aP,δ1,_,S1,h1,fun b δ2 h2 F2 bV H2 E2 S2=>k _ _ h2 _ _ _ (E1.trans E2) S2⟩
 | false =>
  rw[Nj Yo] at h1 ⊢
  exact k _ _ h1 _ _ _ E1 S1⟩
theorem O0:∀ σ H Q,cS (qA t u) σ H Q->zR (cS t) (cS u) σ H Q:=fun σ H Q h0_ => el7 h0_ fun F ad δ K S q k =>⟨F,ad,δ,_,S,q,fun b δ1 h1 F1 aP H1 E1 S1=>by
 cases b with
 | false =>
  rw[Nj Yo] at h1 ⊢
  exact⟨F1,aP,δ1,_,S1,h1,fun b δ2 h2 F2 bV H2 E2 S2=>k _ _ h2 _ _ _ (E1.trans E2) S2⟩
 | true =>
  rw[XI rfl] at h1 ⊢
  exact k _ _ h1 _ _ _ E1 S1⟩
theorem JW.weak {e:Expr} {t t':TT} (h:JW X e t) (k:∀ σ H Q,t' σ H Q->t σ H Q):JW X e t':=⟨fun wh pins s σ H Q I q=>h.out wh pins s σ H Q I (k σ H Q q)⟩
theorem GG (ha:JT X a (cS t)):JW X (.BoolOp .And [a] pos) (cS t):=Oh ha
theorem xx (ha:JT X a (cS t)):JW X (.BoolOp .Or [a] pos) (cS t):=Oi ha
theorem GH {rest:List Expr} (ha:JT X a (cS t)) (hb:JW X (.BoolOp .And (b :: rest) pos) (cS u)):JW X (.BoolOp .And (a :: b :: rest) pos) (cS (k_ t u)):=(Oj ha hb).weak OZ
theorem xy {rest:List Expr} (ha:JT X a (cS t)) (hb:JW X (.BoolOp .Or (b :: rest) pos) (cS u)):JW X (.BoolOp .Or (a :: b :: rest) pos) (cS (qA t u)):=(Ol ha hb).weak O0
theorem nE {op} (ha:JE X a (tD f)):JE X (.BoolOp op [a] pos) (tD f):=Oo ha
theorem me {rest:List Expr} (ha:JE X a (tD f)) (hb:JE X (.BoolOp .And (b :: rest) pos) (tD g)):JE X (.BoolOp .And (a :: b :: rest) pos) (tD (kn f g)) :=
 (Oq ha hb).weak fun σ H Q h0_ => el7 h0_ fun F ad δ K S q k =>⟨F,ad,δ,_,S,q,fun x δ1 h1 v F1 aP H1 E1 S1 V1=>by
  obtain⟨b,rfl,h2⟩:=uR V1 h1
  refine⟨b,rfl,?_⟩
  cases b with
  | true =>
   rw[XI rfl] at h2 ⊢
   exact⟨F1,aP,δ1,_,S1,h2,fun x δ2 h3 v F2 bV H2 E2 S2 V2=>k _ _ h3 _ _ _ _ (E1.trans E2) S2 V2⟩
  | false =>
   rw[Nj Yo] at h2 ⊢
   exact k _ _ h2 _ _ _ _ E1 S1 rfl⟩
theorem O1 (ha:JE X a (tD f)):JE X (.UnaryOp .Not a pos) (tD (A_ f)) :=
 (Ot ha).weak fun σ H Q h0_ => el7 h0_ fun F ad δ K S q k =>⟨F,ad,δ,_,S,q,fun x δ1 h1 v F1 aP H1 E1 S1 V1=>by
  obtain⟨b,rfl,h2⟩:=uR V1 h1
  exact⟨b,rfl,k _ _ h2 _ _ _ _ E1 S1 rfl⟩⟩
theorem GI (hc:JT X c (cS t)) (ha:JE X a (tD f)) (hb:JE X b (tD g)):JE X (.IfExp c a b pos) (tD (uQ t f g)) :=
 (Ou hc ha hb).weak fun σ H Q h0_ => el7 h0_ fun F ad δ K S q k =>⟨F,ad,δ,_,S,q,fun b δ1 h1 F1 aP H1 E1 S1=>by
  cases b with
  | true =>
   rw[XI rfl] at h1 ⊢
   exact⟨F1,aP,δ1,_,S1,h1,fun x δ2 h3 v F2 bV H2 E2 S2 V2=>k _ _ h3 _ _ _ _ (E1.trans E2) S2 V2⟩
  | false =>
   rw[Nj Yo] at h1 ⊢
   exact⟨F1,aP,δ1,_,S1,h1,fun x δ2 h3 v F2 bV H2 E2 S2 V2=>k _ _ h3 _ _ _ _ (E1.trans E2) S2 V2⟩⟩
end
structure KS where
 nx:aw->Prop
 rt:DV->aw->Prop
 bk:aw->Prop:=fun _=>False
 ct:aw->Prop:=fun _=>False
noncomputable abbrev WS:=KS->aw->Prop
noncomputable def Cn (F:Hp) (ad:List Addr) (mu:List (Option OV)) (H:Hp) (P:aw->Prop) (R:St->Hp->Prop):Prop:=∀ δ',P δ'->∀ F' aA σ' H',Ext F ad mu H F' aA δ'.mu H'->SR F' aA δ' σ' H'->R σ' H'
structure xA (F:Hp) (ad:List Addr) (mu:List (Option OV)) (H:Hp) (K:KS) (D:Ends):Prop where
 nx:Cn F ad mu H K.nx D.nx
 bk:Cn F ad mu H K.bk D.bk
 ct:Cn F ad mu H K.ct D.ct
 rt:∀ x δ',K.rt x δ'->∀ v F' aA σ' H',Ext F ad mu H F' aA δ'.mu H'->SR F' aA δ' σ' H'->gJ F' aA x v->D.rt v H'
theorem Cn.ext {F F' H H':Hp} {ad aA:List Addr} {mu dE:List (Option OV)} {P:aw->Prop} {R:St->Hp->Prop} (c:Cn F ad mu H P R) (e:Ext F ad mu H F' aA dE H'):Cn F' aA dE H' P R:=fun δ' h _ _ _ _ E S=>c δ' h _ _ _ _ (e.trans E) S
theorem xA.ext {F F' H H':Hp} {ad aA:List Addr} {mu dE:List (Option OV)} {K:KS} {D:Ends} (c:xA F ad mu H K D) (e:Ext F ad mu H F' aA dE H'):xA F' aA dE H' K D :=
 ⟨c.nx.ext e,c.bk.ext e,c.ct.ext e,fun x δ' h _ _ _ _ _ E S V=>c.rt x δ' h _ _ _ _ _ (e.trans E) S V⟩
noncomputable def dX (G:WS):TS:=fun D σ H=>∃ F ad δ K,SR F ad δ σ H/\G K δ /\ xA F ad δ.mu H K D
noncomputable def au (G G':WS):WS:=fun K δ => G { K with nx:=G' K } δ
noncomputable def fM:WS:=fun K δ => K.nx δ
noncomputable def aG (i:Nat) (f:WE):WS:=fun K δ => f δ fun x δ1=>K.nx ⟨δ1.sl.set i (some x),δ1.mu⟩
noncomputable def nG (f:WE):WS:=fun K δ => f δ fun _ δ1=>K.nx δ1
noncomputable def aN (f:WE):WS:=fun K δ => f δ fun x δ1=>K.rt x δ1
noncomputable def bG (t:WT) (G G':WS):WS:=fun K δ => t δ fun b δ1=>if b=true then G K δ1 else G' K δ1
section
variable {X:Cx} {e c:Expr} {st:Stmt} {rest:List Stmt} {f:WE} {t:WT} {G G':WS} {pos:Pos}
theorem gg:fK X [] (dX fM):=g8.weak fun D σ H h0_ => el7 h0_ fun F ad δ K S q k =>k.nx _ q _ _ _ _ .refl S
theorem bg (h:JS X st (dX G)):fK X [st] (dX G):=qv h
theorem a6 (h:JS X st (dX G)) (r:fK X rest (dX G')):fK X (st :: rest) (dX (au G G')) :=
 (l_ h r).weak fun D σ H h0_ => el7 h0_ fun F ad δ K S q k =>⟨F,ad,δ,_,S,q,⟨fun δ' h _ _ _ _ E S'=>⟨_,_,δ',K,S',h,k.ext E⟩,k.bk,k.ct,k.rt⟩⟩
theorem O3 {i:Nat}:∀ D σ H,dX (aG i f) D σ H->fU (tD f) (j8 i) D σ H:=fun D σ H h0_ => el7 h0_ fun F ad δ K S q k =>⟨F,ad,δ,_,S,q,fun x δ1 h1 v F1 aP H1 E1 S1 V1=>k.nx _ h1 _ _ _ _ E1 (S1.set V1)⟩
theorem cn {i:Nat} {x:Str} {pos':Pos} (hN:X.N.Nodup) (hi:X.N[i]? = some x) (hx:Loc X.env.scope x) (he:JE X e (tD f)) (hs:swapsWith e (some (.Name x pos')) pos.line X.env=pure false:=by rfl)
  (hf:X.fn x=true\/X.env.scope.names.lookup x=some .local:=by first | exact .inl rfl | exact .inr rfl | assumption):JS X (.Assign [.Name x pos'] e pos) (dX (aG i f)):=(uF hN hi hx he hs hf).weak O3
theorem sJ (he:JE X e (tD f)) (hs:swapsWith e none pos.line X.env=pure false:=by rfl):JS X (.Expr e pos) (dX (nG f)) :=
 (xj he hs).weak fun D σ H h0_ => el7 h0_ fun F ad δ K S q k =>⟨F,ad,δ,_,S,q,fun x δ1 h1 v F1 aP H1 E1 S1 V1=>k.nx _ h1 _ _ _ _ E1 S1⟩
theorem bR (he:JE X e (tD f)):JS X (.Return (some e) pos) (dX (aN f)) :=
 (AW he).weak fun D σ H h0_ => el7 h0_ fun F ad δ K S q k =>⟨F,ad,δ,_,S,q,fun x δ1 h1 v F1 aP H1 E1 S1 V1=>k.rt _ _ h1 _ _ _ _ _ E1 S1 V1⟩
theorem f6 {a b:List Stmt} (hc:JT X c (cS t)) (ha:fK X a (dX G)) (hb:fK X b (dX G')):JS X (.If c a b pos) (dX (bG t G G')) :=
 (AX hc ha hb).weak fun D σ H h0_ => el7 h0_ fun F ad δ K S q k =>⟨F,ad,δ,_,S,q,fun b δ1 h1 F1 aP H1 E1 S1=>by
  cases b with
  | true =>
   rw[XI rfl] at h1 ⊢
   exact⟨F1,aP,δ1,K,S1,h1,k.ext E1⟩
  | false =>
   rw[Nj Yo] at h1 ⊢
   exact⟨F1,aP,δ1,K,S1,h1,k.ext E1⟩⟩
noncomputable def uS:WS:=fun _ _=>False
noncomputable abbrev WG:=DV->aw->(aw->Prop)->Prop
noncomputable def la (g:WG):TG:=fun v σ H Q=>∃ F ad δ x K,SR F ad δ σ H/\gJ F ad x v/\g x δ K/\Cn F ad δ.mu H K Q
noncomputable abbrev qB:=List D->aw->(aw->Prop)->Prop
noncomputable def nH (g:qB):jh:=fun vs σ H Q=>∃ F ad δ ds K,SR F ad δ σ H/\af F ds vs/\g ds δ K/\Cn F ad δ.mu H K Q
noncomputable def bt (i:Nat):WG:=fun x δ K=>K ⟨δ.sl.set i (some x),δ.mu⟩
noncomputable def jQ:qB:=fun ds δ K=>match ds with
 | []=>K δ
 | _=>False
noncomputable def f7 (g:WG) (g':qB):qB:=fun ds δ K=>match ds with
 | d :: r=>g (.p d) δ fun δ1=>g' r δ1 K
 | []=>False
theorem JG.weak {tg:Expr} {t t':TG} (h:JG X tg t) (k:∀ v σ H Q,t' v σ H Q->t v σ H Q):JG X tg t':=⟨fun pins s σ H v u Q I r q=>h.out pins s σ H v u Q I r (k v σ H Q q)⟩
theorem kh.weak {ts:List Expr} {t t':jh} (h:kh X ts t) (k:∀ v σ H Q,t' v σ H Q->t v σ H Q):kh X ts t':=⟨fun pins s σ H v u Q I r q=>h.out pins s σ H v u Q I r (k v σ H Q q)⟩
theorem cq {i:Nat} {x:Str} (hN:X.N.Nodup) (hi:X.N[i]? = some x) (hx:Loc X.env.scope x) (hf:X.fn x=true\/X.env.scope.names.lookup x=some .local:=by first | exact .inl rfl | exact .inr rfl | assumption):JG X (.Name x pos) (la (bt i)) :=
 (uC hN hi hx hf).weak fun v σ H Q ⟨F,ad,δ,x,K,S,V,q,k⟩=>k _ q _ _ _ _ .refl (S.set V)
theorem oM:kh X [] (nH jQ):=g9.weak fun vs σ H Q ⟨F,ad,δ,ds,K,S,V,q,k⟩=>by
 unfold jQ at q
 split at q
 ·simp only[af] at V
  exact⟨V,k _ q _ _ _ _ .refl S⟩
 ·exact q.elim
theorem iC {es:List Expr} {g:WG} {g':qB} (h1:JG X e (la g)) (h2:kh X es (nH g')) (hs:(assignEach (e :: es) X.env).map (·.2)=assign e X.env :: (assignEach es X.env).map (·.2):=by rfl):kh X (e :: es) (nH (f7 g g')) :=
 (uD h1 h2 hs).weak fun vs σ H Q ⟨F,ad,δ,ds,K,S,V,q,k⟩=>by
  unfold f7 at q
  split at q
  ·rename_i d r
   simp only[af] at V
   obtain⟨v,r',e,i1,i2⟩:=V
   exact⟨v,r',e,F,ad,δ,.p d,_,S,i1,q,fun δ' h _ _ _ _ E S'=>⟨_,_,δ',r,K,S',i2.same E.same,h,k.ext E⟩⟩
  ·exact q.elim
noncomputable def kq (n:Nat) (g:qB):WG:=fun x δ K=>ib x δ fun d=>match d with
 | .tup ds=>ds.length=n/\g ds δ K
 | .lst ds=>ds.length=n/\g ds δ K
 | _=>False
theorem JG.or {tg:Expr} {t t':TG} (h:JG X tg t) (h':JG X tg t'):JG X tg (fun v σ H Q=>t v σ H Q\/t' v σ H Q):=⟨fun pins s σ H v u Q I r q=>q.elim (fun q=>h.out pins s σ H v u Q I r q) fun q=>h'.out pins s σ H v u Q I r q⟩
theorem oN {es:List Expr} {k:Nat} {g:qB} {n:Nat} (hc:X.calm=true) (h:kh X es (nH g)) (hn:(assignEach es X.env).length=n:=by rfl) (kR:(assignEach es X.env).findIdx? (·.1)=none:=by rfl):JG X (.Tuple es k pos) (la (kq n g)) :=
 ((AY hc h hn kR).or (OT hc h hn kR)).weak fun v σ H Q ⟨F,ad,δ,x,K,S,V,q,k⟩=>by
  obtain⟨d,q,rd⟩:=km S V q
  split at q
  ·rename_i ds
   have xB:Is F (.tup ds) v:=rd
   simp only[Is] at xB
   obtain⟨a,vs,e,h1,h2⟩:=xB
   exact .inl ⟨a,vs,e,bC.of (S.sub _ _ h1),by rw[h2.length];exact q.1,F,ad,δ,ds,K,S,h2,q.2,k⟩
  ·rename_i ds
   obtain⟨a,vs,e,h1,h2⟩:=rd
   exact .inr ⟨a,vs,e,aU.of h1,by rw[h2.length];exact q.1,F,ad,δ,ds,K,S,h2,q.2,k⟩
  ·exact q.elim
noncomputable def iZ (f:WE) (g:WG):WS:=fun K δ => f δ fun x δ1=>g x δ1 K.nx
theorem xC {tg:Expr} {g:WG} (he:JE X e (tD f)) (hg:JG X tg (la g)) (hs:swapsWithSole [tg] e pos.line X.env=pure false:=by rfl) (hw:swappedStores [tg] e X.env=pure none:=by rfl)
  (h1:(assignEach [tg] X.env).map (·.2)=[assign tg X.env]:=by rfl):JS X (.Assign [tg] e pos) (dX (iZ f g)) :=
 (sD he hg hs hw h1).weak fun D σ H h0_ => el7 h0_ fun F ad δ K S q k =>⟨F,ad,δ,_,S,q,fun x δ1 h1 v F1 aP H1 E1 S1 V1=>⟨F1,aP,δ1,x,K.nx,S1,V1,h1,k.nx.ext E1⟩⟩
end
structure qC where
 items:List D
 bh:aw->Prop
noncomputable abbrev WI:=aw->(qC->aw->Prop)->Prop
noncomputable def qD (F:Hp) (ad:List Addr) (it:qC) (J:It):Prop:=∀ (F':Hp) (aA:List Addr) (δ : aw) (σ : St) (H:Hp),ax F F'->(∀ (k:Nat) (a:Addr),ad[k]? = some a->aA[k]? = some a)->SR F' aA δ σ H->it.bh δ →
 J.stop it.items.length H/\∀ (i:Nat) (d:D),it.items[i]? = some d->J.go i H/\∀ x H',J.sd i H x H'->ax H H'/\Is (Nw F' H H') d x
noncomputable def lb (w:WI):TI:=fun σ H R=>∃ F ad δ K,SR F ad δ σ H/\w δ K/\∀ it δ',K it δ'->∀ J F' aA H',Ext F ad δ.mu H F' aA δ'.mu H'->SR F' aA δ' σ H'->qD F' aA it J->R J H'
noncomputable def uT (n:Nat):Option DV->Option DV->Option DV
 | none,_=>none
 | some _,some (.o k)=>if k < n then some (.o k) else none
 | some _,s=>s
noncomputable def gh (n:Nat):List (Option DV)->List (Option DV)->List (Option DV)
 | s0 :: r0,s :: r=>uT n s0 s :: gh n r0 r
 | [],_ :: r=>none :: gh n [] r
 | _,[]=>[]
noncomputable def aw.trim (δ0 δ : aw):aw:=⟨gh δ0.mu.length δ0.sl δ.sl,δ.mu.take δ0.mu.length⟩
theorem Ba {n:Nat}:∀ (l0 l:List (Option DV)),(gh n l0 l).length=l.length
 | _ :: r0,_ :: r=>by rw[gh,FL,FL,Ba r0 r]
 | [],_ :: r=>by rw[gh,FL,FL,Ba [] r]
 | [],[]=>rfl
 | _ :: _,[]=>rfl
theorem Bb {n:Nat}:∀ {l0 l:List (Option DV)} {i:Nat} {x:DV},(gh n l0 l)[i]? = some (some x)->l[i]? = some (some x)/\∀ k,x = .o k->k < n
 | s0 :: r0,s :: r,0,x,h=>by
  have h:uT n s0 s=some x:=by simpa [gh] using h
  match s0,s,h with
  | none,_,h=>cases h
  | some _,none,h=>cases h
  | some _,some (.p d),h=>cases (show some (DV.p d)=some x from h);exact⟨rfl,fun k e=>nomatch e⟩
  | some _,some (.o k),h =>
   have h:(if k < n then some (DV.o k) else none)=some x:=h
   by_cases c:k < n
   ·rw[XI c] at h;cases h;exact⟨rfl,fun k' e=>by cases e;exact c⟩
   ·rw[Nj c] at h;cases h
 | s0 :: r0,s :: r,i + 1,x,h=>by
  have h:(gh n r0 r)[i]? = some (some x):=by simpa [gh] using h
  simpa using Bb h
 | [],s :: r,0,x,h=>by simp[gh] at h
 | [],s :: r,i + 1,x,h=>by
  have h:(gh n [] r)[i]? = some (some x):=by simpa [gh] using h
  simpa using Bb h
 | [],[],i,x,h=>by simp[gh] at h
 | _ :: _,[],i,x,h=>by simp[gh] at h
section
variable {F F' H H':Hp} {ad aA:List Addr} {δ δ' δ0:aw} {σ σ' τ : St} {mu dE:List (Option OV)} {l:Addr} {o:HO}
theorem Lv.take {n:Nat} {a:Addr} (h:Lv (ad.take n) (mu.take n) a):Lv ad mu a:=by
 obtain⟨k,ov,e1,e2⟩:=h
 have hk:k < n:=by
  have:=(su.mp e1).1
  rw[YD] at this;omega
 rw[YQ hk] at e1 e2
 exact⟨k,ov,e1,e2⟩
theorem SR.trim (S:SR F ad δ σ H):SR F (ad.take δ0.mu.length) (δ0.trim δ) σ H:=by
 have tk:∀ {k:Nat} {a:Addr},(ad.take δ0.mu.length)[k]? = some a->k < δ0.mu.length/\ad[k]? = some a:=fun {k a} e=>by
  have hk:k < δ0.mu.length:=by
   have:=(su.mp e).1
   rw[YD] at this;omega
  rw[YQ hk] at e;exact⟨hk,e⟩
 have tm:∀ {k:Nat} {w:Option OV},(δ.mu.take δ0.mu.length)[k]? = some w->k < δ0.mu.length /\ δ.mu[k]? = some w:=fun {k w} e=>by
  have hk:k < δ0.mu.length:=by
   have:=(su.mp e).1
   rw[YD] at this;omega
  rw[YQ hk] at e;exact⟨hk,e⟩
 refine⟨S.sub,fun a x=>S.off a x.take,?_,fun k l a w w' e1 e2 e3 e4=>S.inj k l a w w' (tk e1).2 (tk e2).2 (tm e3).2 (tm e4).2,fun k ov e => ?_,fun i x e => ?_,?_,S.tab,S.nt⟩
 ·show (ad.take _).length=(δ.mu.take _).length
  rw[YD,YD,S.cj]
 ·obtain⟨a,o,e1,e2,h⟩:=S.mu k ov (tm e).2
  exact⟨a,o,by rw[YQ (tm e).1];exact e1,e2,h⟩
 ·obtain⟨e1,e2⟩:=Bb e
  obtain⟨v,h1,h2⟩:=S.sl i x e1
  refine⟨v,h1,?_⟩
  cases x with
  | p d=>exact h2
  | o k =>
   obtain⟨a,h3,h4⟩:=h2
   exact⟨a,by rw[YQ (e2 k rfl)];exact h3,h4⟩
 ·show σ.length=(gh _ _ _).length
  rw[Ba];exact S.len
theorem Ext.trim {n:Nat} (e:Ext F ad mu H F' aA dE H') (hn:ad.length=n):Ext F ad mu H F' (aA.take n) (dE.take n) H' :=
 ⟨e.same,e.new,e.keep,fun k a h=>by rw[YQ (by rw[<-hn];exact (su.mp h).1)];exact e.pre k a h,fun a x=>e.cm a x.take,e.g_⟩
theorem SR.other (S:SR F ad δ σ H) (hf:F l=none) (hl:¬ Lv ad δ.mu l) (tk:aD.ok (upd H l o)):SR F ad δ σ (upd H l o):=by
 refine⟨fun a u e => ?_,S.off,S.cj,S.inj,fun k ov e => ?_,S.sl,S.len,tk,S.nt⟩
 ·rw[aH (cf e hf)];exact S.sub a u e
 ·obtain⟨a,u,e1,e2,h⟩:=S.mu k ov e
  exact⟨a,u,e1,by rw[aH fun z=>hl (by subst z;exact⟨k,ov,e1,e⟩)];exact e2,h⟩
theorem Ext.other (e:Ext F ad mu H F' aA dE H') (hl:H l=none):Ext F ad mu H F' aA dE (upd H' l o) :=
 ⟨e.same,e.new,fun a u h n t=>by rw[aH (cf h hl)];exact e.keep a u h n t,e.pre,e.cm,fun a u h=>by rw[aH (cf h hl)];exact e.g_ a u h⟩
theorem SR.adopt (S:SR F ad δ σ H) (hf:F l=none) (ho:H l=some o) (hl:¬ Lv ad δ.mu l) (no:∀ ps,o ≠ .tbl ps:=by intro _ z;cases z):SR (upd F l o) ad δ σ H:=by
 have sm:ax F (upd F l o):=cW hf
 refine⟨fun a u e => ?_,fun a x => ?_,S.cj,S.inj,fun k ov e => ?_,fun i x e => ?_,S.len,S.tab,fun a ha=>by
  obtain⟨ps,q⟩:=aD.tb S.tab ha
  rw[aH fun z=>by subst z;rw[ho] at q;exact no ps (YA q)]
  exact S.nt a ha⟩
 ·by_cases c:a=l
  ·subst c;rw[bz] at e;cases e;exact ho
  ·rw[aH c] at e;exact S.sub a u e
 ·rw[aH fun z=>hl (by subst z;exact x)];exact S.off a x
 ·obtain⟨a,u,e1,e2,h⟩:=S.mu k ov e
  exact⟨a,u,e1,e2,h.same sm⟩
 ·obtain⟨v,e1,h⟩:=S.sl i x e
  refine⟨v,e1,?_⟩
  cases x with
  | p d=>exact Is.same sm h
  | o k=>exact h
theorem Ext.adopt (e:Ext F ad mu H F' aA dE H') (hl:H l=none) (hf:F' l=none):Ext F ad mu H (upd F' l o) aA dE H' :=
 ⟨e.same.trans (cW hf),fun a u h=>by
  by_cases c:a=l
  ·subst c;exact .inr (.inl hl)
  ·rw[aH c] at h;exact e.new a u h,e.keep,e.pre,e.cm,e.g_⟩
theorem SR.dY {ov:OV} (S:SR F ad δ σ H) (hf:F l=none) (ho:H l=some o) (hl:¬ Lv ad δ.mu l) (h:gf F ov o):SR F (ad ++ [l]) ⟨δ.sl,δ.mu ++ [some ov]⟩ σ H:=by
 have old:∀ {k:Nat} {w:OV},(δ.mu ++ [some ov])[k]? = some (some w)->(k < δ.mu.length /\ δ.mu[k]? = some (some w))\/(k = δ.mu.length/\w=ov):=fun {k w} e=>by
  by_cases c:k < δ.mu.length
  ·rw[XO c] at e;exact .inl ⟨c,e⟩
  ·have hl:=(su.mp e).1
   rw[Aw,Yu] at hl
   have ek:k = δ.mu.length:=by omega
   subst ek
   rw[Yi (qq _),YZ] at e
   exact .inr ⟨rfl,by simpa using e.symm⟩
 have pre:∀ {k:Nat},k < δ.mu.length->(ad ++ [l])[k]? = ad[k]? := fun {k} c=>XO (by rw[S.cj];exact c)
 have last:(ad ++ [l])[δ.mu.length]? = some l:=by rw[<-S.cj,Yi (qq _),YZ];rfl
 refine⟨S.sub,fun a x => ?_,by rw[Aw,Aw,S.cj];rfl,fun k k' a w w' e1 e2 e3 e4 => ?_,fun k w e => ?_,fun i x e => ?_,S.len,S.tab,S.nt⟩
 ·obtain⟨k,w,e1,e2⟩:=x
  rcases old e2 with⟨c,e3⟩ | ⟨c,e3⟩
  ·rw[pre c] at e1;exact S.off a ⟨k,w,e1,e3⟩
  ·subst c;rw[last] at e1;cases e1;exact hf
 ·rcases old e3 with⟨c,q⟩ | ⟨c,q⟩
  ·rw[pre c] at e1
   rcases old e4 with⟨c',q'⟩ | ⟨c',q'⟩
   ·rw[pre c'] at e2;exact S.inj k k' a w w' e1 e2 q q'
   ·subst c';rw[last] at e2;cases e2;exact absurd ⟨k,w,e1,q⟩ hl
  ·subst c;rw[last] at e1;cases e1
   rcases old e4 with⟨c',q'⟩ | ⟨c',q'⟩
   ·rw[pre c'] at e2;exact absurd ⟨k',w',e2,q'⟩ hl
   ·exact c'.symm
 ·rcases old e with⟨c,q⟩ | ⟨c,q⟩
  ·obtain⟨a,u,e1,e2,h'⟩:=S.mu k w q
   exact⟨a,u,by rw[pre c];exact e1,e2,h'⟩
  ·subst c;subst q;exact⟨l,o,last,ho,h⟩
 ·obtain⟨v,e1,h'⟩:=S.sl i x e
  refine⟨v,e1,?_⟩
  cases x with
  | p d=>exact h'
  | o k =>
   obtain⟨a,e2,e3⟩:=h'
   exact⟨a,by rw[XO (su.mp e2).1];exact e2,e3⟩
theorem Ext.dY {ov:OV} (e:Ext F ad mu H F' aA dE H') (hl:H l=none) (hm:aA.length=dE.length):Ext F ad mu H F' (aA ++ [l]) (dE ++ [some ov]) H' :=
 ⟨e.same,e.new,e.keep,fun k a h=>by rw[XO (su.mp (e.pre k a h)).1];exact e.pre k a h,fun a x=>by
  obtain⟨k,w,e1,e2⟩:=x
  by_cases c:k < dE.length
  ·rw[XO c] at e2
   rw[XO (by rw[hm];exact c)] at e1
   exact e.cm a ⟨k,w,e1,e2⟩
  ·have ic:=(su.mp e2).1
   rw[Aw,Yu] at ic
   have ek:k=aA.length:=by rw[hm];omega
   subst ek
   rw[Yi (qq _),YZ] at e1
   have:l=a:=by simpa using e1
   subst this;exact .inr hl,e.g_⟩
theorem SR.back {sl:List (Option DV)} (S0:SR F ad δ σ H) (e:Ext F ad δ.mu H F' aA dE H') (S:SR F' aA ⟨sl,dE⟩ τ H'):SR F' aA ⟨δ.sl,dE⟩ σ H' :=
 ⟨S.sub,S.off,S.cj,S.inj,S.mu,fun i x q=>let ⟨v,h1,h2⟩:=S0.sl i x q; ⟨v,h1,h2.ext e⟩,S0.len,S.tab,S.nt⟩
noncomputable def c8 (cp:List (Option Nat)) (sl:List (Option DV)):List (Option DV):=cp.map fun o=>match o with
 | some i=>(sl[i]?).join
 | none=>none
theorem SR.uU {cp:List (Option Nat)} (S:SR F ad δ σ H):SR F ad ⟨c8 cp δ.sl,δ.mu⟩ (iM cp σ) H:=by
 refine⟨S.sub,S.off,S.cj,S.inj,S.mu,fun j x e => ?_,by unfold iM c8;rw[qp,qp],S.tab,S.nt⟩
 unfold c8 at e
 rw[Ni] at e
 obtain⟨o,e1,e2⟩:=XM.mp e
 match o,e2 with
 | none,e2=>cases e2
 | some i,e2 =>
  have e2:(δ.sl[i]?).join=some x:=e2
  cases q : δ.sl[i]? with
  | none=>rw[q] at e2;cases e2
  | some z =>
   rw[q] at e2
   have e3:z=some x:=e2
   subst e3
   obtain⟨v,h1,h2⟩:=S.sl i x q
   refine⟨v,?_,h2⟩
   unfold iM
   rw[Ni,e1]
   show some ((σ[i]?).join)=some (some v)
   rw[h1];rfl
end
noncomputable def kr (δ0:aw) (bh:aw->Prop) (g:WG) (b:WS) (K:KS):List D->aw->Prop
 | [],δ => bh δ /\ K.nx δ
 | d :: r,δ => bh δ /\ g (.p d) δ fun δ1=>b { nx:=fun δ2=>kr δ0 bh g b K r (δ0.trim δ2),ct:=fun δ2=>kr δ0 bh g b K r (δ0.trim δ2),bk:=K.nx,rt:=K.rt } δ1
noncomputable def eW (w:WI) (g:WG) (b:WS):WS:=fun K δ => w δ fun it δ1=>kr δ1 it.bh g b K it.items δ1
noncomputable def jo (δ0:aw) (bh:aw->Prop) (g:WG) (t:WT) (f:WE) (K:List D->aw->Prop):List D->List D->aw->Prop
 | [],acc,δ => bh δ /\ K acc δ
 | d :: r,acc,δ => bh δ /\ g (.p d) δ fun δ1=>t δ1 fun b δ2=>if b=true then f δ2 fun x δ3=>nA x δ3 fun e δ4=>acc.length < 1000/\jo δ0 bh g t f K r (acc ++ [e]) (δ0.trim δ4) else jo δ0 bh g t f K r acc (δ0.trim δ2)
noncomputable def fG (w:WI) (cp:List (Option Nat)) (g:WG) (t:WT) (f:WE):WE:=fun δ K=>w δ fun it δ1=>jo ⟨c8 cp δ1.sl,δ1.mu⟩ it.bh g t f (fun acc δ'=>K (.p (.lst acc)) ⟨δ1.sl,δ'.mu⟩) it.items [] ⟨c8 cp δ1.sl,δ1.mu⟩
noncomputable def qE (w:WI) (cp:List (Option Nat)) (g:WG) (t:WT) (f:WE):WE:=fun δ K=>w δ fun it δ1=>jo ⟨c8 cp δ1.sl,δ1.mu⟩ it.bh g t f (fun acc δ'=>K (.o δ'.mu.length) ⟨δ1.sl,δ'.mu ++ [some (.lst acc)]⟩) it.items [] ⟨c8 cp δ1.sl,δ1.mu⟩
section
variable {X:Cx} {tg iter elt:Expr} {body:List Stmt} {w:WI} {g:WG} {b:WS} {pos:Pos} {ifs:List Expr} {t:WT} {f:WE} {scope:Scope}
theorem oO (hp:PassesOwn (model X.prog X.w) X.A X.env X.xe) (hc:X.calm=true) (hi:JI X tg iter (lb w)) (hg:JG X tg (la g)) (hb:fK X body (dX b)) (hs:∀ x,foldedSetIterable iter X.env x=pure x:=by intro _;rfl) :
  JS X (.For tg iter body [] pos) (dX (eW w g b)):=(AZ hp hc hi hg hb hs).weak fun D σ H h0_ => el7 h0_ fun F ad δ K S q k =>by
 refine⟨F,ad,δ,_,S,q,fun it δ1 h1 J F1 aP H1 E1 S1 I1 => ?_⟩
 have k1:=k.ext E1
 refine⟨fun i m σ' H'=>∃ F' aA δ',i + m=it.items.length/\Ext F1 aP δ1.mu H1 F' aA δ'.mu H'/\SR F' aA δ' σ' H'/\kr δ1 it.bh g b K (it.items.drop i) δ',⟨it.items.length,F1,aP,δ1,by omega,.refl,S1,h1⟩,?_⟩
 rintro i m σ' H' ⟨F',aA,δ',hm,E',S',h⟩
 by_cases cQ:i < it.items.length
 ·rw[Z_ cQ] at h
  obtain⟨ck,h⟩:=h
  obtain⟨go,yl⟩:=(I1 F' aA δ' σ' H' E'.same E'.pre S' ck).2 i _ (qo cQ)
  refine .inr ⟨go,fun σ2 H2=>∃ F2 bV δ2,Ext F1 aP δ1.mu H1 F2 bV δ2.mu H2/\SR F2 bV δ2 σ2 H2/\kr δ1 it.bh g b K (it.items.drop (i + 1)) δ2,fun σ2 H2 ⟨F2,bV,δ2,e1,e2,e3⟩=>⟨m - 1,by omega,F2,bV,δ2,by omega,e1,e2,e3⟩,fun x H2 y => ?_⟩
  obtain⟨sm,is⟩:=yl x H2 y
  have E2:=E'.trans (Ext.al S' sm)
  refine⟨_,aA,δ',.p _,_,S'.al sm,is,h,fun δ3 h3 F3 oP σ3 H3 E3 S3 => ?_⟩
  have xD:=E2.trans E3
  refine⟨F3,oP,δ3,_,S3,h3,⟨fun δ4 h4 F4 uV σ4 H4 E4 S4=>⟨F4,_,_,(xD.trans E4).trim S1.cj,S4.trim,h4⟩,k1.nx.ext xD,fun δ4 h4 F4 uV σ4 H4 E4 S4=>⟨F4,_,_,(xD.trans E4).trim S1.cj,S4.trim,h4⟩,(k1.ext xD).rt⟩⟩
 ·have ei:i=it.items.length:=by omega
  subst ei
  rw[List.drop_of_length_le (qq _)] at h
  obtain⟨ck,h⟩:=h
  exact .inl ⟨(I1 F' aA δ' σ' H' E'.same E'.pre S' ck).1,k1.nx _ h _ _ _ _ E' S'⟩
noncomputable def c9:WT:=fun δ K=>K true δ
theorem JF.weak {ifs:List Expr} {t t':TT} (h:JF X ifs t) (k:∀ σ H Q,t' σ H Q->t σ H Q):JF X ifs t':=⟨fun pins s σ H Q I q=>h.out pins s σ H Q I (k σ H Q q)⟩
theorem ku:JF X [] (cS c9):=qx.weak fun σ H Q h0_ => el7 h0_ fun F ad δ K S q k =>k _ _ q _ _ _ .refl S
theorem oQ {c:Expr} (h:JT X c (cS t)):JF X [c] (cS t):=OG h
theorem GJ {J:It} {l:Addr} {F1:Hp} {aP:List Addr} {δ1:aw} {σ : St} {H1:Hp} {it:qC} {cp:List (Option Nat)} {Q:VK} {K:List D->aw->Prop} (S1:SR F1 aP δ1 σ H1) (I1:qD F1 aP it J) (hl:H1 l=none)
  (h:jo ⟨c8 cp δ1.sl,δ1.mu⟩ it.bh g t f K it.items [] ⟨c8 cp δ1.sl,δ1.mu⟩)
  (fin:∀ acc δ' F' aA τ H' ys,K acc δ'->Ext F1 aP δ1.mu H1 F' aA δ'.mu H'->SR F' aA δ' τ H'->H' l=some (.lst ys)->F' l=none->¬ Lv aA δ'.mu l->af F' acc ys->Q (.ref l) H') :
  FT J (la g) (cS t) (tD f) l (iM cp σ) (upd H1 l (.lst [])) Q:=by
 have f1:F1 l=none:=by
  cases q:F1 l with
  | none=>rfl
  | some u=>rw[S1.sub l u q] at hl;cases hl
 have nl:∀ {ad mu},(∀ a,Lv ad mu a->Lv aP δ1.mu a\/H1 a=none)->True:=fun _=>trivial
 have l1:¬ Lv aP δ1.mu l:=fun ⟨k,ov,e1,e2⟩=>by
  obtain⟨a,o,e3,e4,_⟩:=S1.mu k ov e2
  rw[e1] at e3;cases e3
  rw[hl] at e4;cases e4
 have S0:SR F1 aP ⟨c8 cp δ1.sl,δ1.mu⟩ (iM cp σ) (upd H1 l (.lst [])):=S1.uU.other f1 l1 (aD.same S1.tab (cW hl))
 refine⟨fun i m τ H'=>∃ F' aA δ' acc ys,i + m=it.items.length/\Ext F1 aP δ1.mu H1 F' aA δ'.mu H'/\SR F' aA δ' τ H'/\H' l=some (.lst ys)/\F' l=none/\¬ Lv aA δ'.mu l/\af F' acc ys/\jo ⟨c8 cp δ1.sl,δ1.mu⟩ it.bh g t f K (it.items.drop i) acc δ',⟨it.items.length,F1,aP,_,[],[],by omega,Ext.refl.other hl,S0,bz,f1,l1,.nil,h⟩,?_⟩
 rintro i m τ H' ⟨F',aA,δ',acc,ys,hm,E',S',ic,nJ,oR,ia,h⟩
 by_cases cQ:i < it.items.length
 ·rw[Z_ cQ] at h
  obtain⟨ck,h⟩:=h
  obtain⟨go,yl⟩:=(I1 F' aA δ' τ H' E'.same E'.pre S' ck).2 i _ (qo cQ)
  have step:∀ {F2:Hp} {bV:List Addr} {Bc:List (Option OV)} {H2:Hp},Ext F' aA δ'.mu H' F2 bV Bc H2->H2 l=some (.lst ys)/\F2 l=none/\¬ Lv bV Bc l/\af F2 acc ys:=fun {F2 bV Bc H2} e=>by
   refine⟨e.keep _ _ ic oR (fun z=>by obtain⟨ps,q⟩:=aD.tb S1.tab z;rw[hl] at q;cases q),?_,fun z => ?_,ia.same e.same⟩
   ·cases q:F2 l with
    | none=>rfl
    | some u =>
     rcases e.new l u q with z | z | z
     ·rw[nJ] at z;cases z
     ·rw[ic] at z;cases z
     ·exact absurd z oR
   ·rcases e.cm l z with z | z
    ·exact oR z
    ·rw[ic] at z;cases z
  refine .inr ⟨go,fun τ2 H2=>∃ F2 bV δ2 nK xE,Ext F1 aP δ1.mu H1 F2 bV δ2.mu H2/\SR F2 bV δ2 τ2 H2/\H2 l=some (.lst xE)/\F2 l=none/\¬ Lv bV δ2.mu l/\af F2 nK xE/\jo ⟨c8 cp δ1.sl,δ1.mu⟩ it.bh g t f K (it.items.drop (i + 1)) nK δ2,
   fun τ2 H2 ⟨F2,bV,δ2,nK,xE,r⟩=>⟨m - 1,by omega,F2,bV,δ2,nK,xE,by omega,r⟩,fun x H2 y => ?_⟩
  obtain⟨sm,is⟩:=yl x H2 y
  have X2:=Ext.al S' sm
  refine⟨_,aA,δ',.p _,_,S'.al sm,is,h,fun δ3 h3 F3 oP σ3 H3 X3 S3 => ?_⟩
  refine⟨F3,oP,δ3,_,S3,h3,fun bb δ4 h4 F4 uV H4 X4 S4 => ?_⟩
  have Bd:=(X2.trans X3).trans X4
  cases bb with
  | false =>
   dsimp only at h4 ⊢
   rw[Nj Yo] at h4 ⊢
   obtain⟨a1,a2,a3,a4⟩:=step Bd
   exact⟨F4,_,_,acc,ys,(E'.trans Bd).trim S1.cj,S4.trim (δ0:=⟨c8 cp δ1.sl,δ1.mu⟩),a1,a2,fun z=>a3 z.take,a4,h4⟩
  | true =>
   dsimp only at h4 ⊢
   rw[XI rfl] at h4 ⊢
   refine⟨F4,uV,δ4,_,S4,h4,fun y δ5 h5 v F5 XW H5 X5 S5 V5 => ?_⟩
   obtain⟨e,δ6,F6,⟨hlen,h6⟩,X6,S6,i6⟩:=uP S5 V5 h5
   have GK:=(Bd.trans X5).trans X6
   obtain⟨a1,a2,a3,a4⟩:=step GK
   refine⟨ys,a1,ka (by rw[a4.length];omega),F6,_,_,acc ++ [e],ys ++ [v],?_,(S6.other a2 a3 (aD.put S6.tab a1 (.inl ⟨_,rfl⟩))).trim (δ0:=⟨c8 cp δ1.sl,δ1.mu⟩),bz,a2,fun z=>a3 z.take,a4.snoc i6,h6⟩
   exact ((E'.trans GK).other hl).trim S1.cj
 ·have ei:i=it.items.length:=by omega
  subst ei
  rw[List.drop_of_length_le (qq _)] at h
  obtain⟨ck,h⟩:=h
  exact .inl ⟨(I1 F' aA δ' τ H' E'.same E'.pre S' ck).1,fin _ _ _ _ _ _ _ h E' S' ic nJ oR ia⟩
theorem GL {cp:List (Option Nat)}:∀ σ H Q,tD (fG w cp g t f) σ H Q->qr (lb w) cp (fun _=>la g) (fun _=>cS t) (fun _=>tD f) σ H Q:=fun σ H Q h0_ => el7 h0_ fun F ad δ K S q k =>by
 refine⟨F,ad,δ,_,S,q,fun it δ1 h1 J F1 aP H1 E1 S1 I1=>fun d l hl => ?_⟩
 refine GJ S1 I1 hl h1 fun acc δ' F' aA τ H' ys hk E' S' ic nJ oR ia => ?_
 have sm:ax F' (upd F' l (.lst ys)):=cW nJ
 refine k _ _ hk _ _ _ _ (E1.trans (E'.adopt hl nJ)) (SR.back (sl := δ'.sl) S1 (E'.adopt hl nJ) (S'.adopt nJ ic oR)) ?_
 show Is _ (.lst acc) _
 simp only[Is]
 exact⟨l,ys,rfl,bz,ia.same sm⟩
theorem O4 {cp:List (Option Nat)}:∀ σ H Q,tD (qE w cp g t f) σ H Q->qr (lb w) cp (fun _=>la g) (fun _=>cS t) (fun _=>tD f) σ H Q:=fun σ H Q h0_ => el7 h0_ fun F ad δ K S q k =>by
 refine⟨F,ad,δ,_,S,q,fun it δ1 h1 J F1 aP H1 E1 S1 I1=>fun d l hl => ?_⟩
 refine GJ S1 I1 hl h1 fun acc δ' F' aA τ H' ys hk E' S' ic nJ oR ia => ?_
 have S2:=S'.dY (ov := .lst acc) nJ ic oR ⟨ys,rfl,ia⟩
 have E2:=E'.dY (ov := .lst acc) hl S'.cj
 refine k _ _ hk _ _ _ _ (E1.trans E2) (SR.back (sl := δ'.sl) S1 E2 S2) ⟨l,?_,rfl⟩
 rw[<-S'.cj,Yi (qq _),YZ];rfl
theorem jR (cp:List (Option Nat)) (Nb:List Str) (hc:X.calm=true) (hi:JI X tg iter (lb w)) (hg:∀ d,JG (cC X scope Nb d) tg (la g)) (hf:∀ d,JF (cC X scope Nb d) ifs (cS t)) (he:∀ d,JE (cC X scope Nb d) elt (tD f))
  (hk:scope.kind = .function:=by rfl) (ho:l8 X.N X.env.scope scope Nb cp=true:=by first | rfl | kernel_rfl) (hs:∀ x,foldedSetIterable iter X.env x=pure x:=by intro _;rfl) :
  JE X (.ListComp elt [⟨tg,iter,ifs,0⟩] scope pos) (tD (fG w cp g t f)):=(Gg cp Nb hc hi hg hf he hk ho hs).weak GL
theorem xF (cp:List (Option Nat)) (Nb:List Str) (hc:X.calm=true) (hi:JI X tg iter (lb w)) (hg:∀ d,JG (cC X scope Nb d) tg (la g)) (hf:∀ d,JF (cC X scope Nb d) ifs (cS t)) (he:∀ d,JE (cC X scope Nb d) elt (tD f))
  (hk:scope.kind = .function:=by rfl) (ho:l8 X.N X.env.scope scope Nb cp=true:=by first | rfl | kernel_rfl) (hs:∀ x,foldedSetIterable iter X.env x=pure x:=by intro _;rfl) :
  JE X (.ListComp elt [⟨tg,iter,ifs,0⟩] scope pos) (tD (qE w cp g t f)):=(Gg cp Nb hc hi hg hf he hk ho hs).weak O4
theorem Be (cp:List (Option Nat)) (Nb:List Str) {i:Nat} {x:Str} {pos' iy:Pos} (hN:X.N.Nodup) (hi:X.N[i]? = some x) (hx:Loc X.env.scope x) (hc:X.calm=true) (hit:JI X tg iter (lb w)) (hg:∀ d,JG (cC X scope Nb d) tg (la g)) (hf:∀ d,JF (cC X scope Nb d) ifs (cS t)) (he:∀ d,JE (cC X scope Nb d) elt (tD f))
  (hk:scope.kind = .function:=by rfl) (ho:l8 X.N X.env.scope scope Nb cp=true:=by first | rfl | kernel_rfl) (hs:∀ x,foldedSetIterable iter X.env x=pure x:=by intro _;rfl)
  (ur:swapsWith (.ListComp elt [⟨tg,iter,ifs,0⟩] scope pos) (some (.Name x pos')) iy.line X.env=pure true:=by rfl)
  (mR:X.fn x=true\/X.env.scope.names.lookup x=some .local:=by first | exact .inl rfl | exact .inr rfl | assumption) :
  JS X (.Assign [.Name x pos'] (.ListComp elt [⟨tg,iter,ifs,0⟩] scope pos) iy) (dX (aG i (fG w cp g t f))) :=
 (OH cp Nb hN hi hx hc hit hg hf he hk ho hs ur mR).weak fun D σ H h0_ => el7 h0_ fun F ad δ K S q k =>GL σ H _ ⟨F,ad,δ,_,S,q,fun x δ1 h1 v F1 aP H1 E1 S1 V1=>k.nx _ h1 _ _ _ _ E1 (S1.set V1)⟩
end
inductive RV where
 | p (d:D) | n (ds:List D) | a (j:Nat)
noncomputable abbrev GD:=List DV->List OV->(RV->List OV->Prop)->Prop
structure xG (F:Hp) (ad:List Addr) (H:Hp) (r:RV) (ows:List OV) (v:V) (F' H':Hp):Prop where
 sub:ax F' H'
 same:ax F F'
 new:∀ a o,F' a=some o->F a=some o\/H a=none
 keep:∀ a o,H a=some o->a∉ad->a∉aD.ad->H' a=some o
 tab:aD.ok H'
 nt:∀ a∈aD.ad,F' a=none
 len:ows.length=ad.length
 own:∀ (j:Nat) (ow:OV),ows[j]? = some ow->∃ a o,ad[j]? = some a/\H' a=some o/\gf F' ow o
 off:∀ a∈ad,F' a=none
 res:match r with
  | .p d=>Is F' d v
  | .n ds=>∃ a vs,v = .ref a/\H a=none/\H' a=some (.lst vs)/\F' a=none/\af F' ds vs
  | .a j=>∃ a,ad[j]? = some a/\v = .ref a
noncomputable def aI (G:GD) (n:Nat):Sp:=fun vs H Q _=>vs.length=n/\∃ F ad ys aj K,SR F ad ⟨ys.map some,aj.map some⟩ (vs.map some) H/\G ys aj K/\∀ r ows,K r ows->∀ v F' H',xG F ad H r ows v F' H'->Q v H'
noncomputable def hJ (n:Nat) (K:RV->List OV->Prop) (x:DV) (δ : aw):Prop:=∃ ows,δ.mu.take n=ows.map some/\ows.length=n/\match x with
 | .p d=>K (.p d) ows
 | .o k=>if k < n then K (.a k) ows else match δ.mu[k]? with
  | some (some (.lst ds))=>K (.n ds) ows\/K (.p (.lst ds)) ows
  | _=>False
noncomputable def bS (n:Nat) (K:RV->List OV->Prop):KS where
 nx:=hJ n K (.p .non)
 rt:=hJ n K
section
variable {F F' H H':Hp} {ad aA:List Addr} {σ σ':St}
theorem GP {α : Type} {l:List α} {i:Nat} {x : α} (h:(l.map some)[i]? = some (some x)):l[i]? = some x:=by
 rw[Ni] at h
 obtain⟨y,e,q⟩:=XM.mp h
 cases q;exact e
theorem O5 {α : Type} {l:List α} {i:Nat} {x : α} (h:l[i]? = some x):(l.map some)[i]? = some (some x):=by
 rw[Ni,h];rfl
theorem SR.start {ys:List DV} {mu:List (Option OV)} {vs:List V} {N:List Str} (S:SR F ad ⟨ys.map some,mu⟩ (vs.map some) H):SR F ad ⟨ys.map some ++ List.replicate (N.length - vs.length) none,mu⟩ (start N vs) H:=by
 have hl:vs.length=ys.length:=by
  have:=S.len
  rw[qp] at this
  show vs.length=ys.length
  rw[this];show (ys.map some).length=_;rw[qp]
 refine⟨S.sub,S.off,S.cj,S.inj,S.mu,fun i x e => ?_,?_,S.tab,S.nt⟩
 ·have hi:i < ys.length:=by
   by_cases c:i < ys.length
   ·exact c
   ·rw[Yi (by rw[qp];omega),q0L] at e
    split at e
    ·cases e
    ·cases e
  rw[XO (by rw[qp];exact hi)] at e
  obtain⟨v,h1,h2⟩:=S.sl i x e
  exact⟨v,by unfold L2.start;rw[XO (by rw[qp,hl];exact hi)];exact h1,h2⟩
 ·unfold L2.start
  show _=(ys.map some ++ _).length
  rw[Aw,Aw,q01,q01,qp,qp,hl]
theorem xH {aj:List OV} {δ : aw} {x:DV} {v:V} {K:RV->List OV->Prop} {Q:VK} {sl:List (Option DV)} {τ : St} (S0:SR F ad ⟨sl,aj.map some⟩ τ H) (E:Ext F ad (aj.map some) H F' aA δ.mu H') (S:SR F' aA δ σ' H') (V:gJ F' aA x v)
  (h:hJ aj.length K x δ) (k:∀ r ows,K r ows->∀ v F' H',xG F ad H r ows v F' H'->Q v H'):Q v H':=by
 obtain⟨ows,tk,hl,h⟩:=h
 have al:ad.length=aj.length:=by have:=S0.cj;rwa [qp] at this
 have lv:∀ (j:Nat) (a:Addr),ad[j]? = some a->∃ ow,ows[j]? = some ow /\ δ.mu[j]? = some (some ow)/\Lv aA δ.mu a:=fun j a e=>by
  have hj:j < aj.length:=by rw[<-al];exact (su.mp e).1
  have h1:(δ.mu.take aj.length)[j]? = some (some (ows[j]'(by rw[hl];exact hj))):=by
   rw[tk,Ni,qo (by rw[hl];exact hj)];rfl
  rw[YQ hj] at h1
  exact⟨_,qo (by rw[hl];exact hj),h1,j,_,E.pre j a e,h1⟩
 have lg:∀ a∈ad,F' a=none:=fun a ha=>by
  obtain⟨j,e⟩:=Yj.mp ha
  obtain⟨_,_,_,l⟩:=lv j a e
  exact S.off a l
 have base:∀ {F2:Hp},ax F' F2->ax F2 H'->(∀ a o,F2 a=some o->F' a=some o\/(H a=none/\¬ a∈ad))->(∀ a∈ad,F2 a=none)->(∀ a∈aD.ad,F2 a=none)->∀ {r:RV},(match r with
   | .p d=>Is F2 d v
   | .n ds=>∃ a vs,v = .ref a/\H a=none/\H' a=some (.lst vs)/\F2 a=none/\af F2 ds vs
   | .a j=>∃ a,ad[j]? = some a/\v = .ref a)->xG F ad H r ows v F2 H':=fun {F2} s1 s2 n2 o2 O6 {r} res=>by
  refine⟨s2,E.same.trans s1,fun a o e => ?_,fun a o e n t => ?_,S.tab,O6,by rw[hl,al],fun j ow e => ?_,o2,res⟩
  ·rcases n2 a o e with e | ⟨e,_⟩
   ·rcases E.new a o e with z | z | ⟨j,ov,z,_⟩
    ·exact .inl z
    ·exact .inr z
    ·rw[lg a (Yj.mpr ⟨j,z⟩)] at e;cases e
   ·exact .inr e
  ·exact E.keep a o e (fun ⟨j,ov,z,_⟩=>n (Yj.mpr ⟨j,z⟩)) t
  ·have hj:j < ad.length:=by rw[al,<-hl];exact (su.mp e).1
   obtain⟨Bf,e1,e2,_⟩:=lv j _ (qo hj)
   rw[e] at e1;cases e1
   obtain⟨a,o,e3,e4,h5⟩:=S.mu j _ e2
   rw[E.pre j _ (qo hj)] at e3
   cases e3
   exact⟨_,o,qo hj,e4,h5.same s1⟩
 cases x with
 | p d=>exact k _ _ h _ _ _ (base (F2:=F') (fun _ _ e=>e) S.sub (fun _ _ e => .inl e) lg S.nt V)
 | o i =>
  dsimp only at h
  obtain⟨a,e1,rfl⟩:=V
  by_cases c:i < aj.length
  ·rw[XI c] at h
   have ei:ad[i]? = some a:=by
    have:=E.pre i _ (qo (by rw[al];exact c))
    rw[e1] at this
    rw[qo (by rw[al];exact c)]
    exact this.symm
   exact k _ _ h _ _ _ (base (F2:=F') (fun _ _ e=>e) S.sub (fun _ _ e => .inl e) lg S.nt ⟨a,ei,rfl⟩)
  ·rw[Nj c] at h
   split at h
   ·rename_i ds em
    obtain⟨a',o,e2,e3,vs,rfl,h4⟩:=S.mu i _ em
    rw[e1] at e2;cases e2
    have na:a∉ad:=fun z=>by
     obtain⟨j,e⟩:=Yj.mp z
     obtain⟨ow,_,e5,_⟩:=lv j a e
     have:i=j:=S.inj i j a _ _ e1 (E.pre j a e) em e5
     subst this
     exact c (by rw[<-al];exact (su.mp e).1)
    have fa:F' a=none:=S.off a ⟨i,_,e1,em⟩
    have ha:H a=none:=by
     rcases E.cm a ⟨i,_,e1,em⟩ with⟨j,ov,z,_⟩ | z
     ·exact absurd (Yj.mpr ⟨j,z⟩) na
     ·exact z
    rcases h with h | h
    ·exact k _ _ h _ _ _ (base (F2:=F') (fun _ _ e=>e) S.sub (fun _ _ e => .inl e) lg S.nt ⟨a,vs,rfl,ha,e3,fa,h4⟩)
    ·refine k _ _ h _ _ _ (base (F2:=upd F' a (.lst vs)) (cW fa) (fun b o e => ?_) (fun b o e => ?_) (fun b hb => ?_) (fun b hb => ?_) ?_)
     ·by_cases z:b=a
      ·subst z;rw[bz] at e;cases e;exact e3
      ·rw[aH z] at e;exact S.sub b o e
     ·by_cases z:b=a
      ·subst z;exact .inr ⟨ha,na⟩
      ·rw[aH z] at e;exact .inl e
     ·rw[aH fun z=>na (by subst z;exact hb)];exact lg b hb
     ·obtain⟨ps,q⟩:=aD.tb S.tab hb
      rw[aH fun z=>by subst z;rw[e3] at q;cases q];exact S.nt b hb
     ·show Is _ (.lst ds) _
      simp only[Is]
      exact⟨a,vs,rfl,bz,h4.same (cW fa)⟩
   ·exact h.elim
end
theorem bQ.dZ {P:Program} {w:World} {K:PySem.W.Frag} {mg:Str->Option Value} {base:Heap} {x qual:Str} {st:Stmt} {f:Addr} {fd:FuncData} {N ps:List Str} {k:Nat} {G:GD} (F:bQ K x qual st f fd) (S:cA N ps (bA st))
  (dS:∀ (a0:Value) (A:Around) (outer:List Env) (s:Shared) (H:Hp) (E:XK),bf k (A.deeper (envOfC qual (bA st) s.heap.objs.size f a0)) →
   ∃ B:WS,fK (gy bJ P w K mg base N qual (bA st) f a0 A outer s H E).mT (jI st) (dX B)/\∀ ys aj K',ys.length=ps.length->G ys aj K'->B (bS aj.length K') ⟨ys.map some ++ List.replicate (N.length - ps.length) none,aj.map some⟩) :
  aM P w K mg base bJ (k + 1) f fd ps (aI G ps.length) :=
 F.xm S (fun vs H Q E h=>h.1) fun a0 A outer s H vs Q E hr h=>by
  obtain⟨hl,Fz,ad,ys,aj,K',S0,g,kk⟩:=h
  obtain⟨B,jb,hb⟩:=dS a0 A outer s H E hr
  have hy:ys.length=ps.length:=by
   have:=S0.len
   rw[qp] at this
   rw[<-hl,this];show _=(ys.map some).length;rw[qp]
  refine⟨_,jb,Fz,ad,⟨ys.map some ++ List.replicate (N.length - ps.length) none,aj.map some⟩,bS aj.length K',by rw[<-hl];exact S0.start,hb ys aj K' hy g,⟨fun δ' h F' aA σ' H' E' S' => ?_,fun δ' h=>h.elim,fun δ' h=>h.elim,fun y δ' h v F' aA σ' H' E' S' V => ?_⟩⟩
  ·exact xH (σ' := σ') S0 E' S' (x := .p .non) (v := .non) rfl h kk
  ·exact xH (σ' := σ') S0 E' S' V h kk
noncomputable def passes (mu:List (Option OV)):List DV->Nat->Option (List DV × List (Nat × OV))
 | [],_=>some ([],[])
 | .p d :: xs,j=>match passes mu xs j with
  | some r=>some (.p d :: r.1,r.2)
  | none=>none
 | .o k :: xs,j=>match mu[k]? with
  | some (some ov)=>match passes mu xs (j + 1) with
   | some r=>some (.o j :: r.1,(k,ov) :: r.2)
   | none=>none
  | _=>none
noncomputable def gj (mu:List (Option OV)):List (Nat × OV)->List OV->List (Option OV)
 | (k,_) :: r,ow :: ows=>gj (mu.set k (some ow)) r ows
 | _,_=>mu
noncomputable def mf:List (Nat × OV)->Bool
 | []=>true
 | (k,_) :: r => !(r.any fun e=>e.1 == k) && mf r
noncomputable def qF (δ : aw) (gM:List (Nat × OV)) (K:DV->aw->Prop) (r:RV) (ows:List OV):Prop:=match r with
 | .p d=>K (.p d) ⟨δ.sl,gj δ.mu gM ows⟩
 | .n ds=>K (.p (.lst ds)) ⟨δ.sl,gj δ.mu gM ows⟩
 | .a j=>match gM[j]? with
  | some ko=>K (.o ko.1) ⟨δ.sl,gj δ.mu gM ows⟩
  | none=>False
noncomputable def qG (δ : aw) (gM:List (Nat × OV)) (K:DV->aw->Prop) (r:RV) (ows:List OV):Prop:=match r with
 | .n ds=>K (.o (gj δ.mu gM ows).length) ⟨δ.sl,gj δ.mu gM ows ++ [some (.lst ds)]⟩
 | _=>False
noncomputable def av (n:Nat) (G:GD) (fa:WA):WE:=fun δ K=>fa δ fun xs δ1=>match passes δ1.mu xs 0 with
 | some r=>(mf r.2=true/\r.1.length=n)/\G r.1 (r.2.map (·.2)) (qF δ1 r.2 K)
 | none=>False
noncomputable def xI (n:Nat) (G:GD) (fa:WA):WE:=fun δ K=>fa δ fun xs δ1=>match passes δ1.mu xs 0 with
 | some r=>(mf r.2=true/\r.1.length=n)/\G r.1 (r.2.map (·.2)) (qG δ1 r.2 K)
 | none=>False
section
variable {F F' H H':Hp} {ad aA:List Addr} {δ : aw} {σ σ':St}
theorem xJ {mu:List (Option OV)} (hm:∀ (k:Nat) (ov:OV),mu[k]? = some (some ov)->∃ a o,ad[k]? = some a/\H a=some o/\gf F ov o):∀ {xs:List DV} {vs:List V} {j:Nat} {r:List DV × List (Nat × OV)},passes mu xs j=some r->dU F ad xs vs →
  ∃ as:List Addr,as.length=r.2.length/\(∀ (i:Nat) (ko:Nat × OV),r.2[i]? = some ko->mu[ko.1]? = some (some ko.2)/\∃ a o,as[i]? = some a/\ad[ko.1]? = some a/\H a=some o/\gf F ko.2 o) ∧
   ∀ (pre:List Addr),pre.length=j->∃ _u:Unit,vs.length=r.1.length/\∀ (i:Nat) (y:DV),r.1[i]? = some y->∃ v,vs[i]? = some v/\gJ F (pre ++ as) y v
 | [],vs,j,r,h,hv=>by
  cases h
  have:vs=[]:=hv
  subst this
  exact⟨[],rfl,fun i ko e=>by simp at e,fun pre _=>⟨(),rfl,fun i y e=>by simp at e⟩⟩
 | .p d :: xs,_,j,r,h,⟨v,t,e,h1,h2⟩=>by
  subst e
  unfold passes at h
  split at h
  ·rename_i r' hr
   cases h
   obtain⟨as,l,b,c⟩:=xJ hm hr h2
   refine⟨as,l,b,fun pre hp=>⟨(),?_,fun i y e => ?_⟩⟩
   ·obtain⟨_,c1,_⟩:=c pre hp
    rw[FL,FL,c1]
   ·obtain⟨_,_,c2⟩:=c pre hp
    cases i with
    | zero=>cases (show some (DV.p d)=some y by simpa using e);exact⟨v,rfl,h1⟩
    | succ i=>simpa using c2 i y (by simpa using e)
  ·cases h
 | .o k :: xs,_,j,r,h,⟨v,t,e,h1,h2⟩=>by
  subst e
  unfold passes at h
  split at h
  ·rename_i ov hk
   split at h
   ·rename_i r' hr
    cases h
    obtain⟨as,l,b,c⟩:=xJ hm hr h2
    obtain⟨a,e1,rfl⟩:=h1
    obtain⟨a',o,e2,e3,e4⟩:=hm k ov hk
    rw[e1] at e2;cases e2
    refine⟨a :: as,by rw[FL,FL,l],fun i ko e => ?_,fun pre hp=>⟨(),?_,fun i y e => ?_⟩⟩
    ·cases i with
     | zero=>cases (show some (k,ov)=some ko by simpa using e);exact⟨hk,a,o,rfl,e1,e3,e4⟩
     | succ i=>simpa using b i ko (by simpa using e)
    ·obtain⟨_,c1,_⟩:=c (pre ++ [a]) (by rw[Aw,hp];rfl)
     rw[FL,FL,c1]
    ·obtain⟨_,_,c2⟩:=c (pre ++ [a]) (by rw[Aw,hp];rfl)
     cases i with
     | zero =>
      cases (show some (DV.o j)=some y by simpa using e)
      refine⟨_,rfl,a,?_,rfl⟩
      rw[Yi (by omega),hp,YZ];rfl
     | succ i =>
      obtain⟨v',c3,c4⟩:=c2 i y (by simpa using e)
      exact⟨v',by simpa using c3,by rw[ZH] at c4;exact c4⟩
   ·cases h
  ·cases h
theorem GQ:∀ {gM:List (Nat × OV)},mf gM=true->∀ (i j:Nat) (k:Nat) (a b:OV),gM[i]? = some (k,a)->gM[j]? = some (k,b)->i=j
 | [],_,i,j,k,a,b,e,_=>by simp at e
 | (k',ov) :: r,h,i,j,k,a,b,e1,e2=>by
  unfold mf at h
  simp only[YI,q1C] at h
  have no:∀ (m:Nat) (c:OV),r[m]? = some (k',c)->False:=fun m c e=>by
   have:=Z0.mp h.1 _ (Yj.mpr ⟨m,e⟩)
   exact this (by simp)
  cases i with
  | zero =>
   cases (show some (k',ov)=some (k,a) by simpa using e1)
   cases j with
   | zero=>rfl
   | succ j=>exact (no j b (by simpa using e2)).elim
  | succ i =>
   cases j with
   | zero=>cases (show some (k',ov)=some (k,b) by simpa using e2);exact (no i a (by simpa using e1)).elim
   | succ j=>rw[GQ h.2 i j k a b (by simpa using e1) (by simpa using e2)]
theorem GR:∀ (gM:List (Nat × OV)) (ows:List OV) (mu:List (Option OV)),(gj mu gM ows).length=mu.length
 | (k,_) :: r,ow :: ows,mu=>by rw[gj,GR r ows,Zn]
 | [],_,_=>rfl
 | _ :: _,[],_=>rfl
theorem xK:∀ (gM:List (Nat × OV)) (ows:List OV) (mu:List (Option OV)) (l:Nat),(∀ ko∈gM,ko.1≠l)->(gj mu gM ows)[l]? = mu[l]?
 | (k,_) :: r,ow :: ows,mu,l,h=>by
  rw[gj,xK r ows _ l fun ko hk=>h ko (My _ hk),YU (h _ FN)]
 | [],_,_,_,_=>rfl
 | _ :: _,[],_,_,_=>rfl
theorem GS:∀ {gM:List (Nat × OV)} {ows:List OV} {mu:List (Option OV)} {i:Nat} {ko:Nat × OV} {ow:OV},mf gM=true->gM[i]? = some ko->ows[i]? = some ow->ko.1 < mu.length->(gj mu gM ows)[ko.1]? = some (some ow)
 | (k,ov) :: r,Bf :: ows,mu,0,ko,ow,h,e1,e2,hl=>by
  cases (show some (k,ov)=some ko by simpa using e1)
  cases (show some Bf=some ow by simpa using e2)
  unfold mf at h
  simp only[YI,q1C] at h
  rw[gj,xK r ows _ k fun ko hk z=>absurd (by simpa using z) (Z0.mp h.1 ko hk),YN hl]
 | (k,ov) :: r,Bf :: ows,mu,i + 1,ko,ow,h,e1,e2,hl=>by
  unfold mf at h
  simp only[YI,q1C] at h
  rw[gj]
  exact GS h.2 (by simpa using e1) (by simpa using e2) (by rw[Zn];exact hl)
 | [],_,_,i,_,_,_,e1,_,_=>by simp at e1
 | _ :: _,[],_,i,_,_,_,_,e2,_=>by simp at e2
theorem Bg {xs:List DV} {vs:List V} {r:List DV × List (Nat × OV)} {G:GD} {n:Nat} {Q:VK} {E:XK} {K:RV->List OV->Prop} (S:SR F ad δ σ H) (V:dU F ad xs vs) (hn:vs.length=n) (hp:passes δ.mu xs 0=some r) (nd:mf r.2=true) (g:G r.1 (r.2.map (·.2)) K)
  (fin:∀ res ows v F' H',K res ows->Ext F ad δ.mu H F' ad (gj δ.mu r.2 ows) H'->SR F' ad ⟨δ.sl,gj δ.mu r.2 ows⟩ σ H'->(match res with
   | .p d=>Is F' d v
   | .n ds=>∃ a vs,v = .ref a/\H a=none/\H' a=some (.lst vs)/\F' a=none/\af F' ds vs
   | .a j=>∃ ko a,r.2[j]? = some ko/\ad[ko.1]? = some a/\v = .ref a)->Q v H'):aI G n vs H Q E:=by
 obtain⟨as,al,b,c⟩:=xJ S.mu hp V
 obtain⟨_,c1,c2⟩:=c [] rfl
 have sL:∀ (i:Nat) (a:Addr),as[i]? = some a->Lv ad δ.mu a/\∃ ko,r.2[i]? = some ko/\ad[ko.1]? = some a /\ δ.mu[ko.1]? = some (some ko.2):=fun i a e=>by
  have hi:i < r.2.length:=by rw[<-al];exact (su.mp e).1
  obtain⟨m1,a',o,e1,e2,_,_⟩:=b i _ (qo hi)
  rw[e] at e1;cases e1
  exact⟨⟨_,_,e2,m1⟩,_,qo hi,e2,m1⟩
 refine⟨hn,F,as,r.1,r.2.map (·.2),K,⟨S.sub,fun a ⟨i,ov,e1,e2⟩=>S.off a (sL i a e1).1,by rw[al];show _=((r.2.map (·.2)).map some).length;rw[qp,qp],fun i j a ov ow e1 e2 _ _ => ?_,fun i ov e => ?_,fun i y e => ?_,?_,S.tab,S.nt⟩,g,fun res ows hk v F' H' P => ?_⟩
 ·obtain⟨_,ko,k1,k2,k3⟩:=sL i a e1
  obtain⟨_,kp,p1,p2,p3⟩:=sL j a e2
  have:ko.1=kp.1:=S.inj _ _ a _ _ k2 p2 k3 p3
  exact GQ nd i j ko.1 ko.2 kp.2 k1 (by rw[this];exact p1)
 ·have e:=GP e
  rw[Ni] at e
  obtain⟨ko,e1,rfl⟩:=XM.mp e
  obtain⟨_,a,o,e2,_,e4,e5⟩:=b i ko e1
  exact⟨a,o,e2,e4,e5⟩
 ·obtain⟨v,e1,e2⟩:=c2 i y (GP e)
  exact⟨v,O5 e1,by simpa using e2⟩
 ·show (vs.map some).length=(r.1.map some).length
  rw[qp,qp,c1]
 ·have ol:ows.length=r.2.length:=by rw[P.len,al]
  have oq:∀ (l:Nat) (ow:OV),(gj δ.mu r.2 ows)[l]? = some (some ow)->(∃ (i:Nat) (ko:Nat × OV),r.2[i]? = some ko/\ko.1=l/\ows[i]? = some ow)\/((∀ ko∈r.2,ko.1≠l) /\ δ.mu[l]? = some (some ow)):=fun l ow e=>by
   by_cases z:∃ ko∈r.2,ko.1=l
   ·obtain⟨ko,hk,rfl⟩:=z
    obtain⟨i,hi⟩:=Yj.mp hk
    have qH:i < ows.length:=by rw[ol];exact (su.mp hi).1
    have:=GS (mu := δ.mu) nd hi (qo qH) (su.mp (b i ko hi).1).1
    rw[e] at this
    cases this
    exact .inl ⟨i,ko,hi,rfl,qo qH⟩
   ·have z':∀ ko∈r.2,ko.1≠l:=fun ko hk q=>z ⟨ko,hk,q⟩
    rw[xK _ _ _ _ z'] at e
    exact .inr ⟨z',e⟩
  have GU:∀ (l:Nat) (ow:OV) (a:Addr),ad[l]? = some a->(gj δ.mu r.2 ows)[l]? = some (some ow)->Lv ad δ.mu a:=fun l ow a e1 e2=>by
   rcases oq l ow e2 with⟨i,ko,hi,rfl,_⟩ | ⟨_,q⟩
   ·exact⟨_,_,e1,(b i ko hi).1⟩
   ·exact⟨_,_,e1,q⟩
  have O7:∀ a,a∈as->Lv ad δ.mu a:=fun a ha=>by
   obtain⟨i,e⟩:=Yj.mp ha
   exact (sL i a e).1
  have ex:Ext F ad δ.mu H F' ad (gj δ.mu r.2 ows) H':=by
   refine⟨P.same,fun a o e => ?_,fun a o e n t=>P.keep a o e (fun z=>n (O7 a z)) t,fun _ _ e=>e,fun a ⟨l,ow,e1,e2⟩ => .inl (GU l ow a e1 e2),fun a o e => ?_⟩
   ·rcases P.new a o e with z | z
    ·exact .inl z
    ·exact .inr (.inl z)
   ·by_cases z:a∈as
    ·obtain⟨i,e1⟩:=Yj.mp z
     have hi:i < ows.length:=by rw[P.len];exact (su.mp e1).1
     obtain⟨a',o',e2,e3,_⟩:=P.own i _ (qo hi)
     rw[e1] at e2;cases e2
     exact⟨o',e3⟩
    ·by_cases t:a∈aD.ad
     ·obtain⟨ps,q⟩:=aD.tb P.tab t
      exact⟨_,q⟩
     ·exact⟨o,P.keep a o e z t⟩
  have Bh:∀ a,Lv ad δ.mu a->F' a=none:=fun a l=>by
   by_cases z:a∈as
   ·exact P.off a z
   ·cases q:F' a with
    | none=>rfl
    | some u =>
     rcases P.new a u q with y | y
     ·rw[S.off a l] at y;cases y
     ·obtain⟨k,ov,e1,e2⟩:=l
      obtain⟨a',o,e3,e4,_⟩:=S.mu k ov e2
      rw[e1] at e3;cases e3
      rw[y] at e4;cases e4
  have sr:SR F' ad ⟨δ.sl,gj δ.mu r.2 ows⟩ σ H':=by
   refine⟨P.sub,fun a ⟨l,ow,e1,e2⟩=>Bh a (GU l ow a e1 e2),by rw[S.cj];exact (GR _ _ _).symm,fun k l a ov ow e1 e2 e3 e4 => ?_,fun l ow e => ?_,fun i y e => ?_,S.len,P.tab,P.nt⟩
   ·have h3:∃ w,δ.mu[k]? = some (some w):=by
     rcases oq k ov e3 with⟨i,ko,hi,rfl,_⟩ | ⟨_,q⟩
     ·exact⟨_,(b i ko hi).1⟩
     ·exact⟨_,q⟩
    have h4:∃ w,δ.mu[l]? = some (some w):=by
     rcases oq l ow e4 with⟨i,ko,hi,rfl,_⟩ | ⟨_,q⟩
     ·exact⟨_,(b i ko hi).1⟩
     ·exact⟨_,q⟩
    obtain⟨_,h3⟩:=h3
    obtain⟨_,h4⟩:=h4
    exact S.inj k l a _ _ e1 e2 h3 h4
   ·rcases oq l ow e with⟨i,ko,hi,rfl,ho⟩ | ⟨z,q⟩
    ·obtain⟨_,a,o,e1,e2,_,_⟩:=b i ko hi
     obtain⟨a',o',e3,e4,h5⟩:=P.own i ow ho
     rw[e1] at e3;cases e3
     exact⟨a,o',e2,e4,h5⟩
    ·obtain⟨a,o,e1,e2,h⟩:=S.mu l ow q
     refine⟨a,o,e1,P.keep a o e2 (fun y => ?_) (fun t => ?_),h.same P.same⟩
     ·obtain⟨i,e3⟩:=Yj.mp y
      obtain⟨_,ko,k1,k2,k3⟩:=sL i a e3
      exact z ko (Yj.mpr ⟨i,k1⟩) (S.inj _ _ a _ _ k2 e1 k3 q)
     ·obtain⟨ps,q2⟩:=aD.tb S.tab t
      rw[e2] at q2
      cases q2
      rcases h.kind with⟨_,z⟩ | ⟨_,z⟩<;>cases z
   ·obtain⟨v,e1,h⟩:=S.sl i y e
    exact⟨v,e1,h.ext ex⟩
  refine fin res ows v F' H' hk ex sr ?_
  have qJ:=P.res
  cases res with
  | p d=>exact qJ
  | n ds=>exact qJ
  | a j =>
   obtain⟨a,e1,e2⟩:=qJ
   obtain⟨_,ko,k1,k2,_⟩:=sL j a e1
   exact⟨ko,a,k1,k2,e2⟩
end
section
variable {X:Cx} {fa:WA} {G:GD} {pos:Pos}
theorem GV {F1 F2 H1 H2:Hp} {aP:List Addr} {δ1:aw} {σ : St} {xs:List DV} {vs:List V} {r:List DV × List (Nat × OV)} {ows:List OV} {a:Addr} (S1:SR F1 aP δ1 σ H1) (V1:dU F1 aP xs vs) (hp:passes δ1.mu xs 0=some r) (n1:H1 a=none):¬ Lv aP (gj δ1.mu r.2 ows) a:=fun ⟨k,ov,e1,e2⟩=>by
 have c:∃ ov,δ1.mu[k]? = some (some ov):=by
  by_cases y:∃ ko∈r.2,ko.1=k
  ·obtain⟨ko,jS,rfl⟩:=y
   obtain⟨as,_,b,_⟩:=xJ S1.mu hp V1
   obtain⟨i,hi⟩:=Yj.mp jS
   exact⟨_,(b i ko hi).1⟩
  ·rw[xK _ _ _ _ fun ko jS q=>y ⟨ko,jS,q⟩] at e2
   exact⟨_,e2⟩
 obtain⟨O8,c⟩:=c
 obtain⟨a',o,e3,e4,_⟩:=S1.mu k O8 c
 rw[e1] at e3;cases e3
 rw[n1] at e4;cases e4
theorem dU.length {F:Hp} {ad:List Addr}:∀ {xs:List DV} {vs:List V},dU F ad xs vs->vs.length=xs.length
 | [],vs,h=>by have h:vs=[]:=h;rw[h];rfl
 | x :: xs,vs,⟨v,r,e,_,h2⟩=>by rw[e,FL,FL,dU.length h2]
theorem xM {mu:List (Option OV)}:∀ {xs:List DV} {j:Nat} {r:List DV × List (Nat × OV)},passes mu xs j=some r->r.1.length=xs.length
 | [],j,r,h=>by cases h;rfl
 | .p d :: xs,j,r,h=>by
  unfold passes at h
  split at h
  ·rename_i r' hr;cases h;show (DV.p d :: r'.1).length=_;rw[FL,FL,xM hr]
  ·cases h
 | .o k :: xs,j,r,h=>by
  unfold passes at h
  split at h
  ·split at h
   ·rename_i r' hr;cases h;show (DV.o j :: r'.1).length=_;rw[FL,FL,xM hr]
   ·cases h
  ·cases h
section
variable {k:Nat} {f:Addr} {fd:FuncData} {ps:List Str} {x:Str} {p:Pos} {e:Expr} {es:List Expr} {n:Nat}
theorem O9 {E:XK}:∀ σ H Q,tD (av n G fa) σ H Q->qc (aI G n) [] E (cX fa) σ H Q:=fun σ H Q h0_ => el7 h0_ fun F ad δ K S q kk =>by
 refine⟨F,ad,δ,_,S,q,fun xs δ1 h1 vs F1 aP H1 E1 S1 V1 => ?_⟩
 split at h1
 ·rename_i r hp
  obtain⟨⟨nd,hn⟩,h1⟩:=h1
  rw[ZM]
  refine Bg S1 V1 (by rw[V1.length,<-xM hp,hn]) hp nd h1 fun res ows v F2 H2 hk E2 S2 f9 => ?_
  unfold qF at hk
  cases res with
  | p d=>exact kk _ _ hk _ _ _ _ (E1.trans E2) S2 f9
  | n ds =>
   obtain⟨a,us,rfl,n1,n2,n3,n4⟩:=f9
   refine kk _ _ hk _ _ _ _ (E1.trans (E2.adopt (o := .lst us) n1 n3)) (S2.adopt n3 n2 (GV (F2:=F2) (H2:=H2) S1 V1 hp n1)) ?_
   show Is _ (.lst ds) _
   simp only[Is]
   exact⟨a,us,rfl,bz,n4.same (cW n3)⟩
  | a j =>
   obtain⟨ko,a,h1,h2,h3⟩:=f9
   dsimp only at hk
   rw[h1] at hk
   exact kk _ _ hk _ _ _ _ (E1.trans E2) S2 ⟨a,h2,h3⟩
 ·exact h1.elim
theorem O_ {E:XK}:∀ σ H Q,tD (xI n G fa) σ H Q->qc (aI G n) [] E (cX fa) σ H Q:=fun σ H Q h0_ => el7 h0_ fun F ad δ K S q kk =>by
 refine⟨F,ad,δ,_,S,q,fun xs δ1 h1 vs F1 aP H1 E1 S1 V1 => ?_⟩
 split at h1
 ·rename_i r hp
  obtain⟨⟨nd,hn⟩,h1⟩:=h1
  rw[ZM]
  refine Bg S1 V1 (by rw[V1.length,<-xM hp,hn]) hp nd h1 fun res ows v F2 H2 hk E2 S2 f9 => ?_
  unfold qG at hk
  cases res with
  | p d=>exact hk.elim
  | n ds =>
   obtain⟨a,us,rfl,n1,n2,n3,n4⟩:=f9
   have oi:gf F2 (.lst ds) (.lst us):=⟨us,rfl,n4⟩
   refine kk _ _ hk _ _ _ _ (E1.trans (E2.dY (ov := .lst ds) n1 S2.cj)) (S2.dY n3 n2 (GV (F2:=F2) (H2:=H2) S1 V1 hp n1) oi) ⟨a,?_,rfl⟩
   have:aP.length=(gj δ1.mu r.2 ows).length:=S2.cj
   rw[<-this,Yi (qq _),YZ];rfl
  | a j=>exact hk.elim
 ·exact h1.elim
theorem bT (Fn:aM X.prog X.w X.K X.mg X.base bJ k f fd ps (aI G n)) (hr:bf k X.A) (hg:Gl X x) (hm:X.mg x=some (.ref f)) (hk:PySem.W.keepIn X.K (.ref f)=true) (hb:Binds X.K fd ps [])
  (ha:JA X (e :: es) (cX fa)) (g6:(x == ("__debug__" : Str))=false:=by decide) (he:starEach (e :: es) X.env=(false,eval e X.env) :: starEach es X.env:=by rfl) (gH:(backTo pos (starEach es X.env)).any (·.1)=false:=by rfl) :
  JE X (.Call (.Name x p) (e :: es) [] pos) (tD (av n G fa)):=(uI Fn hr hg hm hk hb .nil uh ha g6 he gH).weak O9
theorem Pa (Fn:aM X.prog X.w X.K X.mg X.base bJ k f fd ps (aI G n)) (hr:bf k X.A) (hg:Gl X x) (hm:X.mg x=some (.ref f)) (hk:PySem.W.keepIn X.K (.ref f)=true) (hb:Binds X.K fd ps [])
  (ha:JA X (e :: es) (cX fa)) (g6:(x == ("__debug__" : Str))=false:=by decide) (he:starEach (e :: es) X.env=(false,eval e X.env) :: starEach es X.env:=by rfl) (gH:(backTo pos (starEach es X.env)).any (·.1)=false:=by rfl) :
  JE X (.Call (.Name x p) (e :: es) [] pos) (tD (xI n G fa)):=(uI Fn hr hg hm hk hb .nil uh ha g6 he gH).weak O_
end
end
end L2
namespace PySem
open Sem (wp)
open AutoSeq1 (wpAny_loadPart')
theorem Pb (l:Addr) (items:Array Value) (n:Nat) (dct:Option Addr) (sl:Array (Option Value)) :
  Meets (Builtin.«enumerate.__new__» ⟨[.type "enumerate",.ref l],[]⟩) (fun _ R s=>s.heap.get? l=some { cls := .type "tuple",dict:=dct,data := .seq items n,slots:=sl } ∧
   R (.ok (.ret (.ref (s.heap.push { cls := .type "tuple_iterator",data := .fields #[.ref l,.int 0 0] }).objs.size)))
    { s with heap:=(s.heap.push { cls := .type "tuple_iterator",data := .fields #[.ref l,.int 0 0] }).push { cls := .type "enumerate",data := .fields #[.none,.bool false,.ref s.heap.objs.size,rawInt 0,.none,.none] } }) :=
 .of_wp fun prog w A R s h=>by
  obtain⟨hp,g,d,tk,os⟩:=s;obtain⟨hl,h⟩:=h
  have Pc:=sub_enumerate
  have hL:Heap.IsTuple (Shared.heap ⟨hp,g,d,tk,os⟩) l items:=⟨_,hl,rfl,n,rfl⟩
  wp_walk using ZN hl
  refine wpAny_stack_any fun st=>xa ?_
  split
  ·rename_i c _ _ _ _ _
   cases (c == Value.type "enumerate")
   ·wp_walk using ZN hl,q0K hL
    exact⟨_,rfl,h⟩
   ·wp_walk using ZN hl,q0K hL
    exact⟨_,rfl,h⟩
  ·wp_walk using ZN hl,q0K hL
   exact⟨_,rfl,h⟩
section
variable {prog:Program} {w:World} {A:Around} {E:Value->Shared->Prop} {s:Shared}
theorem Pd {l:Addr} {items:Array Value} {Q:Value->Shared->Prop} (hL:s.heap.IsTuple l items)
  (h:∀ h',IsEnum h' (s.heap.objs.size + 1) s.heap.objs.size 0 .none->h'.IsTupleIter s.heap.objs.size l 0->h'.objs.size=s.heap.objs.size + 2 →
   (∀ b o,s.heap.get? b=some o->h'.get? b=some o)->Q (.ref (s.heap.objs.size + 1)) { s with heap:=h' }) :
  wpAny (model prog w) A (call (.type "enumerate") [.ref l]) Q E s:=by
 obtain⟨⟨c,dct,dt,sl⟩,hl,hc,n,hd⟩:=hL
 replace hc:c = .type "tuple" := hc
 replace hd:dt = .seq items n:=hd
 subst hc hd
 refine callType_new F.called_enumerate (by decide) (F.typeCall_enumerate_1 _) (F.newCall_enumerate_1 _) (fun obj=>F.args_object_init_2 obj _) F.entry_enumerate_new
  (Pb l items n dct sl) ⟨hl,?_⟩
 have hz:(s.heap.push { cls := .type "tuple_iterator",data := .fields #[.ref l,.int 0 0] }).objs.size=s.heap.objs.size + 1:=ZX ..
 show _/\_
 rw[hz]
 have he:IsEnum ((s.heap.push { cls := .type "tuple_iterator",data := .fields #[.ref l,.int 0 0] }).push
   { cls := .type "enumerate",data := .fields #[.none,.bool false,.ref s.heap.objs.size,rawInt 0,.none,.none] }) (s.heap.objs.size + 1) s.heap.objs.size 0 .none:=by
  have:=XJ (s.heap.push { cls := .type "tuple_iterator",data := .fields #[.ref l,.int 0 0] })
   (o:={ cls := .type "enumerate",data := .fields #[.none,.bool false,.ref s.heap.objs.size,rawInt 0,.none,.none] }) rfl
  rw[hz] at this;exact this
 refine⟨⟨_,he,rfl⟩,h _ he ⟨_,ue _ (XJ _ rfl),rfl,rfl⟩ (by rw[ZX,hz]) fun b o x=>ue _ (ue _ x)⟩
theorem Pe {it l:Addr} {i:Nat} {items:Array Value} {x:Value} {Q:Value->Shared->Prop} (hit:s.heap.IsTupleIter it l i) (hl:s.heap.IsTuple l items) (hx:items[i]? = some x)
  (hQ:∀ h',h'.IsTupleIter it l (i + 1)->Heap.SameBut it s.heap h'->Q x { s with heap:=h' }):wpAny (model prog w) A (Builtin.SmallTypes.nextOf (.ref it)) Q E s:=by
 obtain⟨o,ho,hc,hd⟩:=id hit
 obtain⟨ol,Bi,_,nl,nL⟩:=hl
 have nn:¬ ((Value.ref l == Value.none)=true):=Yo
 unfold Builtin.SmallTypes.nextOf
 refine nq (ZA (name:=Str.ofString "__next__") hit.typeIs Z7 (Zr Z7 hit.typeIs F.entry_tuple_iterator_next ?_ (F.args_tuple_iterator_next_1 _)))
 show wpAny _ _ (field (.ref it) 0 >>= _) _ _ s;refine nq (q0N ho hd (x := .ref l) rfl ?_)
 show wpAny _ _ (if (Value.ref l == Value.none)=true then _ else _) _ _ s;rw[Nj nn]
 show wpAny _ _ (field (.ref it) 1 >>= _) _ _ s;refine nq (q0N ho hd (x := .int i 0) rfl ?_)
 show wpAny _ _ (seqItems? (.ref l) >>= _) _ _ s;refine nq (q0u Bi nL ?_)
 simp only[Yv,hx]
 refine nq (q0U ho hd (by simp) (xa ⟨x,rfl,xa (hQ _ ⟨_,YS _ ho (q00 (Z6 hd _)),(q1A ..).trans hc,?_⟩ (YM ..))⟩))
 rw[Z6 hd];simp[rawInt]
theorem Pf {it l:Addr} {i:Nat} {items:Array Value} {Q:Value->Shared->Prop} (hh:A.handled=none) (hit:s.heap.IsTupleIter it l i) (hl:s.heap.IsTuple l items) (hx:items[i]? = none)
  (hE:∀ h' e,Heap.ExtBut it s.heap h'->(∃ o,h'.get? e=some o/\o.cls = .type "StopIteration")->E (.ref e) { s with heap:=h' }):wpAny (model prog w) A (Builtin.SmallTypes.nextOf (.ref it)) Q E s:=by
 obtain⟨o,ho,hc,hd⟩:=id hit
 obtain⟨ol,Bi,_,nl,nL⟩:=hl
 have nn:¬ ((Value.ref l == Value.none)=true):=Yo
 unfold Builtin.SmallTypes.nextOf
 refine nq (ZA (name:=Str.ofString "__next__") hit.typeIs Z7 (Zr Z7 hit.typeIs F.entry_tuple_iterator_next ?_ (F.args_tuple_iterator_next_1 _)))
 show wpAny _ _ (field (.ref it) 0 >>= _) _ _ s;refine nq (q0N ho hd (x := .ref l) rfl ?_)
 show wpAny _ _ (if (Value.ref l == Value.none)=true then _ else _) _ _ s;rw[Nj nn]
 show wpAny _ _ (field (.ref it) 1 >>= _) _ _ s;refine nq (q0N ho hd (x := .int i 0) rfl ?_)
 show wpAny _ _ (seqItems? (.ref l) >>= _) _ _ s;refine nq (q0u Bi nL ?_)
 simp only[Yv,hx]
 refine nq (q1S (nq (q0U ho hd (by simp) ?_)))
 show wpAny _ _ (newExc (.type "StopIteration") [] >>= _) _ _ _;refine nq ?_
 simp only[newExc,newTuple];refine nq (Y4 ?_ (by size_fits))
 refine nq (m:=firstArgMember _ _) (wpAny_of_eq (a:=Value.none) (by first | rfl | (simp only[firstArgMember];rfl)) (Y4 ?_ (by size_fits)))
 simp only[raiseNew];refine nq (wpAny_handled ?_)
 first | rw[show A.in1.handled=none from hh] | rw[hh]
 refine nq (xa (wpAny_throw (hE _ _ (((YM ..).extBut.push _).push _) ⟨_,XJ _ rfl,rfl⟩)))
theorem GW (hh:A.handled=none) (it l:Addr) (h8:l≠it) (items:Array Value):Draws prog w A it [it,l] items.size (fun i v=>items[i]? = some v) (fun i h=>h.IsTupleIter it l i/\h.IsTuple l items) where
 live:=fun _ _ st=>let ⟨o,ho,_⟩:=st.1; ⟨o,ho⟩
 frame:=fun _ _ _ st hk=>⟨st.1.at fun o e=>hk it (by simp) o e,st.2.at fun o e=>hk l (by simp) o e⟩
 item:=fun i s Q E hi st hQ=>Pe st.1 st.2 (x:=items[i]) (by simp[hi]) fun h' Bj xo=>hQ _ h' s.toks (by simp[hi]) ⟨Bj,st.2.extBut xo.extBut h8⟩ xo
 done:=fun s Q E st hE=>Pf hh st.1 st.2 (by simp) hE
end
end PySem
namespace L2
open PySem PySem.Spec PyProof.Rows
noncomputable def uW (K:PySem.W.Frag) (a:Addr):It :=
 ⟨fun i H=>∃ xs x,bC K H a xs/\xs[i]? = some x,fun i H x H'=>∃ T v,x = .ref T/\H T=none/\H'=upd H T (.tup [.int (i:Nat),v])/\∀ xs,bC K H a xs->xs[i]? = some v,fun i H=>∃ xs,bC K H a xs/\xs.length=i⟩
theorem Pg {P:Program} {w:World} {K:PySem.W.Frag} {elts:List Expr} {x1} {tp:Pos} (a e it:Addr) (h8:e≠it) (Ph:a≠e) (GX:a≠it) :
  Turn P w K (.Tuple elts x1 tp) (uW K a) [e,it] e (fun i h=>(∃ old,IsEnum h e it (i:Nat) old)/\h.IsTupleIter it a i) where
 mem:=by simp
 obj:=fun i h st b hb=>by
  obtain⟨⟨old,he⟩,o,hi,hc,hd⟩:=st
  rcases Nh.mp hb with rfl | hb
  ·exact⟨_,he,fun v z=>by cases z⟩
  ·have z:b=it:=by simpa using hb
   subst z
   exact⟨o,hi,fun v z=>by rw[hd] at z;cases z⟩
 keep:=fun i h h' st k=>by
  obtain⟨⟨old,he⟩,hi⟩:=st
  exact⟨⟨old,k e (by simp) _ he⟩,hi.at fun o q=>k it (by simp) o q⟩
 item:=by
  intro X hP hw hK hc i pins s σ H E I hf st hg
  subst hP hw hK
  obtain⟨⟨old,he⟩,hi⟩:=st
  obtain⟨xs,x,hq,hx⟩:=hg
  obtain⟨ag,rv,p,hz⟩:=I.tuple hq
  obtain⟨u,hu,ru⟩:=rv.get hx
  have D:=GW (prog:=X.prog) (w:=X.w) (A:=X.A.in1) (by rw[q1r];exact I.ok.hd hc) it a GX ag.toArray
  have qH:i < ag.toArray.size:=by rw[xb];exact (su.mp hu).1
  refine wpAny_pyNext_enum_itemD D he ⟨hi,p⟩ qH h8 (by simp[h8,ZV Ph]) fun y h1 tk py lZ uu uv hsz hk=>⟨_,rfl,?_⟩
  have ey:y=u:=by
   have py:ag.toArray[i]? = some y:=py
   rw[q0r,hu] at py;cases py;rfl
  subst ey
  refine wpAny_letOwnedTupleGo_enum lZ fun h2 uw eM => ?_
  have hT:s.heap.objs.size≠e:=ZU (Ng he)
  have jK:h2.get? s.heap.objs.size=some { cls := .type "tuple",data := .seq #[.int i tk,y] }:=(eM.2 _ hT).trans uv
  have k2:∀ b o,b∉[e,it]->s.heap.get? b=some o->h2.get? b=some o:=fun b o hb q=>by
   have nr:b≠e:=fun z=>hb (by simp[z])
   have fP:b≠it:=fun z=>hb (by simp[z])
   exact (eM.2 _ nr).trans (hk b o nr fP q)
  have hn:H s.heap.objs.size=none:=I.aK.fresh (qq _)
  refine⟨.ref s.heap.objs.size,upd H s.heap.objs.size (.tup [.int i,x]),I.fX (ch:=[e,it]) (t':=tk + 1) hf k2 (qq _) ?_,rfl,⟨_,x,rfl,hn,rfl,fun ys hy=>by rw[I.gG hy hq];exact hx⟩,⟨⟨y,?_⟩,?_⟩,fun b hb => ?_⟩
  ·exact⟨by show 2 <= sizeLine;decide,[.int i tk,y],.cons ⟨_,rfl⟩ (.cons ru .nil),_,jK,rfl,_,rfl⟩
  ·have e3:((i:Int) + 1)=(((i + 1:Nat)):Int):=by omega
   rw[e3] at uw
   exact uw
  ·exact uu.1.at fun o q=>(eM.2 _ (ZV h8)).trans q
  ·have:b < s.heap.objs.size:=by
    obtain⟨o,q,_⟩:=hi
    rcases Nh.mp hb with rfl | hb
    ·exact Ng he
    ·have z:b=it:=by simpa using hb
     subst z;exact Ng q
   rw[aH (XN this)]
   exact (hf b hb).1
 done:=by
  intro X hP hw hK hc i pins s σ H E I hf st hg
  subst hP hw hK
  obtain⟨⟨old,he⟩,hi⟩:=st
  obtain⟨xs,hq,hx⟩:=hg
  obtain⟨ag,rv,p,hz⟩:=I.tuple hq
  have D:=GW (prog:=X.prog) (w:=X.w) (A:=X.A.in1) (by rw[q1r];exact I.ok.hd hc) it a GX ag.toArray
  have qH:ag.toArray.size=i:=by rw[xb,<-rv.length];exact hx
  refine wpAny_pyNext_enum_endD D he (by rw[qH];exact⟨hi,p⟩) fun h1 eb=>⟨rfl,?_⟩
  obtain⟨f0,f1,f2,f3,f4,f5⟩:=hf it (by simp)
  exact I.turned (t':=s.toks) (fun b o hb q=>eb b o hb q) f0 f1 f3 f4 f5
 self:=fun A i s Q E st h=>by
  obtain⟨⟨old,he⟩,hi⟩:=st
  exact Z1 he h
section
variable {X:Cx} {elts:List Expr} {x1:Nat} {tp:Pos} {tg:Expr}
noncomputable def Pj (K:PySem.W.Frag) (ta:TA):TI:=fun σ H R=>ta σ H fun vs H1=>∃ a,vs=[.ref a]/\(((∃ xs,aU K H1 a xs)/\R (sx K a) H1)\/((∃ xs,bC K H1 a xs)/\R (uW K a) H1))
theorem Pk {a:Expr} {ta:TA} {p pos:Pos} (hg:Gl X "enumerate") (hm:X.mg "enumerate" = none) (ha:JA X [a] ta) (hs:starEach [a] X.env=[(false,eval a X.env)]:=by rfl) :
  JI X (.Tuple elts x1 tp) (.Call (.Name "enumerate" p) [a] [] pos) (Pj X.K ta):=by
 refine⟨?_⟩
 intro pins s σ H R I h
 refine Call_ (mS I hg hm F7 (Zk (aZ (ha.out pos pins s σ H _ I h) fun us s1 h0_ => el5 h0_ fun vs H1 I1 r1 q1 => ?_) hs rfl))
 obtain⟨l,e,q⟩:=q1
 subst e
 obtain⟨u,rfl,rx⟩:=vals1 r1
 cases rx
 have fp:∀ b∈[s1.heap.objs.size + 1,s1.heap.objs.size],bq X pins H1 b:=fun b hb=>by
  have dJ:s1.heap.objs.size <= b:=by
   rcases Nh.mp hb with rfl | hb
   ·exact q1B _
   ·have z:b=s1.heap.objs.size:=by simpa using hb
    rw[z];exact qq _
  exact I1.gZ dJ (I1.aK.fresh dJ)
 rcases q with⟨⟨xs,hq⟩,q⟩ | ⟨⟨xs,hq⟩,q⟩
 ·obtain⟨ag,rv,p,hz⟩:=I1.list hq
  refine call_enumerate_list p.isList fun h' he hi hsz hk => ?_
  have I2:Inv X pins σ H1 { s1 with heap:=h' }:=I1.kept (t':=s1.toks) hk
  refine Z1 he ?_
  exact⟨_,_,_,_,H1,rfl,I2,FZ l (s1.heap.objs.size + 1) s1.heap.objs.size (q1K _),⟨⟨_,he⟩,hi⟩,fp,q⟩
 ·obtain⟨ag,rv,p,hz⟩:=I1.tuple hq
  have xN:l < s1.heap.objs.size:=by obtain⟨o,e,_⟩:=p;exact Ng e
  refine Pd p fun h' he hi hsz hk => ?_
  have I2:Inv X pins σ H1 { s1 with heap:=h' }:=I1.kept (t':=s1.toks) hk
  refine Z1 he ?_
  exact⟨_,_,_,_,H1,rfl,I2,Pg l (s1.heap.objs.size + 1) s1.heap.objs.size (q1K _) (XN (YR xN)) (XN xN),⟨⟨_,he⟩,hi⟩,fp,q⟩
noncomputable def Bk (K:PySem.W.Frag) (tl:TE):TI:=fun σ H R=>tl σ H fun x H1=>∃ a,x = .ref a/\(((∃ xs,aU K H1 a xs)/\R (E8 K a) H1)\/((∃ xs,bC K H1 a xs)/\R (E9 K a) H1))
theorem Pl {l:Expr} {tl:TE} (hl:JE X l tl):JI X tg l (Bk X.K tl):=by
 refine⟨?_⟩
 intro pins s σ H R I h
 refine aZ (hl.out pins s σ H _ I h) fun v s1 h0_ => el5 h0_ fun x H1 I1 r1 q1 => ?_
 obtain⟨a,e,q⟩:=q1
 subst e
 cases r1
 have fp:∀ b∈[s1.heap.objs.size],bq X pins H1 b:=fun b hb=>by
  have e:b=s1.heap.objs.size:=by simpa using hb
  subst e
  exact I1.gZ (qq _) (I1.aK.fresh (qq _))
 rcases q with⟨⟨xs,hq⟩,q⟩ | ⟨⟨xs,hq⟩,q⟩
 ·obtain⟨ag,rv,p,hz⟩:=I1.list hq
  exact q0d p.isList ⟨s1.heap.objs.size,[s1.heap.objs.size],_,_,H1,rfl,I1.kept (t':=s1.toks) fun b o e=>ue _ e,LY a _,⟨_,XJ _ rfl,rfl,rfl⟩,fp,q⟩
 ·obtain⟨ag,rv,p,hz⟩:=I1.tuple hq
  exact q0K (show s1.heap.IsTuple a ag.toArray from p) ⟨s1.heap.objs.size,[s1.heap.objs.size],_,_,H1,rfl,I1.kept (t':=s1.toks) fun b o e=>ue _ e,LZ a _,⟨_,XJ _ rfl,rfl,rfl⟩,fp,q⟩
end
variable [aD]
noncomputable def cu (lo:Int) (n:Nat):List D:=(List.range n).map fun i:Nat=>D.int (lo + i)
noncomputable def kz:Nat->List D->List D
 | _,[]=>[]
 | i,d :: r => .tup [.int i,d] :: kz (i + 1) r
noncomputable def cD:List D->List D->List D
 | a :: r,b :: s => .tup [a,b] :: cD r s
 | _,_=>[]
noncomputable def qK (x:DV) (δ : aw) (K:qC->Prop):Prop:=match x with
 | .p (.lst ds)=>K ⟨ds,fun _=>True⟩
 | .p (.tup ds)=>K ⟨ds,fun _=>True⟩
 | .o k=>match δ.mu[k]? with
  | some (some (.lst ds))=>K ⟨ds,fun δ' => δ'.mu[k]? = some (some (.lst ds))⟩
  | _=>False
 | _=>False
noncomputable def bO (f:WE):WI:=fun δ K=>f δ fun x δ1=>qK x δ1 fun it=>K it δ1
noncomputable def lh (fa:WA):WI:=fun δ K=>fa δ fun xs δ1=>match xs with
 | [.p (.int j)]=>(-(2 ^ 62) <= j/\j < 2 ^ 62)/\K ⟨cu 0 j.toNat,fun _=>True⟩ δ1
 | _=>False
noncomputable def Bl (fa:WA):WI:=fun δ K=>fa δ fun xs δ1=>match xs with
 | [.p (.int i),.p (.int j)]=>(-(2 ^ 62) <= i/\i < 2 ^ 62 /\ -(2 ^ 62) <= j/\j < 2 ^ 62)/\K ⟨cu i (j - i).toNat,fun _=>True⟩ δ1
 | _=>False
noncomputable def lj (fa:WA):WI:=fun δ K=>fa δ fun xs δ1=>match xs with
 | [x]=>qK x δ1 fun it=>K ⟨kz 0 it.items,it.bh⟩ δ1
 | _=>False
noncomputable def uX (x:DV) (δ : aw) (K:qC->Prop):Prop:=match x with
 | .p (.lst ds)=>K ⟨ds,fun _=>True⟩
 | .o k=>match δ.mu[k]? with
  | some (some (.lst ds))=>K ⟨ds,fun δ' => δ'.mu[k]? = some (some (.lst ds))⟩
  | _=>False
 | _=>False
noncomputable def qL (fa:WA):WI:=fun δ K=>fa δ fun xs δ1=>match xs with
 | [x,y]=>uX x δ1 fun i=>uX y δ1 fun j=>K ⟨cD i.items j.items,fun δ'=>i.bh δ'/\j.bh δ'⟩ δ1
 | _=>False
theorem oS {lo:Int} {n i:Nat} {d:D} (h:(cu lo n)[i]? = some d):i < n/\d = .int (lo + i):=by
 unfold cu at h
 rw[Ni] at h
 obtain⟨j,e,rfl⟩:=XM.mp h
 have hj:=(su.mp e).1
 rw[Zh] at hj
 rw[Ze hj] at e
 cases e
 exact⟨hj,rfl⟩
theorem nM (lo:Int) (n:Nat):(cu lo n).length=n:=by unfold cu;rw[qp,Zh]
theorem uY:∀ (ds:List D) (i:Nat),(kz i ds).length=ds.length
 | [],_=>rfl
 | d :: r,i=>by rw[kz,FL,FL,uY r]
theorem uZ:∀ {ds:List D} {k i:Nat} {d:D},(kz k ds)[i]? = some d->∃ e,ds[i]? = some e/\d = .tup [.int ((k + i:Nat):Int),e]
 | [],k,i,d,h=>by simp[kz] at h
 | e :: r,k,0,d,h=>by
  cases (show some (D.tup [.int (k:Nat),e])=some d by simpa [kz] using h)
  exact⟨e,rfl,rfl⟩
 | e :: r,k,i + 1,d,h=>by
  obtain⟨e',h1,h2⟩:=uZ (ds:=r) (k:=k + 1) (i:=i) (d:=d) (by simpa [kz] using h)
  exact⟨e',by simpa using h1,by rw[h2];congr 4;omega⟩
theorem GY:∀ {as bs:List D} {i:Nat} {d:D},(cD as bs)[i]? = some d->∃ a b,as[i]? = some a/\bs[i]? = some b/\d = .tup [a,b]
 | [],_,i,d,h=>by simp[cD] at h
 | _ :: _,[],i,d,h=>by simp[cD] at h
 | a :: r,b :: s,0,d,h=>by
  cases (show some (D.tup [a,b])=some d by simpa [cD] using h)
  exact⟨a,b,rfl,rfl,rfl⟩
 | a :: r,b :: s,i + 1,d,h=>by
  obtain⟨x,y,h1,h2,h3⟩:=GY (as:=r) (bs:=s) (i:=i) (d:=d) (by simpa [cD] using h)
  exact⟨x,y,by simpa using h1,by simpa using h2,h3⟩
theorem xO:∀ (as bs:List D),(cD as bs).length=min as.length bs.length
 | [],_=>by simp[cD]
 | _ :: _,[]=>by simp[cD]
 | a :: r,b :: s=>by rw[cD,FL,FL,FL,xO r s];omega
section
variable {X:Cx} {tg l a b:Expr} {f:WE} {fa:WA} {F H:Hp} {ad:List Addr} {δ : aw} {σ : St}
theorem JI.weak {iter:Expr} {w w':TI} (h:JI X tg iter w) (k:∀ σ H R,w' σ H R->w σ H R):JI X tg iter w':=⟨fun pins s σ H R I q=>h.out pins s σ H R I (k σ H R q)⟩
theorem oT {ds:List D} {vs:List V} (h:af F ds vs) {i:Nat} {d:D} (e:ds[i]? = some d):∃ v,vs[i]? = some v/\Is F d v:=by
 have hl:=h.length
 have hi:i < vs.length:=by rw[hl];exact (su.mp e).1
 obtain⟨d',e1,h1⟩:=h.get (qo hi)
 rw[e] at e1;cases e1
 exact⟨_,qo hi,h1⟩
theorem xP {x:DV} {v:V} {K:qC->Prop} (S:SR F ad δ σ H) (V1:gJ F ad x v) (h:uX x δ K):∃ a it,v = .ref a/\K it/\(∃ vs,H a=some (.lst vs)) ∧
  ∀ (F':Hp) (aA:List Addr) (δ':aw) (σ':St) (H':Hp),ax F F'->(∀ (k:Nat) (a:Addr),ad[k]? = some a->aA[k]? = some a)->SR F' aA δ' σ' H'->it.bh δ'->∃ vs,H' a=some (.lst vs)/\af F' it.items vs:=by
 unfold uX at h
 split at h
 ·rename_i ds
  have V2:Is F (.lst ds) v:=V1
  simp only[Is] at V2
  obtain⟨a,vs,rfl,h1,h2⟩:=V2
  exact⟨a,_,rfl,h,⟨vs,S.sub _ _ h1⟩,fun F' aA δ' σ' H' s _ S' _=>⟨vs,S'.sub _ _ (s _ _ h1),h2.same s⟩⟩
 ·rename_i k
  split at h
  ·rename_i ds e
   obtain⟨a,e1,rfl⟩:=V1
   obtain⟨a',o,e2,e3,vs,rfl,h4⟩:=S.mu k _ e
   rw[e1] at e2;cases e2
   refine⟨a,_,rfl,h,⟨vs,e3⟩,fun F' aA δ' σ' H' _ pre S' ck => ?_⟩
   obtain⟨XX,o,e5,e6,ws,rfl,h7⟩:=S'.mu k _ ck
   rw[pre k a e1] at e5;cases e5
   exact⟨ws,e6,h7⟩
  ·exact h.elim
 ·exact h.elim
theorem GZ {x:DV} {v:V} {K:qC->Prop} (S:SR F ad δ σ H) (V1:gJ F ad x v) (h:qK x δ K):∃ a it,v = .ref a/\K it ∧
  (((∃ vs,H a=some (.lst vs))/\∀ (F':Hp) (aA:List Addr) (δ':aw) (σ':St) (H':Hp),ax F F'->(∀ (k:Nat) (a:Addr),ad[k]? = some a->aA[k]? = some a)->SR F' aA δ' σ' H'->it.bh δ'->∃ vs,H' a=some (.lst vs)/\af F' it.items vs) ∨
  ((∃ vs,H a=some (.tup vs))/\∀ (F':Hp) (aA:List Addr) (δ':aw) (σ':St) (H':Hp),ax F F'->(∀ (k:Nat) (a:Addr),ad[k]? = some a->aA[k]? = some a)->SR F' aA δ' σ' H'->it.bh δ'->∃ vs,H' a=some (.tup vs)/\af F' it.items vs)):=by
 unfold qK at h
 split at h
 ·rename_i ds
  obtain⟨a,it,e,k,r⟩:=xP (x := .p (.lst ds)) S V1 h
  exact⟨a,it,e,k,.inl r⟩
 ·rename_i ds
  have V2:Is F (.tup ds) v:=V1
  simp only[Is] at V2
  obtain⟨a,vs,rfl,h1,h2⟩:=V2
  exact⟨a,_,rfl,h,.inr ⟨⟨vs,S.sub _ _ h1⟩,fun F' aA δ' σ' H' s _ S' _=>⟨vs,S'.sub _ _ (s _ _ h1),h2.same s⟩⟩⟩
 ·rename_i k
  obtain⟨a,it,e,k,r⟩:=xP (x := .o k) S V1 h
  exact⟨a,it,e,k,.inl r⟩
 ·exact h.elim
theorem iD (hl:JE X l (tD f)):JI X tg l (lb (bO f)):=(Pl hl).weak fun σ H R h0_ => el7 h0_ fun F ad δ K S q k =>⟨F,ad,δ,_,S,q,fun x δ1 h1 v F1 aP H1 E1 S1 V1=>by
 obtain⟨a,it,rfl,hk,r⟩:=GZ S1 V1 h1
 refine⟨a,rfl,?_⟩
 rcases r with⟨⟨vs,e⟩,r⟩ | ⟨⟨vs,e⟩,r⟩
 ·refine .inl ⟨⟨vs,aU.of e⟩,k _ _ hk _ _ _ _ E1 S1 fun F' aA δ' σ' H' s pre S' ck => ?_⟩
  obtain⟨ws,e1,e2⟩:=r F' aA δ' σ' H' s pre S' ck
  refine⟨⟨ws,aU.of e1,by rw[e2.length];exact qq _⟩,fun i d ed => ?_⟩
  obtain⟨w,e3,e4⟩:=oT e2 ed
  refine⟨⟨ws,w,aU.of e1,e3⟩,fun y kj ⟨eh,hy⟩ => ?_⟩
  subst eh
  refine⟨fun _ _ e=>e,?_⟩
  have:=hy ws (aU.of e1)
  rw[e3] at this;cases this
  rw[Nw.refl S'.sub];exact e4
 ·refine .inr ⟨⟨vs,bC.of e⟩,k _ _ hk _ _ _ _ E1 S1 fun F' aA δ' σ' H' s pre S' ck => ?_⟩
  obtain⟨ws,e1,e2⟩:=r F' aA δ' σ' H' s pre S' ck
  refine⟨⟨ws,bC.of e1,by rw[e2.length];exact qq _⟩,fun i d ed => ?_⟩
  obtain⟨w,e3,e4⟩:=oT e2 ed
  refine⟨⟨ws,w,bC.of e1,e3⟩,fun y kj ⟨eh,hy⟩ => ?_⟩
  subst eh
  refine⟨fun _ _ e=>e,?_⟩
  have:=hy ws (bC.of e1)
  rw[e3] at this;cases this
  rw[Nw.refl S'.sub];exact e4⟩
theorem Bm {F H:Hp} {T:Addr} {d e:D} {x y:V} (s:ax F H) (hT:H T=none) (h1:Is F d x) (h2:Is F e y):Is (Nw F H (upd H T (.tup [x,y]))) (.tup [d,e]) (.ref T):=by
 rw[Nw.upd s hT]
 have hF:F T=none:=by
  cases q:F T with
  | none=>rfl
  | some u=>rw[s T u q] at hT;cases hT
 have sm:ax F (upd F T (.tup [x,y])):=cW hF
 simp only[Is]
 exact⟨T,_,rfl,bz,.cons (h1.same sm) (.cons (h2.same sm) .nil)⟩
theorem G0 {elts:List Expr} {x1:Nat} {tp p pos:Pos} (hg:Gl X "enumerate") (hm:X.mg "enumerate" = none) (ha:JA X [a] (cX fa)) (hs:starEach [a] X.env=[(false,eval a X.env)]:=by rfl) :
  JI X (.Tuple elts x1 tp) (.Call (.Name "enumerate" p) [a] [] pos) (lb (lj fa)):=(Pk hg hm ha hs).weak fun σ H R h0_ => el7 h0_ fun F ad δ K S q k =>⟨F,ad,δ,_,S,q,fun xs δ1 h1 vs F1 aP H1 E1 S1 V1=>by
 match xs,h1,V1 with
 | [x],g1,⟨v,r,e,W1,W2⟩ =>
  subst e
  have W3:r=[]:=W2
  subst W3
  obtain⟨a,it,rfl,hk,r⟩:=GZ S1 W1 g1
  refine⟨a,rfl,?_⟩
  rcases r with⟨⟨vs,e⟩,r⟩ | ⟨⟨vs,e⟩,r⟩
  ·refine .inl ⟨⟨vs,aU.of e⟩,k _ _ hk _ _ _ _ E1 S1 fun F' aA δ' σ' H' s pre S' ck => ?_⟩
   obtain⟨ws,e1,e2⟩:=r F' aA δ' σ' H' s pre S' ck
   refine⟨⟨ws,aU.of e1,by rw[e2.length,uY];exact qq _⟩,fun i d ed => ?_⟩
   obtain⟨d',Bn,rfl⟩:=uZ ed
   obtain⟨w,e3,e4⟩:=oT e2 Bn
   refine⟨⟨ws,w,aU.of e1,e3⟩,fun y kj ⟨T,v,ey,hT,eh,hy⟩ => ?_⟩
   subst eh ey
   have:=hy ws (aU.of e1)
   rw[e3] at this;cases this
   refine⟨cW hT,?_⟩
   rw[YY]
   exact Bm S'.sub hT rfl e4
  ·refine .inr ⟨⟨vs,bC.of e⟩,k _ _ hk _ _ _ _ E1 S1 fun F' aA δ' σ' H' s pre S' ck => ?_⟩
   obtain⟨ws,e1,e2⟩:=r F' aA δ' σ' H' s pre S' ck
   refine⟨⟨ws,bC.of e1,by rw[e2.length,uY]⟩,fun i d ed => ?_⟩
   obtain⟨d',Bn,rfl⟩:=uZ ed
   obtain⟨w,e3,e4⟩:=oT e2 Bn
   refine⟨⟨ws,w,bC.of e1,e3⟩,fun y kj ⟨T,v,ey,hT,eh,hy⟩ => ?_⟩
   subst eh ey
   have:=hy ws (bC.of e1)
   rw[e3] at this;cases this
   refine⟨cW hT,?_⟩
   rw[YY]
   exact Bm S'.sub hT rfl e4
 | [],h1,_=>exact h1.elim
 | _ :: _ :: _,h1,_=>exact h1.elim⟩
theorem Pn {elts:List Expr} {x1:Nat} {tp p pos:Pos} (hg:Gl X "zip") (hm:X.mg "zip" = none) (ha:JA X [a,b] (cX fa)) (hs:starEach [a,b] X.env=[(false,eval a X.env),(false,eval b X.env)]:=by rfl) (eM:starEach [b] X.env=[(false,eval b X.env)]:=by rfl) :
  JI X (.Tuple elts x1 tp) (.Call (.Name "zip" p) [a,b] [] pos) (lb (qL fa)):=(OI hg hm ha hs eM).weak fun σ H R h0_ => el7 h0_ fun F ad δ K S q k =>⟨F,ad,δ,_,S,q,fun xs δ1 h1 vs F1 aP H1 E1 S1 V1=>by
 match xs,h1,V1 with
 | [x,y],g1,⟨v,r,e,W1,w,r2,e2,W2,W3⟩ =>
  subst e
  subst e2
  have W4:r2=[]:=W3
  subst W4
  obtain⟨a,it,rfl,oU,⟨vs,e⟩,r⟩:=xP S1 W1 g1
  obtain⟨b,jt,rfl,hk,⟨us,e'⟩,r'⟩:=xP S1 W2 oU
  refine⟨a,b,rfl,⟨vs,aU.of e⟩,⟨us,aU.of e'⟩,k _ _ hk _ _ _ _ E1 S1 fun F' aA δ' σ' H' s pre S' ck => ?_⟩
  obtain⟨ws,e1,e2⟩:=r F' aA δ' σ' H' s pre S' ck.1
  obtain⟨zs,e3,e4⟩:=r' F' aA δ' σ' H' s pre S' ck.2
  refine⟨⟨ws,zs,aU.of e1,aU.of e3,?_⟩,fun i d ed => ?_⟩
  ·rw[e2.length,e4.length,xO];omega
  ·obtain⟨d1,d2,Po,Pp,rfl⟩:=GY ed
   obtain⟨w1,f1,g1⟩:=oT e2 Po
   obtain⟨w2,f2,g2⟩:=oT e4 Pp
   refine⟨⟨ws,zs,w1,w2,aU.of e1,aU.of e3,f1,f2⟩,fun y kj ⟨T,v1,v2,ey,hT,eh,Pq,Pr⟩ => ?_⟩
   subst eh ey
   have q1:=Pq ws (aU.of e1)
   have q2:=Pr zs (aU.of e3)
   rw[f1] at q1;cases q1
   rw[f2] at q2;cases q2
   exact⟨cW hT,Bm S'.sub hT g1 g2⟩
 | [],h1,_=>exact h1.elim
 | [_],h1,_=>exact h1.elim
 | _ :: _ :: _ :: _,h1,_=>exact h1.elim⟩
theorem G1 {F1:Hp} {aP:List Addr} {lo:Int} {n:Nat}:qD F1 aP ⟨cu lo n,fun _=>True⟩ (tW lo n):=fun F' aA δ' σ' H' s pre S' _=>by
 refine⟨by show n <= (cu lo n).length;rw[nM];exact qq _,fun i d ed => ?_⟩
 obtain⟨hi,rfl⟩:=oS ed
 refine⟨hi,fun x kj ⟨eh,ex⟩ => ?_⟩
 subst eh ex
 exact⟨fun _ _ e=>e,rfl⟩
theorem qM {p pos:Pos} (hg:Gl X "range") (hm:X.mg "range" = none) (ha:JA X [a] (cX fa)) (hs:starEach [a] X.env=[(false,eval a X.env)]:=by rfl):JI X tg (.Call (.Name "range" p) [a] [] pos) (lb (lh fa)) :=
 (Ox hg hm ha hs).weak fun σ H R h0_ => el7 h0_ fun F ad δ K S q k =>⟨F,ad,δ,_,S,q,fun xs δ1 h1 vs F1 aP H1 E1 S1 V1=>by
  split at h1
  ·rename_i j
   obtain⟨v,r,e,V1,V2⟩:=V1
   have V2:r=[]:=V2
   have V1:v = .int j:=V1
   subst V2 V1 e
   exact⟨j,rfl,h1.1.1,h1.1.2,k _ _ h1.2 _ _ _ _ E1 S1 G1⟩
  ·exact h1.elim⟩
theorem Pt {p pos:Pos} (hg:Gl X "range") (hm:X.mg "range" = none) (ha:JA X [a,b] (cX fa)) (hs:starEach [a,b] X.env=[(false,eval a X.env),(false,eval b X.env)]:=by rfl) (eM:starEach [b] X.env=[(false,eval b X.env)]:=by rfl) :
  JI X tg (.Call (.Name "range" p) [a,b] [] pos) (lb (Bl fa)) :=
 (Oy hg hm ha hs eM).weak fun σ H R h0_ => el7 h0_ fun F ad δ K S q k =>⟨F,ad,δ,_,S,q,fun xs δ1 h1 vs F1 aP H1 E1 S1 V1=>by
  split at h1
  ·rename_i i j
   obtain⟨v,r,e,V1,w,r2,e2,V2,V3⟩:=V1
   have V3:r2=[]:=V3
   have V1:v = .int i:=V1
   have V2:w = .int j:=V2
   subst V3 V1 V2 e2 e
   exact⟨i,j,rfl,h1.1,k _ _ h1.2 _ _ _ _ E1 S1 G1⟩
  ·exact h1.elim⟩
end
end L2
namespace L2
open PySem PySem.Spec PyProof.Rows
mutual
noncomputable def ay:D->D->Bool
 | .non,.non=>true
 | .bl a,.bl b=>a == b
 | .bl a,.int b=>(if a then 1 else 0) == b
 | .int a,.bl b=>a == (if b then 1 else 0)
 | .int a,.int b=>a == b
 | .str a,.str b=>a == b
 | .tup a,.tup b=>cv a b
 | .lst a,.lst b=>cv a b
 | _,_=>false
noncomputable def cv:List D->List D->Bool
 | [],[]=>true
 | a :: r,b :: s=>ay a b && cv r s
 | _,_=>false
end
mutual
theorem gB:∀ d:D,ay d d=true
 | .non=>by simp[ay]
 | .bl a=>by simp[ay]
 | .int a=>by simp[ay]
 | .str a=>by simp[ay]
 | .tup a=>by simp only[ay];exact Bo a
 | .lst a=>by simp only[ay];exact Bo a
theorem Bo:∀ ds:List D,cv ds ds=true
 | []=>by simp[cv]
 | d :: r=>by simp only[cv,gB d,Bo r,Bool.and_true]
end
mutual
theorem Is.inj {H:Hp}:∀ {d e:D} {v:V},Is H d v->Is H e v->d=e
 | .non,e,v,h,q=>by cases e<;>simp only[Is] at h q<;>first | rfl | (subst h;first | (obtain⟨_,_,z,_⟩:=q;cases z;done) | (cases q;done) | (cases q;rfl))
 | .bl a,e,v,h,q=>by cases e<;>simp only[Is] at h q<;>(subst h;first | (obtain⟨_,_,z,_⟩:=q;cases z;done) | (cases q;done) | (cases q;rfl))
 | .int a,e,v,h,q=>by cases e<;>simp only[Is] at h q<;>(subst h;first | (obtain⟨_,_,z,_⟩:=q;cases z;done) | (cases q;done) | (cases q;rfl))
 | .str a,e,v,h,q=>by cases e<;>simp only[Is] at h q<;>(subst h;first | (obtain⟨_,_,z,_⟩:=q;cases z;done) | (cases q;done) | (cases q;rfl))
 | .tup a,e,v,h,q=>by
  simp only[Is] at h
  obtain⟨p,vs,rfl,h1,h2⟩:=h
  cases e with
  | tup b =>
   simp only[Is] at q
   obtain⟨p',ws,z,q1,q2⟩:=q
   cases z
   rw[h1] at q1;cases q1
   rw[af.inj h2 q2]
  | lst b =>
   simp only[Is] at q
   obtain⟨p',ws,z,q1,q2⟩:=q
   cases z
   rw[h1] at q1;cases q1
  | non=>simp only[Is] at q;cases q
  | bl _=>simp only[Is] at q;cases q
  | int _=>simp only[Is] at q;cases q
  | str _=>simp only[Is] at q;cases q
 | .lst a,e,v,h,q=>by
  simp only[Is] at h
  obtain⟨p,vs,rfl,h1,h2⟩:=h
  cases e with
  | lst b =>
   simp only[Is] at q
   obtain⟨p',ws,z,q1,q2⟩:=q
   cases z
   rw[h1] at q1;cases q1
   rw[af.inj h2 q2]
  | tup b =>
   simp only[Is] at q
   obtain⟨p',ws,z,q1,q2⟩:=q
   cases z
   rw[h1] at q1;cases q1
  | non=>simp only[Is] at q;cases q
  | bl _=>simp only[Is] at q;cases q
  | int _=>simp only[Is] at q;cases q
  | str _=>simp only[Is] at q;cases q
theorem af.inj {H:Hp}:∀ {ds es:List D} {vs:List V},af H ds vs->af H es vs->ds=es
 | [],es,vs,h,q=>by
  simp only[af] at h;subst h
  cases es with
  | nil=>rfl
  | cons _ _=>simp only[af] at q;obtain⟨_,_,z,_⟩:=q;cases z
 | d :: ds,es,vs,h,q=>by
  simp only[af] at h
  obtain⟨v,r,rfl,h1,h2⟩:=h
  cases es with
  | nil=>simp only[af] at q;cases q
  | cons e es =>
   simp only[af] at q
   obtain⟨v',r',z,q1,q2⟩:=q
   cases z
   rw[Is.inj h1 q1,af.inj h2 q2]
end
theorem u2:∀ {ds es:List D},ds.length≠es.length->cv ds es=false
 | [],[],h=>absurd rfl h
 | [],_ :: _,_=>by simp[cv]
 | _ :: _,[],_=>by simp[cv]
 | d :: r,e :: s,h=>by simp only[cv];rw[u2 (fun z=>h (by rw[FL,FL,z])),Bool.and_false]
noncomputable def qN (ds es:List D) (j:Nat):Bool:=match ds[j]?,es[j]? with
 | some a,some b=>ay a b
 | _,_=>true
theorem u3:∀ {ds es:List D},ds.length=es.length->(List.range ds.length).all (qN ds es)=cv ds es
 | [],[],_=>by simp[cv]
 | [],_ :: _,h=>by simp at h
 | _ :: _,[],h=>by simp at h
 | d :: r,e :: s,h=>by
  have ih:=u3 (ds:=r) (es:=s) (by simpa using h)
  rw[FL,List.range_succ_eq_map,List.all_cons,List.all_map]
  simp only[cv]
  rw[<-ih]
  rfl
section
variable {X:Cx} {pins:List (Addr × Obj)} {σ : St} {H:Hp} {s:Shared}
theorem u4 {vs:List V} {ag:List Value} (r:Vals vs ag) {j:Nat} (h:j < ag.toArray.size):∃ v,vs[j]? = some v/\RelV v ag.toArray[j]:=by
 have hj:j < ag.length:=by simpa using h
 have hv:j < vs.length:=by rw[r.length];exact hj
 obtain⟨u,e,ru⟩:=r.get (qo hv)
 have:ag.toArray[j]=u:=by
  have:=(su.mp e).2
  simpa using this
 rw[this]
 exact⟨_,qo hv,ru⟩
theorem du (I:Inv X pins σ H s) {a:Addr} {vs:List V} (h:H a=some (.lst vs)):∃ ag:List Value,Vals vs ag/\s.heap.IsList a ag.toArray:=by
 obtain⟨ag,r,p,_⟩:=I.list (aU.of h)
 exact⟨ag,r,p.isList⟩
theorem dw (I:Inv X pins σ H s) {a:Addr} {vs:List V} (h:H a=some (.tup vs)):∃ ag:List Value,Vals vs ag/\s.heap.IsTuple a ag.toArray:=by
 obtain⟨ag,r,p,_⟩:=I.tuple (bC.of h)
 exact⟨ag,r,p⟩
theorem in1_units (A:Around):A.in1.units=A.units + 1:=rfl
theorem Bp (I:Inv X pins σ H s):∀ (n:Nat) {A:Around} {d e:D} {v u:V} {x y:Value},dep d <= n->A.units + n < cLine->Is H d v->Is H e u->RelV v x->RelV u y->SeqAt.EqAt A s x y (ay d e)/\SeqAt.RcAt A s x y (ay d e):=by
 intro n
 induction n with
 | zero =>
  intro A d e v u x y hd hu hv hw rv ru
  have nz:A.units < cLine:=by omega
  cases d with
  | tup ds=>simp[dep] at hd
  | lst ds=>simp[dep] at hd
  | non =>
   cases (show v = .non from hv);cases rv
   cases e with
   | non=>cases (show u = .non from hw);cases ru;simp only[ay];exact⟨SeqAt.EqAt.same _,SeqAt.RcAt.none_none⟩
   | bl b=>cases (show u = .bl b from hw);cases ru;simp only[ay];exact⟨SeqAt.EqAt.none_bool _,SeqAt.RcAt.none_bool _⟩
   | int b=>cases (show u = .int b from hw);obtain⟨t,rfl⟩:=ru;simp only[ay];exact⟨SeqAt.EqAt.none_int _ _,SeqAt.RcAt.none_int _ _⟩
   | str b=>cases (show u = .str b from hw);obtain⟨t,rfl⟩:=ru;simp only[ay];exact⟨SeqAt.EqAt.none_str _ _,SeqAt.RcAt.none_str _ _⟩
   | tup es=>simp only[Is] at hw;obtain⟨a,vs,rfl,h1,_⟩:=hw;cases ru;obtain⟨_,_,p⟩:=dw I h1;simp only[ay];exact⟨SeqAt.EqAt.none_tuple p nz,SeqAt.RcAt.none_tuple p nz⟩
   | lst es=>simp only[Is] at hw;obtain⟨a,vs,rfl,h1,_⟩:=hw;cases ru;obtain⟨_,_,p⟩:=du I h1;simp only[ay];exact⟨SeqAt.EqAt.none_list p nz,SeqAt.RcAt.none_list p nz⟩
  | bl b0 =>
   cases (show v = .bl b0 from hv);cases rv
   cases e with
   | non=>cases (show u = .non from hw);cases ru;simp only[ay];exact⟨SeqAt.EqAt.bool_none _,SeqAt.RcAt.bool_none _⟩
   | bl b=>cases (show u = .bl b from hw);cases ru;simp only[ay];exact⟨SeqAt.EqAt.bool_bool _ _,SeqAt.RcAt.bool_bool _ _⟩
   | int b=>cases (show u = .int b from hw);obtain⟨t,rfl⟩:=ru;simp only[ay];exact⟨SeqAt.EqAt.bool_int _ _ _,SeqAt.RcAt.bool_int _ _ _⟩
   | str b=>cases (show u = .str b from hw);obtain⟨t,rfl⟩:=ru;simp only[ay];exact⟨SeqAt.EqAt.bool_str _ _ _,SeqAt.RcAt.bool_str _ _ _⟩
   | tup es=>simp only[Is] at hw;obtain⟨a,vs,rfl,h1,_⟩:=hw;cases ru;obtain⟨_,_,p⟩:=dw I h1;simp only[ay];exact⟨SeqAt.EqAt.bool_tuple _ p nz,SeqAt.RcAt.bool_tuple _ p nz⟩
   | lst es=>simp only[Is] at hw;obtain⟨a,vs,rfl,h1,_⟩:=hw;cases ru;obtain⟨_,_,p⟩:=du I h1;simp only[ay];exact⟨SeqAt.EqAt.bool_list _ p nz,SeqAt.RcAt.bool_list _ p nz⟩
  | int b0 =>
   cases (show v = .int b0 from hv);obtain⟨t0,rfl⟩:=rv
   cases e with
   | non=>cases (show u = .non from hw);cases ru;simp only[ay];exact⟨SeqAt.EqAt.int_none _ _,SeqAt.RcAt.int_none _ _⟩
   | bl b=>cases (show u = .bl b from hw);cases ru;simp only[ay];exact⟨SeqAt.EqAt.int_bool _ _ _,SeqAt.RcAt.int_bool _ _ _⟩
   | int b=>cases (show u = .int b from hw);obtain⟨t,rfl⟩:=ru;simp only[ay];exact⟨SeqAt.EqAt.int_int _ _ _ _,SeqAt.RcAt.int_int _ _ _ _⟩
   | str b=>cases (show u = .str b from hw);obtain⟨t,rfl⟩:=ru;simp only[ay];exact⟨SeqAt.EqAt.int_str _ _ _ _,SeqAt.RcAt.int_str _ _ _ _⟩
   | tup es=>simp only[Is] at hw;obtain⟨a,vs,rfl,h1,_⟩:=hw;cases ru;obtain⟨_,_,p⟩:=dw I h1;simp only[ay];exact⟨SeqAt.EqAt.int_tuple _ _ p nz,SeqAt.RcAt.int_tuple _ _ p nz⟩
   | lst es=>simp only[Is] at hw;obtain⟨a,vs,rfl,h1,_⟩:=hw;cases ru;obtain⟨_,_,p⟩:=du I h1;simp only[ay];exact⟨SeqAt.EqAt.int_list _ _ p nz,SeqAt.RcAt.int_list _ _ p nz⟩
  | str b0 =>
   cases (show v = .str b0 from hv);obtain⟨t0,rfl⟩:=rv
   cases e with
   | non=>cases (show u = .non from hw);cases ru;simp only[ay];exact⟨SeqAt.EqAt.str_none _ _,SeqAt.RcAt.str_none _ _⟩
   | bl b=>cases (show u = .bl b from hw);cases ru;simp only[ay];exact⟨SeqAt.EqAt.str_bool _ _ _,SeqAt.RcAt.str_bool _ _ _⟩
   | int b=>cases (show u = .int b from hw);obtain⟨t,rfl⟩:=ru;simp only[ay];exact⟨SeqAt.EqAt.str_int _ _ _ _,SeqAt.RcAt.str_int _ _ _ _⟩
   | str b=>cases (show u = .str b from hw);obtain⟨t,rfl⟩:=ru;simp only[ay];exact⟨SeqAt.EqAt.str_str _ _ _ _,SeqAt.RcAt.str_str _ _ _ _⟩
   | tup es=>simp only[Is] at hw;obtain⟨a,vs,rfl,h1,_⟩:=hw;cases ru;obtain⟨_,_,p⟩:=dw I h1;simp only[ay];exact⟨SeqAt.EqAt.str_tuple _ _ p nz,SeqAt.RcAt.str_tuple _ _ p nz⟩
   | lst es=>simp only[Is] at hw;obtain⟨a,vs,rfl,h1,_⟩:=hw;cases ru;obtain⟨_,_,p⟩:=du I h1;simp only[ay];exact⟨SeqAt.EqAt.str_list _ _ p nz,SeqAt.RcAt.str_list _ _ p nz⟩
 | succ n ih =>
  intro A d e v u x y hd hu hv hw rv ru
  have nz:A.units < cLine:=by omega
  have step:∀ {ds es:List D} {vs us:List V} {ag a5:List Value} (r1:Vals vs ag) (r2:Vals us a5),a_ ds <= n->af H ds vs->af H es us →
    ∀ (j:Nat) (h1:j < ag.toArray.size) (h2:j < a5.toArray.size),SeqAt.EqAt A.in1 s ag.toArray[j] a5.toArray[j] (qN ds es j):=fun {ds es vs us ag a5} r1 r2 hl i1 i2 j h1 h2=>by
   obtain⟨v1,e1,q1⟩:=u4 r1 h1
   obtain⟨v2,e2,q2⟩:=u4 r2 h2
   obtain⟨d1,f1,g1⟩:=i1.get e1
   obtain⟨d2,f2,g2⟩:=i2.get e2
   unfold qN
   rw[f1,f2]
   exact (ih (Zb (AN f1) hl) (by rw[in1_units];omega) g1 g2 q1 q2).1
  cases d with
  | tup ds =>
   have hl:a_ ds <= n:=by simp only[dep] at hd;omega
   have Bq:=hv
   simp only[Is] at hv
   obtain⟨a,vs,rfl,h1,i1⟩:=hv
   cases rv
   obtain⟨ag,r1,p1⟩:=dw I h1
   cases e with
   | tup es =>
    have Br:=hw
    simp only[Is] at hw
    obtain⟨b,us,rfl,h2,i2⟩:=hw
    cases ru
    obtain⟨a5,r2,p2⟩:=dw I h2
    have rc:SeqAt.RcAt A s (.ref a) (.ref b) (ay (.tup ds) (.tup es)):=by
     have:=SeqAt.RcAt.tuples p1 p2 nz (step r1 r2 hl i1 i2)
     have l1:ag.toArray.size=ds.length:=by rw[xb,<-r1.length,i1.length]
     have l2:a5.toArray.size=es.length:=by rw[xb,<-r2.length,i2.length]
     rw[l1,l2] at this
     have eb:((List.range (min ds.length es.length)).all (qN ds es) && ds.length == es.length)=ay (.tup ds) (.tup es):=by
      simp only[ay]
      by_cases c:ds.length=es.length
      ·rw[<-c,Nat.min_self,u3 c];simp
      ·rw[u2 c];simp[c]
     rw[eb] at this;exact this
    refine⟨?_,rc⟩
    by_cases c:a=b
    ·subst c
     have:=Is.inj Bq Br
     rw[this,gB];exact SeqAt.EqAt.same _
    ·exact SeqAt.EqAt.of_refs c rc
   | lst es =>
    simp only[Is] at hw
    obtain⟨b,us,rfl,h2,i2⟩:=hw
    cases ru
    obtain⟨a5,r2,p2⟩:=du I h2
    simp only[ay];exact⟨SeqAt.EqAt.tuple_list p1 p2 nz,SeqAt.RcAt.tuple_list p1 p2 nz⟩
   | non=>cases (show u = .non from hw);cases ru;simp only[ay];exact⟨SeqAt.EqAt.tuple_none p1 nz,SeqAt.RcAt.tuple_none p1 nz⟩
   | bl b=>cases (show u = .bl b from hw);cases ru;simp only[ay];exact⟨SeqAt.EqAt.tuple_bool _ p1 nz,SeqAt.RcAt.tuple_bool _ p1 nz⟩
   | int b=>cases (show u = .int b from hw);obtain⟨t,rfl⟩:=ru;simp only[ay];exact⟨SeqAt.EqAt.tuple_int _ _ p1 nz,SeqAt.RcAt.tuple_int _ _ p1 nz⟩
   | str b=>cases (show u = .str b from hw);obtain⟨t,rfl⟩:=ru;simp only[ay];exact⟨SeqAt.EqAt.tuple_str _ _ p1 nz,SeqAt.RcAt.tuple_str _ _ p1 nz⟩
  | lst ds =>
   have hl:a_ ds <= n:=by simp only[dep] at hd;omega
   have Bq:=hv
   simp only[Is] at hv
   obtain⟨a,vs,rfl,h1,i1⟩:=hv
   cases rv
   obtain⟨ag,r1,p1⟩:=du I h1
   cases e with
   | lst es =>
    have Br:=hw
    simp only[Is] at hw
    obtain⟨b,us,rfl,h2,i2⟩:=hw
    cases ru
    obtain⟨a5,r2,p2⟩:=du I h2
    have l1:ag.toArray.size=ds.length:=by rw[xb,<-r1.length,i1.length]
    have l2:a5.toArray.size=es.length:=by rw[xb,<-r2.length,i2.length]
    have rc:SeqAt.RcAt A s (.ref a) (.ref b) (ay (.lst ds) (.lst es)):=by
     by_cases c:ds.length=es.length
     ·have:=SeqAt.RcAt.lists p1 p2 (by rw[l1,l2];exact c) nz (step r1 r2 hl i1 i2)
      rw[l1,u3 c] at this
      simp only[ay];exact this
     ·simp only[ay];rw[u2 c]
      exact SeqAt.RcAt.lists_lengths p1 p2 (by rw[l1,l2];simpa using c) nz
    refine⟨?_,rc⟩
    by_cases c:a=b
    ·subst c
     have:=Is.inj Bq Br
     rw[this,gB];exact SeqAt.EqAt.same _
    ·exact SeqAt.EqAt.of_refs c rc
   | tup es =>
    simp only[Is] at hw
    obtain⟨b,us,rfl,h2,i2⟩:=hw
    cases ru
    obtain⟨a5,r2,p2⟩:=dw I h2
    simp only[ay];exact⟨SeqAt.EqAt.list_tuple p1 p2 nz,SeqAt.RcAt.list_tuple p1 p2 nz⟩
   | non=>cases (show u = .non from hw);cases ru;simp only[ay];exact⟨SeqAt.EqAt.list_none p1 nz,SeqAt.RcAt.list_none p1 nz⟩
   | bl b=>cases (show u = .bl b from hw);cases ru;simp only[ay];exact⟨SeqAt.EqAt.list_bool _ p1 nz,SeqAt.RcAt.list_bool _ p1 nz⟩
   | int b=>cases (show u = .int b from hw);obtain⟨t,rfl⟩:=ru;simp only[ay];exact⟨SeqAt.EqAt.list_int _ _ p1 nz,SeqAt.RcAt.list_int _ _ p1 nz⟩
   | str b=>cases (show u = .str b from hw);obtain⟨t,rfl⟩:=ru;simp only[ay];exact⟨SeqAt.EqAt.list_str _ _ p1 nz,SeqAt.RcAt.list_str _ _ p1 nz⟩
  | non=>exact ih (by simp[dep]) (by omega) hv hw rv ru
  | bl b0=>exact ih (by simp[dep]) (by omega) hv hw rv ru
  | int b0=>exact ih (by simp[dep]) (by omega) hv hw rv ru
  | str b0=>exact ih (by simp[dep]) (by omega) hv hw rv ru
theorem Pu (I:Inv X pins σ H s) {A:Around} {d e:D} {v u:V} {x y:Value} (hd:dep d <= 60) (hu:A.units + 61 < cLine) (hv:Is H d v) (hw:Is H e u) (rv:RelV v x) (ru:RelV u y):SeqAt.RcNeAt A s x y (!ay d e):=by
 have nz:A.units < cLine:=by omega
 have step:∀ {ds es:List D} {vs us:List V} {ag a5:List Value} (r1:Vals vs ag) (r2:Vals us a5),a_ ds <= 59->af H ds vs->af H es us →
   ∀ (j:Nat) (h1:j < ag.toArray.size) (h2:j < a5.toArray.size),SeqAt.EqAt A.in1 s ag.toArray[j] a5.toArray[j] (qN ds es j):=fun {ds es vs us ag a5} r1 r2 hl i1 i2 j h1 h2=>by
  obtain⟨v1,e1,q1⟩:=u4 r1 h1
  obtain⟨v2,e2,q2⟩:=u4 r2 h2
  obtain⟨d1,f1,g1⟩:=i1.get e1
  obtain⟨d2,f2,g2⟩:=i2.get e2
  unfold qN
  rw[f1,f2]
  exact (Bp I 59 (Zb (AN f1) hl) (by rw[in1_units];omega) g1 g2 q1 q2).1
 cases d with
 | tup ds =>
  have hl:a_ ds <= 59:=by simp only[dep] at hd;omega
  simp only[Is] at hv
  obtain⟨a,vs,rfl,h1,i1⟩:=hv
  cases rv
  obtain⟨ag,r1,p1⟩:=dw I h1
  cases e with
  | tup es =>
   simp only[Is] at hw
   obtain⟨b,us,rfl,h2,i2⟩:=hw
   cases ru
   obtain⟨a5,r2,p2⟩:=dw I h2
   have:=SeqAt.RcNeAt.tuples p1 p2 nz (step r1 r2 hl i1 i2)
   have l1:ag.toArray.size=ds.length:=by rw[xb,<-r1.length,i1.length]
   have l2:a5.toArray.size=es.length:=by rw[xb,<-r2.length,i2.length]
   rw[l1,l2] at this
   have eb:((List.range (min ds.length es.length)).all (qN ds es) && ds.length == es.length)=ay (.tup ds) (.tup es):=by
    simp only[ay]
    by_cases c:ds.length=es.length
    ·rw[<-c,Nat.min_self,u3 c];simp
    ·rw[u2 c];simp[c]
   rw[eb] at this;exact this
  | lst es=>simp only[Is] at hw;obtain⟨b,us,rfl,h2,i2⟩:=hw;cases ru;obtain⟨a5,r2,p2⟩:=du I h2;simp only[ay];exact SeqAt.RcNeAt.tuple_list p1 p2 nz
  | non=>cases (show u = .non from hw);cases ru;simp only[ay];exact SeqAt.RcNeAt.tuple_none p1 nz
  | bl b=>cases (show u = .bl b from hw);cases ru;simp only[ay];exact SeqAt.RcNeAt.tuple_bool _ p1 nz
  | int b=>cases (show u = .int b from hw);obtain⟨t,rfl⟩:=ru;simp only[ay];exact SeqAt.RcNeAt.tuple_int _ _ p1 nz
  | str b=>cases (show u = .str b from hw);obtain⟨t,rfl⟩:=ru;simp only[ay];exact SeqAt.RcNeAt.tuple_str _ _ p1 nz
 | lst ds =>
  have hl:a_ ds <= 59:=by simp only[dep] at hd;omega
  simp only[Is] at hv
  obtain⟨a,vs,rfl,h1,i1⟩:=hv
  cases rv
  obtain⟨ag,r1,p1⟩:=du I h1
  cases e with
  | lst es =>
   simp only[Is] at hw
   obtain⟨b,us,rfl,h2,i2⟩:=hw
   cases ru
   obtain⟨a5,r2,p2⟩:=du I h2
   have l1:ag.toArray.size=ds.length:=by rw[xb,<-r1.length,i1.length]
   have l2:a5.toArray.size=es.length:=by rw[xb,<-r2.length,i2.length]
   by_cases c:ds.length=es.length
   ·have:=SeqAt.RcNeAt.lists p1 p2 (by rw[l1,l2];exact c) nz (step r1 r2 hl i1 i2)
    rw[l1,u3 c] at this
    simp only[ay];exact this
   ·simp only[ay];rw[u2 c]
    exact SeqAt.RcNeAt.lists_lengths p1 p2 (by rw[l1,l2];simpa using c) nz
  | tup es=>simp only[Is] at hw;obtain⟨b,us,rfl,h2,i2⟩:=hw;cases ru;obtain⟨a5,r2,p2⟩:=dw I h2;simp only[ay];exact SeqAt.RcNeAt.list_tuple p1 p2 nz
  | non=>cases (show u = .non from hw);cases ru;simp only[ay];exact SeqAt.RcNeAt.list_none p1 nz
  | bl b=>cases (show u = .bl b from hw);cases ru;simp only[ay];exact SeqAt.RcNeAt.list_bool _ p1 nz
  | int b=>cases (show u = .int b from hw);obtain⟨t,rfl⟩:=ru;simp only[ay];exact SeqAt.RcNeAt.list_int _ _ p1 nz
  | str b=>cases (show u = .str b from hw);obtain⟨t,rfl⟩:=ru;simp only[ay];exact SeqAt.RcNeAt.list_str _ _ p1 nz
 | non =>
  cases (show v = .non from hv);cases rv
  cases e with
  | non=>cases (show u = .non from hw);cases ru;simp only[ay];exact SeqAt.RcNeAt.none_none
  | bl b=>cases (show u = .bl b from hw);cases ru;simp only[ay];exact SeqAt.RcNeAt.none_bool _
  | int b=>cases (show u = .int b from hw);obtain⟨t,rfl⟩:=ru;simp only[ay];exact SeqAt.RcNeAt.none_int _ _
  | str b=>cases (show u = .str b from hw);obtain⟨t,rfl⟩:=ru;simp only[ay];exact SeqAt.RcNeAt.none_str _ _
  | tup es=>simp only[Is] at hw;obtain⟨a,vs,rfl,h1,_⟩:=hw;cases ru;obtain⟨_,_,p⟩:=dw I h1;simp only[ay];exact SeqAt.RcNeAt.none_tuple p nz
  | lst es=>simp only[Is] at hw;obtain⟨a,vs,rfl,h1,_⟩:=hw;cases ru;obtain⟨_,_,p⟩:=du I h1;simp only[ay];exact SeqAt.RcNeAt.none_list p nz
 | bl b0 =>
  cases (show v = .bl b0 from hv);cases rv
  cases e with
  | non=>cases (show u = .non from hw);cases ru;simp only[ay];exact SeqAt.RcNeAt.bool_none _
  | bl b=>cases (show u = .bl b from hw);cases ru;simp only[ay];exact SeqAt.RcNeAt.bool_bool _ _
  | int b=>cases (show u = .int b from hw);obtain⟨t,rfl⟩:=ru;simp only[ay];exact SeqAt.RcNeAt.bool_int _ _ _
  | str b=>cases (show u = .str b from hw);obtain⟨t,rfl⟩:=ru;simp only[ay];exact SeqAt.RcNeAt.bool_str _ _ _
  | tup es=>simp only[Is] at hw;obtain⟨a,vs,rfl,h1,_⟩:=hw;cases ru;obtain⟨_,_,p⟩:=dw I h1;simp only[ay];exact SeqAt.RcNeAt.bool_tuple _ p nz
  | lst es=>simp only[Is] at hw;obtain⟨a,vs,rfl,h1,_⟩:=hw;cases ru;obtain⟨_,_,p⟩:=du I h1;simp only[ay];exact SeqAt.RcNeAt.bool_list _ p nz
 | int b0 =>
  cases (show v = .int b0 from hv);obtain⟨t0,rfl⟩:=rv
  cases e with
  | non=>cases (show u = .non from hw);cases ru;simp only[ay];exact SeqAt.RcNeAt.int_none _ _
  | bl b=>cases (show u = .bl b from hw);cases ru;simp only[ay];exact SeqAt.RcNeAt.int_bool _ _ _
  | int b=>cases (show u = .int b from hw);obtain⟨t,rfl⟩:=ru;simp only[ay];exact SeqAt.RcNeAt.int_int _ _ _ _
  | str b=>cases (show u = .str b from hw);obtain⟨t,rfl⟩:=ru;simp only[ay];exact SeqAt.RcNeAt.int_str _ _ _ _
  | tup es=>simp only[Is] at hw;obtain⟨a,vs,rfl,h1,_⟩:=hw;cases ru;obtain⟨_,_,p⟩:=dw I h1;simp only[ay];exact SeqAt.RcNeAt.int_tuple _ _ p nz
  | lst es=>simp only[Is] at hw;obtain⟨a,vs,rfl,h1,_⟩:=hw;cases ru;obtain⟨_,_,p⟩:=du I h1;simp only[ay];exact SeqAt.RcNeAt.int_list _ _ p nz
 | str b0 =>
  cases (show v = .str b0 from hv);obtain⟨t0,rfl⟩:=rv
  cases e with
  | non=>cases (show u = .non from hw);cases ru;simp only[ay];exact SeqAt.RcNeAt.str_none _ _
  | bl b=>cases (show u = .bl b from hw);cases ru;simp only[ay];exact SeqAt.RcNeAt.str_bool _ _ _
  | int b=>cases (show u = .int b from hw);obtain⟨t,rfl⟩:=ru;simp only[ay];exact SeqAt.RcNeAt.str_int _ _ _ _
  | str b=>cases (show u = .str b from hw);obtain⟨t,rfl⟩:=ru;simp only[ay];exact SeqAt.RcNeAt.str_str _ _ _ _
  | tup es=>simp only[Is] at hw;obtain⟨a,vs,rfl,h1,_⟩:=hw;cases ru;obtain⟨_,_,p⟩:=dw I h1;simp only[ay];exact SeqAt.RcNeAt.str_tuple _ _ p nz
  | lst es=>simp only[Is] at hw;obtain⟨a,vs,rfl,h1,_⟩:=hw;cases ru;obtain⟨_,_,p⟩:=du I h1;simp only[ay];exact SeqAt.RcNeAt.str_list _ _ p nz
end
variable [aD]
noncomputable def intsOf:List D->Option (List Int)
 | []=>some []
 | .int i :: r=>match intsOf r with
  | some ns=>some (i :: ns)
  | none=>none
 | _=>none
theorem nN:∀ ns:List Int,intsOf (ns.map D.int)=some ns
 | []=>rfl
 | n :: r=>by show (match intsOf (r.map D.int) with | some ns=>some (n :: ns) | none=>none)=_;rw[nN r]
theorem u5:∀ {ds:List D} {ns:List Int},intsOf ds=some ns->ds=ns.map D.int
 | [],ns,h=>by cases h;rfl
 | .int i :: r,ns,h=>by
  unfold intsOf at h
  split at h
  ·rename_i ms e;cases h;rw[Yt,u5 e]
  ·cases h
 | .non :: r,ns,h=>by cases h
 | .bl _ :: r,ns,h=>by cases h
 | .str _ :: r,ns,h=>by cases h
 | .tup _ :: r,ns,h=>by cases h
 | .lst _ :: r,ns,h=>by cases h
theorem oV {F:Hp}:∀ {ns:List Int} {vs:List V},af F (ns.map D.int) vs->vs=ns.map V.int
 | [],vs,h=>by simp only[Z4,af] at h;exact h
 | n :: r,vs,h=>by
  simp only[Yt,af] at h
  obtain⟨v,t,rfl,h1,h2⟩:=h
  have h1:v = .int n:=h1
  rw[oV h2,h1];rfl
theorem qO {F:Hp}:∀ {ns:List Int},af F (ns.map D.int) (ns.map V.int)
 | [] => .nil
 | n :: r => .cons (show _=_ from rfl) qO
theorem sM {F:Hp}:∀ {as bs:List D} {us vs:List V},af F as us->af F bs vs->af F (as ++ bs) (us ++ vs)
 | [],bs,us,vs,h,q=>by simp only[af] at h;subst h;exact q
 | a :: r,bs,us,vs,h,q=>by
  simp only[af] at h
  obtain⟨v,t,rfl,h1,h2⟩:=h
  exact .cons h1 (sM h2 q)
theorem G2 {F:Hp}:∀ {as:List D} {us:List V} (n:Nat),af F as us->af F (as.take n) (us.take n)
 | as,us,0,_=>by rw[q1s,q1s];exact .nil
 | [],us,n + 1,h=>by simp only[af] at h;subst h;exact .nil
 | a :: r,us,n + 1,h=>by
  simp only[af] at h
  obtain⟨v,t,rfl,h1,h2⟩:=h
  exact .cons h1 (G2 n h2)
theorem G3 {F:Hp}:∀ {as:List D} {us:List V} (n:Nat),af F as us->af F (as.drop n) (us.drop n)
 | as,us,0,h=>h
 | [],us,n + 1,h=>by simp only[af] at h;subst h;exact .nil
 | a :: r,us,n + 1,h=>by
  simp only[af] at h
  obtain⟨v,t,rfl,h1,h2⟩:=h
  exact G3 n h2
theorem G4 {F:Hp}:∀ {as:List D} {us:List V} (n:Nat) {d:D} {v:V},af F as us->Is F d v->af F (as.set n d) (us.set n v)
 | [],us,n,d,v,h,_=>by simp only[af] at h;subst h;exact .nil
 | a :: r,us,0,d,v,h,q=>by
  simp only[af] at h
  obtain⟨w,t,rfl,h1,h2⟩:=h
  exact .cons q h2
 | a :: r,us,n + 1,d,v,h,q=>by
  simp only[af] at h
  obtain⟨w,t,rfl,h1,h2⟩:=h
  exact .cons h1 (G4 n h2 q)
theorem G5 {F:Hp}:∀ {as:List D} {us:List V} (n:Nat),af F as us->af F (as.eraseIdx n) (us.eraseIdx n)
 | [],us,n,h=>by simp only[af] at h;subst h;exact .nil
 | a :: r,us,0,h=>by
  simp only[af] at h
  obtain⟨w,t,rfl,h1,h2⟩:=h
  exact h2
 | a :: r,us,n + 1,h=>by
  simp only[af] at h
  obtain⟨w,t,rfl,h1,h2⟩:=h
  exact .cons h1 (G5 n h2)
theorem oW {F H:Hp} {p:Addr} {ds:List D} {vs:List V} (s:ax F H) (hp:H p=none) (h:af F ds vs):Is (Nw F H (upd H p (.lst vs))) (.lst ds) (.ref p):=by
 rw[Nw.upd s hp]
 simp only[Is]
 exact⟨p,vs,rfl,bz,h.same (cW (s.free hp))⟩
theorem Bs {F H:Hp} {p:Addr} {ds:List D} {vs:List V} (s:ax F H) (hp:H p=none) (h:af F ds vs):Is (Nw F H (upd H p (.tup vs))) (.tup ds) (.ref p):=by
 rw[Nw.upd s hp]
 simp only[Is]
 exact⟨p,vs,rfl,bz,h.same (cW (s.free hp))⟩
theorem u6 {F H:Hp} {d:D} {v:V} (s:ax F H) (h:Is F d v):Is (Nw F H H) d v:=by rw[Nw.refl s];exact h
noncomputable def qP:D->D->(D->Prop)->Prop
 | .int i,.int j,K=>K (.int (i + j))
 | .lst a,.lst b,K=>a.length + b.length <= 1000/\K (.lst (a ++ b))
 | .tup a,.tup b,K=>(a≠[]/\a.length + b.length <= 1000)/\K (.tup (a ++ b))
 | .str a,.str b,K=>a.length + b.length <= 1000/\K (.str (a ++ b))
 | _,_,_=>False
noncomputable def oI (f:Int->Int->D):D->D->(D->Prop)->Prop
 | .int i,.int j,K=>K (f i j)
 | _,_,_=>False
noncomputable def eO (C:Int->Int->Prop) (f:Int->Int->D):D->D->(D->Prop)->Prop
 | .int i,.int j,K=>C i j/\K (f i j)
 | _,_,_=>False
noncomputable def gC:D->D->(D->Prop)->Prop
 | .int i,.int j,K=>mY i j/\K (.int (i * j))
 | .lst a,.int j,K=>(-(2 ^ 63) <= j/\j < 2 ^ 63/\a.length * j.toNat <= 1000)/\K (.lst (List.replicate j.toNat a).flatten)
 | _,_,_=>False
section
variable {X:Cx}
theorem xQ {f:Value->Value->Sem Value} {g:Int->Int->V} {h:Int->Int->D} (op:di X f (mW g)) (hg:∀ F i j,Is F (h i j) (g i j)):fL X f (oI h):=by
 rintro pins s σ H x y v u Q I rx ry ⟨F,d,e,K,sub,rd,re,q,md⟩
 unfold oI at q
 split at q
 ·rename_i i j
  exact op pins s σ H x y v u Q I rx ry ⟨i,j,rd,re,md _ _ _ q (fun _ _ e=>e) (hg _ i j)⟩
 ·exact q.elim
theorem Bt {f:Value->Value->Sem Value} {C:Int->Int->Prop} {g:Int->Int->V} {h:Int->Int->D} (op:di X f (rI C g)) (hg:∀ F i j,Is F (h i j) (g i j)):fL X f (eO C h):=by
 rintro pins s σ H x y v u Q I rx ry ⟨F,d,e,K,sub,rd,re,q,md⟩
 unfold eO at q
 split at q
 ·rename_i i j
  exact op pins s σ H x y v u Q I rx ry ⟨i,j,rd,re,q.1,md _ _ _ q.2 (fun _ _ e=>e) (hg _ i j)⟩
 ·exact q.elim
theorem xR:fL X (binaryOp .Add) qP:=by
 rintro pins s σ H x y v u Q I rx ry ⟨F,d,e,K,sub,rd,re,q,md⟩
 unfold qP at q
 split at q
 ·rename_i i j
  exact Fd pins s σ H x y v u Q I rx ry ⟨i,j,rd,re,md _ _ _ q (fun _ _ e=>e) rfl⟩
 ·rename_i as bs
  obtain⟨a,us,rfl,h1,h2⟩:=rd
  obtain⟨b,ws,rfl,h3,h4⟩:=re
  refine FJ pins s σ H _ _ v u Q I rx ry ⟨a,b,us,ws,rfl,rfl,h1,h3,k9 (by rw[h2.length,h4.length];exact q.1),fun p hp=>md _ _ _ q.2 (cW hp) (oW sub hp (sM h2 h4))⟩
 ·rename_i as bs
  have dA:Is F (.tup as) x:=rd
  have iE:Is F (.tup bs) y:=re
  simp only[Is] at dA iE
  obtain⟨a,us,rfl,h1,h2⟩:=dA
  obtain⟨b,ws,rfl,h3,h4⟩:=iE
  have ne:us≠[]:=fun z=>q.1.1 (ZZ.mp (by rw[<-h2.length,z];rfl))
  refine MY pins s σ H _ _ v u Q I rx ry ⟨a,b,us,ws,rfl,rfl,bC.of (sub _ _ h1),bC.of (sub _ _ h3),ne,k9 (by rw[h2.length,h4.length];exact q.1.2),fun z => ?_,fun z p hp=>md _ _ _ q.2 (cW hp) (Bs sub hp (sM h2 h4))⟩
  have:bs=[]:=ZZ.mp (by rw[<-h4.length,z];rfl)
  subst this
  refine md _ _ _ q.2 (fun _ _ e=>e) (u6 sub ?_)
  rw[ZM];exact rd
 ·rename_i as bs
  have dA:x = .str as:=rd
  have iE:y = .str bs:=re
  subst dA iE
  exact Mo pins s σ H _ _ v u Q I rx ry ⟨as,bs,rfl,rfl,k9 q.1,md _ _ _ q.2 (fun _ _ e=>e) rfl⟩
 ·exact q.elim
theorem sN:fL X (binaryOp .Sub) (oI fun i j => .int (i - j)):=xQ Ma fun _ _ _=>rfl
theorem qQ:fL X (binaryOp .Mult) gC:=by
 rintro pins s σ H x y v u Q I rx ry ⟨F,d,e,K,sub,rd,re,q,md⟩
 unfold gC at q
 split at q
 ·rename_i i j
  exact Mb pins s σ H x y v u Q I rx ry ⟨i,j,rd,re,q.1,md _ _ _ q.2 (fun _ _ e=>e) rfl⟩
 ·rename_i as j
  obtain⟨a,us,rfl,h1,h2⟩:=rd
  refine Nc pins s σ H _ _ v u Q I rx ry ⟨a,j,us,rfl,re,h1,q.1.1,q.1.2.1,k9 (by rw[h2.length];exact q.1.2.2),fun p hp=>md _ _ _ q.2 (cW hp) (oW sub hp ?_)⟩
  have:∀ k:Nat,af F (List.replicate k as).flatten (List.replicate k us).flatten:=fun k=>by
   induction k with
   | zero=>exact .nil
   | succ k ih=>rw[Zg,Zg,ZK,ZK];exact sM h2 ih
  exact this _
 ·exact q.elim
theorem Pw:fL X (binaryOp .FloorDiv) (eO t4 fun i j => .int (i.fdiv j)):=Bt Mc fun _ _ _=>rfl
theorem kA:fL X (binaryOp .Mod) (eO (fun _ j=>0 < j) fun i j => .int (i % j)):=Bt zX fun _ _ _=>rfl
theorem qR:fL X (binaryOp .Pow) (eO g5 fun i j => .int (i ^ j.toNat)):=Bt Md fun _ _ _=>rfl
noncomputable def oEq:D->D->(D->Prop)->Prop:=fun d e K=>dep d <= 60/\K (.bl (ay d e))
noncomputable def oX:D->D->(D->Prop)->Prop:=fun d e K=>dep d <= 60/\K (.bl (!ay d e))
theorem ie (hu:X.A.units + 64 < cLine):fL X (compareOp .Eq) oEq:=by
 rintro pins s σ H x y v u Q I rx ry ⟨F,d,e,K,sub,rd,re,q,md⟩
 exact (Bp I 60 q.1 (by omega) (rd.is sub) (re.is sub) rx ry).2 _ _ _ _ ⟨.bl _,H,I,rfl,md _ _ _ q.2 (fun _ _ e=>e) rfl⟩
theorem sO (hu:X.A.units + 64 < cLine):fL X (compareOp .NotEq) oX:=by
 rintro pins s σ H x y v u Q I rx ry ⟨F,d,e,K,sub,rd,re,q,md⟩
 exact Pu I q.1 (by omega) (rd.is sub) (re.is sub) rx ry _ _ _ _ ⟨.bl _,H,I,rfl,md _ _ _ q.2 (fun _ _ e=>e) rfl⟩
noncomputable def oLt:D->D->(D->Prop)->Prop
 | .int i,.int j,K=>K (.bl (decide (i < j)))
 | .tup a,.tup b,K=>match intsOf a,intsOf b with
  | some ns,some ms=>K (.bl (HT.lexLt ns ms))
  | _,_=>False
 | _,_,_=>False
theorem xS (hu:X.A.units + 64 < cLine):fL X (compareOp .Lt) oLt:=by
 rintro pins s σ H x y v u Q I rx ry ⟨F,d,e,K,sub,rd,re,q,md⟩
 unfold oLt at q
 split at q
 ·rename_i i j
  exact Mf pins s σ H x y v u Q I rx ry ⟨i,j,rd,re,md _ _ _ q (fun _ _ e=>e) rfl⟩
 ·rename_i as bs
  split at q
  ·rename_i ns ms e1 e2
   rw[u5 e1] at rd
   rw[u5 e2] at re
   have dA:Is F (.tup (ns.map D.int)) x:=rd
   have iE:Is F (.tup (ms.map D.int)) y:=re
   simp only[Is] at dA iE
   obtain⟨a,us,rfl,h1,h2⟩:=dA
   obtain⟨b,ws,rfl,h3,h4⟩:=iE
   rw[oV h2] at h1
   rw[oV h4] at h3
   exact MW (by omega) pins s σ H _ _ v u Q I rx ry ⟨a,b,ns,ms,rfl,rfl,bC.of (sub _ _ h1),bC.of (sub _ _ h3),md _ _ _ q (fun _ _ e=>e) rfl⟩
  ·exact q.elim
 ·exact q.elim
theorem G6:fL X (compareOp .LtE) (oI fun i j => .bl (decide (i <= j))):=xQ Mg fun _ _ _=>rfl
theorem sP:fL X (compareOp .Gt) (oI fun i j => .bl (decide (j < i))):=xQ Mh fun _ _ _=>rfl
theorem Px:fL X (compareOp .GtE) (oI fun i j => .bl (decide (j <= i))):=xQ Mi fun _ _ _=>rfl
noncomputable def lq:D->D->(D->Prop)->Prop
 | .non,.non,K=>K (.bl true)
 | .bl _,.non,K=>K (.bl false)
 | .int _,.non,K=>K (.bl false)
 | .str _,.non,K=>K (.bl false)
 | .tup _,.non,K=>K (.bl false)
 | .lst _,.non,K=>K (.bl false)
 | _,_,_=>False
theorem Py {F H:Hp} {d e:D} {x y:V} {K:D->Prop} (rd:h_ F H d x) (re:h_ F H e y) (q:lq d e K):y = .non/\K (.bl (decide (x = .non))):=by
 unfold lq at q
 split at q
 ·have:x = .non:=rd;have h2:y = .non:=re;subst this;exact⟨h2,q⟩
 ·rename_i b;have:x = .bl b:=rd;have h2:y = .non:=re;subst this;exact⟨h2,q⟩
 ·rename_i b;have:x = .int b:=rd;have h2:y = .non:=re;subst this;exact⟨h2,q⟩
 ·rename_i b;have:x = .str b:=rd;have h2:y = .non:=re;subst this;exact⟨h2,q⟩
 ·rename_i b;have rd:Is F (.tup b) x:=rd;simp only[Is] at rd;obtain⟨a,_,rfl,_⟩:=rd;exact⟨re,q⟩
 ·rename_i b;obtain⟨a,_,rfl,_⟩:=rd;exact⟨re,q⟩
 ·exact q.elim
theorem Pz:fL X (compareOp .Is) lq:=by
 rintro pins s σ H x y v u Q I rx ry ⟨F,d,e,K,sub,rd,re,q,md⟩
 obtain⟨h1,h2⟩:=Py rd re q
 exact Mj pins s σ H x y v u Q I rx ry ⟨h1,md _ _ _ h2 (fun _ _ e=>e) rfl⟩
noncomputable def mi (neg:Bool):D->D->(D->Prop)->Prop
 | d,.lst es,K=>a_ es <= 55/\K (.bl (if neg then !(es.any fun e=>ay e d) else es.any fun e=>ay e d))
 | d,.tup es,K=>a_ es <= 55/\K (.bl (if neg then !(es.any fun e=>ay e d) else es.any fun e=>ay e d))
 | _,_,_=>False
noncomputable def iO (H:Hp) (d:D) (u:Value):Bool:=by
 classical exact if ∃ e v,Is H e v/\RelV v u/\ay e d=true then true else false
theorem G7 {H:Hp} {d e:D} {v:V} {u:Value} (h:Is H e v) (r:RelV v u):iO H d u=ay e d:=by
 unfold iO
 split
 ·rename_i z
  obtain⟨e',v',h',r',q⟩:=z
  have:v'=v:=r'.inj r
  subst this
  rw[Is.inj h h'];exact q.symm
 ·rename_i z
  cases q:ay e d with
  | false=>rfl
  | true=>exact absurd ⟨e,v,h,r,q⟩ z
theorem u7 {H:Hp} {d:D}:∀ {es:List D} {vs:List V} {us:List Value},af H es vs->Vals vs us->us.any (iO H d)=es.any fun e=>ay e d
 | [],vs,us,h,r=>by simp only[af] at h;subst h;cases r;rfl
 | e :: es,vs,us,h,r=>by
  simp only[af] at h
  obtain⟨v,t,rfl,h1,h2⟩:=h
  cases r with
  | cons r1 r2=>rw[q0e,q0e,G7 h1 r1,u7 h2 r2]
theorem u9 {pins:List (Addr × Obj)} {σ : St} {H:Hp} {s:Shared} (I:Inv X pins σ H s) {A:Around} (hu:A.units + 60 < cLine) {d:D} {x:V} {w:Value} (hd:Is H d x) (rd:RelV x w):∀ {es:List D} {vs:List V} {us:List Value},a_ es <= 55->af H es vs->Vals vs us->∀ u∈us,SeqAt.EqAt A s u w (iO H d u)
 | [],vs,us,_,h,r=>by simp only[af] at h;subst h;cases r;intro u hu;cases hu
 | e :: es,vs,us,hp,h,r=>by
  simp only[af] at h
  obtain⟨v,t,rfl,h1,h2⟩:=h
  simp only[a_] at hp
  cases r with
  | cons r1 r2 =>
   intro u hu'
   rcases Nh.mp hu' with rfl | hu'
   ·rw[G7 h1 r1];exact (Bp I 55 (by omega) (by omega) h1 hd r1 rd).1
   ·exact u9 I hu hd rd (by omega) h2 r2 u hu'
theorem xT (hu:X.A.units + 64 < cLine):fL X (compareOp .In) (mi false):=by
 rintro pins s σ H x y v u Q I rx ry ⟨F,d,e,K,sub,rd,re,q,md⟩
 unfold mi at q
 split at q
 ·rename_i es
  obtain⟨a,vs,rfl,h1,h2⟩:=re
  cases ry
  obtain⟨ag,r,p⟩:=du I h1
  have fP:=h2.same sub
  refine SeqAt.in_listAt (iO H d) p (fun w hw=>u9 I (by rw[in1_units];omega) (rd.is sub) rx q.1 fP r w (by simpa using hw)) ⟨.bl _,H,I,rfl,?_⟩
  rw[show ag.toArray.any (iO H d)=ag.any (iO H d) by simp,u7 fP r]
  exact md _ _ _ q.2 (fun _ _ e=>e) rfl
 ·rename_i es
  have iE:Is F (.tup es) y:=re
  simp only[Is] at iE
  obtain⟨a,vs,rfl,h1,h2⟩:=iE
  cases ry
  obtain⟨ag,r,p⟩:=dw I (sub _ _ h1)
  have fP:=h2.same sub
  refine SeqAt.in_tupleAt (iO H d) p (fun w hw=>u9 I (by rw[in1_units];omega) (rd.is sub) rx q.1 fP r w (by simpa using hw)) ⟨.bl _,H,I,rfl,?_⟩
  rw[show ag.toArray.any (iO H d)=ag.any (iO H d) by simp,u7 fP r]
  exact md _ _ _ q.2 (fun _ _ e=>e) rfl
 ·exact q.elim
theorem PB (hu:X.A.units + 64 < cLine):fL X (compareOp .NotIn) (mi true):=by
 rintro pins s σ H x y v u Q I rx ry ⟨F,d,e,K,sub,rd,re,q,md⟩
 unfold mi at q
 split at q
 ·rename_i es
  obtain⟨a,vs,rfl,h1,h2⟩:=re
  cases ry
  obtain⟨ag,r,p⟩:=du I h1
  have fP:=h2.same sub
  refine SeqAt.notIn_listAt (iO H d) p (fun w hw=>u9 I (by rw[in1_units];omega) (rd.is sub) rx q.1 fP r w (by simpa using hw)) ⟨.bl _,H,I,rfl,?_⟩
  rw[show ag.toArray.any (iO H d)=ag.any (iO H d) by simp,u7 fP r]
  exact md _ _ _ q.2 (fun _ _ e=>e) rfl
 ·rename_i es
  have iE:Is F (.tup es) y:=re
  simp only[Is] at iE
  obtain⟨a,vs,rfl,h1,h2⟩:=iE
  cases ry
  obtain⟨ag,r,p⟩:=dw I (sub _ _ h1)
  have fP:=h2.same sub
  refine SeqAt.notIn_tupleAt (iO H d) p (fun w hw=>u9 I (by rw[in1_units];omega) (rd.is sub) rx q.1 fP r w (by simpa using hw)) ⟨.bl _,H,I,rfl,?_⟩
  rw[show ag.toArray.any (iO H d)=ag.any (iO H d) by simp,u7 fP r]
  exact md _ _ _ q.2 (fun _ _ e=>e) rfl
 ·exact q.elim
noncomputable def bc:D->D->(D->Prop)->Prop
 | .lst ds,.int i,K=>match fB ds i with
  | some d=>K d
  | none=>False
 | .tup ds,.int i,K=>match fB ds i with
  | some d=>K d
  | none=>False
 | .str z,.int i,K=>z.length <= 1000/\match fB z.cps.toList i with
  | some c=>K (.str ⟨#[c]⟩)
  | none=>False
 | _,_,_=>False
theorem G8 {F:Hp} {ds:List D} {vs:List V} {i:Int} {d:D} (h:af F ds vs) (e:fB ds i=some d):∃ v,fB vs i=some v/\Is F d v:=by
 unfold fB at e ⊢
 rw[h.length]
 cases q:jk ds.length i with
 | none=>rw[q] at e;cases e
 | some j =>
  rw[q] at e
  exact oT h (show ds[j]? = some d from e)
theorem bH:Gz X bc:=by
 rintro value slice pins s σ H x y v u Q I rx ry ⟨F,d,e,K,sub,rd,re,q,md⟩ hs
 unfold bc at q
 split at q
 ·rename_i ds i
  split at q
  ·rename_i d' e1
   obtain⟨a,vs,rfl,h1,h2⟩:=rd
   obtain⟨w,e2,h3⟩:=G8 h2 e1
   exact Am value slice pins s σ H _ _ v u Q I rx ry ⟨a,vs,i,w,rfl,re,aU.of h1,e2,md _ _ _ q (fun _ _ e=>e) (u6 sub h3)⟩ hs
  ·exact q.elim
 ·rename_i ds i
  split at q
  ·rename_i d' e1
   have dA:Is F (.tup ds) x:=rd
   simp only[Is] at dA
   obtain⟨a,vs,rfl,h1,h2⟩:=dA
   obtain⟨w,e2,h3⟩:=G8 h2 e1
   exact M0 value slice pins s σ H _ _ v u Q I rx ry ⟨a,vs,i,w,rfl,re,bC.of (sub _ _ h1),e2,md _ _ _ q (fun _ _ e=>e) (u6 sub h3)⟩ hs
  ·exact q.elim
 ·rename_i z i
  obtain⟨hz,q⟩:=q
  split at q
  ·rename_i c e1
   have dA:x = .str z:=rd
   subst dA
   exact M1 value slice pins s σ H _ _ v u Q I rx ry ⟨z,i,c,rfl,re,k9 hz,e1,md _ _ _ q (fun _ _ e=>e) rfl⟩ hs
  ·exact q.elim
 ·exact q.elim
noncomputable def cutD (ds:List D) (lo hi:Option Int):List D:=(ds.drop (HT.aX ds.length 0 lo)).take (HT.aX ds.length ds.length hi - HT.aX ds.length 0 lo)
theorem G9 {F:Hp} {ds:List D} {vs:List V} (h:af F ds vs) (lo hi:Option Int):af F (cutD ds lo hi) (c7 vs lo hi):=by
 unfold cutD c7
 rw[h.length]
 exact G2 _ (G3 _ h)
noncomputable abbrev WO:=aw->(Option Int->aw->Prop)->Prop
noncomputable def xU (f:WO):TO:=fun σ H Q=>∃ F ad δ K,SR F ad δ σ H/\f δ K/\∀ o δ',K o δ'->∀ F' aA H',Ext F ad δ.mu H F' aA δ'.mu H'->SR F' aA δ' σ H'->Q o H'
noncomputable def i5:WO:=fun δ K=>K none δ
noncomputable def qT (f:WE):WO:=fun δ K=>f δ fun x δ1=>match x with
 | .p (.int i)=>K (some i) δ1
 | _=>False
theorem xV:PO X none (xU i5):=fun pins s σ H Q I h0_ => el7 h0_ fun F ad δ K S q k =>Fv pins s σ H Q I (k _ _ q _ _ _ .refl S)
theorem xW {e:Expr} {f:WE} (h:JE X e (tD f)):PO X (some e) (xU (qT f)):=fun pins s σ H Q I h0_ => el7 h0_ fun F ad δ K S q k =>w_ h.out pins s σ H Q I ⟨F,ad,δ,_,S,q,fun x δ1 h1 v F1 aP H1 E1 S1 V1=>by
 split at h1
 ·rename_i i
  exact⟨i,V1,k _ _ h1 _ _ _ E1 S1⟩
 ·exact h1.elim⟩
noncomputable def Bu (f g h:WE) (o o':D->D->(D->Prop)->Prop):WE:=fun δ K=>f δ fun x δ1=>g δ1 fun y δ2=>ib x δ2 fun d=>ib y δ2 fun e=>o d e fun z=>match z with
 | .bl true=>h δ2 fun w δ3=>ib y δ3 fun e'=>ib w δ3 fun c=>o' e' c fun z'=>K (.p z') δ3
 | .bl false=>K (.p (.bl false)) δ2
 | _=>False
theorem PD {a b c:Expr} {f g h:WE} {op kU:CmpOp} {o o':D->D->(D->Prop)->Prop} {pos:Pos} (ho:fL X (compareOp op) o) (jA:fL X (compareOp kU) o') (ha:JE X a (tD f)) (hb:JE X b (tD g)) (hc:JE X c (tD h))
  (hm:lastMarks [op,kU] [b,c]=false:=by with_unfolding_all rfl):JE X (.Compare a [op,kU] [b,c] pos) (tD (Bu f g h o o')) :=
 (OB ho jA ha hb hc hm).weak fun σ H Q h0_ => el7 h0_ fun F ad δ K S q k =>by
  refine⟨F,ad,δ,_,S,q,fun x δ1 h1 v1 F1 aP H1 E1 S1 V1=>⟨F1,aP,δ1,_,S1,h1,fun y δ2 h2 v2 F2 bV H2 E2 S2 V2 => ?_⟩⟩
  obtain⟨d,h3,rd⟩:=km S2 (V1.ext E2) h2
  obtain⟨e,h4,re⟩:=km S2 V2 h3
  refine⟨F2,d,e,_,S2.sub,rd,re,h4,fun z v H' hz sm is => ?_⟩
  have S3:=S2.al sm
  have E3:=Ext.al S2 sm
  split at hz
  ·refine⟨true,is,?_⟩
   rw[XI rfl]
   refine⟨_,bV,δ2,_,S3,hz,fun w δ4 h5 v4 F4 uV H4 E4 S4 V4 => ?_⟩
   obtain⟨d',h6,xB⟩:=km S4 ((V2.ext E3).ext E4) h5
   obtain⟨e',h7,PH⟩:=km S4 V4 h6
   exact⟨F4,d',e',_,S4.sub,xB,PH,h7,fun z v H' hz sm is=>k _ _ hz _ _ _ _ ((((E1.trans E2).trans E3).trans E4).trans (Ext.al S4 sm)) (S4.al sm) is⟩
  ·refine⟨false,is,?_⟩
   rw[Nj Yo]
   exact k _ _ hz _ _ _ _ ((E1.trans E2).trans E3) S3 rfl
  ·exact hz.elim
end
noncomputable def sortI (ns:List Int):List Int:=ns.mergeSort fun a b=>decide (a <= b)
theorem sortI_perm (ns:List Int):(sortI ns).Perm ns:=List.mergeSort_perm ns _
theorem G_ (ns:List Int):(sortI ns).Pairwise (· <= ·):=by
 have:=List.pairwise_mergeSort (le:=fun a b:Int=>decide (a <= b)) (fun a b c h1 h2=>by simp at *;omega) (fun a b=>by simp;omega) ns
 exact this.imp fun h=>by simpa using h
theorem Ha:∀ {as bs:List Int},as.Perm bs->as.Pairwise (· <= ·)->bs.Pairwise (· <= ·)->as=bs
 | [],bs,p,_,_=>p.nil_eq
 | a :: as,[],p,_,_=>absurd p.length_eq (by simp)
 | a :: as,b :: bs,p,s,t=>by
  have e:a=b:=by
   have h1:a <= b:=by
    have hb:b∈a :: as:=p.mem_iff.mpr (FN ..)
    rcases Nh.mp hb with h | h
    ·omega
    ·exact (Y9.mp s).1 b h
   have h2:b <= a:=by
    have ha:a∈b :: bs:=p.mem_iff.mp (FN ..)
    rcases Nh.mp ha with h | h
    ·omega
    ·exact (Y9.mp t).1 a h
   omega
  subst e
  rw[Ha (List.perm_cons a |>.mp p) (Y9.mp s).2 (Y9.mp t).2]
theorem xX {as bs:List Int} (p:as.Perm bs) (s:as.Pairwise (· <= ·)):as=sortI bs:=Ha (p.trans (sortI_perm bs).symm) s (G_ bs)
theorem Bv (ns:List Int):(sortI ns).length=ns.length:=(sortI_perm ns).length_eq
noncomputable def cY:List D->(D->Prop)->Prop
 | [.lst ds],K=>K (.int ds.length)
 | [.tup ds],K=>K (.int ds.length)
 | [.str z],K=>z.length <= 1000/\K (.int z.length)
 | _,_=>False
noncomputable def xY:List D->(D->Prop)->Prop
 | [.lst ds],K=>K (.tup ds)
 | [.tup ds],K=>K (.tup ds)
 | _,_=>False
noncomputable def u_:List D->(D->Prop)->Prop
 | [.lst ds],K=>match intsOf ds with
  | some ns=>ns.length < 64/\K (.lst ((sortI ns).map D.int))
  | none=>False
 | _,_=>False
noncomputable def qU:List D->Option (List Bool)
 | []=>some []
 | .bl b :: r=>match qU r with
  | some bs=>some (b :: bs)
  | none=>none
 | _=>none
theorem Hb:∀ bs:List Bool,qU (bs.map D.bl)=some bs
 | []=>rfl
 | n :: r=>by show (match qU (r.map D.bl) with | some ns=>some (n :: ns) | none=>none)=_;rw[Hb r]
theorem Hc:∀ {ds:List D} {bs:List Bool},qU ds=some bs->ds=bs.map D.bl
 | [],ns,h=>by cases h;rfl
 | .bl i :: r,ns,h=>by
  unfold qU at h
  split at h
  ·rename_i ms e;cases h;rw[Yt,Hc e]
  ·cases h
 | .non :: r,ns,h=>by cases h
 | .int _ :: r,ns,h=>by cases h
 | .str _ :: r,ns,h=>by cases h
 | .tup _ :: r,ns,h=>by cases h
 | .lst _ :: r,ns,h=>by cases h
theorem Hd {F:Hp}:∀ {bs:List Bool} {vs:List V},af F (bs.map D.bl) vs->vs=bs.map V.bl
 | [],vs,h=>by simp only[Z4,af] at h;exact h
 | n :: r,vs,h=>by
  simp only[Yt,af] at h
  obtain⟨v,t,rfl,h1,h2⟩:=h
  have h1:v = .bl n:=h1
  rw[Hd h2,h1];rfl
noncomputable def nP:List D->(D->Prop)->Prop
 | [.lst ds],K=>match qU ds with
  | some bs=>K (.bl (bs.all id))
  | none=>False
 | _,_=>False
noncomputable def va:List D->(D->Prop)->Prop
 | [.int i,.int j],K=>K (.int (min i j))
 | _,_=>False
noncomputable def xZ:List D->(D->Prop)->Prop
 | [.int i,.int j],K=>K (.int (max i j))
 | _,_=>False
section
variable {X:Cx}
theorem dA {F H:Hp} {d:D} {xs:List V} (h:jO F H [d] xs):∃ v,xs=[v]/\h_ F H d v:=by
 obtain⟨v,r,rfl,h1,h2⟩:=h
 have h2:r=[]:=h2
 subst h2
 exact⟨v,rfl,h1⟩
theorem He {F H:Hp} {d e:D} {xs:List V} (h:jO F H [d,e] xs):∃ v w,xs=[v,w]/\h_ F H d v/\h_ F H e w:=by
 obtain⟨v,r,rfl,h1,h2⟩:=h
 obtain⟨w,rfl,h3⟩:=dA h2
 exact⟨v,w,rfl,h1,h3⟩
theorem jq:dW X (.builtin "len") cY:=by
 rintro pins s σ H xs us Q I r ⟨F,ds,K,sub,rd,q,md⟩
 unfold cY at q
 split at q
 ·obtain⟨v,rfl,a,vs,rfl,h1,h2⟩:=dA rd
  exact FC pins s σ H _ us Q I r ⟨a,vs,rfl,.inl (aU.of h1),by rw[h2.length];exact md _ _ _ q (fun _ _ e=>e) rfl⟩
 ·rename_i es
  obtain⟨v,rfl,h⟩:=dA rd
  have h:Is F (.tup es) v:=h
  simp only[Is] at h
  obtain⟨a,vs,rfl,h1,h2⟩:=h
  exact FC pins s σ H _ us Q I r ⟨a,vs,rfl,.inr (bC.of (sub _ _ h1)),by rw[h2.length];exact md _ _ _ q (fun _ _ e=>e) rfl⟩
 ·rename_i z
  obtain⟨v,rfl,h⟩:=dA rd
  have h:v = .str z:=h
  subst h
  exact M6 pins s σ H _ us Q I r ⟨z,rfl,k9 q.1,md _ _ _ q.2 (fun _ _ e=>e) rfl⟩
 ·exact q.elim
theorem PJ:dW X (.type "tuple") xY:=by
 rintro pins s σ H xs us Q I r ⟨F,ds,K,sub,rd,q,md⟩
 unfold xY at q
 split at q
 ·obtain⟨v,rfl,a,vs,rfl,h1,h2⟩:=dA rd
  exact FD pins s σ H _ us Q I r ⟨a,vs,rfl,.inl ⟨aU.of h1,fun l hl=>md _ _ _ q (cW hl) (Bs sub hl h2)⟩⟩
 ·rename_i es
  obtain⟨v,rfl,h⟩:=dA rd
  have h0:Is F (.tup es) v:=h
  have h:Is F (.tup es) v:=h
  simp only[Is] at h
  obtain⟨a,vs,rfl,h1,h2⟩:=h
  exact FD pins s σ H _ us Q I r ⟨a,vs,rfl,.inr ⟨bC.of (sub _ _ h1),md _ _ _ q (fun _ _ e=>e) (u6 sub h0)⟩⟩
 ·exact q.elim
theorem PK:dW X (.builtin "sorted") u_:=by
 rintro pins s σ H xs us Q I r ⟨F,ds,K,sub,rd,q,md⟩
 unfold u_ at q
 split at q
 ·rename_i es
  split at q
  ·rename_i ns e
   obtain⟨v,rfl,a,vs,rfl,h1,h2⟩:=dA rd
   rw[u5 e] at h2
   rw[oV h2] at h1
   refine OQ pins s σ H _ us Q I r ⟨a,ns,rfl,aU.of h1,q.1,fun l eN pm pw hl => ?_⟩
   rw[xX pm pw]
   exact md _ _ _ q.2 (cW hl) (oW sub hl qO)
  ·exact q.elim
 ·exact q.elim
theorem PL (hc:X.calm=true):dW X (.builtin "all") nP:=by
 rintro pins s σ H xs us Q I r ⟨F,ds,K,sub,rd,q,md⟩
 unfold nP at q
 split at q
 ·rename_i es
  split at q
  ·rename_i bs e
   obtain⟨v,rfl,a,vs,rfl,h1,h2⟩:=dA rd
   rw[Hc e] at h2
   rw[Hd h2] at h1
   exact OM hc pins s σ H _ us Q I r ⟨a,bs,rfl,aU.of h1,md _ _ _ q (fun _ _ e=>e) rfl⟩
  ·exact q.elim
 ·exact q.elim
theorem Hf (hc:X.calm=true):dW X (.builtin "min") va:=by
 rintro pins s σ H xs us Q I r ⟨F,ds,K,sub,rd,q,md⟩
 unfold va at q
 split at q
 ·rename_i i j
  obtain⟨v,w,rfl,h1,h2⟩:=He rd
  have h1:v = .int i:=h1
  have h2:w = .int j:=h2
  subst h1 h2
  refine Mq hc pins s σ H _ us Q I r ⟨i,j,rfl,?_⟩
  have:(if j < i then j else i)=min i j:=by split<;>omega
  rw[this]
  exact md _ _ _ q (fun _ _ e=>e) rfl
 ·exact q.elim
theorem PM (hc:X.calm=true):dW X (.builtin "max") xZ:=by
 rintro pins s σ H xs us Q I r ⟨F,ds,K,sub,rd,q,md⟩
 unfold xZ at q
 split at q
 ·rename_i i j
  obtain⟨v,w,rfl,h1,h2⟩:=He rd
  have h1:v = .int i:=h1
  have h2:w = .int j:=h2
  subst h1 h2
  refine Mp hc pins s σ H _ us Q I r ⟨i,j,rfl,?_⟩
  have:(if j > i then j else i)=max i j:=by split<;>omega
  rw[this]
  exact md _ _ _ q (fun _ _ e=>e) rfl
 ·exact q.elim
noncomputable def x_ (fa:WA):WE:=fun δ K=>fa δ fun xs δ1=>match xs with
 | [.p (.int j)]=>(0 <= j/\j <= 1000)/\K (.p (.lst (cu 0 j.toNat))) δ1
 | _=>False
theorem sQ (n:Nat):cu 0 n=(ba n).map D.int:=by
 unfold cu ba
 rw[Ys]
 refine YJ fun i _ => ?_
 show D.int (0 + (i:Int))=D.int (i:Int)
 rw[Int.zero_add]
theorem Hg {a:Expr} {fa:WA} {p1 p2 q1 q2:Pos} (hc:X.calm=true) (qV:Gl X "list") (hl:X.mg "list" = none) (qW:bootBuiltins "list" = some (.type "list")) (qX:Gl X "range") (hr:X.mg "range" = none) (qY:bootBuiltins "range" = some (.type "range")) (ha:JA X [a] (cX fa))
  (he:starEach [a] X.env=[(false,eval a X.env)]:=by rfl) (qZ:starEach [.Call (.Name "range" p2) [a] [] q2] X.env=[(false,eval (.Call (.Name "range" p2) [a] [] q2) X.env)]:=by rfl):JE X (.Call (.Name "list" p1) [.Call (.Name "range" p2) [a] [] q2] [] q1) (tD (x_ fa)) :=
 (nv (Gu hc) qV hl qW (iW (nv Gr qX hr qY ha (he:=he)) aV) (he:=qZ)).weak fun σ H Q h0_ => el7 h0_ fun F ad δ K S q k =>⟨F,ad,δ,_,S,q,fun xs δ1 h1 vs F1 aP H1 E1 S1 V1=>by
  split at h1
  ·rename_i j
   obtain⟨v,r,e,W1,W2⟩:=V1
   have W2:r=[]:=W2
   have W1:v = .int j:=W1
   subst W2 W1 e
   refine⟨j,rfl,fun rr Bw=>⟨rr,j.toNat,rfl,by rw[bz,Int.toNat_of_nonneg h1.1.1],by omega,fun l hl => ?_⟩⟩
   have s1:ax H1 (upd H1 rr (.rng 0 j)):=cW Bw
   have S2:=S1.al s1
   have E2:=Ext.al S1 s1
   refine k _ _ h1.2 _ _ _ _ ((E1.trans E2).trans (Ext.al S2 (cW hl))) (S2.al (cW hl)) ?_
   have:Is (Nw (Nw F1 H1 (upd H1 rr (.rng 0 j))) (upd H1 rr (.rng 0 j)) (upd (upd H1 rr (.rng 0 j)) l (.lst ((ba j.toNat).map V.int)))) (.lst ((ba j.toNat).map D.int)) (.ref l):=oW S2.sub hl qO
   rw[sQ]
   exact this
  ·exact h1.elim⟩
noncomputable def cE (T:String):D->(D->Prop)->Prop:=fun d K=>K (.bl (aQ (cg d) T))
theorem iF {T:String} {t:Str} {a:Expr} {f:WE} {p p2 pos:Pos} (hk:∀ d:D,PySem.W.kitOne X.K (.type (cg d)) (.type T)=some (aQ (cg d) T)) (hg:Gl X "isinstance") (hm:X.mg "isinstance" = none) (PN:Gl X t) (PQ:X.mg t=none) (PR:bootBuiltins t=some (.type T)) (ha:JE X a (tD f))
  (uv:t ≠ "__name__" := by decide) (jK:(t == ("__debug__" : Str))=false:=by decide) (he:starEach [a,.Name t p2] X.env=(false,eval a X.env) :: starEach [.Name t p2] X.env:=by rfl):JE X (.Call (.Name "isinstance" p) [a,.Name t p2] [] pos) (tD (d1 f (cE T))) :=
 (xk NX hg hm PyProof.Rows.boot_isinstance (qw ha (iA (Oe PN PQ PR (v := .ty T) rfl uv jK) aV) he) (he:=he)).weak fun σ H Q h0_ => el7 h0_ fun F ad δ K S q k =>⟨F,ad,δ,_,S,q,fun x δ1 h1 v F1 aP H1 E1 S1 V1=>by
  obtain⟨d,h2,rd⟩:=km S1 V1 h1
  refine⟨v,.ty T,.type T,.type (cg d),_,rfl,rfl,Is.ty (rd.is S1.sub),hk d,k _ _ h2 _ _ _ _ E1 S1 rfl⟩⟩
theorem Bx {K:PySem.W.Frag}:∀ d:D,PySem.W.kitOne K (.type (cg d)) (.type "int")=some (aQ (cg d) "int"):=fun d=>NZ _ (uz d)
theorem vc {K:PySem.W.Frag}:∀ d:D,PySem.W.kitOne K (.type (cg d)) (.type "bool")=some (aQ (cg d) "bool"):=fun d=>NY _ (uz d)
theorem Hh {K:PySem.W.Frag}:∀ d:D,PySem.W.kitOne K (.type (cg d)) (.type "str")=some (aQ (cg d) "str"):=fun d=>N0 _ (uz d)
theorem ya {K:PySem.W.Frag}:∀ d:D,PySem.W.kitOne K (.type (cg d)) (.type "tuple")=some (aQ (cg d) "tuple"):=fun d=>kit_tuple _ (uz d)
theorem By {K:PySem.W.Frag}:∀ d:D,PySem.W.kitOne K (.type (cg d)) (.type "list")=some (aQ (cg d) "list"):=fun d=>N3 _ (uz d)
noncomputable def gD (x:DV) (δ : aw) (K:Nat->List D->Prop):Prop:=match x with
 | .o k=>match δ.mu[k]? with
  | some (some (.lst ds))=>K k ds
  | _=>False
 | _=>False
theorem q9 {F H:Hp} {ad:List Addr} {δ : aw} {σ : St} {x:DV} {v:V} {K:Nat->List D->Prop} (S:SR F ad δ σ H) (V1:gJ F ad x v) (h:gD x δ K):∃ k ds a vs,x = .o k/\K k ds/\v = .ref a/\ad[k]? = some a/\H a=some (.lst vs)/\af F ds vs /\ δ.mu[k]? = some (some (.lst ds)):=by
 unfold gD at h
 split at h
 ·rename_i k
  split at h
  ·rename_i ds e
   obtain⟨a,e1,rfl⟩:=V1
   obtain⟨a',o,e2,e3,vs,rfl,h4⟩:=S.mu k _ e
   rw[e1] at e2;cases e2
   exact⟨k,ds,a,vs,rfl,h,rfl,e1,e3,h4,e⟩
  ·exact h.elim
 ·exact h.elim
noncomputable def jT (f:WE) (fa:WA):WE:=fun δ K=>f δ fun x δ1=>gD x δ1 fun _ _=>fa δ1 fun ys δ2=>match ys with
 | [y]=>nA y δ2 fun d δ3=>gD x δ3 fun k ds=>ds.length < 1000/\K (.p .non) ⟨δ3.sl,δ3.mu.set k (some (.lst (ds ++ [d])))⟩
 | _=>False
theorem Bz {f:WE} {fa:WA} {K0:PySem.W.Frag}:∀ σ H Q,tD (jT f fa) σ H Q->j_ K0 "list" oF (tD f) (cX fa) σ H Q:=fun σ H Q h0_ => el7 h0_ fun F ad δ K S q k =>⟨F,ad,δ,_,S,q,fun x δ1 h1 v F1 aP H1 E1 S1 V1=>by
 obtain⟨k0,Hi,a,vs,rfl,h2,rfl,e1,e2,i1,m1⟩:=q9 S1 V1 h1
 refine⟨.inl ⟨rfl,vs,aU.of e2⟩,F1,aP,δ1,_,S1,h2,fun ys δ2 h3 us F2 bV H2 E2 S2 V2 => ?_⟩
 match ys,h3,V2 with
 | [y],g3,⟨u,r,e,W1,W2⟩ =>
  have W3:r=[]:=W2
  subst W3 e
  obtain⟨d,δ3,F3,h4,E3,S3,i3⟩:=uP S2 W1 g3
  obtain⟨k1,ds,b,ws,ek,h5,eb,e3,e4,i4,m4⟩:=q9 (x := .o k0) S3 ((V1.ext E2).ext E3) h4
  cases ek
  have vd:a=b:=by injection eb
  subst vd
  have oi:gf F3 (.lst (ds ++ [d])) (.lst (ws ++ [u])):=⟨_,rfl,i4.snoc i3⟩
  refine⟨a,ws,u,rfl,rfl,e4,ka (by rw[i4.length];omega),?_⟩
  exact k _ _ h5.2 _ _ _ _ (((E1.trans E2).trans E3).trans (Ext.put S3 m4 e3)) (S3.put m4 e3 oi) rfl
 | [],g3,_=>exact g3.elim
 | _ :: _ :: _,g3,_=>exact g3.elim⟩
noncomputable def q_ (f:WE) (fa:WA):WE:=fun δ K=>f δ fun x δ1=>gD x δ1 fun _ _=>fa δ1 fun ys δ2=>match ys with
 | [.p (.lst es)]=>gD x δ2 fun k ds=>ds.length + es.length <= 1000/\K (.p .non) ⟨δ2.sl,δ2.mu.set k (some (.lst (ds ++ es)))⟩
 | _=>False
theorem PU {f:WE} {fa:WA} {K0:PySem.W.Frag}:∀ σ H Q,tD (q_ f fa) σ H Q->j_ K0 "list" FH (tD f) (cX fa) σ H Q:=fun σ H Q h0_ => el7 h0_ fun F ad δ K S q k =>⟨F,ad,δ,_,S,q,fun x δ1 h1 v F1 aP H1 E1 S1 V1=>by
 obtain⟨k0,Hi,a,vs,rfl,h2,rfl,e1,e2,i1,m1⟩:=q9 S1 V1 h1
 refine⟨.inl ⟨rfl,vs,aU.of e2⟩,F1,aP,δ1,_,S1,h2,fun ys δ2 h3 us F2 bV H2 E2 S2 V2 => ?_⟩
 split at h3
 ·rename_i es
  obtain⟨u,r,e,W1,W2⟩:=V2
  have W3:r=[]:=W2
  have W4:Is F2 (.lst es) u:=W1
  simp only[Is] at W4
  obtain⟨b,zs,rfl,z1,z2⟩:=W4
  subst W3 e
  obtain⟨k1,ds,b',ws,ek,h5,eb,e3,e4,i4,m4⟩:=q9 (x := .o k0) S2 (V1.ext E2) h3
  cases ek
  have vd:a=b':=by injection eb
  subst vd
  have oi:gf F2 (.lst (ds ++ es)) (.lst (ws ++ zs)):=⟨_,rfl,sM i4 z2⟩
  refine⟨a,b,ws,zs,rfl,rfl,e4,S2.sub _ _ z1,k9 (by rw[i4.length,z2.length];exact h5.1),?_⟩
  exact k _ _ h5.2 _ _ _ _ ((E1.trans E2).trans (Ext.put S2 m4 e3)) (S2.put m4 e3 oi) rfl
 ·exact h3.elim⟩
noncomputable def BA (f:WE) (fa:WA):WE:=fun δ K=>f δ fun x δ1=>gD x δ1 fun _ _=>fa δ1 fun ys δ2=>match ys with
 | [.p (.int i)]=>gD x δ2 fun k ds=>(-(2 ^ 63) <= i/\i < 2 ^ 63)/\match seqIndex? i ds.length with
  | some j=>match ds[j]? with
   | some d=>K (.p d) ⟨δ2.sl,δ2.mu.set k (some (.lst (ds.eraseIdx j)))⟩
   | none=>False
  | none=>False
 | _=>False
theorem PV {f:WE} {fa:WA} {K0:PySem.W.Frag}:∀ σ H Q,tD (BA f fa) σ H Q->j_ K0 "list" FI (tD f) (cX fa) σ H Q:=fun σ H Q h0_ => el7 h0_ fun F ad δ K S q k =>⟨F,ad,δ,_,S,q,fun x δ1 h1 v F1 aP H1 E1 S1 V1=>by
 obtain⟨k0,Hi,a,vs,rfl,h2,rfl,e1,e2,i1,m1⟩:=q9 S1 V1 h1
 refine⟨.inl ⟨rfl,vs,aU.of e2⟩,F1,aP,δ1,_,S1,h2,fun ys δ2 h3 us F2 bV H2 E2 S2 V2 => ?_⟩
 split at h3
 ·rename_i i
  obtain⟨u,r,e,W1,W2⟩:=V2
  have W3:r=[]:=W2
  have W4:u = .int i:=W1
  subst W3 W4 e
  obtain⟨k1,ds,b',ws,ek,⟨h5,h6⟩,eb,e3,e4,i4,m4⟩:=q9 (x := .o k0) S2 (V1.ext E2) h3
  cases ek
  have vd:a=b':=by injection eb
  subst vd
  split at h6
  ·rename_i j hj
   split at h6
   ·rename_i d hd
    obtain⟨w,g1,g2⟩:=oT i4 hd
    have oi:gf F2 (.lst (ds.eraseIdx j)) (.lst (ws.eraseIdx j)):=⟨_,rfl,G5 j i4⟩
    refine⟨a,ws,i,j,w,rfl,rfl,e4,h5.1,h5.2,by rw[i4.length];exact hj,g1,?_⟩
    exact k _ _ h6 _ _ _ _ ((E1.trans E2).trans (Ext.put S2 m4 e3)) (S2.put m4 e3 oi) g2
   ·exact h6.elim
  ·exact h6.elim
 ·exact h3.elim⟩
noncomputable def rh (f fo fi:WE):WS:=fun K δ => f δ fun x δ1=>fo δ1 fun o δ2=>fi δ2 fun i δ3=>nA x δ3 fun d δ4=>gD o δ4 fun k ds=>match i with
 | .p (.int j)=>match jk ds.length j with
  | some m=>K.nx ⟨δ4.sl,δ4.mu.set k (some (.lst (ds.set m d)))⟩
  | none=>False
 | _=>False
theorem yb {f fo fi:WE}:∀ D σ H,dX (rh f fo fi) D σ H->fU (tD f) (pZ (tD fo) (tD fi) FA) D σ H:=fun D σ H h0_ => el7 h0_ fun F ad δ K S q k =>⟨F,ad,δ,_,S,q,fun x δ1 h1 v F1 aP H1 E1 S1 V1=>⟨F1,aP,δ1,_,S1,h1,fun o δ2 h2 ov F2 bV H2 E2 S2 V2=>⟨F2,bV,δ2,_,S2,h2,fun i δ3 h3 iv F3 oP H3 E3 S3 V3=>by
 obtain⟨d,δ4,F4,h4,E4,S4,i4⟩:=uP S3 ((V1.ext E2).ext E3) h3
 obtain⟨k0,ds,a,vs,rfl,h5,rfl,e1,e2,i1,m1⟩:=q9 S4 ((V2.ext E3).ext E4) h4
 split at h5
 ·rename_i j
  split at h5
  ·rename_i m hm
   have V3:iv = .int j:=V3
   subst V3
   have oi:gf F4 (.lst (ds.set m d)) (.lst (vs.set m v)):=⟨_,rfl,G4 m i1 i4⟩
   refine⟨a,vs,j,m,rfl,rfl,e2,by rw[i1.length];exact hm,?_⟩
   exact k.nx _ h5 _ _ _ _ ((((E1.trans E2).trans E3).trans E4).trans (Ext.put S4 m1 e1)) (S4.put m1 e1 oi)
  ·exact h5.elim
 ·exact h5.elim⟩⟩⟩
noncomputable def rV:D->Bool
 | .lst _=>true
 | _=>false
end
end L2
namespace L2
open PySem PySem.Spec PyProof.Rows PySem.W
noncomputable abbrev LK:=List Int
noncomputable def kle (a b:LK):Prop:=HT.lexLt b a=false
theorem yc:∀ a:LK,HT.lexLt a a=false
 | []=>rfl
 | x :: r=>by rw[HT.m_,XI rfl];exact yc r
theorem yd:∀ {a b:LK},HT.lexLt a b=false->HT.lexLt b a=false->a=b
 | [],[],_,_=>rfl
 | [],_ :: _,h,_=>by cases h
 | _ :: _,[],_,h=>by cases h
 | x :: r,y :: s,h,q=>by
  rw[HT.m_] at h q
  by_cases c:x=y
  ·subst c
   rw[XI rfl] at h q
   rw[yd h q]
  ·rw[Nj c] at h
   rw[Nj (fun z=>c z.symm)] at q
   simp at h q;omega
theorem BB:∀ {a b c:LK},HT.lexLt a b=true->HT.lexLt b c=true->HT.lexLt a c=true
 | [],[],_,h,_=>by cases h
 | [],_ :: _,[],_,q=>by cases q
 | [],_ :: _,_ :: _,_,_=>rfl
 | _ :: _,[],_,h,_=>by cases h
 | _ :: _,_ :: _,[],_,q=>by cases q
 | x :: r,y :: s,z :: t,h,q=>by
  rw[HT.m_] at h q ⊢
  by_cases c1:x=y
  ·subst c1
   rw[XI rfl] at h
   by_cases c2:x=z
   ·subst c2
    rw[XI rfl] at q ⊢
    exact BB h q
   ·rw[Nj c2] at q ⊢;exact q
  ·rw[Nj c1] at h
   by_cases c2:y=z
   ·subst c2
    rw[Nj c1];exact h
   ·rw[Nj c2] at q
    have h1:x < y:=by simpa using h
    have h2:y < z:=by simpa using q
    rw[Nj (by omega)]
    simp;omega
theorem kle_refl (a:LK):kle a a:=yc a
theorem sR {a b:LK} (h:HT.lexLt a b=true):kle a b:=by
 unfold kle
 cases q:HT.lexLt b a with
 | false=>rfl
 | true=>have:=BB h q;rw[yc] at this;cases this
theorem kle_trans {a b c:LK} (h1:kle a b) (h2:kle b c):kle a c:=by
 unfold kle at *
 cases q:HT.lexLt c a with
 | false=>rfl
 | true =>
  cases q2:HT.lexLt a b with
  | true=>have:=BB q q2;rw[h2] at this;cases this
  | false =>
   have e:=yd q2 h1
   subst e;rw[h2] at q;cases q
theorem Hj {a b:LK} (h1:kle a b) (h2:kle b a):a=b:=yd h2 h1
section
variable {n:Nat} {k:Nat->LK} {I:Shared->Prop} {cmp:Nat->Nat->(Bool->Shared->Prop)->Shared->Prop}
noncomputable def oY (n:Nat) (k:Nat->LK) (I:Shared->Prop) (cmp:Nat->Nat->(Bool->Shared->Prop)->Shared->Prop):Prop :=
 ∀ (i j:Nat) (C:Bool->Shared->Prop) (s:Shared),i < n->j < n->I s->(∀ s',I s'->C (HT.lexLt (k i) (k j)) s')->cmp i j C s
noncomputable def KA (k:Nat->LK) (p:Array Nat) (i:Nat):LK:=k (p.getD i 0)
structure dB (n:Nat) (p:Array Nat):Prop where
 perm:p.Perm (List.range n).toArray
theorem dB.size {p:Array Nat} (h:dB n p):p.size=n:=by have:=h.perm.size_eq;simpa using this
theorem dB.lt {p:Array Nat} (h:dB n p) {i:Nat} (hi:i < n):p.getD i 0 < n:=by
 have hs:=h.size
 have e:p.getD i 0=p[i]:=by simp[Array.getD,hs,hi]
 rw[e]
 have:p[i]∈(List.range n).toArray:=(h.perm.mem_iff).mp (Array.getElem_mem _)
 simpa using this
theorem vf {p q:Array Nat} {i j:Nat} (h:p[i]? = q[j]?):p.getD i 0=q.getD j 0:=by
 rw[YW,YW,h]
theorem ye {p:Array Nat} {i j:Nat} (hj:j <= p.size) (t:Nat):KA k (kas_rev p i j) t=if i <= t/\t < j then KA k p (i + j - 1 - t) else KA k p t:=by
 have e:=getElem?_mirror_all (xs:=p) (i:=i) hj t
 unfold KA kas_rev
 by_cases c:i <= t/\t < j
 ·rw[XI c] at e ⊢;rw[vf e]
 ·rw[Nj c] at e ⊢;rw[vf e]
theorem PX {p:Array Nat} {src d:Nat} (hs:src < p.size) (hd:d <= src) (t:Nat) :
  KA k (bubble p src d) t=if t=src - d then KA k p src else if src - d < t/\t <= src then KA k p (t - 1) else KA k p t:=by
 have e:=getElem?_bubble hs d hd t
 unfold KA
 by_cases c:t=src - d
 ·rw[XI c] at e ⊢;rw[vf e]
 ·rw[Nj c] at e ⊢
  by_cases c2:src - d < t/\t <= src
  ·rw[XI c2] at e ⊢;rw[vf e]
  ·rw[Nj c2] at e ⊢;rw[vf e]
noncomputable def Up (k:Nat->LK) (p:Array Nat) (m:Nat):Prop:=∀ i j,i <= j->j < m->kle (KA k p i) (KA k p j)
noncomputable def Dn (k:Nat->LK) (p:Array Nat) (m:Nat):Prop:=∀ i j,i <= j->j < m->kle (KA k p j) (KA k p i)
theorem Up.snoc {p:Array Nat} {m:Nat} (h:Up k p m) (hm:1 <= m) (q:kle (KA k p (m - 1)) (KA k p m)):Up k p (m + 1):=fun i j jU hj=>by
 by_cases c:j < m
 ·exact h i j jU c
 ·have e:j=m:=by omega
  subst e
  by_cases c2:i=j
  ·subst c2;exact kle_refl _
  ·exact kle_trans (h i (j - 1) (by omega) (by omega)) q
theorem Dn.snoc {p:Array Nat} {m:Nat} (h:Dn k p m) (hm:1 <= m) (q:kle (KA k p m) (KA k p (m - 1))):Dn k p (m + 1):=fun i j jU hj=>by
 by_cases c:j < m
 ·exact h i j jU c
 ·have e:j=m:=by omega
  subst e
  by_cases c2:i=j
  ·subst c2;exact kle_refl _
  ·exact kle_trans q (h i (j - 1) (by omega) (by omega))
theorem Up.one {p:Array Nat}:Up k p 1:=fun i j jU hj=>by
 have:i=j:=by omega
 subst this;exact kle_refl _
theorem Dn.one {p:Array Nat}:Dn k p 1:=fun i j jU hj=>by
 have:i=j:=by omega
 subst this;exact kle_refl _
theorem dB.rev {p:Array Nat} (h:dB n p) (i j:Nat):dB n (kas_rev p i j):=⟨(mirror_perm _ _ _ _).trans h.perm⟩
theorem dB.PY {p:Array Nat} (h:dB n p) (i j:Nat):dB n (bubble p i j):=⟨(bubble_perm _ _ _).trans h.perm⟩
theorem Hk (hc:oY n k I cmp) {p:Array Nat} (hp:dB n p):∀ (f m:Nat) (s:Shared) (Q:Nat->Shared->Prop),1 <= m->m + f=n->Up k p m->I s →
  (∀ m' s',m <= m'->m' <= n->Up k p m'->I s'->Q m' s')->(kas_asc p f m).kasWp cmp Q s
 | 0,m,s,Q,h1,h2,up,hi,fin=>fin m s (qq _) (by omega) up hi
 | f + 1,m,s,Q,h1,h2,up,hi,fin=>by
  show cmp _ _ _ s
  refine hc _ _ _ s (hp.lt (by omega)) (hp.lt (by omega)) hi fun s' bN => ?_
  cases q:HT.lexLt (k (p.getD m 0)) (k (p.getD (m - 1) 0)) with
  | true=>dsimp only;rw[XI rfl];exact fin m s' (qq _) (by omega) up bN
  | false =>
   dsimp only;rw[Nj Yo]
   exact Hk hc hp f (m + 1) s' Q (by omega) (by omega) (up.snoc h1 q) bN fun m' iT a b c d=>fin m' iT (by omega) b c d
noncomputable def BC (k:Nat->LK) (p:Array Nat) (m q:Nat):Prop:=∀ t,m - (q + 1) <= t->t < m->KA k p t=KA k p (m - 1)
theorem Hl {p:Array Nat} {m q:Nat} (hs:m <= p.size) (hq:q + 1 <= m) (e:BC k p m q) (t:Nat):KA k (kas_rev p (m - (q + 1)) m) t=KA k p t:=by
 rw[ye hs]
 split
 ·rename_i c
  rw[e _ (by omega) (by omega),e t c.1 c.2]
 ·rfl
theorem Dn.congr {p p':Array Nat} {m:Nat} (h:Dn k p m) (e:∀ t,KA k p' t=KA k p t):Dn k p' m:=fun i j a b=>by rw[e,e];exact h i j a b
theorem yf (hc:oY n k I cmp):∀ (f:Nat) (p:Array Nat) (m q:Nat) (s:Shared) (Q:Array Nat × Nat × Nat->Shared->Prop),dB n p->1 <= m->m + f=n->q + 1 <= m->Dn k p m->BC k p m q->I s →
  (∀ p' m' q' s',dB n p'->m <= m'->m' <= n->q' + 1 <= m'->Dn k p' m'->BC k p' m' q'->I s'->Q (p',m',q') s')->(kas_desc f p m q).kasWp cmp Q s
 | 0,p,m,q,s,Q,hp,h1,h2,hq,dn,es,hi,fin=>fin p m q s hp (qq _) (by omega) hq dn es hi
 | f + 1,p,m,q,s,Q,hp,h1,h2,hq,dn,es,hi,fin=>by
  show cmp _ _ _ s
  refine hc _ _ _ s (hp.lt (by omega)) (hp.lt (by omega)) hi fun s' bN => ?_
  have sz:=hp.size
  cases c1:HT.lexLt (k (p.getD m 0)) (k (p.getD (m - 1) 0)) with
  | true =>
   dsimp only;rw[XI rfl]
   have st:kle (KA k p m) (KA k p (m - 1)):=sR c1
   by_cases Hm:q > 0
   ·rw[XI Hm]
    have e:=Hl (k:=k) (p:=p) (m:=m) (q:=q) (by omega) hq es
    refine yf hc f _ (m + 1) 0 s' Q (hp.rev _ _) (by omega) (by omega) (by omega) ((dn.snoc h1 st).congr e) (fun t a b => ?_) bN fun p' m' q' iT a b c d e g i=>fin p' m' q' iT a (by omega) c d e g i
    have:t=m + 1 - 1:=by omega
    rw[this]
   ·rw[Nj Hm]
    refine yf hc f p (m + 1) 0 s' Q hp (by omega) (by omega) (by omega) (dn.snoc h1 st) (fun t a b => ?_) bN fun p' m' q' iT a b c d e g i=>fin p' m' q' iT a (by omega) c d e g i
    have:t=m + 1 - 1:=by omega
    rw[this]
  | false =>
   dsimp only;rw[Nj Yo]
   show cmp _ _ _ s'
   refine hc _ _ _ s' (hp.lt (by omega)) (hp.lt (by omega)) bN fun s2 nu => ?_
   cases c2:HT.lexLt (k (p.getD (m - 1) 0)) (k (p.getD m 0)) with
   | true=>dsimp only;rw[XI rfl];exact fin p m q s2 hp (qq _) (by omega) hq dn es nu
   | false =>
    dsimp only;rw[Nj Yo]
    have eq:KA k p m=KA k p (m - 1):=yd c1 c2
    refine yf hc f p (m + 1) (q + 1) s2 Q hp (by omega) (by omega) (by omega) (dn.snoc h1 (by rw[eq];exact kle_refl _)) (fun t a b => ?_) nu fun p' m' q' iT a b c d e g i=>fin p' m' q' iT a (by omega) c d e g i
    show KA k p t=KA k p m
    by_cases z:t=m
    ·rw[z]
    ·rw[es t (by omega) (by omega),eq]
theorem Dn.rev {p:Array Nat} {m:Nat} (h:Dn k p m) (hs:m <= p.size):Up k (kas_rev p 0 m) m:=fun i j jU hj=>by
 rw[ye hs,ye hs,XI ⟨YK _,by omega⟩,XI ⟨YK _,hj⟩]
 exact h _ _ (by omega) (by omega)
theorem Hn (hc:oY n k I cmp) {p:Array Nat} (hp:dB n p) {m:Nat} {s:Shared} {Q:Nat × Array Nat->Shared->Prop} (h1:1 <= m) (hm:m <= n) (dn:Dn k p m) (hi:I s)
  (fin:∀ p' m' s',dB n p'->1 <= m'->m' <= n->Up k p' m'->I s'->Q (m',p') s'):(kas_tail3 m n p).kasWp cmp Q s:=by
 unfold kas_tail3
 rw[KasT.kasWp_bind]
 have sz:=hp.size
 refine Hk hc (hp.rev 0 m) (n - m) m s _ h1 (by omega) (dn.rev (by omega)) hi fun m' s' a b c d => ?_
 exact fin _ m' s' (hp.rev 0 m) (by omega) b c d
theorem Ho (hc:oY n k I cmp) {p:Array Nat} (hp:dB n p) {m:Nat} {s:Shared} {Q:Nat × Array Nat->Shared->Prop} (h1:1 <= m) (hm:m + 1 <= n) (dn:Dn k p (m + 1)) (hi:I s)
  (fin:∀ p' m' s',dB n p'->1 <= m'->m' <= n->Up k p' m'->I s'->Q (m',p') s'):(kas_descPart m n p).kasWp cmp Q s:=by
 unfold kas_descPart
 rw[KasT.kasWp_bind]
 refine yf hc (n - (m + 1)) p (m + 1) 0 s _ hp (by omega) (by omega) (by omega) dn (fun t a b => ?_) hi fun p' m' q' s' a b c d e g i => ?_
 ·have:t=m + 1 - 1:=by omega
  rw[this]
 ·have sz:=a.size
  dsimp only
  by_cases hq:q' > 0
  ·rw[XI hq]
   exact Hn hc (a.rev _ _) (by omega) c (e.congr (Hl (by omega) d g)) i fin
  ·rw[Nj hq]
   exact Hn hc a (by omega) c e i fin
theorem PZ (hc:oY n k I cmp) {p:Array Nat} (hp:dB n p) {s:Shared} {Q:Nat × Array Nat->Shared->Prop} (h1:1 <= n) (hi:I s)
  (fin:∀ p' m' s',dB n p'->1 <= m'->m' <= n->Up k p' m'->I s'->Q (m',p') s'):(kas_count n p).kasWp cmp Q s:=by
 unfold kas_count
 rw[KasT.kasWp_bind]
 have sz:=hp.size
 have key:∀ (f m:Nat) (s:Shared) (Q':Nat->Shared->Prop),1 <= m->m + f=n->Up k p m->I s →
   (∀ m' s',m <= m'->m' <= n->Up k p m'->(m' < n->HT.lexLt (KA k p m') (KA k p (m' - 1))=true)->I s'->Q' m' s')->(kas_asc p f m).kasWp cmp Q' s:=by
  intro f
  induction f with
  | zero=>intro m s Q' a b up hi fin;exact fin m s (qq _) (by omega) up (fun z=>absurd z (by omega)) hi
  | succ f ih =>
   intro m s Q' a b up hi fin
   show cmp _ _ _ s
   refine hc _ _ _ s (hp.lt (by omega)) (hp.lt (by omega)) hi fun s' bN => ?_
   cases q:HT.lexLt (k (p.getD m 0)) (k (p.getD (m - 1) 0)) with
   | true=>dsimp only;rw[XI rfl];exact fin m s' (qq _) (by omega) up (fun _=>q) bN
   | false =>
    dsimp only;rw[Nj Yo]
    exact ih (m + 1) s' Q' (by omega) (by omega) (up.snoc a q) bN fun m' iT a b c d e=>fin m' iT (by omega) b c d e
 refine key (n - 1) 1 s _ (qq _) (by omega) Up.one hi fun m s' a b up nx bN => ?_
 by_cases c1:m=n
 ·subst c1
  rw[XI (by simp)]
  exact fin p m s' hp a (qq _) up bN
 ·rw[Nj (by simpa using c1)]
  have cQ:m < n:=by omega
  have nx:=nx cQ
  by_cases c2:m > 1
  ·rw[XI c2]
   show cmp _ _ _ s'
   refine hc _ _ _ s' (hp.lt (by omega)) (hp.lt (by omega)) bN fun s2 nu => ?_
   cases q:HT.lexLt (k (p.getD 0 0)) (k (p.getD (m - 1) 0)) with
   | true=>dsimp only;rw[XI rfl];exact fin p m s2 hp a b up nu
   | false =>
    dsimp only;rw[Nj Yo]
    have al:∀ t,t < m->KA k p t=KA k p (m - 1):=fun t ht=>by
     refine Hj (up t (m - 1) (by omega) (by omega)) (kle_trans q (up 0 t (YK _) ht))
    have e:∀ t,KA k (kas_rev p 0 m) t=KA k p t:=fun t=>by
     rw[ye (by omega)]
     split
     ·rename_i c;rw[al _ (by omega),al t c.2]
     ·rfl
    refine Ho hc (hp.rev 0 m) (by omega) (by omega) (Dn.congr (p:=p) ?_ e) nu fin
    refine Dn.snoc (fun i j jU hj => ?_) (by omega) (sR nx)
    rw[al i (by omega),al j hj];exact kle_refl _
  ·rw[Nj c2]
   have:m=1:=by omega
   subst this
   exact Ho hc hp (by omega) (by omega) (Dn.one.snoc (qq _) (sR nx)) bN fin
theorem BE (hc:oY n k I cmp) {p:Array Nat} (hp:dB n p) {t:Nat} (ht:t < n) (up:Up k p t):∀ (f l r:Nat) (s:Shared) (Q:Nat->Shared->Prop),l <= r->r <= t->r - l <= f →
  (∀ i,i < l->kle (KA k p i) (KA k p t))->(∀ i,r <= i->i < t->kle (KA k p t) (KA k p i))->I s →
  (∀ l' s',l' <= t->(∀ i,i < l'->kle (KA k p i) (KA k p t))->(∀ i,l' <= i->i < t->kle (KA k p t) (KA k p i))->I s'->Q l' s')->(kas_place p t f l r).kasWp cmp Q s
 | 0,l,r,s,Q,h1,h2,h3,lo,sS,hi,fin=>by
  have:l=r:=by omega
  subst this
  exact fin l s h2 lo sS hi
 | f + 1,l,r,s,Q,h1,h2,h3,lo,sS,hi,fin=>by
  unfold kas_place
  by_cases c:l ≥ r
  ·rw[XI c]
   have:l=r:=by omega
   subst this
   exact fin l s h2 lo sS hi
  ·rw[Nj c]
   show cmp _ _ _ s
   refine hc _ _ _ s (hp.lt ht) (hp.lt (by omega)) hi fun s' bN => ?_
   cases q:HT.lexLt (k (p.getD t 0)) (k (p.getD ((l + r) / 2) 0)) with
   | true =>
    dsimp only;rw[XI rfl]
    refine BE hc hp ht up f l ((l + r) / 2) s' Q (by omega) (by omega) (by omega) lo (fun i a b => ?_) bN fin
    exact kle_trans (sR q) (up _ _ a b)
   | false =>
    dsimp only;rw[Nj Yo]
    refine BE hc hp ht up f ((l + r) / 2 + 1) r s' Q (by omega) h2 (by omega) (fun i a => ?_) sS bN fin
    exact kle_trans (up i ((l + r) / 2) (by omega) (by omega)) q
theorem Hq (hc:oY n k I cmp):∀ (f:Nat) (p:Array Nat) (t:Nat) (s:Shared) (Q:Array Nat->Shared->Prop),dB n p->t + f=n->Up k p t->I s →
  (∀ p' s',dB n p'->Up k p' n->I s'->Q p' s')->(kas_bin f p t).kasWp cmp Q s
 | 0,p,t,s,Q,hp,h2,up,hi,fin=>by
  have:t=n:=by omega
  subst this
  exact fin p s hp up hi
 | f + 1,p,t,s,Q,hp,h2,up,hi,fin=>by
  unfold kas_bin
  rw[KasT.kasWp_bind]
  have sz:=hp.size
  refine BE hc hp (by omega) up t 0 t s _ (YK _) (qq _) (by omega) (fun i a=>absurd a (by omega)) (fun i a b=>absurd b (by omega)) hi fun l s' hl lo sS bN => ?_
  refine Hq hc f _ (t + 1) s' Q (hp.PY _ _) (by omega) (fun i j jU hj => ?_) bN fin
  have kb:=fun x=>PX (k:=k) (p:=p) (src:=t) (d:=t - l) (by omega) (by omega) x
  have el:t - (t - l)=l:=by omega
  rw[kb i,kb j,el]
  by_cases c1:i=l
  ·subst c1
   rw[XI rfl]
   by_cases c2:j=i
   ·rw[XI c2];exact kle_refl _
   ·rw[Nj c2,XI ⟨by omega,by omega⟩]
    exact sS (j - 1) (by omega) (by omega)
  ·rw[Nj c1]
   by_cases c2:j=l
   ·subst c2
    rw[XI rfl,Nj (by omega)]
    exact lo i (by omega)
   ·rw[Nj c2]
    by_cases c3:l < i/\i <= t
    ·rw[XI c3,XI ⟨by omega,by omega⟩]
     exact up _ _ (by omega) (by omega)
    ·rw[Nj c3]
     by_cases c4:l < j/\j <= t
     ·rw[XI c4];exact up _ _ (by omega) (by omega)
     ·rw[Nj c4];exact up _ _ jU (by omega)
theorem P0 (hc:oY n k I cmp) {s:Shared} {Q:Array Nat->Shared->Prop} (h1:1 <= n) (hi:I s) (fin:∀ p s',dB n p->Up k p n->I s'->Q p s'):(kas_sort n).kasWp cmp Q s:=by
 unfold kas_sort
 rw[KasT.kasWp_bind]
 refine PZ hc ⟨Array.Perm.refl _⟩ h1 hi fun p m s' a b c d e => ?_
 dsimp only
 by_cases q:m < n
 ·rw[XI q]
  have:max m 1=m:=by omega
  rw[this]
  exact Hq hc (n - m) p m s' Q a (by omega) d e fin
 ·rw[Nj q]
  have:m=n:=by omega
  subst this
  exact fin p s' a d e
end
end L2
namespace L2
open PySem PySem.Spec PyProof.Rows
theorem Hr {δ0:aw} {bh:aw->Prop} {g:WG} {b:WS} {K:KS} (I:Nat->aw->Prop):∀ (items:List D) (i:Nat) (δ : aw),I i δ →
  (∀ j d δ (L:aw->Prop),items[j]? = some d->I (i + j) δ -> (∀ δ',I (i + j + 1) δ'->L δ')->bh δ /\ g (.p d) δ fun δ1=>b { nx:=fun δ2=>L (δ0.trim δ2),ct:=fun δ2=>L (δ0.trim δ2),bk:=K.nx,rt:=K.rt } δ1) →
  (∀ δ,I (i + items.length) δ -> bh δ /\ K.nx δ)->kr δ0 bh g b K items δ
 | [],i,δ,h,_,fin=>fin δ h
 | d :: r,i,δ,h,st,fin=>by
  unfold kr
  refine st 0 d δ (fun δ'=>kr δ0 bh g b K r δ') rfl h fun δ' hi => ?_
  refine Hr I r (i + 1) _ hi (fun j e δ L hj hI hL => ?_) fun δ hI => ?_
  ·have e:i + 1 + j=i + (j + 1):=by omega
   rw[e] at hI hL
   exact st (j + 1) _ δ L (by simpa using hj) hI hL
  ·exact fin δ (by rw[FL];have e:i + 1 + r.length=i + (r.length + 1):=by omega
                   rw[e] at hI;exact hI)
theorem oZ {δ0:aw} {bh:aw->Prop} {g:WG} {b:WS} {K:KS} {items:List D} {δ : aw} (I:Nat->aw->Prop) (h0:I 0 δ)
  (st:∀ j d δ (L:aw->Prop),items[j]? = some d->I j δ -> (∀ δ',I (j + 1) δ'->L δ')->bh δ /\ g (.p d) δ fun δ1=>b { nx:=fun δ2=>L (δ0.trim δ2),ct:=fun δ2=>L (δ0.trim δ2),bk:=K.nx,rt:=K.rt } δ1)
  (fin:∀ δ,I items.length δ -> bh δ /\ K.nx δ):kr δ0 bh g b K items δ :=
 Hr I items 0 δ h0 (fun j d δ L hj hI hL=>by rw[YY] at hI hL;exact st j d δ L hj hI hL) fun δ hI=>by rw[YY] at hI;exact fin δ hI
noncomputable def vg (δ0:aw) (bh:aw->Prop) (g:WG) (t:WT) (f:WE) (d:D) (acc:List D) (δ : aw) (L:List D->aw->Prop):Prop :=
 bh δ /\ g (.p d) δ fun δ1=>t δ1 fun b δ2=>if b=true then f δ2 fun x δ3=>nA x δ3 fun e δ4=>acc.length < 1000/\L (acc ++ [e]) (δ0.trim δ4) else L acc (δ0.trim δ2)
theorem Hs {δ0:aw} {bh:aw->Prop} {g:WG} {t:WT} {f:WE} {K:List D->aw->Prop} (I:Nat->List D->aw->Prop):∀ (items:List D) (i:Nat) (acc:List D) (δ : aw),I i acc δ →
  (∀ j d acc δ (L:List D->aw->Prop),items[j]? = some d->I (i + j) acc δ -> (∀ eS δ',I (i + j + 1) eS δ'->L eS δ')->vg δ0 bh g t f d acc δ L) →
  (∀ acc δ,I (i + items.length) acc δ -> bh δ /\ K acc δ)->jo δ0 bh g t f K items acc δ
 | [],i,acc,δ,h,_,fin=>fin acc δ h
 | d :: r,i,acc,δ,h,st,fin=>by
  unfold jo
  refine st 0 d acc δ (fun eS δ'=>jo δ0 bh g t f K r eS δ') rfl h fun eS δ' hi => ?_
  refine Hs I r (i + 1) eS _ hi (fun j e acc δ L hj hI hL => ?_) fun acc δ hI => ?_
  ·have e:i + 1 + j=i + (j + 1):=by omega
   rw[e] at hI hL
   exact st (j + 1) _ acc δ L (by simpa using hj) hI hL
  ·exact fin acc δ (by rw[FL];have e:i + 1 + r.length=i + (r.length + 1):=by omega
                       rw[e] at hI;exact hI)
theorem BF {δ0:aw} {bh:aw->Prop} {g:WG} {t:WT} {f:WE} {K:List D->aw->Prop} {items:List D} {δ : aw} (I:Nat->List D->aw->Prop) (h0:I 0 [] δ)
  (st:∀ j d acc δ (L:List D->aw->Prop),items[j]? = some d->I j acc δ -> (∀ eS δ',I (j + 1) eS δ'->L eS δ')->vg δ0 bh g t f d acc δ L)
  (fin:∀ acc δ,I items.length acc δ -> bh δ /\ K acc δ):jo δ0 bh g t f K items [] δ :=
 Hs I items 0 [] δ h0 (fun j d acc δ L hj hI hL=>by rw[YY] at hI hL;exact st j d acc δ L hj hI hL) fun acc δ hI=>by rw[YY] at hI;exact fin acc δ hI
theorem sT {δ0:aw} {bh:aw->Prop} {g:WG} {t:WT} {f:WE} {K:List D->aw->Prop} {items:List D} (p:D->Bool) (fn:D->D) (hl:items.length <= 1000) (hc:bh δ0)
  (st:∀ d∈items,∀ acc (L:List D->aw->Prop),acc.length < 1000->(p d=true->L (acc ++ [fn d]) δ0)->(p d=false->L acc δ0)->vg δ0 bh g t f d acc δ0 L)
  (fin:K ((items.filter p).map fn) δ0):jo δ0 bh g t f K items [] δ0:=by
 refine BF (fun i acc δ => δ = δ0/\acc=((items.take i).filter p).map fn) ⟨rfl,rfl⟩ ?_ ?_
 ·rintro j d acc δ L hj ⟨rfl,rfl⟩ hL
  have cQ:=(su.mp hj).1
  have hm:d∈items:=YO hj
  have hn:(((items.take j).filter p).map fn).length < 1000:=by
   rw[qp]
   have:=q02 p (items.take j)
   rw[YD] at this;omega
  have e:items.take (j + 1)=items.take j ++ [d]:=by rw[ZY,hj];rfl
  refine st d hm _ L hn (fun q=>hL _ _ ⟨rfl,?_⟩) (fun q=>hL _ _ ⟨rfl,?_⟩)
  ·rw[e,Z8,Yw];simp[List.filter,q]
  ·rw[e,Z8,Yw];simp[List.filter,q]
 ·rintro acc δ ⟨rfl,rfl⟩
  rw[YT (qq _)]
  exact⟨hc,fin⟩
theorem kB {δ0:aw} {bh:aw->Prop} {g:WG} {t:WT} {f:WE} {K:List D->aw->Prop} {items:List D} (fn:D->D) (hl:items.length <= 1000) (hc:bh δ0)
  (st:∀ d∈items,∀ acc (L:List D->aw->Prop),acc.length < 1000->L (acc ++ [fn d]) δ0->vg δ0 bh g t f d acc δ0 L)
  (fin:K (items.map fn) δ0):jo δ0 bh g t f K items [] δ0 :=
 sT (fun _=>true) fn hl hc (fun d hd acc L ha h _=>st d hd acc L ha (h rfl)) (by rw[List.filter_eq_self.mpr fun _ _=>rfl];exact fin)
end L2
namespace LJ
open PySem L2
theorem BG:bootBuiltins "range" = some (.type "range"):=by decide +kernel
theorem P5:bootBuiltins "max" = some (.builtin "max"):=by decide +kernel
theorem BH:bootBuiltins "min" = some (.builtin "min"):=by decide +kernel
theorem vh:bootBuiltins "sorted" = some (.builtin "sorted"):=by decide +kernel
structure BT (mg:Str->Option Value):Prop where
 len:mg "len" = none
 range:mg "range" = none
 list:mg "list" = none
 tuple:mg "tuple" = none
 set:mg "set" = none
 sorted:mg "sorted" = none
 min:mg "min" = none
 max:mg "max" = none
 sum:mg "sum" = none
 all:mg "all" = none
 any:mg "any" = none
 enumerate:mg "enumerate" = none
 zip:mg "zip" = none
 isinstance:mg "isinstance" = none
 int:mg "int" = none
 bool:mg "bool" = none
 str:mg "str" = none
end LJ
namespace L2
open PySem PySem.Spec PyProof.Rows
variable [aD]
section
variable {X:Cx} {fa:WA} {pos:Pos}
theorem Ht {F H:Hp} {ad:List Addr} {δ : aw} {σ : St} {p:Addr} (S:SR F ad δ σ H):gJ F (ad ++ [p]) (.o δ.mu.length) (.ref p) :=
 ⟨p,by rw[<-S.cj,Yi (qq _),YZ];rfl,rfl⟩
noncomputable def BI (fa:WA):WE:=fun δ K=>fa δ fun xs δ1=>match xs with
 | [.p (.int j)]=>(0 <= j/\j <= 1000)/\K (.o δ1.mu.length) ⟨δ1.sl,δ1.mu ++ [some (.lst (cu 0 j.toNat))]⟩
 | _=>False
theorem P6 {a:Expr} {p1 p2 q1 q2:Pos} (hc:X.calm=true) (qV:Gl X "list") (hl:X.mg "list" = none) (qW:bootBuiltins "list" = some (.type "list")) (qX:Gl X "range") (hr:X.mg "range" = none) (qY:bootBuiltins "range" = some (.type "range")) (ha:JA X [a] (cX fa))
  (he:starEach [a] X.env=[(false,eval a X.env)]:=by rfl) (qZ:starEach [.Call (.Name "range" p2) [a] [] q2] X.env=[(false,eval (.Call (.Name "range" p2) [a] [] q2) X.env)]:=by rfl):JE X (.Call (.Name "list" p1) [.Call (.Name "range" p2) [a] [] q2] [] q1) (tD (BI fa)) :=
 (nv (Gu hc) qV hl qW (iW (nv Gr qX hr qY ha (he:=he)) aV) (he:=qZ)).weak fun σ H Q h0_ => el7 h0_ fun F ad δ K S q k =>⟨F,ad,δ,_,S,q,fun xs δ1 h1 vs F1 aP H1 E1 S1 V1=>by
  split at h1
  ·rename_i j
   obtain⟨v,r,e,W1,W2⟩:=V1
   have W2:r=[]:=W2
   have W1:v = .int j:=W1
   subst W2 W1 e
   refine⟨j,rfl,fun rr Bw=>⟨rr,j.toNat,rfl,by rw[bz,Int.toNat_of_nonneg h1.1.1],by omega,fun l hl => ?_⟩⟩
   have s1:ax H1 (upd H1 rr (.rng 0 j)):=cW Bw
   have S2:=S1.al s1
   have E2:=Ext.al S1 s1
   have oi:gf (Nw F1 H1 (upd H1 rr (.rng 0 j))) (.lst (cu 0 j.toNat)) (.lst ((ba j.toNat).map V.int)):=⟨_,rfl,by rw[sQ];exact qO⟩
   exact k _ _ h1.2 _ _ _ _ ((E1.trans E2).trans (Ext.own S2 hl)) (S2.own hl oi) (Ht S2)
  ·exact h1.elim⟩
noncomputable def BJ (f g:WE):WE:=fun δ K=>f δ fun x δ1=>g δ1 fun y δ2=>ib x δ2 fun d=>ib y δ2 fun e=>match d,e with
 | .lst a,.lst b=>a.length + b.length <= 1000/\K (.o δ2.mu.length) ⟨δ2.sl,δ2.mu ++ [some (.lst (a ++ b))]⟩
 | _,_=>False
theorem P7 {a b:Expr} {f g:WE} (ha:JE X a (tD f)) (hb:JE X b (tD g)):JE X (.BinOp a .Add b pos) (tD (BJ f g)) :=
 (uG FJ ha hb).weak fun σ H Q h0_ => el7 h0_ fun F ad δ K S q k =>⟨F,ad,δ,_,S,q,fun x δ1 h1 v1 F1 aP H1 E1 S1 V1=>⟨F1,aP,δ1,_,S1,h1,fun y δ2 h2 v2 F2 bV H2 E2 S2 V2=>by
  obtain⟨d,h3,rd⟩:=km S2 (V1.ext E2) h2
  obtain⟨e,h4,re⟩:=km S2 V2 h3
  split at h4
  ·rename_i as bs
   obtain⟨a,us,rfl,g1,g2⟩:=rd
   obtain⟨b,ws,rfl,g3,g4⟩:=re
   have oi:gf F2 (.lst (as ++ bs)) (.lst (us ++ ws)):=⟨_,rfl,sM g2 g4⟩
   exact⟨a,b,us,ws,rfl,rfl,g1,g3,k9 (by rw[g2.length,g4.length];exact h4.1),fun p hp=>k _ _ h4.2 _ _ _ _ ((E1.trans E2).trans (Ext.own S2 hp)) (S2.own hp oi) (Ht S2)⟩
  ·exact h4.elim⟩⟩
theorem BK {st:Stmt}:JS X st (dX uS):=⟨fun pins s D σ H I q=>by obtain⟨F,ad,δ,K,S,q,k⟩:=q;exact q.elim⟩
end
end L2
namespace LJS
open PySem PySem.SetTable PyProof.Rows
section
variable {prog:Program} {w:World} {A:Around} {S:Addr} {ks:List Int}
theorem jr:∀ {l:List (Int × Value)},(∀ e∈l,∃ k tk,e=(hashInt k,Value.int k tk))->IntsAre (l.map (·.2)) (l.map keyOf)
 | [],_ => .nil
 | e :: r,h=>by
  obtain⟨k,tk,rfl⟩:=h e FN
  exact .cons k tk (jr fun e he=>h e (My _ he))
theorem P8 {E:Value->Shared->Prop} {s:Shared} {Q:Value->Shared->Prop} (hh:A.handled=none) (hS:eR s.heap S (ik w) ks) (hn:ks.length < 64)
  (h:∀ (h':Heap) (tk:Nat) (r:Addr) (out:Array Value) (eN:List Int) (e:Nat),(∀ b ob,s.heap.get? b=some ob->h'.get? b=some ob)->s.heap.objs.size <= r->h'.get? r=some (seqObj "list" out e)->IntsAre out.toList eN->eN.Perm ks->eN.Pairwise (· <= ·)->Q (.ref r) { s with heap:=h',toks:=tk }) :
  wpAny (model prog w) A (call (.builtin "sorted") [.ref S]) Q E s:=by
 obtain⟨o,es,ep,t,ho,hex,hd,T⟩:=hS
 have hsz:=T.num
 have lS:S < s.heap.objs.size:=Ng ho
 refine Calls.call_function_entry kind_sorted plain_sorted entry_sorted (args_sorted1 _) ?_
 unfold Builtin.«sorted»
 refine nq (m:=checkCount "sorted" 1 1 _) (xa ?_)
 refine nq (K6 (by simp[hh]) ho hex hd T (by omega) fun h1 k7 sE le => ?_)
 have allI:∀ e∈(hZ w S ep es).toList,∃ k tk,e=(hashInt k,Value.int k tk):=fun e he=>T.wK e ((zE w S ep es).mem_iff.mp he)
 have hI:IntsAre ((hZ w S ep es).toList.map (·.2)) ((hZ w S ep es).toList.map keyOf):=jr allI
 have hP:((hZ w S ep es).toList.map keyOf).Perm ks:=((zE w S ep es).map keyOf).trans T.keys
 have hL:((hZ w S ep es).toList.map (·.2)).length=ks.length:=by rw[qp,FO,wM,hsz]
 generalize (hZ w S ep es).toList.map (·.2)=vs at hI hL ⊢
 generalize (hZ w S ep es).toList.map keyOf=ns at hI hP
 refine nq (q1G ?_)
 have oy:(h1.push (seqObj "list" vs.toArray 0)).get? h1.objs.size=some (seqObj "list" vs.toArray 0):=XJ _ rfl
 refine nq (YE (Zr (s:={ s with heap:=h1.push (seqObj "list" vs.toArray 0),toks:=k7 }) slot_list_sort ⟨_,oy,rfl⟩ entry_list_sort (list_sort_tree oy hI (by omega) fun out eN a1 a2 a3=>⟨_,rfl,?_⟩) (args_list_sort _)))
 obtain⟨e,he⟩:=sortedHeap_at (out:=out) oy
 refine xa ⟨_,rfl,h _ _ _ out eN e (fun b ob eb => ?_) le he a1 (a2.trans hP) a3⟩
 have hb:b < h1.objs.size:=Ng (sE b ob eb)
 show (sortedHeap (h1.push (seqObj "list" vs.toArray 0)) h1.objs.size vs out).get? b=some ob
 rw[sortedHeap_old (XN hb) (by rw[size_push'];exact YR hb)]
 exact ue _ (sE b ob eb)
end
end LJS
namespace L2
open PySem PySem.Spec PyProof.Rows
noncomputable def vi (led:Bool) (S:Addr) (ks:List Int):HO := .ext fun h=>LJS.eR h S led ks
theorem P9 {P:Program} {w:World} {H:Hp} {h:Heap} {S:Addr} {led:Bool} {ks:List Int} (e:LJS.eR h S led ks):aF P w H h S (vi led S ks) :=
 ⟨e,let ⟨o,_,_,_,ho,_⟩:=e; ⟨o,ho⟩,fun h1 h2 e1 k=>LJS.zu e1 fun o eo=>k o eo⟩
noncomputable def ju (ns:List Int):List Int:=LJS.j5 ns ns.length
section
variable {X:Cx}
theorem P_ (hc:X.calm=true):gx X (.type "set") (fun xs H Q=>∃ (l:Addr) (ns:List Int),xs=[.ref l]/\aU X.K H l (ns.map V.int)/\ns.length <= 40/\∀ p,H p=none->Q (.ref p) (upd H p (vi (LJS.ik X.w) p (ju ns)))):=by
 intro pins s σ H xs us Q I r h
 obtain⟨l,ns,rfl,hq,ED,q⟩:=h
 obtain⟨u,rfl,rx⟩:=vals1 r
 cases rx
 obtain⟨ag,r',pl,_⟩:=I.list hq
 have hl:=r'.length
 rw[qp] at hl
 refine LJS.KN ns (I.ok.hd hc) pl.isList (fun i v hv => ?_) (by rw[xb];omega) fun h' tk se kp => ?_
 ·rw[q0r] at hv
  have hi:=(su.mp hv).1
  obtain⟨x,hx,rv⟩:=u4 r' (j:=i) (by rw[xb];exact hi)
  rw[show ag.toArray[i]'(by rw[xb];exact hi)=v by simpa using (su.mp hv).2] at rv
  rw[Ni] at hx
  obtain⟨n,hn,rfl⟩:=XM.mp hx
  obtain⟨t,rfl⟩:=rv
  rw[FP,hn]
  exact⟨t,rfl⟩
 ·have BL:LJS.eR h' s.heap.objs.size (LJS.ik X.w) (ju ns):=by
   have e:ag.toArray.size=ns.length:=by rw[xb];omega
   rw[e] at se;exact se
  exact⟨.ref s.heap.objs.size,upd H s.heap.objs.size (vi (LJS.ik X.w) s.heap.objs.size (ju ns)),I.laid (t':=tk) (fun b o e=>kp b o (Ng e) e) (qq _) (P9 BL),rfl,q _ (I.aK.fresh (qq _))⟩
theorem Qa (hc:X.calm=true):gx X (.builtin "sorted") (fun xs H Q=>∃ (p:Addr) (ks:List Int),xs=[.ref p]/\H p=some (vi (LJS.ik X.w) p ks)/\ks.length < 64/\∀ (r:Addr) (eN:List Int),eN.Perm ks->eN.Pairwise (· <= ·)->H r=none->Q (.ref r) (upd H r (.lst (eN.map V.int)))):=by
 intro pins s σ H xs us Q I r h
 obtain⟨p,ks,rfl,hp,hn,q⟩:=h
 obtain⟨u,rfl,rx⟩:=vals1 r
 cases rx
 obtain⟨se,_⟩:=I.aK p _ hp
 refine LJS.P8 (I.ok.hd hc) se hn fun h' tk r out eN e kp le he hI pm pw => ?_
 refine⟨.ref r,_,I.laid (t':=tk) (o := .lst (eN.map V.int)) kp le ?_,rfl,q _ eN pm pw (I.aK.fresh le)⟩
 refine⟨Zp (ka (by rw[qp,pm.length_eq];omega)),out.toList,e,A6 hI,?_⟩
 simpa [seqObj] using he
end
end L2
namespace LJS
open PySem PySem.SetTable PyProof.Rows
noncomputable def gE (m:Nat) (p:Probe):Probe :=
 if p.more > 0 then { p with j:=p.j + 1,more:=p.more - 1 } else
 { p with j:=(leap m p.i p.perturb).1,more:=runEnd m (leap m p.i p.perturb).1 - (leap m p.i p.perturb).1,i:=(leap m p.i p.perturb).1,perturb:=(leap m p.i p.perturb).2 }
theorem Hu (t:SetTable) (p:Probe):t.advance p=gE t.mask p:=rfl
noncomputable def bP (m:Nat):Nat->Probe->Probe
 | 0,p=>p
 | k + 1,p=>bP m k (gE m p)
theorem yg (m:Nat):∀ (a b:Nat) (p:Probe),bP m (a + b) p=bP m b (bP m a p)
 | 0,b,p=>by rw[YY];rfl
 | a + 1,b,p=>by rw[show a + 1 + b=a + b + 1 by omega];exact yg m a b (gE m p)
noncomputable def stM (m i q:Nat):Probe:=⟨i,runEnd m i - i,i,q,none⟩
noncomputable def startM (m:Nat) (h:Int):Probe:=stM m (bits h % (m + 1)) (bits h)
theorem BM (m:Nat):∀ (l:Nat) (p:Probe),l <= p.more->bP m l p={ p with j:=p.j + l,more:=p.more - l }
 | 0,p,_=>rfl
 | l + 1,p,h=>by
  show bP m l (gE m p)=_
  have e:gE m p={ p with j:=p.j + 1,more:=p.more - 1 }:=by unfold gE;rw[XI (by omega)]
  rw[e,BM m l _ (by show l <= p.more - 1;omega)]
  congr 1<;>(dsimp only;omega)
theorem Hv (m i q:Nat):bP m (runEnd m i - i + 1) (stM m i q)=stM m (leap m i q).1 (leap m i q).2:=by
 rw[yg m (runEnd m i - i) 1,BM m (runEnd m i - i) (stM m i q) (qq _)]
 show gE m _=_
 unfold gE
 rw[Nj (by show ¬ (runEnd m i - i - (runEnd m i - i) > 0);omega)]
 rfl
theorem Hw {m i:Nat} (h:i <= m):runEnd m i <= m/\i <= runEnd m i:=by unfold runEnd;split<;>omega
noncomputable def o5 (m:Nat) (p:Probe):Prop:=p.j + p.more <= m
theorem Qb {m:Nat} {p:Probe} (h:o5 m p):o5 m (gE m p):=by
 unfold gE o5
 split
 ·rename_i c;have:p.j + p.more <= m:=h;dsimp only;omega
 ·have:=Hw (Ed m p.i p.perturb)
  dsimp only;omega
theorem Hx {m:Nat}:∀ (k:Nat) {p:Probe},o5 m p->o5 m (bP m k p)
 | 0,_,h=>h
 | k + 1,_,h=>Hx k (Qb h)
theorem Qc (m:Nat) (h:Int):o5 m (startM m h):=by
 have h0:bits h % (m + 1) <= m:=q0s (Nat.mod_lt _ (q1k _))
 have:=Hw h0
 unfold startM stM o5
 dsimp only;omega
theorem Hy (m:Nat) (h:Int) (k:Nat):(bP m k (startM m h)).j <= m:=by
 have:=Hx k (Qc m h)
 unfold o5 at this;omega
noncomputable def o6 (m:Nat) (yh:Nat->Prop) (h:Int) (j:Nat):Prop:=∃ k,k < 10 * turns m/\(bP m k (startM m h)).j=j/\∀ l,l < k->yh (bP m l (startM m h)).j
theorem o6.mono {m:Nat} {yh vj:Nat->Prop} {h:Int} {j:Nat} (r:o6 m yh h j) (k:∀ x,x <= m->yh x->vj x):o6 m vj h j:=by
 obtain⟨n,h1,h2,h3⟩:=r
 exact⟨n,h1,h2,fun l hl=>k _ (Hy m h l) (h3 l hl)⟩
theorem Hz {m:Nat} {owner:Array (Option Nat)}:∀ (F i q j:Nat),layClean.free m owner F i q=some j->∃ k,k < 10 * F/\(bP m k (stM m i q)).j=j/\∀ l,l < k->(owner.getD (bP m l (stM m i q)).j (some 0)).isSome=true
 | 0,i,q,j,h=>by unfold layClean.free at h;cases h
 | F + 1,i,q,j,h=>by
  rw[ze] at h
  have r9:=Eh m i
  have ri:i <= runEnd m i:=by unfold runEnd;split<;>omega
  have lr:∀ l,l <= runEnd m i - i->(bP m l (stM m i q)).j=i + l:=fun l hl=>by rw[BM m l _ hl];rfl
  split at h
  ·rename_i k0 hk
   cases h
   have h1:=q0F hk
   have h2:=Yr.mp (q0z hk)
   refine⟨k0,by omega,lr k0 (by omega),fun l hl => ?_⟩
   rw[lr l (by omega)]
   have h3:∀ l,l < k0->¬ (owner.getD (i + l) (some 0)).isNone=true:=by
    intro l hl hn
    obtain⟨as,bs,e,hb⟩:=List.find?_eq_some_iff_append.mp hk |>.2
    have hlen:as.length=k0:=by
     have:=congrArg (fun x=>x[as.length]?) e
     simp at this
     have h5:as.length < runEnd m i + 1 - i:=by
      have:=congrArg List.length e
      simp at this;omega
     rw[Ze h5] at this
     exact YA this
    have:l∈as:=by
     have h6:=congrArg (fun x=>x[l]?) e
     simp only[XO (show l < as.length by omega)] at h6
     rw[Ze (by omega)] at h6
     exact YO h6.symm
    have:=hb l this
    rw[hn] at this
    exact absurd this (by decide)
   have:=h3 l hl
   cases q:owner.getD (i + l) (some 0) with
   | none=>rw[q] at this;exact absurd rfl this
   | some _=>rfl
  ·rename_i hk
   have h1:=q0H.mp hk
   obtain⟨k,XY,Qd,Qe⟩:=Hz F _ _ j h
   refine⟨runEnd m i - i + 1 + k,by omega,by rw[yg,Hv];exact Qd,fun l hl => ?_⟩
   by_cases c:l <= runEnd m i - i
   ·rw[lr l c]
    have:=h1 l (Yr.mpr (by omega))
    cases q:owner.getD (i + l) (some 0) with
    | none=>rw[q] at this;exact absurd rfl this
    | some _=>rfl
   ·have:=Qe (l - (runEnd m i - i + 1)) (by omega)
    rw[show l=runEnd m i - i + 1 + (l - (runEnd m i - i + 1)) by omega,yg,Hv]
    exact this
section
variable {t:SetTable} {f:Nat->Int} {h:Int}
theorem HA (u:Up t.place) {i:Nat} (hi:i < t.place.size):t.slot t.place[i] = .live i:=by
 obtain⟨h0,h1,h2⟩:=rU u t.place[i]
 have a:¬ i < below t.place t.place[i]:=fun z=>by have:=h1 i hi z;omega
 have b:¬ below t.place t.place[i] < i:=fun z=>by
  have:=h2 (below t.place t.place[i]) (by omega) (qq _)
  have:=u.lt z hi
  omega
 have eb:below t.place t.place[i]=i:=by omega
 unfold slot
 rw[eb]
 have:(t.place[i]? == some t.place[i])=true:=by rw[XH hi];simp
 simp only[this,Z9]
theorem HB (hd:t.dummies = #[]):∀ (F:Nat) (p:Probe) (j:Nat) (d:Option Nat),probe.go t f h F p=some (.empty j d)->∃ k,k < F/\(bP t.mask k p).j=j/\∀ l,l < k->(bP t.mask l p).j∈t.place.toList
 | 0,p,j,d,e=>by unfold probe.go at e;cases e
 | F + 1,p,j,d,e=>by
  rw[pG] at e
  rcases tF hd p.j with q | ⟨i,q,hi,hm⟩
  ·rw[q] at e
   cases e
   exact⟨0,q1k _,rfl,fun l hl=>absurd hl (Nat.not_lt_zero _)⟩
  ·rw[q] at e
   dsimp only at e
   split at e
   ·cases e
   ·obtain⟨k,h1,h2,h3⟩:=HB hd F _ j d e
    rw[Hu] at h2 h3
    refine⟨k + 1,by omega,h2,fun l hl => ?_⟩
    cases l with
    | zero=>exact hm
    | succ l=>exact h3 l (by omega)
theorem HC (hd:t.dummies = #[]) (u:Up t.place):∀ (k F:Nat) (p:Probe) (i0:Nat),k < F->t.slot (bP t.mask k p).j = .live i0->f i0=h->(∀ l,l < k->(bP t.mask l p).j∈t.place.toList)->∃ j i nx,probe.go t f h F p=some (.candidate j i nx)/\f i=h/\i < t.place.size
 | k,0,p,i0,hk,_,_,_=>absurd hk (Nat.not_lt_zero _)
 | 0,F + 1,p,i0,_,hs,hf,_=>by
  rw[pG,show t.slot p.j = .live i0 from hs]
  dsimp only
  rw[XI (by rw[hf];simp)]
  refine⟨_,_,_,rfl,hf,?_⟩
  rcases tF hd p.j with q | ⟨i,q,hi,_⟩
  ·rw[show t.slot p.j = .live i0 from hs] at q;cases q
  ·rw[show t.slot p.j = .live i0 from hs] at q;cases q;exact hi
 | k + 1,F + 1,p,i0,hk,hs,hf,ho=>by
  have hm:=ho 0 (q1k _)
  obtain⟨i,hi,ei⟩:=YG.mp hm
  have bN:i < t.place.size:=by rw[<-FO];exact hi
  have zo:t.place[i]=p.j:=by simpa [bP] using ei
  have sl:=HA u bN
  rw[zo] at sl
  rw[pG,sl]
  dsimp only
  by_cases c:f i=h
  ·rw[XI (by rw[c];simp)]
   exact⟨_,_,_,rfl,c,bN⟩
  ·rw[Nj (by simpa using c),Hu]
   exact HC hd u k F _ i0 (by omega) hs hf fun l hl=>ho (l + 1) (by omega)
end
noncomputable def rm (owner:Array (Option Nat)) (j:Nat):Prop:=∃ k,owner[j]? = some (some k)
structure sU (m:Nat) (hs:List Int) (owner:Array (Option Nat)) (k:Nat):Prop where
 ow:Ow m owner k
 sV:∀ (j i:Nat),owner[j]? = some (some i)->∃ h,hs[i]? = some h/\o6 m (rm owner) h j
theorem HD {owner:Array (Option Nat)} {j k x:Nat} (h:rm owner x):rm (owner.setIfInBounds j (some k)) x:=by
 obtain⟨i,e⟩:=h
 have hx:=(ZF.mp e).1
 by_cases c:j=x
 ·subst c
  exact⟨k,by rw[q0p];simp[hx]⟩
 ·exact⟨i,by rw[q0p];simp[c];exact e⟩
theorem Qf {m:Nat} {hs:List Int} {owner:Array (Option Nat)} {k:Nat} (hm:Mk m) (O:sU m hs owner k) (hk:k <= m) {h:Int} (hh:hs[k]? = some h) :
  ∃ j,layClean.free m owner (turns m) (bits h % (m + 1)) (bits h)=some j/\sU m hs (owner.setIfInBounds j (some k)) (k + 1):=by
 obtain⟨j,ej,O'⟩:=Kn hm O.ow hk h
 refine⟨j,ej,O',fun x i e => ?_⟩
 rw[q0p] at e
 by_cases c:j=x
 ·subst c
  have Qg:j < owner.size:=by
   by_cases z:j < owner.size
   ·exact z
   ·simp[z] at e
  simp[Qg] at e
  subst e
  refine⟨h,hh,?_⟩
  obtain⟨n,n1,n2,n3⟩:=Hz _ _ _ _ ej
  refine⟨n,n1,n2,fun l hl=>HD ?_⟩
  have ic:=n3 l hl
  have le:=Hy m h l
  have cQ:(bP m l (startM m h)).j < owner.size:=by rw[O.ow.size];omega
  have vk:(owner.getD (bP m l (startM m h)).j (some 0)).isSome=true:=ic
  rw[show owner.getD (bP m l (startM m h)).j (some 0)=owner[(bP m l (startM m h)).j] by simp[Array.getD,cQ]] at vk
  obtain⟨v,hv⟩:=q0D.mp vk
  exact⟨v,by rw[XH cQ,hv]⟩
 ·simp[c] at e
  obtain⟨h',e1,e2⟩:=O.sV x i e
  exact⟨h',e1,e2.mono fun y _ hy=>HD hy⟩
theorem HE {m:Nat} (hm:Mk m) {all:List Int}:∀ (hs:List Int) (owner:Array (Option Nat)) (k:Nat),sU m all owner k->all.drop k=hs->k + hs.length <= m + 1 →
  ∃ aR,(hs.foldl (init:=some (owner,k)) fun acc h=>do
   let (owner,k) <- acc
   let j <- layClean.free m owner (turns m) (bits h % (m + 1)) (bits h)
   pure (owner.setIfInBounds j (some k),k + 1))=some (aR,k + hs.length)/\sU m all aR (k + hs.length)
 | [],owner,k,O,_,_=>⟨owner,rfl,O⟩
 | h :: hs,owner,k,O,hd,hl=>by
  rw[FL] at hl ⊢
  have hk:k < all.length:=by
   have:=congrArg List.length hd
   rw[ZP,FL] at this;omega
  rw[Z_ hk] at hd
  have hh:all[k]? = some h:=by rw[qo hk];exact congrArg some (q09 hd).1
  obtain⟨j,ej,O'⟩:=Qf hm O (by omega) hh
  obtain⟨o2,e2,O2⟩:=HE hm hs _ (k + 1) O' (q09 hd).2 (by omega)
  refine⟨o2,?_,by rw[show k + (hs.length + 1)=k + 1 + hs.length by omega];exact O2⟩
  rw[q12,show k + (hs.length + 1)=k + 1 + hs.length by omega,<-e2]
  congr 1
  show (do let j <- layClean.free m owner (turns m) (bits h % (m + 1)) (bits h);pure (owner.setIfInBounds j (some k),k + 1))=_
  rw[ej];rfl
theorem Qh (m:Nat) (hs:List Int):sU m hs (Array.replicate (m + 1) none) 0:=by
 refine⟨Em m,fun j i e => ?_⟩
 rw[Array.getElem?_replicate] at e
 split at e<;>cases e
theorem Qi {m:Nat} (hm:Mk m) (hs:Array Int) (hz:hs.size <= m + 1):∃ owner,layClean m hs=some owner/\sU m hs.toList owner hs.size:=by
 obtain⟨o,e,O⟩:=HE hm hs.toList _ 0 (Qh m hs.toList) rfl (by rw[FO];omega)
 rw[YY,FO] at O
 refine⟨o,?_,O⟩
 unfold layClean
 rw[<-Array.foldl_toList,e];rfl
theorem Qj {m:Nat} (hm:Mk m) (t:SetTable) (hs:Array Int) (wanted:Nat) (hw:sizeAbove wanted - 1=m) (hz:hs.size <= m + 1) :
  ∃ t' order,t.relaid hs wanted=some (t',order)/\t'.mask=m/\t'.dummies = #[]/\t'.place.size=hs.size/\Up t'.place/\order.size=hs.size/\order.toList.Perm (List.range hs.size) ∧
   ∀ (i j k:Nat),t'.place[i]? = some j->order[i]? = some k->∃ h,hs[k]? = some h/\o6 m (· ∈ t'.place.toList) h j:=by
 obtain⟨owner,e,O⟩:=Qi hm hs hz
 obtain⟨aR,e',_,OP⟩:=Ex hm hs hz
 have:aR=owner:=YA (e'.symm.trans e)
 subst this
 refine⟨{ mask:=m,place:=((ij m aR).map (·.1)).toArray,dummies := #[],finger:=t.finger,led:=t.led,moves:=t.movedTo m,plain:=t.plain },((ij m aR).map (·.2)).toArray,?_,rfl,rfl,?_,Es m aR,?_,?_,fun i j k h1 h2 => ?_⟩
 ·unfold relaid laid
  rw[hw,e];rfl
 ·rw[xb,qp,zh O.ow]
 ·rw[xb,qp,zh O.ow]
 ·show ((ij m aR).map (·.2)).Perm _
  rw[Ey O.ow.size]
  exact OP
 ·have h1:((ij m aR).map (·.1))[i]? = some j:=by simpa using h1
  have h2:((ij m aR).map (·.2))[i]? = some k:=by simpa using h2
  rw[Ni] at h1 h2
  obtain⟨z,HF,rfl⟩:=XM.mp h1
  obtain⟨z',HG,rfl⟩:=XM.mp h2
  rw[HF] at HG;cases HG
  have zm:=YO HF
  have own:∀ z∈ij m aR,aR[z.1]? = some (some z.2):=fun z hz=>by
   unfold ij at hz
   obtain⟨j',vm,Qk⟩:=Z5.mp hz
   obtain⟨k',yi,rfl⟩:=XM.mp Qk
   have:j' < aR.size:=by rw[O.ow.size];exact Yr.mp vm
   rw[show aR.getD j' none=aR[j'] by simp[Array.getD,this]] at yi
   rw[XH this,yi]
  obtain⟨h,e1,e2⟩:=O.sV _ _ (own z zm)
  refine⟨h,by rw[<-Yp];exact e1,e2.mono fun x hx Ql => ?_⟩
  obtain⟨kx,HH⟩:=Ql
  show x∈(ij m aR).map (·.1)
  refine Nk.mpr ⟨(x,kx),?_,rfl⟩
  unfold ij
  refine Z5.mpr ⟨x,Yr.mpr (by omega),?_⟩
  have Qm:=(ZF.mp HH).1
  rw[show aR.getD x none=aR[x] by simp[Array.getD,Qm],(ZF.mp HH).2];rfl
structure nQ (hk:Nat->Int) (ad:Nat->Addr) (t:SetTable) (es:Array (Int × Value)) (js:List Nat):Prop where
 P:gn t es (js.map hk)
 up:Up t.place
 mN:(js.map hk).Nodup
 el:∀ e∈es.toList,∃ j∈js,e=(hk j,Value.ref (ad j))
 all:∀ j∈js,∃ e∈es.toList,e.1=hk j
 sV:∀ (i:Nat) (e:Int × Value) (j:Nat),es[i]? = some e->t.place[i]? = some j->o6 t.mask (· ∈ t.place.toList) e.1 j
noncomputable def hU (hk:Nat->Int) (ad:Nat->Addr) (h:Heap) (S:Addr) (js:List Nat):Prop:=∃ o es ep t,h.get? S=some o/\o.ExactSet/\o.data = .set es ep t/\nQ hk ad t es js
theorem HI {hk:Nat->Int} {ad:Nat->Addr} {h h':Heap} {S:Addr} {js:List Nat} (x:hU hk ad h S js) (k:∀ o,h.get? S=some o->h'.get? S=some o):hU hk ad h' S js:=by
 obtain⟨o,es,ep,t,ho,r⟩:=x
 exact⟨o,es,ep,t,k o ho,r⟩
theorem HJ {α : Type} {xs:Array α} {p:Nat} {x : α} (hp:p <= xs.size) (i:Nat):(insertAt xs p x)[i]? = if i < p then xs[i]? else if i=p then some x else xs[i - 1]? := by
 have e:(insertAt xs p x).toList=xs.toList.take p ++ x :: xs.toList.drop p:=by
  unfold insertAt
  simp only[Array.toList_append,q0c,Array.toList_extract,q1x,q0Q,q1R,ZH,List.singleton_append]
  rw[YT (l:=xs.toList.drop p) (by rw[ZP,FO];exact qq _)]
 rw[<-Yp,e]
 have hl:(xs.toList.take p).length=p:=by rw[YD,FO];omega
 by_cases c:i < p
 ·rw[XI c,XO (by omega),YQ c,Yp]
 ·rw[Nj c,Yi (by omega),hl]
  by_cases c2:i=p
  ·rw[XI c2,c2,YZ];rfl
  ·rw[Nj c2]
   obtain⟨d,rfl⟩:∃ d,i=p + 1 + d:=⟨i - p - 1,by omega⟩
   rw[show p + 1 + d - p=d + 1 by omega,Z2,List.getElem?_drop,Yp]
   congr 1
   omega
theorem Qn {α : Type} {es:Array α} {order:Array Nat} (h:∀ k∈order.toList,k < es.size) (i:Nat):(order.filterMap (es[·]?))[i]? = (order[i]?).bind fun k=>es[k]? := by
 have:∀ l:List Nat,(∀ k∈l,k < es.size)->∀ i:Nat,(l.filterMap fun k=>es[k]?)[i]? = (l[i]?).bind fun k=>es[k]? := by
  intro l
  induction l with
  | nil=>intro _ i;simp
  | cons k r ih =>
   intro hk i
   have oU:=hk k FN
   rw[q0A]
   rw[XH oU]
   dsimp only
   cases i with
   | zero=>simp[XH oU]
   | succ i=>simpa using ih (fun k' jS=>hk k' (My _ jS)) i
 have e:=this order.toList h i
 rw[<-Yp,q0j,e,Yp]
section
variable {hk:Nat->Int} {ad:Nat->Addr} {t:SetTable} {es:Array (Int × Value)} {js:List Nat}
theorem nQ.found (T:nQ hk ad t es js) {h:Int} (hm:h∈js.map hk):∃ j i nx,t.probe (fun i=>(es[i]?.map (·.1)).getD 0) h (t.probeStart h)=some (.candidate j i nx)/\∃ e,es[i]? = some e/\e.1=h:=by
 obtain⟨j,hj,rfl⟩:=Nk.mp hm
 obtain⟨e,he,e1⟩:=T.all j hj
 obtain⟨i,hi,ei⟩:=YG.mp he
 have bN:i < es.size:=by rw[<-FO];exact hi
 have ee:es[i]? = some e:=by rw[XH bN];exact congrArg some (by simpa using ei)
 have hp:i < t.place.size:=by rw[T.P.hX];exact bN
 have r:=T.sV i e _ ee (XH hp)
 rw[e1] at r
 obtain⟨k,k1,k2,k3⟩:=r
 have sl:=HA T.up hp
 obtain⟨j',i',nx,h1,h2,h3⟩:=HC (t:=t) (f:=fun i=>(es[i]?.map (·.1)).getD 0) (h:=hk j) T.P.lV T.up k (10 * turns t.mask) (startM t.mask (hk j)) i k1 (by rw[k2];exact sl) (by rw[ee];exact e1) k3
 refine⟨j',i',nx,h1,?_⟩
 have cQ:i' < es.size:=by rw[<-T.P.hX];exact h3
 exact⟨es[i'],XH cQ,by have:=h2;rw[XH cQ] at this;exact this⟩
end
section
variable {prog:Program} {w:World} {A:Around} {E:Value->Shared->Prop} {s:Shared} {ad:Nat->Addr} {ks:Nat->List Int} {js:List Nat} {S:Addr}
noncomputable abbrev aC (prog:Program) (w:World) (ks:Nat->List Int) (j:Nat):Int:=hT prog w (ks j)
theorem HK {k:List Int} {a:Addr} {Q:Bool->Shared->Prop} (hk:IsTupleKey (intKind prog w) s.heap k a) (h:Q false s):wpAny (model prog w) A (ofAClassStatement 8 (.ref a)) Q E s:=by
 have hT:=hk.typeIs
 obtain⟨o,ag,n,ho,_,hd,hi⟩:=hk
 show wpAny _ _ (ofAClassStatement (7 + 1) (.ref a)) _ _ _
 unfold ofAClassStatement
 refine nq (q0V hT ?_)
 dsimp only
 refine nq ?_
 refine xa ?_
 simp only[ZS,Ym,Y1]
 refine nq (q0u ho hd ?_)
 dsimp only
 refine nq ?_
 show wpAny _ _ (forIn ag _ _) _ _ s
 rw[<-Array.forIn_toList]
 refine q07 _ (fun rest r s'=>s'=s/\r=(none,PUnit.unit)/\∀ v∈rest,∃ i t,v=Value.int i t) _ ?_ ?_ _ _ ⟨rfl,rfl,EC hi⟩
 ·rintro v rest r s' ⟨rfl,rfl,gr⟩
  obtain⟨i,t,rfl⟩:=gr v FN
  have e:ofAClassStatement 7 (.int i t)=pure false:=by unfold ofAClassStatement;rfl
  rw[e]
  refine nq (xa ?_)
  simp only[Ym,Y1]
  exact xa ⟨rfl,rfl,fun u hu=>gr u (My _ hu)⟩
 ·rintro r s' ⟨rfl,rfl,_⟩
  exact xa h
theorem Qo {k:List Int} {a:Addr} {Q:Bool->Shared->Prop} {stored:List Value} (hx:IsTupleKey (intKind prog w) s.heap k a) (hy:∀ y∈stored,∃ k' b,y=Value.ref b/\IsTupleKey (intKind prog w) s.heap k' b) (h:Q false s):wpAny (model prog w) A (searchCouldBeSeen (.ref a) stored) Q E s:=by
 unfold searchCouldBeSeen
 refine nq ?_
 refine q07 _ (fun rest r s'=>s'=s/\r=(none,PUnit.unit)/\∀ y∈rest,∃ k' b,y=Value.ref b/\IsTupleKey (intKind prog w) s.heap k' b) _ ?_ ?_ _ _ ⟨rfl,rfl,hy⟩
 ·rintro v rest r s' ⟨rfl,rfl,gr⟩
  obtain⟨k',b,rfl,hb⟩:=gr v FN
  have o7:∀ y∈rest,∃ k' b,y=Value.ref b/\IsTupleKey (intKind prog w) s'.heap k' b:=fun u hu=>gr u (My _ hu)
  dsimp only
  refine q0a (fun _=>xa ⟨rfl,rfl,o7⟩) (fun _ => ?_)
  refine nq (wpAny_eqIsQuiet_tuple hx ?_)
  simp only[ZS,Ym,Y1]
  refine nq (wpAny_eqIsQuiet_tuple hb ?_)
  simp only[ZS,Ym,Y1]
  refine nq (HK hx ?_)
  simp only[Ym,Y1]
  refine nq (HK hb ?_)
  simp only[Ym,Y1]
  exact xa ⟨rfl,rfl,o7⟩
 ·rintro r s' ⟨rfl,rfl,_⟩
  exact xa h
theorem Qp {i:Nat} {o:Obj} {es:Array (Int × Value)} {ep:Nat} {t:SetTable} {Q:SetFound->Shared->Prop} (ho:s.heap.get? S=some o) (hd:o.data = .set es ep t) (T:nQ (aC prog w ks) ad t es js) (hu:A.units < cLine)
  (keys:∀ j∈i :: js,IsTupleKey (intKind prog w) s.heap (ks j) (ad j)) (inj:∀ j∈js,aC prog w ks j=aC prog w ks i->ks j=ks i) (hm:aC prog w ks i∈js.map (aC prog w ks))
  (k:Q (.there none) s):wpAny (model prog w) A (setSearch S (.ref (ad i)) (aC prog w ks i) true) Q E s:=by
 unfold setSearch
 show wpAny _ _ (setSearchFrom S (.ref (ad i)) (aC prog w ks i) true (99999 + 1) none) _ _ _
 unfold setSearchFrom
 refine nq (Zj ho hd T.P.fits ?_)
 dsimp only
 rw[T.P.tH]
 simp only[Ym,↓reduceIte]
 obtain⟨j',i',nx,ej,e,ee,eh⟩:=T.found hm
 simp only[q08]
 generalize hP:t.probe _ (aC prog w ks i) (t.probeStart (aC prog w ks i))=P
 have eP:P=some (.candidate j' i' nx):=hP.symm.trans ej
 rw[eP]
 dsimp only
 have em:e∈es.toList:=YO (by rw[Yp];exact ee)
 obtain⟨j,hj,rfl⟩:=T.el e em
 have ek:=inj j hj eh
 have kx:=keys i FN
 have ky:=keys j (My _ hj)
 have tail:wpAny (model prog w) A (do
   let some (_,y):=es[i']? | unsupported "internal:set-entry"
   let equal <- holding [y] (eqBool y (.ref (ad i)))
   let (tR,_,t') <- setState S
   if true && equal then return SetFound.there none
   let some same:=t'.sameMemory t.moves t.mask | unsupported "set.changed-during-lookup:is-the-new-block-at-the-old-address"
   let vn <- match (if same then t'.slot j' else .empty) with
    | .live i'=>match tR[i']? with
     | some (_,y')=>do pure (if <- isSame y' y then some i' else none)
     | none=>pure none
    | _=>pure none
   match vn with
   | none=>rule "set.search.anew";setSearchFrom S (.ref (ad i)) (aC prog w ks i) true 99999 none
   | some i'=>if equal then return SetFound.there (some i') else setSearchFrom S (.ref (ad i)) (aC prog w ks i) true 99999 (some nx)) Q E s:=by
  rw[ee]
  dsimp only
  refine nq (YE (wpAny_eqBool_tuple hu ky kx ?_))
  refine nq (Zj ho hd T.P.fits ?_)
  dsimp only
  rw[Yk ek]
  exact xa k
 refine q0a (fun _ => ?_) (fun _=>tail)
 refine nq (Qo kx (fun y hy => ?_) ?_)
 ·obtain⟨z,hz,rfl⟩:=Nk.mp hy
  have BN:z∈es.toList:=by
   have:=q1b.mp hz
   exact q1b.mpr (Array.mem_filter.mp this).1
  obtain⟨q,hq,rfl⟩:=T.el z BN
  exact⟨_,_,rfl,keys q (My _ hq)⟩
 ·exact tail
theorem Qq {i:Nat} {Q:Bool->Shared->Prop} (hS:hU (aC prog w ks) ad s.heap S js) (hl:js.length < 60) (hu:A.units < cLine)
  (keys:∀ j∈i :: js,IsTupleKey (intKind prog w) s.heap (ks j) (ad j)) (inj:∀ j∈js,aC prog w ks j=aC prog w ks i->ks j=ks i)
  (k:∀ (b:Bool) h',Heap.SameBut S s.heap h'->hU (aC prog w ks) ad h' S (if aC prog w ks i∈js.map (aC prog w ks) then js else js ++ [i])->Q b { s with heap:=h' }) :
  wpAny (model prog w) A (setAddHashed S (.ref (ad i)) (aC prog w ks i)) Q E s:=by
 obtain⟨o,es,ep,t,ho,hex,hd,T⟩:=hS
 unfold setAddHashed
 refine YE ?_
 show wpAny _ _ (setAddHashedIn S (.ref (ad i)) (aC prog w ks i) (99999 + 1)) _ _ _
 unfold setAddHashedIn
 refine nq (Zj ho hd T.P.fits ?_)
 have hb:byScan (.ref (ad i)) es=false:=by unfold byScan;rfl
 dsimp only
 rw[hb]
 simp only[Ym,↓reduceIte]
 by_cases hm:aC prog w ks i∈js.map (aC prog w ks)
 ·refine nq (Qp ho hd T hu keys inj hm ?_)
  dsimp only
  refine xa ?_
  have e:s={ s with heap:=s.heap }:=by cases s;rfl
  rw[e]
  exact k false s.heap (Heap.SameBut.refl S s.heap) (by rw[XI hm];exact⟨o,es,ep,t,ho,hex,hd,T⟩)
 rw[Nj hm] at k
 have kx:=keys i FN
 have hz:t.place.size <= t.mask:=by have:=T.P.lt;rw[T.P.hX];omega
 obtain⟨j0,BO⟩:=Ek (t:=t) (f:=fun i=>(es[i]?.map (·.1)).getD 0) (h:=aC prog w ks i) T.P.lV T.P.lW hz (fun i' bN z=>by
  rw[T.P.hX] at bN
  rw[XH bN] at z
  exact hm (by rw[<-show es[i'].1=aC prog w ks i from z];exact T.P.ins _ (q1D bN)))
 have nj:j0∉t.place.toList:=Eu T.up (wJ BO)
 have rj:o6 t.mask (· ∈ t.place.toList) (aC prog w ks i) j0:=HB T.P.lV _ _ _ _ BO
 have sf:wpAny (model prog w) A (setSearch S (.ref (ad i)) (aC prog w ks i) true) (fun r s'=>r = .free j0 false/\s'=s) E s:=by
  unfold setSearch
  show wpAny _ _ (setSearchFrom S (.ref (ad i)) (aC prog w ks i) true (99999 + 1) none) _ _ _
  unfold setSearchFrom
  refine nq (Zj ho hd T.P.fits ?_)
  dsimp only
  rw[T.P.tH]
  simp only[Ym,↓reduceIte]
  simp only[q08]
  generalize hP:t.probe _ (aC prog w ks i) (t.probeStart (aC prog w ks i))=P
  have eP:P=some (.empty j0 none):=hP.symm.trans BO
  rw[eP]
  exact xa ⟨rfl,rfl⟩
 refine nq (Z3 sf ?_ fun _ _ e=>e)
 rintro r s' ⟨rfl,rfl⟩
 dsimp only
 refine nq (Zj ho hd T.P.fits ?_)
 dsimp only
 obtain⟨p1,p2,p3,p4,p5,p6,p7⟩:=zi t T.P.lV j0
 have up1:=Er T.up nj
 have pz:(t.put j0).2 <= t.place.size:=(rU T.up j0).1
 have fin:∀ b:Bool,wpAny (model prog w) A (do
   storeSet S (SetTable.insertAt es (t.put j0).2 (aC prog w ks i,.ref (ad i))) (if b=true then (t.put j0).1 else { (t.put j0).1 with plain:=false })
   if (!false && (if b=true then (t.put j0).1 else { (t.put j0).1 with plain:=false }:SetTable).tooFull)=true then do
       setRelay S (SetTable.grown (es.size + 1))
       pure true
    else pure true) Q E s':=by
  intro b
  generalize jK:(if b=true then (t.put j0).1 else { (t.put j0).1 with plain:=false }:SetTable)=t2
  have q1:t2.dummies = #[]:=by rw[<-jK];cases b<;>exact p1
  have q2:t2.mask=t.mask:=by rw[<-jK];cases b<;>exact p2
  have q3:t2.place.size=es.size + 1:=by rw[<-jK,<-T.P.hX];cases b<;>exact p3
  have q4:t2.place=insertAt t.place (t.put j0).2 j0:=by rw[<-jK];cases b<;>rfl
  have q5:Up t2.place:=by rw[<-jK];cases b<;>exact up1
  have gU:=zj es (t.put j0).2 (aC prog w ks i,Value.ref (ad i))
  have oj:(insertAt es (t.put j0).2 (aC prog w ks i,Value.ref (ad i))).toList.Perm (es.toList ++ [(aC prog w ks i,Value.ref (ad i))]):=by
   have:=q0R es (t.put j0).2 (aC prog w ks i,Value.ref (ad i))
   rw[q0c] at this
   exact this
  have Qr:t2.place.toList.Perm (t.place.toList ++ [j0]):=by
   rw[q4]
   have:=q0R t.place (t.put j0).2 j0
   rw[q0c] at this
   exact this
  have vo:∀ (x:Nat) (e:Int × Value) (j:Nat),(insertAt es (t.put j0).2 (aC prog w ks i,Value.ref (ad i)))[x]? = some e->t2.place[x]? = some j->o6 t2.mask (· ∈ t2.place.toList) e.1 j:=by
   intro x e j h1 h2
   rw[q4,HJ pz] at h2
   rw[HJ (by rw[<-T.P.hX];exact pz)] at h1
   rw[q2]
   have more:∀ y,y <= t.mask->y∈t.place.toList->y∈t2.place.toList:=fun y _ hy=>Qr.mem_iff.mpr (ZC _ hy)
   by_cases c:x < (t.put j0).2
   ·rw[XI c] at h1 h2
    exact (T.sV x e j h1 h2).mono more
   ·rw[Nj c] at h1 h2
    by_cases c2:x=(t.put j0).2
    ·rw[XI c2] at h1 h2
     cases h1;cases h2
     exact rj.mono more
    ·rw[Nj c2] at h1 h2
     exact (T.sV _ e j h1 h2).mono more
  generalize insertAt es (t.put j0).2 (aC prog w ks i,Value.ref (ad i))=bK at gU oj vo
  have BP:∀ e∈bK.toList,∃ j∈js ++ [i],e=(aC prog w ks j,Value.ref (ad j)):=fun e he=>by
   rcases YL.mp (oj.mem_iff.mp he) with q | q
   ·obtain⟨j,hj,e1⟩:=T.el e q
    exact⟨j,ZC _ hj,e1⟩
   ·exact⟨i,Yq _ FN,YF.mp q⟩
  have all2:∀ j∈js ++ [i],∃ e∈bK.toList,e.1=aC prog w ks j:=fun j hj=>by
   rcases YL.mp hj with q | q
   ·obtain⟨e,he,e1⟩:=T.all j q
    exact⟨e,oj.mem_iff.mpr (ZC _ he),e1⟩
   ·rw[YF.mp q]
    exact⟨_,oj.mem_iff.mpr (Yq _ FN),rfl⟩
  have kK:((js ++ [i]).map (aC prog w ks)).Nodup:=by
   rw[Yw]
   exact Y3.mpr ⟨T.mN,by simp,fun a ha b hb z=>hm (by rw[<-YF.mp hb,<-z];exact ha)⟩
  have vp:∀ e∈bK.toList,e.1∈(js ++ [i]).map (aC prog w ks):=fun e he=>by
   obtain⟨j,hj,rfl⟩:=BP e he
   exact Nk.mpr ⟨j,hj,rfl⟩
  have vq:bK.size=((js ++ [i]).map (aC prog w ks)).length:=by rw[gU,T.P.num,qp,qp,Aw];rfl
  have Kz:es.size < 60:=by rw[T.P.num,qp];exact hl
  refine nq (q0S ho hd ?_ (by rw[gU,ZW];omega))
  have gW:(s'.heap.update S (Obj.putSet bK t2)).get? S=some { o with data := .set bK (ep + 1) t2 }:=by
   have:=YS (Obj.putSet bK t2) ho (by rw[q06 bK t2 hd];rfl)
   rw[q06 bK t2 hd] at this;exact this
  have fl:t2.fill=es.size + 1:=by unfold SetTable.fill;rw[q1,q3];rfl
  have lt:=T.P.lt
  have oo:t2.fits bK.size=true:=by
   unfold SetTable.fits
   rw[fl,q3,gU,q2]
   simp
   rcases T.P.lW with e | e | e<;>rw[e] at lt ⊢ <;> omega
  by_cases tf:t2.tooFull=true
  ·rw[XI (by rw[tf];rfl)]
   have pJ:t.mask * 3 <= (es.size + 1) * 5:=by
    unfold tooFull at tf
    rw[fl,q2] at tf
    have:=Zt tf
    omega
   obtain⟨m,BQ,hw,hsz⟩:∃ m,Mk m/\sizeAbove (grown (es.size + 1)) - 1=m/\(es.size + 1) * 5 < m * 3:=by
    rcases T.P.lW with e | e | e
    ·rw[e] at lt pJ
     have:es.size + 1=5:=by omega
     rw[this]
     exact⟨31,.inr (.inl rfl),Eo,by omega⟩
    ·rw[e] at lt pJ
     have:es.size + 1=19:=by omega
     rw[this]
     exact⟨127,.inr (.inr rfl),Ep,by omega⟩
    ·rw[e] at pJ;omega
   refine nq ?_
   unfold setRelay
   refine nq (Zj gW rfl oo ?_)
   dsimp only
   have zG:¬ SetTable.sizeAbove (SetTable.grown (es.size + 1)) > sizeLine:=by
    rw[ZW]
    rcases BQ with e | e | e<;>omega
   rw[Nj zG]
   obtain⟨t3,order,er,r1,r2,r3,r4,r5,r6,r7⟩:=Qj BQ t2 (bK.map (·.1)) (grown (es.size + 1)) hw (by rw[q0T,gU];omega)
   rw[er]
   rw[q0T,gU] at r3 r5
   rw[q0T] at r6
   have HL:∀ k∈order.toList,k < bK.size:=fun k hk=>Yr.mp (r6.mem_iff.mp hk)
   obtain⟨o1,o2⟩:=En (es:=bK) (order:=order) HL
   have og:=Qn (es:=bK) (order:=order) HL
   refine nq ?_
   show wpAny _ _ (do
    if (order.filterMap (bK[·]?)).size != bK.size then
     unsupported "internal:set-table-lost-an-element"
    pure (order.filterMap (bK[·]?),t3)) _ _ _
   rw[Nj (by rw[o1,r5,gU];simp)]
   refine xa ?_
   dsimp only
   refine q0S gW rfl ?_ (by rw[o1,r5,ZW];omega)
   have gq:((s'.heap.update S (Obj.putSet bK t2)).update S (Obj.putSet (order.filterMap (bK[·]?)) t3)).get? S=some { o with data := .set (order.filterMap (bK[·]?)) (ep + 1 + 1) t3 }:=by
    have:=YS (Obj.putSet (order.filterMap (bK[·]?)) t3) gW (by rw[q06 _ t3 rfl];rfl)
    rw[q06 _ t3 rfl] at this;exact this
   refine xa (k true _ ((YM ..).trans (YM ..)) ⟨_,_,_,_,gq,hex,rfl,⟨r2,by rw[r1];exact BQ,by rw[r3,o1,r5],by rw[o1,r5,<-gU];exact vq,?_,fun e he=>vp e (o2 e he)⟩,r4,kK,fun e he=>BP e (o2 e he),fun j hj => ?_,fun x e j h1 h2 => ?_⟩)
   ·unfold tooFull SetTable.fill
    rw[r2,r3,r1]
    simp
    omega
   ·obtain⟨e,he,e1⟩:=all2 j hj
    obtain⟨x,hx,ex⟩:=YG.mp he
    have iN:x < bK.size:=by rw[<-FO];exact hx
    have:x∈order.toList:=r6.mem_iff.mpr (Yr.mpr iN)
    refine⟨e,?_,e1⟩
    rw[q0j]
    exact Z5.mpr ⟨x,this,by rw[XH iN];exact congrArg some (by simpa using ex)⟩
   ·rw[og] at h1
    cases q:order[x]? with
    | none=>rw[q] at h1;cases h1
    | some HM =>
     rw[q] at h1
     have h1:bK[HM]? = some e:=h1
     obtain⟨hh,g1,g2⟩:=r7 x j HM h2 q
     rw[Array.getElem?_map,h1] at g1
     cases g1
     rw[r1]
     exact g2
  ·have tK:t2.tooFull=false:=by cases q:t2.tooFull<;>simp_all
   rw[Nj (by rw[tK];decide)]
   exact xa (k true _ (YM ..) ⟨_,_,_,_,gW,hex,rfl,⟨q1,by rw[q2];exact T.P.lW,by rw[q3,gU],vq,tK,vp⟩,q5,kK,BP,all2,vo⟩)
 by_cases hp:(t.put j0).1.plain=true
 ·rw[XI hp]
  refine nq (KD kx fun b => ?_)
  exact fin b
 ·rw[Nj hp]
  refine nq (xa ?_)
  exact fin true
end
noncomputable def ig (hk:Nat->Int):Nat->List Nat
 | 0=>[]
 | i + 1=>if hk i∈(ig hk i).map hk then ig hk i else ig hk i ++ [i]
theorem HN (hk:Nat->Int):∀ i,(ig hk i).length <= i
 | 0=>qq _
 | i + 1=>by
  have:=HN hk i
  unfold ig
  split
  ·omega
  ·rw[Aw,Yu];omega
theorem yj (hk:Nat->Int):∀ i,∀ j∈ig hk i,j < i
 | 0,j,h=>nomatch h
 | i + 1,j,h=>by
  unfold ig at h
  split at h
  ·have:=yj hk i j h;omega
  ·rcases YL.mp h with h | h
   ·have:=yj hk i j h;omega
   ·rw[YF.mp h];omega
theorem Qs {hk:Nat->Int} {ad:Nat->Addr} {h:Heap} {S:Addr} {led:Bool} (e:h.get? S=some (cz led)):hU hk ad h S [] :=
 ⟨_,#[],0,_,e,⟨rfl,rfl,rfl⟩,rfl,⟨rfl,.inl rfl,rfl,rfl,by cases led<;>decide,fun _ h=>nomatch h⟩,List.Pairwise.nil,Zu,(fun _ h=>nomatch h),(fun _ h=>nomatch h),fun i e j h=>by simp at h⟩
section
variable {prog:Program} {w:World} {A:Around} {R:Result->Shared->Prop} {I S:Addr} {fp wr:List Addr} {G:Array GenState->Array GenState->Prop} {n:Nat} {P:Nat->Value->Prop} {St:Nat->Shared->Prop}
theorem Qt (W:WalksS prog w A.in1 I fp wr G n P St) (out:S∉fp) (ad:Nat->Addr) (ks:Nat->List Int) (rp:∀ i v,P i v->v = .ref (ad i)) (apart:∀ i,i < n->ad i∉S :: wr) (room:A.in1.units < cLine)
  (inj:∀ i j,i < n->j < i->hT prog w (ks j)=hT prog w (ks i)->ks j=ks i) (jf:n <= 30) :
  ∀ (left i:Nat) (s:Shared),i + left=n->St i s->(∀ j,j < n->IsTupleKey (intKind prog w) s.heap (ks j) (ad j))->hU (aC prog w ks) ad s.heap S (ig (aC prog w ks) i) →
   (∀ s',Moved (S :: wr) G s s'->hU (aC prog w ks) ad s'.heap S (ig (aC prog w ks) n)->R (.ok (.ret .none)) s') →
   codeAny (model prog w) A (.builtin "set.update.loop" ⟨[.ref S,.ref I],[]⟩) R s:=by
 have kL:S∉wr:=fun z=>out (W.sub _ z)
 have more:∀ b,b∈wr->b∈S :: wr:=fun b hb=>My _ hb
 intro left
 induction left with
 | zero =>
  intro i s hi st tk se fin
  obtain rfl:i=n:=by omega
  refine Zl q0g ?_
  rw[Y5 Zz _]
  show wpAny _ A.in1 (pyNext (.ref I) >>= _) _ _ s
  refine nq (W.done s _ _ st fun s' mv => ?_)
  show wpAny _ A.in1 (ret Value.none) _ _ s'
  exact xa (fin s' (mv.mono more) (HI se fun o e=>mv.heap S o kL e))
 | succ left ih =>
  intro i s hi st tk se fin
  have cQ:i < n:=by omega
  refine Zl q0g ?_
  rw[Y5 Zz _]
  show wpAny _ A.in1 (pyNext (.ref I) >>= _) _ _ s
  refine nq (W.item i s _ _ cQ st fun v s1 hP j6 mv => ?_)
  obtain rfl:=rp i v hP
  have k7:∀ j,j < n->IsTupleKey (intKind prog w) s1.heap (ks j) (ad j):=fun j hj=>zt (tk j hj) fun o e=>mv.heap _ o (fun z=>apart j hj (more _ z)) e
  show wpAny _ A.in1 (holding [Value.ref (ad i)] (setAdd S (.ref (ad i))) >>= _) _ _ s1
  refine nq (YE ?_)
  unfold setAdd
  refine YE (nq (wpAny_pyHash_tuple room (k7 i cQ) ?_))
  have fl:=yj (aC prog w ks) i
  refine Qq (s:={ s1 with toks:=s1.toks + ((ks i).length + 1) }) (i:=i) (js:=ig (aC prog w ks) i) (HI se fun o e=>mv.heap S o kL e) (by have:=HN (aC prog w ks) i;omega) room (fun j hj => ?_) (fun j hj e=>inj i j cQ (fl j hj) e) fun bb h2 sb zw => ?_
  ·rcases Nh.mp hj with rfl | hj
   ·exact k7 _ cQ
   ·exact k7 j (by have:=fl j hj;omega)
  ·have nS:∀ b,b∈fp->b≠S:=fun b hb z=>out (by rw[<-z];exact hb)
   refine xa ⟨ZT Zz _,ih (i + 1) _ (by omega) (W.frame _ s1 _ _ j6 (ZR _ _) fun b hb o e=>by rw[sb.2 b (nS b hb)];exact e) (fun j hj=>zt (k7 j hj) fun o e => ?_) zw fun s3 zx zy => ?_⟩
   ·rw[sb.2 _ (fun z=>apart j hj (by rw[z];exact FN))];exact e
   ·refine fin s3 (Moved.trans W.gtrans ((mv.mono more).then_heap (ZR _ _) fun b o hb e => ?_) zx) zy
    rw[sb.2 b (fun z=>hb (by rw[z];exact FN))];exact e
end
section
variable {prog:Program} {w:World} {A:Around} {E:Value->Shared->Prop} {s:Shared}
set_option maxHeartbeats 3200000 in
theorem Qu {l:Addr} {items:Array Value} {Q:Value->Shared->Prop} (ad:Nat->Addr) (ks:Nat->List Int) (hh:A.handled=none) (room:A.units + 8 < cLine) (rV:s.heap.IsList l items) (rp:∀ (i:Nat) (v:Value),items[i]? = some v->v = .ref (ad i))
  (tk:∀ i,i < items.size->IsTupleKey (intKind prog w) s.heap (ks i) (ad i)) (inj:∀ i j,i < items.size->j < i->hT prog w (ks j)=hT prog w (ks i)->ks j=ks i) (jf:items.size <= 30)
  (fin:∀ (h':Heap) (tk:Nat),hU (aC prog w ks) ad h' s.heap.objs.size (ig (aC prog w ks) items.size)->(∀ b o,b < s.heap.objs.size->s.heap.get? b=some o->h'.get? b=some o)->Q (.ref s.heap.objs.size) { s with heap:=h',toks:=tk }) :
  wpAny (model prog w) A (call (.type "set") [.ref l]) Q E s:=by
 obtain⟨c,tl,zz⟩:=Y_.mro
 have m1:=Y_.made
 have m2:=Y_.sub
 have m3:=Y_.notType
 have m4:=Y_.canCreate
 have m5:=F.typeCall_set_1 (.ref l)
 refine wpAny_call (codeAny_of_tree ?_)
 show wpAny _ _ (callAny (.type "set") _) _ _ _
 refine xa ⟨Code.quiet_builtin _ (by decide +kernel),Zl F.entry_type_call ?_⟩
 rw[Around.under_plain (weight_type_call_type "set" [.ref l] []) rfl]
 repeat (any_goals (first | assumption | wp_step))
 refine q0w (code_set_new_1 (.ref l) (E:=E) (Q₁ := fun r s1=>∃ led:Bool,r = .ref s.heap.objs.size/\s1={ s with heap:=s.heap.push (cz led) }) fun led=>⟨led,rfl,rfl⟩) fun r s1 hr => ?_
 cases r with
 | error e=>exact hr
 | ok fl =>
  cases fl with
  | ret obj =>
   obtain⟨led,rfl,rfl⟩:=hr
   have gS:(s.heap.push (cz led)).get? s.heap.objs.size=some (cz led):=XJ _ rfl
   have tS:Shared.TypeIs { s with heap:=s.heap.push (cz led) } (.ref s.heap.objs.size) "set" := ⟨_,gS,rfl⟩
   have m6:=Y_.init.lookup
   have m7:=Y_.init.bind (.ref s.heap.objs.size)
   repeat (any_goals (first | assumption | wp_step))
   refine q0w (codeAny_call_builtin (R:=wants (fun r s2=>r = .none/\∃ h' tk,s2={ s with heap:=h',toks:=tk }/\hU (aC prog w ks) ad h' s.heap.objs.size (ig (aC prog w ks) items.size) ∧
     ∀ b o,b < s.heap.objs.size->s.heap.get? b=some o->h'.get? b=some o) E) Y_.init.plain F.entry_set_init (check_set_init_1 tS ?_)) fun r2 s2 kM => ?_
   ·obtain⟨ol,gl,cl,nl,dl⟩:=rV
    obtain⟨c0,d0,KP,zA⟩:=ol
    simp only at cl dl
    subst cl
    subst dl
    have zB:(s.heap.push (cz led)).get? l=some { cls := .type "list",dict:=d0,data := .seq items nl,slots:=zA }:=ue _ gl
    have x1:=F.sub_list_set
    have x2:=F.sub_list_frozenset
    have x3:(Value.type "list" == Value.type "dict")=false:=by decide
    have kN:(s.heap.push (cz led)).IsList l items:=⟨_,zB,rfl,nl,rfl⟩
    have ll:l < s.heap.objs.size:=Ng gl
    unfold Builtin.«set.__init__» noKeywords Builtin.Frozenset.updateFrom
    generalize zC:pyIter=PI
    wp_walk
    subst zC
    refine q0d kN (nq (wpAny_runValue ?_))
    have h3:A.in1.in1.in1.handled=none:=by simp[hh]
    have ez:(s.heap.push (cz led)).objs.size=s.heap.objs.size + 1:=ZX ..
    have nI:l≠(s.heap.push (cz led)).objs.size:=by rw[ez];exact XN (YR ll)
    have lt:∀ i,i < items.size->ad i < s.heap.objs.size:=fun i hi=>by
     obtain⟨o,_,_,e,_⟩:=tk i hi
     exact Ng e
    refine Qt ((q1o h3 _ l nI items).toS) (S:=s.heap.objs.size) ?out ad ks (fun i v hv=>rp i v hv) ?apart ?room inj jf items.size 0 _ (YY _)
     ⟨⟨_,XJ _ rfl,rfl,rfl⟩,kN.push _⟩ ?tk ?fresh ?fin
    case out =>
     simp only[Nh,Yx,ZI,q2g,ez]
     exact⟨XN (Y0 _),ZU ll⟩
    case apart =>
     intro i hi
     have:=lt i hi
     simp only[Nh,Yx,ZI,q2g,ez]
     exact⟨XN this,XN (YR this)⟩
    case room =>
     show A.units + 1 + 1 + 1 < cLine
     exact q0I (Nat.add_le_add_left (by decide:3 <= 8) _) room
    case tk =>
     intro j hj
     exact zt (tk j hj) fun o e=>ue _ (ue _ e)
    case fresh =>
     exact Qs (led:=led) (ue _ gS)
    case fin =>
     intro s' mv se
     obtain⟨h',g',d',lY,tL⟩:=s'
     obtain rfl:g'=s.gens:=mv.gens
     obtain rfl:d'=s.drawn:=mv.drawn
     obtain rfl:tL=s.os:=mv.os
     show wpAny _ _ _ _ _ _
     refine xa ?_
     show wpAny _ _ (ret Value.none) _ _ _
     refine xa ⟨rfl,h',lY,rfl,se,fun b o hb e => ?_⟩
     refine mv.heap b o ?_ (ue _ (ue _ e))
     simp only[Nh,Yx,ZI,q2g,ez]
     exact⟨XN hb,XN (YR hb)⟩
   ·cases r2 with
    | error e=>exact kM
    | ok zD =>
     cases zD with
     | ret r =>
      obtain⟨rfl,h',lY,rfl,se,kp⟩:=kM
      repeat (any_goals (first | assumption | wp_step))
      exact fin _ _ se kp
     | next=>exact kM
     | brk=>exact kM
     | cont=>exact kM
  | next=>exact hr
  | brk=>exact hr
  | cont=>exact hr
end
end LJS
namespace L2
open PySem PySem.Spec PyProof.Rows
variable [aD]
noncomputable def o8:List D->Option (List (Int × Int))
 | []=>some []
 | .tup [.int i,.int j] :: r=>match o8 r with
  | some ps=>some ((i,j) :: ps)
  | none=>none
 | _=>none
theorem HP:∀ {ds:List D} {ps:List (Int × Int)},o8 ds=some ps->ds=ps.map fun p => .tup [.int p.1,.int p.2]
 | [],ps,h=>by cases h;rfl
 | .tup [.int i,.int j] :: r,ps,h=>by
  unfold o8 at h
  split at h
  ·rename_i qs e
   cases h
   rw[HP e];rfl
  ·cases h
theorem HQ:∀ ps:List (Int × Int),o8 (ps.map fun p=>D.tup [.int p.1,.int p.2])=some ps
 | []=>rfl
 | p :: r=>by
  show o8 (.tup [.int p.1,.int p.2] :: r.map _)=_
  unfold o8
  rw[HQ r]
noncomputable def gN (ps:List (Int × Int)):Nat->List (Int × Int)
 | 0=>[]
 | i + 1=>if ps.getD i (0,0)∈gN ps i then gN ps i else gN ps i ++ [ps.getD i (0,0)]
theorem BR (ps:List (Int × Int)):∀ i,(gN ps i).length <= i
 | 0=>qq _
 | i + 1=>by
  have:=BR ps i
  unfold gN
  split
  ·omega
  ·rw[Aw,Yu];omega
theorem HR {ps:List (Int × Int)} (hn:ps.Nodup):∀ i,i <= ps.length->gN ps i=ps.take i
 | 0,_=>rfl
 | i + 1,h=>by
  have hi:i < ps.length:=by omega
  have e:ps.getD i (0,0)=ps[i]:=by rw[FP,qo hi];rfl
  unfold gN
  rw[HR hn i (by omega),e,Nj ?_,ZY,qo hi]
  ·rfl
  ·intro hm
   obtain⟨j,hj,ej⟩:=YG.mp hm
   rw[YD] at hj
   rw[q1z] at ej
   have:=(q0h (h₀ := by omega) (h₁ := hi) hn).mp ej
   omega
theorem Qv {ps:List (Int × Int)} (hl:(gN ps ps.length).length=ps.length):ps.Nodup:=by
 have key:∀ i,i <= ps.length->(gN ps i).length=i->(ps.take i).Nodup/\gN ps i=ps.take i:=by
  intro i
  induction i with
  | zero=>intro _ _;exact⟨Zu,rfl⟩
  | succ i ih =>
   intro hi hlen
   have bN:i < ps.length:=by omega
   have le:=BR ps i
   have e:ps.getD i (0,0)=ps[i]:=by rw[FP,qo bN];rfl
   unfold gN at hlen ⊢
   split at hlen
   ·omega
   ·rename_i hn
    rw[Aw,Yu] at hlen
    obtain⟨h1,h2⟩:=ih (by omega) (by omega)
    rw[Nj hn,h2,ZY,qo bN,e]
    refine⟨?_,rfl⟩
    rw[h2,e] at hn
    exact Y3.mpr ⟨h1,by simp,fun a ha b hb z=>hn (by
     have hb:b=ps[i]:=by simpa using hb
     rw[<-hb,<-z];exact ha)⟩
 have:=(key ps.length (qq _) hl).1
 rwa [YT (qq _)] at this
noncomputable def o9:List D->(D->Prop)->Prop
 | [.lst ds],K=>match intsOf ds with
  | some ns=>ns.length <= 40/\K (.lst ((sortI (ju ns)).map D.int))
  | none=>False
 | _,_=>False
theorem HS (ns:List Int):(ju ns).length <= ns.length:=LJS.zv ns ns.length
section
variable {X:Cx} {fa:WA}
theorem BS {a:Expr} {p1 p2 q1 q2:Pos} (hc:X.calm=true) (qV:Gl X "sorted") (hl:X.mg "sorted" = none) (qW:bootBuiltins "sorted" = some (.builtin "sorted")) (qX:Gl X "set") (hr:X.mg "set" = none) (qY:bootBuiltins "set" = some (.type "set")) (ha:JA X [a] (cX fa))
  (he:starEach [a] X.env=[(false,eval a X.env)]:=by rfl) (qZ:starEach [.Call (.Name "set" p2) [a] [] q2] X.env=[(false,eval (.Call (.Name "set" p2) [a] [] q2) X.env)]:=by rfl):JE X (.Call (.Name "sorted" p1) [.Call (.Name "set" p2) [a] [] q2] [] q1) (tD (dN fa o9)) :=
 (xk (Qa hc) qV hl qW (iW (nv (P_ hc) qX hr qY ha (he:=he)) aV) (he:=qZ)).weak fun σ H Q h0_ => el7 h0_ fun F ad δ K S q k =>⟨F,ad,δ,_,S,q,fun xs δ1 h1 vs F1 aP H1 E1 S1 V1=>by
  obtain⟨ds,h2,qz⟩:=xr S1 V1 h1
  unfold o9 at h2
  split at h2
  ·split at h2
   ·rename_i es ns e
    obtain⟨v,rfl,a,vs,rfl,g1,g2⟩:=dA qz
    rw[u5 e] at g2
    rw[oV g2] at g1
    refine⟨a,ns,rfl,aU.of g1,h2.1,fun p hp=>⟨p,ju ns,rfl,bz,by have:=HS ns;omega,fun r eN pm pw hr => ?_⟩⟩
    have s1:ax H1 (upd H1 p (vi (LJS.ik X.w) p (ju ns))):=cW hp
    have S2:=S1.al s1
    have E2:=Ext.al S1 s1
    refine k _ _ h2.2 _ _ _ _ ((E1.trans E2).trans (Ext.al S2 (cW hr))) (S2.al (cW hr)) ?_
    rw[<-xX pm pw]
    exact oW S2.sub hr qO
   ·exact h2.elim
  ·exact h2.elim⟩
theorem HU {F:Hp}:∀ {ps:List (Int × Int)} {vs:List V},af F (ps.map fun p=>D.tup [.int p.1,.int p.2]) vs->∃ as:List Addr,vs=as.map V.ref/\as.length=ps.length/\∀ (i:Nat) (a:Addr) (k:Int × Int),as[i]? = some a->ps[i]? = some k->F a=some (.tup [.int k.1,.int k.2])
 | [],vs,h=>by
  have h:vs=[]:=by simpa only [Z4,af] using h
  subst h
  exact⟨[],rfl,rfl,fun i a k e=>by simp at e⟩
 | p :: r,vs,h=>by
  rw[Yt] at h
  simp only[af] at h
  obtain⟨v,r',rfl,h1,h2⟩:=h
  obtain⟨as,rfl,hl,g⟩:=HU h2
  simp only[Is] at h1
  obtain⟨a,us,rfl,e1,e2⟩:=h1
  simp only[af,Is] at e2
  obtain⟨_,_,rfl,rfl,_,_,rfl,rfl,rfl⟩:=e2
  refine⟨a :: as,rfl,by rw[FL,FL,hl],fun i b k eb ek => ?_⟩
  cases i with
  | zero =>
   cases (show some a=some b by simpa using eb)
   cases (show some p=some k by simpa using ek)
   exact e1
  | succ i=>exact g i b k (by simpa using eb) (by simpa using ek)
theorem Qw (hc:X.calm=true) (hu:X.A.units + 64 < cLine):gx X (.type "set") (fun xs H Q=>∃ (l:Addr) (ps:List Addr) (ks:List (Int × Int)),xs=[.ref l]/\aU X.K H l (ps.map V.ref)/\ps.length=ks.length ∧
  (∀ (i:Nat) (a:Addr) (k:Int × Int),ps[i]? = some a->ks[i]? = some k->H a=some (.tup [.int k.1,.int k.2]))/\(∀ k∈ks,0 <= k.1/\k.1 < k.2/\k.2 < 12)/\ks.length <= 30/\∀ p,H p=none->Q (.ref p) (upd H p (k6 p (gN ks ks.length).length))):=by
 intro pins s σ H xs us Q I r h
 obtain⟨l,ps,ks,rfl,hq,hl,fQ,bd,jf,q⟩:=h
 obtain⟨u,rfl,rx⟩:=vals1 r
 cases rx
 obtain⟨ag,r',pl,_⟩:=I.list hq
 obtain rfl:=Gk r'
 have sz:(ps.map Value.ref).toArray.size=ks.length:=by rw[xb,qp,hl]
 have rq:∀ i,i < ks.length->∃ k,ks[i]? = some k/\ks.getD i (0,0)=k:=fun i hi=>⟨ks[i],qo hi,by rw[FP,qo hi];rfl⟩
 have BU:∀ i,i < ks.length->∃ a,ps[i]? = some a/\ps.getD i 0=a:=fun i hi=>⟨ps[i]'(by rw[hl];exact hi),qo (by rw[hl];exact hi),by rw[FP,qo (by rw[hl];exact hi)];rfl⟩
 have same:∀ i j,i < ks.length->j < ks.length->LJS.hT X.prog X.w [(ks.getD j (0,0)).1,(ks.getD j (0,0)).2]=LJS.hT X.prog X.w [(ks.getD i (0,0)).1,(ks.getD i (0,0)).2]->ks.getD j (0,0)=ks.getD i (0,0):=fun i j hi hj z=>by
  obtain⟨k,ek,dk⟩:=rq i hi
  obtain⟨k',yi,HV⟩:=rq j hj
  rw[dk,HV,LJS.Gi,LJS.Gi] at z
  rw[dk,HV]
  have b1:=bd k (Yj.mpr ⟨i,ek⟩)
  have b2:=bd k' (Yj.mpr ⟨j,yi⟩)
  exact LJS.OJ (k'.1,k'.2) (LJS.Gj b2.1 b2.2.1 b2.2.2) (k.1,k.2) (LJS.Gj b1.1 b1.2.1 b1.2.2) z
 refine LJS.Qu (fun i=>ps.getD i 0) (fun i=>[(ks.getD i (0,0)).1,(ks.getD i (0,0)).2]) (I.ok.hd hc) (by omega) pl.isList (fun i v hv => ?_) (fun i hi => ?_) (fun i j hi hj z => ?_) (by rw[sz];exact jf) fun h' tk se kp => ?_
 ·rw[q0r,Ni] at hv
  obtain⟨a,ea,rfl⟩:=XM.mp hv
  rw[FP,ea];rfl
 ·rw[sz] at hi
  obtain⟨k,ek,dk⟩:=rq i hi
  obtain⟨a,ea,da⟩:=BU i hi
  show IsTupleKey _ _ [(ks.getD i (0,0)).1,(ks.getD i (0,0)).2] (ps.getD i 0)
  rw[dk,da]
  obtain⟨_,a5,r2,o,ho,o_,n,hd⟩:=I.aK a _ (fQ i a k ea ek)
  cases r2 with
  | cons ra rr =>
   cases rr with
   | cons rb rn =>
    cases rn
    obtain⟨t1,rfl⟩:=ra
    obtain⟨t2,rfl⟩:=rb
    exact⟨o,_,n,ho,o_,hd,.cons (q05 ..) (.cons (q05 ..) .nil)⟩
 ·rw[sz] at hi
  have:=same i j hi (by omega) z
  show [(ks.getD j (0,0)).1,(ks.getD j (0,0)).2]=[(ks.getD i (0,0)).1,(ks.getD i (0,0)).2]
  rw[this]
 ·have key:∀ n,n <= ks.length->(LJS.ig (LJS.aC X.prog X.w fun i=>[(ks.getD i (0,0)).1,(ks.getD i (0,0)).2]) n).map (fun i=>ks.getD i (0,0))=gN ks n:=by
   intro n
   induction n with
   | zero=>intro _;rfl
   | succ n ih =>
    intro hn
    have ih:=ih (by omega)
    unfold LJS.ig gN
    rw[<-ih]
    by_cases c:ks.getD n (0,0)∈(LJS.ig (LJS.aC X.prog X.w fun i=>[(ks.getD i (0,0)).1,(ks.getD i (0,0)).2]) n).map (fun i=>ks.getD i (0,0))
    ·obtain⟨j,hj,ej⟩:=Nk.mp c
     have:LJS.aC X.prog X.w (fun i=>[(ks.getD i (0,0)).1,(ks.getD i (0,0)).2]) n∈(LJS.ig (LJS.aC X.prog X.w fun i=>[(ks.getD i (0,0)).1,(ks.getD i (0,0)).2]) n).map (LJS.aC X.prog X.w fun i=>[(ks.getD i (0,0)).1,(ks.getD i (0,0)).2]):=by
      refine Nk.mpr ⟨j,hj,?_⟩
      have ej:ks.getD j (0,0)=ks.getD n (0,0):=ej
      show LJS.hT _ _ [(ks.getD j (0,0)).1,(ks.getD j (0,0)).2]=LJS.hT _ _ [(ks.getD n (0,0)).1,(ks.getD n (0,0)).2]
      rw[ej]
     rw[XI c,XI this]
    ·have:LJS.aC X.prog X.w (fun i=>[(ks.getD i (0,0)).1,(ks.getD i (0,0)).2]) n∉(LJS.ig (LJS.aC X.prog X.w fun i=>[(ks.getD i (0,0)).1,(ks.getD i (0,0)).2]) n).map (LJS.aC X.prog X.w fun i=>[(ks.getD i (0,0)).1,(ks.getD i (0,0)).2]):=fun z=>by
      obtain⟨j,hj,ej⟩:=Nk.mp z
      have Qx:=LJS.yj _ n j hj
      exact c (Nk.mpr ⟨j,hj,same n j (by omega) (by omega) ej⟩)
     rw[Nj c,Nj this,Yw];rfl
  obtain⟨o,es,ep,t,ho,hex,hd,T⟩:=se
  have hlen:((LJS.ig (LJS.aC X.prog X.w fun i=>[(ks.getD i (0,0)).1,(ks.getD i (0,0)).2]) ks.length).map (LJS.aC X.prog X.w fun i=>[(ks.getD i (0,0)).1,(ks.getD i (0,0)).2])).length=(gN ks ks.length).length:=by
   rw[<-key ks.length (qq _),qp,qp]
  have T':=T.P
  rw[sz] at T'
  have BL:LJS.kJ h' s.heap.objs.size _:=⟨o,es,ep,t,ho,hex,hd,T'⟩
  exact⟨.ref s.heap.objs.size,upd H s.heap.objs.size (k6 s.heap.objs.size (gN ks ks.length).length),I.laid (t':=tk) (fun b o e=>kp b o (Ng e) e) (qq _) (OK BL hlen),rfl,q _ (I.aK.fresh (qq _))⟩
end
end L2
namespace HT
open PySem PySem.Spec PyProof.Rows
section
variable {prog:Program} {w:World} {A:Around} {E:Value->Shared->Prop} {s:Shared}
theorem Qy {t b:Addr} {ws:List Value} {Q:Value->Shared->Prop} (ht:IsTup s.heap t #[]) (hb:IsTup s.heap b ws.toArray) (h:Q (.ref b) s):wpAny (model prog w) A (binaryOp .Add (.ref t) (.ref b)) Q E s:=by
 obtain⟨⟨cls,dd,data,sl⟩,ho,hc,n,hd⟩:=id ht
 obtain⟨⟨t_,oC,data2,oD⟩,gq,j9,n2,hd2⟩:=id hb
 simp only at hc hd j9 hd2
 subst hc hd j9 hd2
 exact concat_meets ⟨_,ho,rfl⟩ ⟨_,gq,rfl⟩ noFill_tuple_add seq_tuple_add q0Y q0M (q0E _ _)
  (tuple_addW0 t b #[] ws.toArray n n2 dd oC sl oD rfl) ⟨ho,gq,h⟩
theorem Qz {t sl:Addr} {items:Array Value} {vl vu:Value} {lo hi:Option Int} {Q:Value->Shared->Prop} (ht:IsTup s.heap t items) (hs:s.heap.IsSliceOf sl vl vu .none) (pl:IsPart vl lo) (pu:IsPart vu hi)
  (hw:aX items.size 0 lo=0/\aX items.size items.size hi=items.size) (h:Q (.ref t) s):wpAny (model prog w) A (getItem (.ref t) (.ref sl)) Q E s:=by
 obtain⟨os,qe,sk,ua⟩:=id hs
 have Af:s.TypeIs (.ref sl) "slice" := ⟨os,qe,sk⟩
 unfold getItem
 try with_reducible refine YE ?_
 first | refine nq (xa ?_) | skip
 refine nq (wpAny_sequenceKey ht.typeIs (by decide) ?_)
 refine nq (ZA (name:=Str.ofString "__getitem__") ht.typeIs YX
  (Zr YX ht.typeIs entry_tuple_getitem ?_ (args_tuple_getitem _ _)))
 show wpAny _ _ (Builtin.Tuple.tupleItemsOf (.ref t) >>= _) _ _ s
 refine nq (tupleItemsOf_ ht ?_)
 refine nq (q0V Af ?_)
 rw[XI (by decide)]
 refine nq (Fu hs pl pu ?_)
 show wpAny _ _ (if (((aX items.size 0 lo:Nat):Int) == 0 && (1:Int) == 1 && (aX items.size items.size hi - aX items.size 0 lo) == items.size)=true then _ else _) _ _ s
 rw[XI (by rw[hw.1,hw.2];simp)]
 unfold Builtin.Tuple.tupleIsExact
 refine nq (nq (q0V ht.typeIs (xa ?_)))
 rw[XI (by decide)]
 refine nq (q1S ?_)
 exact xa ⟨_,rfl,xa h⟩
end
end HT
namespace L2
open PySem PySem.Spec PyProof.Rows
variable [aD]
section
variable {X:Cx} {e:Expr} {te:TE} {pos p2 p3 p4:Pos}
noncomputable def QA (K:PySem.W.Frag):V->Option Int->Option Int->Hp->VK->Prop:=fun x lo hi H Q=>∃ a xs,x = .ref a/\bC K H a xs ∧
 (HT.aX xs.length 0 lo=0/\HT.aX xs.length xs.length hi=xs.length->Q (.ref a) H)/\(¬ (HT.aX xs.length 0 lo=0/\HT.aX xs.length xs.length hi=xs.length)->∀ p,H p=none->Q (.ref p) (upd H p (.tup (c7 xs lo hi))))
theorem QB:nh X (QA X.K):=by
 intro pins s σ H x v vl vu lo hi sl Q I rx hs pl pu h
 obtain⟨a,xs,rfl,hx,q1,q2⟩:=h
 by_cases hw:HT.aX xs.length 0 lo=0/\HT.aX xs.length xs.length hi=xs.length
 ·cases rx
  obtain⟨ag,r,ht,hz⟩:=I.tuple hx
  have hlen:ag.toArray.size=xs.length:=by rw[xb];exact r.length.symm
  refine⟨"tuple",_,YX.lookup,ht.typeIs,?_⟩
  exact HT.Qz ht hs pl pu (by rw[hlen];exact hw) ⟨.ref a,H,I,rfl,q1 hw⟩
 ·exact MV pins s σ H _ v vl vu lo hi sl Q I rx hs pl pu ⟨a,xs,rfl,hx,hw,q2 hw⟩
theorem QC:di X (binaryOp .Add) (fun x y H Q=>∃ a b ys,x = .ref a/\y = .ref b/\bC X.K H a []/\bC X.K H b ys/\Q (.ref b) H):=by
 intro pins s σ H x y v u Q I rx ry h
 obtain⟨a,b,ys,rfl,rfl,ha,hb,q⟩:=h
 cases rx
 cases ry
 obtain⟨ag,r1,p1,_⟩:=I.tuple ha
 obtain⟨a5,r2,p2,_⟩:=I.tuple hb
 have:ag=[]:=r1.fJ.mpr rfl
 subst this
 exact HT.Qy p1 p2 ⟨.ref b,H,I,rfl,q⟩
theorem QD:di X (compareOp .Is) (fun x y H Q=>∃ a b,x = .bl a/\y = .bl b/\Q (.bl (a == b)) H):=by
 intro pins s σ H x y v u Q I rx ry h
 obtain⟨a,b,rfl,rfl,q⟩:=h
 cases rx
 cases ry
 exact xa ⟨.bl (a == b),H,I,by cases a<;>cases b<;>rfl,q⟩
noncomputable def eQ:D->D->(D->Prop)->Prop
 | .int i,.int j,K=>K (.int (i + j))
 | .lst a,.lst b,K=>a.length + b.length <= 1000/\K (.lst (a ++ b))
 | .tup a,.tup b,K=>a.length + b.length <= 1000/\K (.tup (a ++ b))
 | .str a,.str b,K=>a.length + b.length <= 1000/\K (.str (a ++ b))
 | _,_,_=>False
theorem fO:fL X (binaryOp .Add) eQ:=by
 rintro pins s σ H x y v u Q I rx ry ⟨F,d,e,K,sub,rd,re,q,md⟩
 unfold eQ at q
 split at q
 ·exact xR pins s σ H x y v u Q I rx ry ⟨F,_,_,K,sub,rd,re,q,md⟩
 ·exact xR pins s σ H x y v u Q I rx ry ⟨F,_,_,K,sub,rd,re,q,md⟩
 ·rename_i as bs
  by_cases c:as=[]
  ·subst c
   have dA:Is F (.tup []) x:=rd
   have iE:Is F (.tup bs) y:=re
   have QE:=iE
   simp only[Is] at dA iE
   obtain⟨a,us,rfl,h1,h2⟩:=dA
   obtain⟨b,ws,rfl,h3,h4⟩:=iE
   have:us=[]:=by simpa only [af] using h2
   subst this
   exact QC pins s σ H _ _ v u Q I rx ry ⟨a,b,ws,rfl,rfl,bC.of (sub _ _ h1),bC.of (sub _ _ h3),md _ _ _ q.2 (fun _ _ e=>e) (u6 sub QE)⟩
  ·exact xR pins s σ H x y v u Q I rx ry ⟨F,_,_,K,sub,rd,re,⟨⟨c,q.1⟩,q.2⟩,md⟩
 ·exact xR pins s σ H x y v u Q I rx ry ⟨F,_,_,K,sub,rd,re,q,md⟩
 ·exact q.elim
noncomputable def rz:D->Option Int->Option Int->(D->Prop)->Prop
 | .lst ds,lo,hi,K=>K (.lst (cutD ds lo hi))
 | .tup ds,lo,hi,K=>K (.tup (cutD ds lo hi))
 | _,_,_,_=>False
noncomputable def i7 (f:WE) (l h:WO):WE:=fun δ K=>f δ fun x δ1=>l δ1 fun lo δ2=>h δ2 fun hi δ3=>ib x δ3 fun d=>rz d lo hi fun z=>K (.p z) δ3
theorem QF {ds:List D} {lo hi:Option Int} (h:HT.aX ds.length 0 lo=0/\HT.aX ds.length ds.length hi=ds.length):cutD ds lo hi=ds:=by
 unfold cutD
 rw[h.1,h.2,q0Q,q1R,YT (qq _)]
theorem yk {e:Expr} {f:WE} {lo hi:Option Expr} {l h:WO} {pos p2:Pos} (he:JE X e (tD f)) (hl:PO X lo (xU l)) (hh:PO X hi (xU h)):JE X (.Subscript e (.Slice lo hi none p2) pos) (tD (i7 f l h)) :=
 (A0 (g7.or QB) he hl hh).weak fun σ H Q h0_ => el7 h0_ fun F ad δ K S q k =>⟨F,ad,δ,_,S,q,fun x δ1 h1 v F1 aP H1 E1 S1 V1=>⟨F1,aP,δ1,_,S1,h1,fun lo δ2 h2 F2 bV H2 E2 S2=>⟨F2,bV,δ2,_,S2,h2,fun hi δ3 h3 F3 oP H3 E3 S3=>by
  obtain⟨d,h4,rd⟩:=km S3 ((V1.ext E2).ext E3) h3
  have BV:=(E1.trans E2).trans E3
  unfold rz at h4
  split at h4
  ·rename_i ds
   obtain⟨a,vs,rfl,g1,g2⟩:=rd
   refine .inl ⟨a,vs,rfl,aU.of g1,fun p hp => ?_⟩
   exact k _ _ h4 _ _ _ _ (BV.trans (Ext.al S3 (cW hp))) (S3.al (cW hp)) (oW S3.sub hp (G9 g2 _ _))
  ·rename_i ds
   have dA:Is F3 (.tup ds) v:=rd
   have QG:=dA
   simp only[Is] at dA
   obtain⟨a,vs,rfl,g1,g2⟩:=dA
   refine .inr ⟨a,vs,rfl,bC.of (S3.sub _ _ g1),fun hw => ?_,fun _ p hp => ?_⟩
   ·rw[g2.length] at hw
    rw[QF hw] at h4
    exact k _ _ h4 _ _ _ _ BV S3 QG
   ·exact k _ _ h4 _ _ _ _ (BV.trans (Ext.al S3 (cW hp))) (S3.al (cW hp)) (Bs S3.sub hp (G9 g2 _ _))
  ·exact h4.elim⟩⟩⟩
noncomputable def ly:D->D->(D->Prop)->Prop
 | .bl a,.bl b,K=>K (.bl (a == b))
 | d,e,K=>lq d e K
theorem HW:fL X (compareOp .Is) ly:=by
 rintro pins s σ H x y v u Q I rx ry ⟨F,d,e,K,sub,rd,re,q,md⟩
 unfold ly at q
 split at q
 ·rename_i a b
  exact QD pins s σ H x y v u Q I rx ry ⟨a,b,rd,re,md _ _ _ q (fun _ _ e=>e) rfl⟩
 ·exact Pz pins s σ H x y v u Q I rx ry ⟨F,_,_,K,sub,rd,re,q,md⟩
end
end L2
open L2
open Lean in
local macro_rules
 | `(tactic| simp? only [$ls,*] $[$loc:location]?) => do
  let a ← ("q0i dep a_ YK Nat.max_self Nat.max_zero Nat.zero_max Nat.reduceLeDiff au aG dN ao ah d1 d2 dC aa jN ib nA jP aw.fix GC fZ eU sH dT sI k_ qA gA uQ kn A_ fM nG aN bG bt jQ f7 kq iZ eW fG qE c9 bO qK lh Bl lj qL uX c8 av xI passes mf gj qF qG bc qP eQ rz i7 ly uS nP o9 gC oI eO oEq oX oLt lq mi cY xY va xZ cE x_ BI BJ i5 qT rh gD jT q_ BA Bu bS vg aw.trim gh uT Option.join_some Option.join_none Yt Z4 q1L List.nil_append Zg List.replicate_zero q0O Z2 List.getElem?_nil Y7 Y8 FL q0n List.take_succ_cons q1s List.take_nil List.any_nil q0e q2j ZS Bool.and_true q0_ Bool.or_false Ym Bool.true_eq_false Z9 Y1 true_and and_true and_self reduceCtorEq beq_self_eq_true YY Nat.reduceAdd Nat.reduceLT Nat.reduceEqDiff Nat.reduceSub qp Aw".splitOn " ").toArray.mapM fun s => `(Parser.Tactic.simpLemma| $(mkIdent s.toName):ident)
  let r ← `(Parser.Tactic.simpLemma| ↓reduceIte)
  let a : Syntax.TSepArray [`Lean.Parser.Tactic.simpStar, `Lean.Parser.Tactic.simpErase, `Lean.Parser.Tactic.simpLemma] "," := ⟨(Syntax.SepArray.ofElems (sep := ",") ((a.push r).map (·.raw) ++ ls.getElems.map (·.raw))).elemsAndSeps⟩
  `(tactic| simp only [$a,*] $[$loc]?)
set_option maxHeartbeats 8000000
namespace LJ
open PySem L2
variable [aD]
theorem HX {ns:List Int} {k:Int} (h0:0 <= k) (h1:k < (ns.length:Int)):∃ n,fB (ns.map D.int) k=some (.int n):=by
 obtain⟨i,rfl⟩:∃ i:Nat,k=i:=⟨k.toNat,by omega⟩
 have hi:i < ns.length:=by omega
 refine⟨ns[i],oE ?_⟩
 rw[Ni,qo hi];rfl
theorem i8 {α : Type} {x : α} {r:List α}:fB (x :: r) 0=some x:=oE (j:=0) rfl
theorem i9 {α : Type} {x y : α} {r:List α}:fB (x :: y :: r) 1=some y:=oE (j:=1) rfl
theorem at2 {α : Type} {x y z : α} {r:List α}:fB (x :: y :: z :: r) 2=some z:=oE (j:=2) rfl
theorem vt {a b A B:Int} (h0:0 <= a) (h1:a <= A) (h2:0 <= b) (h3:b <= B):0 <= a * b/\a * b <= A * B :=
 ⟨Int.mul_nonneg h0 h2,Int.mul_le_mul h1 h3 h2 (Int.le_trans h0 h1)⟩
noncomputable def iG:List Int:=[2147483629,2147483587,2147483579,2147483563,2147483549,2147483543,2147483497,2147483489,2147483477,2147483423,2147483399,2147483353,2147483323]
theorem BW (n:Int):∃ q:Int,fB (iG.map D.int) (n % 13)=some (.int q)/\0 < q/\q < 2147483648:=by
 have h0:0 <= n % 13:=Zx _ (by decide)
 have h1:n % 13 < 13:=Y6 _ (by decide)
 generalize n % 13=j at h0 h1
 obtain⟨i,rfl⟩:∃ i:Nat,j=i:=⟨j.toNat,by omega⟩
 have hi:i < 13:=by omega
 have hl:(iG.map D.int)[i]? = some (.int (iG[i]'(by show i < 13;exact hi))):=by
  rw[Ni,qo (by show i < 13;exact hi)];rfl
 refine⟨_,oE hl,?_⟩
 have all:∀ q∈iG,0 < q/\q < 2147483648:=by decide
 exact all _ (ZQ _)
theorem QH:jk 3 1=some 1:=rfl
theorem HY:jk 3 2=some 2:=rfl
theorem aW {A B:WS} {K:KS} {δ : aw} (h:∀ N:aw->Prop,N=B K->A { K with nx:=N } δ):au A B K δ := h _ rfl
theorem ym {t:WT} {G G':WS} {K:KS} {δ : aw} (h:∀ A B:aw->Prop,A=G K->B=G' K->t δ fun b δ1=>if b=true then A δ1 else B δ1):bG t G G' K δ := h _ _ rfl rfl
theorem vv {w:WI} {g:WG} {b:WS} {K:KS} {δ : aw} (h:∀ g' b' K',g'=g->b'=b->K'=K->w δ fun it δ1=>kr δ1 it.bh g' b' K' it.items δ1):eW w g b K δ := h _ _ _ rfl rfl rfl
theorem yn {f:WE} {g:WA} {δ : aw} {K:List DV->aw->Prop} (h:∀ K',K'=(fun x δ1=>g δ1 fun xs δ2=>K (x :: xs) δ2)->f δ K'):ao f g δ K:=h _ rfl
noncomputable def vw:GD:=fun ys aj K=>∃ cell at_:Int,ys=[.p (.int cell),.p (.int at_)]/\aj=[]/\0 <= at_/\at_ < 2 ^ 30/\∀ z:Int,K (.p (.int z)) []
noncomputable def BX:WS:=(au (bG (dT (d2 (aa 0) (d2 (dC (.int 10)) (dC (.int 18)) (eO g5 fun i j => .int (i ^ j.toNat))) (oI fun i j => .bl (decide (j <= i))))) (aN (aa 0)) fM) (au (aG 2 (eU (ao (dC (.int 2147483629)) (ao (dC (.int 2147483587)) (ao (dC (.int 2147483579)) (ao (dC (.int 2147483563)) (ao (dC (.int 2147483549)) (ao (dC (.int 2147483543)) (ao (dC (.int 2147483497)) (ao (dC (.int 2147483489)) ah)))))))))) (au (aG 2 (d2 (aa 2) (eU (ao (dC (.int 2147483477)) (ao (dC (.int 2147483423)) (ao (dC (.int 2147483399)) (ao (dC (.int 2147483353)) (ao (dC (.int 2147483323)) ah)))))) eQ)) (au (aG 3 (d2 (d2 (d2 (d2 (d2 (d2 (aa 0) (dC (.int 1000000007)) (eO (fun _ j=>0 < j) fun i j => .int (i % j))) (d2 (d2 (dC (.int 2)) (aa 1) gC) (dC (.int 69069)) eQ) gC) (d2 (aa 1) (dC (.int 40503)) gC) eQ) (dC (.int 977)) eQ) (dC (.int 3)) (eO g5 fun i j => .int (i ^ j.toNat))) (d2 (aa 2) (d2 (aa 1) (dC (.int 13)) (eO (fun _ j=>0 < j) fun i j => .int (i % j))) bc) (eO (fun _ j=>0 < j) fun i j => .int (i % j)))) (au (aG 4 (d2 (d2 (d2 (d2 (d2 (aa 3) (d2 (aa 1) (dC (.int 3)) eQ) gC) (d2 (aa 0) (dC (.int 65537)) (eO (fun _ j=>0 < j) fun i j => .int (i % j))) eQ) (dC (.int 5)) eQ) (dC (.int 5)) (eO g5 fun i j => .int (i ^ j.toNat))) (d2 (aa 2) (d2 (d2 (aa 1) (dC (.int 5)) eQ) (dC (.int 13)) (eO (fun _ j=>0 < j) fun i j => .int (i % j))) bc) (eO (fun _ j=>0 < j) fun i j => .int (i % j)))) (au (aG 5 (d2 (d2 (d2 (d2 (aa 4) (d2 (aa 3) (dC (.int 1009)) (eO (fun _ j=>0 < j) fun i j => .int (i % j))) eQ) (aa 1) eQ) (dC (.int 3)) (eO g5 fun i j => .int (i ^ j.toNat))) (d2 (aa 2) (d2 (d2 (aa 1) (dC (.int 7)) eQ) (dC (.int 13)) (eO (fun _ j=>0 < j) fun i j => .int (i % j))) bc) (eO (fun _ j=>0 < j) fun i j => .int (i % j)))) (aN (d2 (d2 (d2 (d2 (aa 3) (dC (.int 2147483647)) gC) (aa 4) eQ) (dC (.int 2147483647)) gC) (aa 5) eQ))))))))
theorem QI:∀ ys aj K',ys.length=2->vw ys aj K'->BX (bS aj.length K') ⟨ys.map some ++ List.replicate 4 none,aj.map some⟩:=by
 rintro ys aj K' - ⟨cell,k,rfl,rfl,h0,h1,fin⟩
 unfold BX
 have lz:∀ (z:Int) (sl:List (Option DV)),hJ 0 K' (.p (.int z)) ⟨sl,[]⟩:=fun z sl=>⟨[],rfl,rfl,fin z⟩
 simp? only []
 refine⟨⟨by decide,by decide,by decide⟩,?_⟩
 split
 ·exact lz _ _
 obtain⟨q1,e1,p1,b1⟩:=BW k
 obtain⟨q2,e2,p2,b2⟩:=BW (k + 5)
 obtain⟨q3,e3,p3,b3⟩:=BW (k + 7)
 simp only[iG,Yt,Z4] at e1 e2 e3
 simp only[e1,e2,e3]
 have c0:0 <= cell % 1000000007:=Zx _ (by decide)
 have c1:cell % 1000000007 < 1000000007:=Y6 _ (by decide)
 have m1:=vt c0 (Int.le_of_lt c1) (show (0:Int) <= 2 * k + 69069 by omega) (show 2 * k + 69069 <= 2147552717 by omega)
 refine⟨by decide,.inl ⟨by decide,by decide⟩,.inl ⟨by omega,by omega⟩,.inr ⟨by decide,by decide⟩,⟨by decide,by decide,?cp1⟩,by decide,p1,?_⟩
 case cp1 =>
  generalize cell % 1000000007 * (2 * k + 69069)=m at m1 ⊢
  omega
 generalize (cell % 1000000007 * (2 * k + 69069) + k * 40503 + 977) ^ (3:Int).toNat=x1
 have o0:0 <= x1 % q1:=Zx _ (by omega)
 have o1:x1 % q1 < q1:=Y6 _ p1
 have d0:0 <= cell % 65537:=Zx _ (by decide)
 have d1:cell % 65537 < 65537:=Y6 _ (by decide)
 have m2:=vt o0 (show x1 % q1 <= 2147483648 by omega) (show (0:Int) <= k + 3 by omega) (show k + 3 <= 1073741827 by omega)
 refine⟨.inl ⟨by omega,by omega⟩,by decide,⟨by decide,by decide,?cp2⟩,by decide,p2,?_⟩
 case cp2 =>
  generalize x1 % q1 * (k + 3)=m at m2 ⊢
  omega
 have t0:0 <= (x1 % q1 * (k + 3) + cell % 65537 + 5) ^ (5:Int).toNat % q2:=Zx _ (by omega)
 have t1:(x1 % q1 * (k + 3) + cell % 65537 + 5) ^ (5:Int).toNat % q2 < q2:=Y6 _ p2
 have u0:0 <= x1 % q1 % 1009:=Zx _ (by decide)
 have u1:x1 % q1 % 1009 < 1009:=Y6 _ (by decide)
 generalize (x1 % q1 * (k + 3) + cell % 65537 + 5) ^ (5:Int).toNat % q2=m at t0 t1 ⊢
 exact⟨by decide,⟨by decide,by decide,by omega⟩,by decide,p3,.inr ⟨by decide,by decide⟩,.inr ⟨by decide,by decide⟩,lz _ _⟩
noncomputable def i_ (ns:List Int) (k z:Int):OV := .lst [.lst (ns.map D.int),.int k,.int z]
structure bj (n:Int) (o:OV):Prop where
 out:∃ ns k z,o=i_ ns k z/\ns.length <= 63/\0 <= k/\k <= n
theorem bj.mono {n m:Int} {o:OV} (h:bj n o) (l:n <= m):bj m o:=by
 obtain⟨ns,k,z,e,h1,h2,h3⟩:=h.out
 exact⟨ns,k,z,e,h1,h2,by omega⟩
noncomputable def vx:GD:=fun ys aj K=>∃ n o,ys=[.o 0]/\aj=[o]/\bj n o/\∀ o',bj n o'->K (.a 0) [o']
noncomputable def BY:WS:=(au (rh (dC (.int 0)) (aa 0) (dC (.int 2))) (aN (aa 0)))
theorem QJ:∀ ys aj K',ys.length=1->vx ys aj K'->BY (bS aj.length K') ⟨ys.map some ++ List.replicate 0 none,aj.map some⟩:=by
 rintro ys aj K' - ⟨n,o,rfl,rfl,P,fin⟩
 obtain⟨ns,k,z,rfl,h1,h2,h3⟩:=P.out
 unfold BY i_
 simp? only []
 exact⟨[i_ ns k 0],rfl,rfl,fin _ ⟨ns,k,0,rfl,h1,h2,h3⟩⟩
noncomputable def iH:GD:=fun ys aj K=>∃ (n m:Int) (o:OV),ys=[.o 0,.p (.int m)]/\aj=[o]/\bj n o/\n < 2 ^ 30/\0 < m/\m < 1073741824/\∀ r o',0 <= r->r < m->bj (n + 1) o'->K (.p (.int r)) [o']
noncomputable def BZ:WS:=(au (bG (dT (d2 (d2 (aa 0) (dC (.int 2)) bc) (aa 1) oLt)) (au (aG 2 (d2 (aa 0) (dC (.int 1)) bc)) (au (aG 3 (dC (.int 0))) (au (bG (dT (d2 (aa 2) (dN (ao (d2 (aa 0) (dC (.int 0)) bc) ah) cY) oLt)) (aG 3 (d2 (d2 (aa 0) (dC (.int 0)) bc) (aa 2) bc)) (bG (dT (d2 (dN (ao (d2 (aa 0) (dC (.int 0)) bc) ah) cY) (dC (.int 0)) (oI fun i j => .bl (decide (j < i))))) (aG 3 (d2 (d2 (d2 (aa 0) (dC (.int 0)) bc) (d2 (d2 (d2 (aa 2) (dC (.int 5)) gC) (dC (.int 3)) eQ) (dN (ao (d2 (aa 0) (dC (.int 0)) bc) ah) cY) (eO (fun _ j=>0 < j) fun i j => .int (i % j))) bc) (d2 (d2 (dC (.int 10)) (dC (.int 17)) (eO g5 fun i j => .int (i ^ j.toNat))) (aa 2) eQ) (eO (fun _ j=>0 < j) fun i j => .int (i % j)))) fM)) (au (rh (d2 (aa 2) (dC (.int 1)) eQ) (aa 0) (dC (.int 1))) (rh (av 2 vw (ao (aa 3) (ao (aa 2) ah))) (aa 0) (dC (.int 2))))))) fM) (au (aG 4 (d2 (d2 (aa 0) (dC (.int 2)) bc) (aa 1) (eO (fun _ j=>0 < j) fun i j => .int (i % j)))) (au (rh (d2 (d2 (aa 0) (dC (.int 2)) bc) (aa 1) (eO t4 fun i j => .int (i.fdiv j))) (aa 0) (dC (.int 2))) (aN (aa 4)))))
theorem QK:∀ ys aj K',ys.length=2->iH ys aj K'->BZ (bS aj.length K') ⟨ys.map some ++ List.replicate 3 none,aj.map some⟩:=by
 rintro ys aj K' - ⟨n,m,o,rfl,rfl,P,hn,HZ,XZ,fin⟩
 obtain⟨ns,k,z,rfl,h1,h2,h3⟩:=P.out
 unfold BZ i_
 have last:∀ (k' z':Int) (sl:List (Option DV)),0 <= k'->k' <= n + 1->hJ 1 K' (.p (.int (z' % m))) ⟨sl,[some (.lst [.lst (ns.map D.int),.int k',.int (z'.fdiv m)])]⟩:=fun k' z' sl a b =>
  ⟨[i_ ns k' (z'.fdiv m)],rfl,rfl,fin _ _ (Zx _ (by omega)) (Y6 _ HZ) ⟨ns,k',_,rfl,h1,a,b⟩⟩
 have QL:∀ z,t4 z m:=fun z=>⟨by omega,by omega⟩
 have rest:∀ (k' z':Int) (s2 s3 s4:Option DV),0 <= k'->k' <= n + 1->(au (aG 4 (d2 (d2 (aa 0) (dC (.int 2)) bc) (aa 1) (eO (fun _ j=>0 < j) fun i j => .int (i % j)))) (au (rh (d2 (d2 (aa 0) (dC (.int 2)) bc) (aa 1) (eO t4 fun i j => .int (i.fdiv j))) (aa 0) (dC (.int 2))) (aN (aa 4)))) (bS 1 K') ⟨[some (.o 0),some (.p (.int m)),s2,s3,s4],[some (.lst [.lst (ns.map D.int),.int k',.int z'])]⟩:=fun k' z' s2 s3 s4 a b=>by
  simp? only [at2,HY]
  exact⟨HZ,QL _,last _ _ _ a b⟩
 refine aW fun N hN => ?_
 refine ym fun A B hA hB => ?_
 simp? only [at2]
 split
 ·subst hA
  refine aW fun N2 eX => ?_
  simp? only [i9]
  subst eX
  refine aW fun N2 eX => ?_
  simp? only []
  subst eX
  refine aW fun N2 eX => ?_
  have go:∀ (c:Int) (s4:Option DV),N2 ⟨[some (.o 0),some (.p (.int m)),some (.p (.int k)),some (.p (.int c)),s4],[some (.lst [.lst (ns.map D.int),.int k,.int z])]⟩:=fun c s4=>by
   subst eX
   simp? only [QH]
   refine⟨c,k,rfl,rfl,h2,by omega,fun z' => ?_⟩
   simp? only [HY]
   subst hN
   exact rest _ _ _ _ _ (by omega) (by omega)
  refine ym fun A B hA hB => ?_
  simp? only [i8]
  split
  ·rename_i cQ
   obtain⟨c,ec⟩:=HX h2 (Zt cQ)
   subst hA
   simp? only [i8]
   rw[ec]
   exact go _ _
  ·subst hB
   refine ym fun A B hA hB => ?_
   simp? only [i8]
   split
   ·rename_i nR
    have nR:=Zt nR
    obtain⟨c,ec⟩:=HX (ns:=ns) (k:=(k * 5 + 3) % (ns.length:Int)) (Zx _ (by omega)) (Y6 _ nR)
    subst hA
    simp? only [i8]
    refine⟨.inr ⟨by decide,by decide⟩,nR,?_⟩
    rw[ec]
    exact⟨⟨by decide,by decide,by decide⟩,by show (0:Int) < 10 ^ 17 + k;omega,go _ _⟩
   ·subst hB
    exact go _ _
 ·subst hB hN
  exact rest _ _ _ _ _ (by omega) (by omega)
noncomputable def cU (p:Int × Int):D := .tup [.int p.1,.int p.2]
structure dD (many:Int) (ps:List (Int × Int)):Prop where
 ends:∀ p∈ps,0 <= p.1/\p.1 < p.2/\p.2 < many
 mN:ps.Nodup
 iP:ps.length <= 66
theorem dD.sub {many:Int} {ps qs:List (Int × Int)} (h:dD many ps) (s:qs.Sublist ps):dD many qs :=
 ⟨fun p hp=>h.ends p (s.subset hp),h.mN.sublist s,Zb s.length_le h.iP⟩
noncomputable def vy:GD:=fun ys aj K=>∃ (n kind many:Int) (o:OV),ys=[.o 0,.p (.int kind),.p (.int many)]/\aj=[o]/\bj n o/\n + 100 < 2 ^ 30/\1 <= many/\many <= 12/\∀ ps o',dD many ps->bj (n + 67) o'->K (.n (ps.map cU)) [o']
noncomputable def B0:WS:=(au (aG 3 (sH ah)) (au (eW (lh (ao (aa 2) ah)) (bt 4) (nG (q_ (aa 3) (ao (fG (lh (ao (aa 4) ah)) [none,some 4] (bt 0) c9 (fZ (ao (aa 0) (ao (aa 1) ah)))) ah)))) (au (bG (dT (d2 (aa 1) (dC (.int 1)) oEq)) (aN (qE (Bl (ao (dC (.int 1)) (ao (aa 2) ah))) [none,some 0] (bt 0) c9 (fZ (ao (av 2 iH (ao (aa 1) (ao (aa 0) ah))) (ao (aa 0) ah))))) fM) (au (bG (dT (d2 (aa 1) (dC (.int 2)) oEq)) (au (aG 5 (fG (lh (ao (d2 (aa 2) (dC (.int 1)) (oI fun i j => .int (i - j))) ah)) [none] (bt 0) c9 (fZ (ao (aa 0) (ao (d2 (aa 0) (dC (.int 1)) eQ) ah))))) (aN (BJ (aa 5) (fG (bO (aa 3)) [none,some 2] (bt 0) (k_ (dT (d2 (aa 0) (fZ (ao (dC (.int 0)) (ao (d2 (aa 1) (dC (.int 1)) (oI fun i j => .int (i - j))) ah))) oEq)) (dT (d2 (aa 1) (dC (.int 2)) (oI fun i j => .bl (decide (j < i)))))) (aa 0))))) fM) (au (bG (dT (d2 (aa 1) (dC (.int 3)) oEq)) (aN (aa 3)) fM) (au (bG (dT (d2 (aa 1) (dC (.int 4)) oEq)) (aN (qE (bO (aa 3)) [none,some 0] (bt 0) (dT (d2 (av 2 iH (ao (aa 1) (ao (dC (.int 4)) ah))) (dC (.int 0)) oEq)) (aa 0))) fM) (au (bG (dT (d2 (aa 1) (dC (.int 5)) oEq)) (au (aG 6 (av 2 iH (ao (aa 0) (ao (d2 (aa 2) (dC (.int 1)) eQ) ah)))) (aN (qE (bO (aa 3)) [none,some 6,some 0] (bt 0) (k_ (dT (d2 (d2 (d2 (aa 0) (dC (.int 0)) bc) (aa 1) oLt) (d2 (d2 (aa 0) (dC (.int 1)) bc) (aa 1) oLt) oEq)) (dT (d2 (av 2 iH (ao (aa 2) (ao (dC (.int 3)) ah))) (dC (.int 0)) (oI fun i j => .bl (decide (j < i)))))) (aa 0)))) fM) (aN (qE (bO (aa 3)) [none,some 0] (bt 0) (dT (d2 (av 2 iH (ao (aa 1) (ao (dC (.int 2)) ah))) (dC (.int 0)) oEq)) (aa 0))))))))))
theorem sub_snoc {α : Type} {zs ps:List α} {i:Nat} {x : α} (h:zs.Sublist (ps.take i)) (e:ps[i]? = some x):(zs ++ [x]).Sublist (ps.take (i + 1))/\zs.Sublist (ps.take (i + 1)):=by
 have:ps.take (i + 1)=ps.take i ++ [x]:=by rw[ZY,e];rfl
 rw[this]
 exact⟨h.append (List.Sublist.refl _),h.trans (List.sublist_append_left _ _)⟩
theorem QM {α : Type} {l:List α} {c : α} (h:l.Nodup) (hc:∀ x∈l,x=c):l.length <= 1:=by
 match l,h,hc with
 | [],_,_=>exact YK _
 | [_],_,_=>exact qq _
 | x :: y :: r,h,hc =>
  have:=(Y9.mp h).1 y (FN)
  exact absurd ((hc x FN).trans (hc y (My _ FN)).symm) this
theorem B1 {n:Int} {o:OV} {ps:List (Int × Int)} {t:WT} {K:List D->aw->Prop} {rest:List (Option DV)} {ev:Option OV} {bh:aw->Prop} (hc:∀ sl o',bh ⟨sl,[some o',ev]⟩) (hw:ps.length <= 66) (P:bj n o) (hn:n + 70 < 2 ^ 30)
  (ht:∀ (p:Int × Int) (i:Nat) (o':OV) (Q:Bool->aw->Prop),p∈ps->i <= 66->bj (n + i) o'->(∀ b lA,bj (n + i + 1) lA->Q b ⟨some (.p (cU p)) :: rest,[some lA,ev]⟩)->t ⟨some (.p (cU p)) :: rest,[some o',ev]⟩ Q)
  (hr:gh 2 rest rest=rest)
  (fin:∀ (zs:List (Int × Int)) o',zs.Sublist ps->bj (n + ps.length) o'->K (zs.map cU) ⟨none :: rest,[some o',ev]⟩) :
  jo ⟨none :: rest,[some o,ev]⟩ bh (bt 0) t (aa 0) K (ps.map cU) [] ⟨none :: rest,[some o,ev]⟩:=by
 refine BF (fun i acc δ => ∃ (zs:List (Int × Int)) (o':OV),zs.Sublist (ps.take i)/\acc=zs.map cU/\bj (n + i) o' /\ δ = ⟨none :: rest,[some o',ev]⟩) ⟨[],o,List.Sublist.refl _,rfl,P.mono (by omega),rfl⟩ ?_ ?_
 ·rintro j d acc δ L hj ⟨zs,o',hz,rfl,P',rfl⟩ hL
  rw[Ni] at hj
  obtain⟨p,hp,rfl⟩:=XM.mp hj
  have Qx:j < ps.length:=(su.mp hp).1
  refine⟨hc _ _,?_⟩
  show t ⟨some (.p (cU p)) :: rest,[some o',ev]⟩ _
  refine ht p j o' _ (YO hp) (by omega) P' fun b lA nU => ?_
  have hlen:(zs.map cU).length < 1000:=by
   rw[qp]
   have:=hz.length_le
   rw[YD] at this;omega
  have P3:bj (n + ((j + 1:Nat):Int)) lA:=nU.mono (by omega)
  cases b with
  | true =>
   rw[XI rfl]
   refine⟨hlen,hL _ _ ⟨zs ++ [p],lA,(sub_snoc hz hp).1,by rw[Yw];rfl,P3,?_⟩⟩
   show (⟨none :: gh 2 rest rest,_⟩:aw)=_
   rw[hr];rfl
  | false =>
   rw[Nj (by decide)]
   refine hL _ _ ⟨zs,lA,(sub_snoc hz hp).2,rfl,P3,?_⟩
   show (⟨none :: gh 2 rest rest,_⟩:aw)=_
   rw[hr];rfl
 ·rintro acc δ ⟨zs,o',hz,rfl,P',rfl⟩
  rw[qp] at P' hz
  rw[YT (qq _)] at hz
  exact⟨hc _ _,fin zs o' hz P'⟩
theorem QN:∀ ys aj K',ys.length=3->vy ys aj K'->B0 (bS aj.length K') ⟨ys.map some ++ List.replicate 4 none,aj.map some⟩:=by
 rintro ys aj K' - ⟨n,kind,many,o,rfl,rfl,P,hn,m1,ki,fin⟩
 obtain⟨mm,rfl⟩:∃ mm:Nat,many=mm:=⟨many.toNat,by omega⟩
 have B2:mm <= 12:=by omega
 unfold B0
 have bW:dD mm (jm mm):=⟨fun p hp=>A5 hp,Gp mm,Gq mm B2⟩
 refine aW fun N hN => ?_
 simp? only []
 subst hN
 refine aW fun N hN => ?_
 simp? only []
 refine⟨by omega,?_⟩
 refine oZ (fun i δ => δ = ⟨[some (.o 0),some (.p (.int kind)),some (.p (.int mm)),some (.o 1),none,none,none],[some o,some (.lst ((jm i).map cU))]⟩) rfl ?_ ?_
 ·rintro j d δ L hj rfl hL
  obtain⟨hj,rfl⟩:=oS hj
  simp? only []
  have e:(0 + (j:Int))=j:=by omega
  rw[e]
  refine⟨by omega,?_⟩
  refine kB (fun d=>match d with
   | .int a=>cU (a,j)
   | _ => .non) (by rw[nM];omega) trivial ?_ ?_
  ·intro d hd acc L' ha h
   obtain⟨i,hi⟩:=Yj.mp hd
   obtain⟨hi,rfl⟩:=oS hi
   simp? only []
   exact⟨ha,h⟩
  ·have e2:(jm j).map cU ++ (cu 0 (j:Int).toNat).map (fun d=>match d with
    | .int a=>cU (a,j)
    | _ => .non)=(jm (j + 1)).map cU:=by
    show _=(jm j ++ _).map cU
    unfold cu
    rw[Yw,Ys,Ys]
    congr 1
    refine YJ fun a _ => ?_
    simp[Function.comp]
   simp? only []
   have X0:=Gq j (by omega)
   refine⟨by rw[nM];omega,?_⟩
   rw[e2]
   exact hL _ rfl
 ·rintro δ rfl
  refine⟨trivial,?_⟩
  subst hN
  have eL:((mm:Int)).toNat=mm:=by omega
  rw[nM,eL]
  dsimp only
  have back:∀ (ps:List (Int × Int)) (o':OV) (sl:List (Option DV)) (m:List (Option OV)),dD mm ps->bj (n + 67) o'->hJ 1 K' (.o (m.length + 1)) ⟨sl,some o' :: (m ++ [some (.lst (ps.map cU))])⟩:=fun ps o' sl m h1 h2=>by
   refine⟨[o'],rfl,rfl,?_⟩
   show if m.length + 1 < 1 then _ else _
   rw[Nj (by omega)]
   have:(some o' :: (m ++ [some (OV.lst (ps.map cU))]))[m.length + 1]? = some (some (.lst (ps.map cU))):=by
    rw[Z2,Yi (qq _),YZ];rfl
   dsimp only
   rw[this]
   exact .inl (fin ps o' h1 h2)
  refine aW fun N hN => ?_
  simp? only [ay]
  split
  ·refine⟨by omega,?_⟩
   refine BF (fun i acc δ => ∃ (zs:List (Int × Int)) (o':OV),zs.length=i/\(∀ (q:Nat) (p:Int × Int),zs[q]? = some p->p.2=q + 1/\0 <= p.1/\p.1 < p.2)/\acc=zs.map cU/\bj (n + i) o' /\ δ = ⟨[none,some (.o 0)],[some o',some (.lst ((jm mm).map cU))]⟩) ⟨[],o,rfl,fun q p e=>by simp at e,rfl,P.mono (by omega),rfl⟩ ?_ ?_
   ·rintro j d acc δ L hj ⟨zs,o',hz,hq,rfl,P',rfl⟩ hL
    obtain⟨hj,rfl⟩:=oS hj
    simp? only []
    refine⟨n + j,1 + j,o',rfl,rfl,P',by omega,by omega,by omega,fun r lA r0 r1 nU => ?_⟩
    simp? only []
    refine⟨by omega,hL _ _ ⟨zs ++ [(r,1 + (j:Int))],lA,by rw[Aw,hz];rfl,fun q p e => ?_,by rw[Yw];rfl,nU.mono (by omega),rfl⟩⟩
    by_cases c:q < zs.length
    ·rw[XO c] at e
     exact hq q p e
    ·have hl:=(su.mp e).1
     rw[Aw,Yu] at hl
     have:q=zs.length:=by omega
     subst this
     rw[Yi (qq _),YZ] at e
     cases (show some (r,1 + (j:Int))=some p by simpa using e)
     exact⟨by show 1 + (j:Int)=_;omega,r0,r1⟩
   ·rintro acc δ ⟨zs,o',hz,hq,rfl,P',rfl⟩
    rw[nM] at hz P'
    refine⟨trivial,?_⟩
    refine back zs o' _ [_] ⟨fun p hp => ?_,?_,by omega⟩ (P'.mono (by omega))
    ·obtain⟨q,H_⟩:=Yj.mp hp
     have:=hq q p H_
     have hl:=(su.mp H_).1
     omega
    ·refine q0y.mpr fun i j hi hj jU e => ?_
     have q1:=hq i _ (qo hi)
     have q2:=hq j _ (qo hj)
     rw[e] at q1
     omega
  subst hN
  refine aW fun N hN => ?_
  simp? only [ay]
  split
  ·clear hN
   refine⟨by omega,?_⟩
   refine kB (fun d=>match d with
    | .int a=>cU (a,a + 1)
    | _ => .non) (by rw[nM];omega) trivial ?_ ?_
   ·intro d hd acc L' ha h
    obtain⟨i,hi⟩:=Yj.mp hd
    obtain⟨hi,rfl⟩:=oS hi
    simp? only []
    exact⟨ha,h⟩
   ·simp? only []
    refine sT (fun d=>ay d (cU (0,mm - 1)) && decide ((2:Int) < mm)) id (by rw[qp];have:=bW.iP;omega) rfl ?_ ?_
    ·intro d hd acc L' ha h h'
     obtain⟨p,hp,rfl⟩:=Nk.mp hd
     simp only[cU] at h h'
     simp? only [cU]
     split
     ·rename_i q1
      split
      ·rename_i q2
       exact⟨ha,h (by rw[q1,q2];rfl)⟩
      ·rename_i q2
       exact h' (by rw[q1,Bool.not_eq_true _ |>.mp q2];rfl)
     ·rename_i q1
      exact h' (by rw[Bool.not_eq_true _ |>.mp q1];rfl)
    ·simp? only []
     have er:(cu 0 ((mm:Int) - 1).toNat).map (fun d=>match d with
       | D.int a=>cU (a,a + 1)
       | x=>D.non)=((List.range (mm - 1)).map fun i:Nat=>((i:Int),(i:Int) + 1)).map cU:=by
      unfold cu
      rw[Ys,Ys]
      have:((mm:Int) - 1).toNat=mm - 1:=by omega
      rw[this]
      refine YJ fun a _ => ?_
      simp[Function.comp]
     have ef:(((jm mm).map cU).filter fun d=>ay d (cU (0,mm - 1)) && decide ((2:Int) < mm))=((jm mm).filter fun p=>ay (cU p) (cU (0,mm - 1)) && decide ((2:Int) < mm)).map cU:=by
      rw[q0q];rfl
     rw[er,q2k,ef,<-Yw]
     have hf:∀ p∈(jm mm).filter (fun p=>ay (cU p) (cU (0,mm - 1)) && decide ((2:Int) < mm)),p=(0,(mm:Int) - 1)/\(2:Int) < mm:=fun p hp=>by
      have:=(YH.mp hp).2
      simp[cU,ay,cv] at this
      obtain⟨a,b⟩:=p
      simp at this ⊢
      omega
     have h1:((jm mm).filter (fun p=>ay (cU p) (cU (0,mm - 1)) && decide ((2:Int) < mm))).length <= 1:=QM (bW.mN.sublist List.filter_sublist) fun p hp=>(hf p hp).1
     refine⟨by rw[nM,qp];omega,back _ o _ [_] ⟨fun p hp => ?_,?_,?_⟩ (P.mono (by omega))⟩
     ·rcases YL.mp hp with hp | hp
      ·obtain⟨i,hi,rfl⟩:=Nk.mp hp
       have:=Yr.mp hi
       exact⟨by omega,by omega,by show (i:Int) + 1 < mm;omega⟩
      ·exact bW.ends p (YH.mp hp).1
     ·refine Y3.mpr ⟨?_,bW.mN.sublist List.filter_sublist,fun a ha b hb e => ?_⟩
      ·refine Zi.mpr (q1H.imp fun {a b} ne e=>ne ?_)
       have:=congrArg Prod.fst e
       exact Int.ofNat.inj this
      ·subst e
       obtain⟨i,hi,rfl⟩:=Nk.mp ha
       have:=hf _ hb
       have h2:=congrArg Prod.fst this.1
       have h3:=congrArg Prod.snd this.1
       simp at h2 h3
       omega
     ·rw[Aw,qp,Zh];omega
  subst hN
  refine aW fun N hN => ?_
  simp? only [ay]
  split
  ·exact⟨[o],rfl,rfl,.inl (fin _ _ bW (P.mono (by omega)))⟩
  subst hN
  refine aW fun N hN => ?_
  simp? only [ay]
  split
  ·refine B1 (fun _ _=>rfl) bW.iP P (by omega) (fun p i o' Q hp hi P' hQ => ?_) rfl fun zs o' hz P' => ?_
   ·simp? only [ay]
    refine⟨n + i,4,o',rfl,rfl,P',by omega,by omega,by omega,fun r lA r0 r1 nU => ?_⟩
    simp? only []
    exact hQ _ _ nU
   ·exact back zs o' _ [_] (bW.sub hz) (P'.mono (by have:=bW.iP;omega))
  subst hN
  refine aW fun N hN => ?_
  simp? only [ay]
  split
  ·refine⟨n,mm + 1,o,rfl,rfl,P,by omega,by omega,by omega,fun half o1 r0 r1 P1 => ?_⟩
   simp? only []
   refine B1 (n:=n + 1) (fun _ _=>rfl) bW.iP P1 (by omega) (fun p i o' Q hp hi P' hQ => ?_) rfl fun zs o' hz P' => ?_
   ·simp? only [ay,cU,i8,i9]
    split
    ·refine⟨n + 1 + i,3,o',rfl,rfl,P',by omega,by omega,by omega,fun r lA r0 r1 nU => ?_⟩
     simp? only []
     exact hQ _ _ nU
    ·exact hQ _ _ (P'.mono (by omega))
   ·exact back zs o' _ [_] (bW.sub hz) (P'.mono (by have:=bW.iP;omega))
  subst hN
  simp? only [ay]
  refine B1 (fun _ _=>rfl) bW.iP P (by omega) (fun p i o' Q hp hi P' hQ => ?_) rfl fun zs o' hz P' => ?_
  ·simp? only [ay]
   refine⟨n + i,2,o',rfl,rfl,P',by omega,by omega,by omega,fun r lA r0 r1 nU => ?_⟩
   simp? only []
   exact hQ _ _ nU
  ·exact back zs o' _ [_] (bW.sub hz) (P'.mono (by have:=bW.iP;omega))
theorem Ia {α : Type}:∀ {l:List α} {j:Nat} (h:j < l.length),List.Perm (l[j] :: l.eraseIdx j) l
 | x :: r,0,h=>q0f _
 | x :: r,j + 1,h=>by
  have hj:j < r.length:=by simpa using h
  show List.Perm (r[j] :: x :: r.eraseIdx j) (x :: r)
  exact (List.Perm.swap x r[j] _).trans ((Ia hj).cons x)
theorem Ib {α β : Type} (f : α -> β):∀ (l:List α) (j:Nat),(l.map f).eraseIdx j=(l.eraseIdx j).map f
 | [],_=>rfl
 | _ :: _,0=>rfl
 | x :: r,j + 1=>by
  show f x :: (r.map f).eraseIdx j=f x :: (r.eraseIdx j).map f
  rw[Ib f r j]
noncomputable def bL (y:Int × Int × Int):D := .tup [.int y.1,.int y.2.1,.int y.2.2]
noncomputable def aB (m:Int) (ys:List (Int × Int × Int)):D := .tup [.int m,.tup (ys.map bL)]
noncomputable def rA (y:Int × Int × Int):Int × Int:=(y.1,y.2.1)
theorem dD.perm {many:Int} {ps qs:List (Int × Int)} (h:dD many ps) (p:qs.Perm ps):dD many qs :=
 ⟨fun x hx=>h.ends x (p.mem_iff.mp hx),p.nodup_iff.mpr h.mN,by rw[p.length_eq];exact h.iP⟩
noncomputable def vz:GD:=fun ys aj K=>∃ (n dF most:Int) (o:OV),ys=[.o 0,.p (.int dF),.p (.int most)]/\aj=[o]/\bj n o/\n + 400 < 2 ^ 30/\1 <= dF/\dF <= 12/\0 <= most/\most <= 30 ∧
 ∀ m ws o',dz m ws->m <= dF->(ws.length:Int) <= most->bj (n + 300) o'->K (.p (aB m ws)) [o']
noncomputable def B3:WS:=(au (aG 3 (av 2 iH (ao (aa 0) (ao (dC (.int 8)) ah)))) (au (aG 4 (av 2 iH (ao (aa 0) (ao (dC (.int 4)) ah)))) (au (aG 5 (d2 (dC (.int 1)) (av 2 iH (ao (aa 0) (ao (aa 1) ah))) eQ)) (au (aG 6 (xI 3 vy (ao (aa 0) (ao (aa 3) (ao (aa 5) ah))))) (au (aG 7 (sH ah)) (au (eW (lh (ao (dN (ao (aa 2) (ao (dN (ao (aa 6) ah) cY) ah)) va) ah)) (bt 8) (au (iZ (BA (aa 6) (ao (av 2 iH (ao (aa 0) (ao (dN (ao (aa 6) ah) cY) ah))) ah)) (kq 2 (f7 (bt 9) (f7 (bt 10) jQ)))) (au (aG 11 (d2 (eU (ao (dC (.int 7)) (ao (av 2 iH (ao (aa 0) (ao (dC (.int 3)) ah))) (ao (d2 (d2 (dC (.int 10)) (dC (.int 9)) (eO g5 fun i j => .int (i ^ j.toNat))) (av 2 iH (ao (aa 0) (ao (dC (.int 2)) ah))) (oI fun i j => .int (i - j))) (ao (av 2 iH (ao (aa 0) (ao (d2 (d2 (dC (.int 10)) (dC (.int 9)) (eO g5 fun i j => .int (i ^ j.toNat))) (dC (.int 1)) eQ) ah))) ah))))) (aa 4) bc)) (nG (jT (aa 7) (ao (fZ (ao (aa 9) (ao (aa 10) (ao (aa 11) ah)))) ah)))))) (aN (fZ (ao (aa 5) (ao (dN (ao (aa 7) ah) xY) ah))))))))))
theorem QO:∀ ys aj K',ys.length=3->vz ys aj K'->B3 (bS aj.length K') ⟨ys.map some ++ List.replicate 9 none,aj.map some⟩:=by
 rintro ys aj K' - ⟨n,dF,most,o,rfl,rfl,P,hn,h1,Ic,s0,X1,fin⟩
 unfold B3
 refine aW fun N hN => ?_
 simp? only []
 refine⟨n,8,o,rfl,rfl,P,by omega,by omega,by omega,fun kind o1 _ _ P1 => ?_⟩
 simp? only []
 subst hN
 refine aW fun N hN => ?_
 simp? only []
 refine⟨n + 1,4,o1,rfl,rfl,P1,by omega,by omega,by omega,fun eY o2 p0 p4 P2 => ?_⟩
 simp? only []
 subst hN
 refine aW fun N hN => ?_
 simp? only []
 refine⟨n + 1 + 1,dF,o2,rfl,rfl,P2,by omega,by omega,by omega,fun mm o3 m0 mh P3 => ?_⟩
 simp? only []
 subst hN
 refine aW fun N hN => ?_
 simp? only []
 refine⟨n + 1 + 1 + 1,kind,1 + mm,o3,rfl,rfl,P3,by omega,by omega,by omega,fun ps o4 Ie P4 => ?_⟩
 simp? only []
 subst hN
 refine aW fun N hN => ?_
 simp? only []
 subst hN
 refine aW fun N hN => ?_
 have X7:=Ie.iP
 simp? only []
 refine⟨by omega,?_⟩
 have ek:(min most (ps.length:Int)).toNat=min most.toNat ps.length:=by omega
 rw[ek]
 generalize hk:min most.toNat ps.length=k
 refine oZ (fun i δ => ∃ (qs:List (Int × Int)) (ws:List (Int × Int × Int)) (o':OV),qs.length + i=ps.length/\ws.length=i/\dD (1 + mm) (ws.map rA ++ qs)/\(∀ y∈ws,0 <= y.2.2/\y.2.2 <= 1000000000)/\bj (n + 70 + 4 * i) o' ∧
  δ = ⟨[some (.o 0),some (.p (.int dF)),some (.p (.int most)),some (.p (.int kind)),some (.p (.int eY)),some (.p (.int (1 + mm))),some (.o 1),some (.o 2),none,none,none,none],[some o',some (.lst (qs.map cU)),some (.lst (ws.map bL))]⟩)
  ⟨ps,[],o4,by omega,rfl,Ie,fun y hy=>absurd hy Yx,P4.mono (by omega),rfl⟩ ?_ ?_
 ·rintro j d δ L hj ⟨qs,ws,o',hq,hw,hp,hy,P',rfl⟩ hL
  obtain⟨hj,rfl⟩:=oS hj
  have q0:0 < qs.length:=by omega
  have QP:=hp.iP
  rw[Aw,qp] at QP
  refine⟨trivial,?_⟩
  simp only[bt,Y7,Y8]
  refine aW fun N2 eX => ?_
  simp? only []
  refine⟨n + 70 + 4 * j,qs.length,o',rfl,rfl,P',by omega,by omega,by omega,fun r o1 r0 r1 P1 => ?_⟩
  obtain⟨rn,rfl⟩:∃ rn:Nat,r=rn:=⟨r.toNat,by omega⟩
  have hr:rn < qs.length:=by omega
  have ix:seqIndex? (rn:Int) qs.length=some rn:=OO hr
  have eq:(qs.map cU)[rn]? = some (.tup [.int qs[rn].1,.int qs[rn].2]):=by rw[Ni,qo hr];rfl
  simp? only [ix,eq]
  refine⟨⟨by omega,by omega⟩,?_⟩
  subst eX
  refine aW fun N2 eX => ?_
  simp only[aG,d2,eU]
  refine yn fun K3 rB => ?_
  simp? only []
  subst rB
  refine yn fun K3 rB => ?_
  simp? only []
  refine⟨n + 70 + 4 * j + 1,3,o1,rfl,rfl,P1,by omega,by omega,by omega,fun a1 o2 X8 X9 P2 => ?_⟩
  simp? only []
  subst rB
  refine yn fun K3 rB => ?_
  simp? only []
  refine⟨⟨by decide,by decide,by decide⟩,n + 70 + 4 * j + 1 + 1,2,o2,rfl,rfl,P2,by omega,by omega,by omega,fun a2 o3 X_ Ya P3 => ?_⟩
  simp? only []
  subst rB
  refine yn fun K3 rB => ?_
  simp? only []
  refine⟨⟨by decide,by decide,by decide⟩,n + 70 + 4 * j + 1 + 1 + 1,10 ^ Int.toNat 9 + 1,o3,rfl,rfl,P3,by omega,by decide,by decide,fun a3 o4 Yb QQ P4 => ?_⟩
  simp? only []
  subst rB
  simp? only []
  have e9:(10:Int) ^ Int.toNat 9=1000000000:=by decide
  rw[e9] at QQ ⊢
  obtain⟨pr,QR,QS,QT⟩:∃ pr:Int,fB [D.int 7,D.int a1,D.int (1000000000 - a2),D.int a3] eY=some (.int pr)/\0 <= pr/\pr <= 1000000000:=by
   have:eY=0\/eY=1\/eY=2\/eY=3:=by omega
   rcases this with rfl | rfl | rfl | rfl
   ·exact⟨7,rfl,by omega,by omega⟩
   ·exact⟨a1,rfl,by omega,by omega⟩
   ·exact⟨1000000000 - a2,rfl,by omega,by omega⟩
   ·exact⟨a3,rfl,by omega,by omega⟩
  rw[QR]
  show N2 _
  subst eX
  simp? only []
  refine⟨by omega,hL _ ⟨qs.eraseIdx rn,ws ++ [(qs[rn].1,qs[rn].2,pr)],o4,?_,?_,?_,?_,P4.mono (by omega),?_⟩⟩
  ·rw[q1n hr];omega
  ·rw[Aw,hw];rfl
  ·refine hp.perm ?_
   rw[Yw,ZH]
   refine List.Perm.append_left _ ?_
   exact Ia hr
  ·intro y sC
   rcases YL.mp sC with h | h
   ·exact hy y h
   ·rw[YF.mp h];exact⟨QS,QT⟩
  ·rw[Yw,Ib];rfl
 ·rintro δ ⟨qs,ws,o',hq,hw,hp,hy,P',rfl⟩
  refine⟨trivial,?_⟩
  subst hN
  simp? only []
  rw[nM] at hw P'
  refine⟨[o'],rfl,rfl,?_⟩
  refine fin (1 + mm) ws o' ⟨by omega,by omega,by omega,fun y sC => ?_,?_⟩ (by omega) (by omega) (P'.mono (by omega))
  ·have:=hp.ends (rA y) (ZC _ (Nk.mpr ⟨y,sC,rfl⟩))
   have h2:=hy y sC
   simp only[rA] at this
   omega
  ·exact (Y3.mp hp.mN).1
end LJ
namespace L2
open PySem PySem.Spec PyProof.Rows
variable [aD]
noncomputable def yo:List D->(D->Prop)->Prop
 | [.lst ds],K=>match o8 ds with
  | some ps=>(ps.length <= 30/\∀ p∈ps,0 <= p.1/\p.1 < p.2/\p.2 < 12)/\K (.int (gN ps ps.length).length)
  | none=>False
 | _,_=>False
section
variable {X:Cx} {fa:WA}
theorem QU {a:Expr} {p1 p2 q1 q2:Pos} (hc:X.calm=true) (hu:X.A.units + 64 < cLine) (qV:Gl X "len") (hl:X.mg "len" = none) (qW:bootBuiltins "len" = some (.builtin "len")) (qX:Gl X "set") (hr:X.mg "set" = none) (qY:bootBuiltins "set" = some (.type "set")) (ha:JA X [a] (cX fa))
  (he:starEach [a] X.env=[(false,eval a X.env)]:=by rfl) (qZ:starEach [.Call (.Name "set" p2) [a] [] q2] X.env=[(false,eval (.Call (.Name "set" p2) [a] [] q2) X.env)]:=by rfl):JE X (.Call (.Name "len" p1) [.Call (.Name "set" p2) [a] [] q2] [] q1) (tD (dN fa yo)) :=
 (xk (OL) qV hl qW (iW (nv (Qw hc hu) qX hr qY ha (he:=he)) aV) (he:=qZ)).weak fun σ H Q h0_ => el7 h0_ fun F ad δ K S q k =>⟨F,ad,δ,_,S,q,fun xs δ1 h1 vs F1 aP H1 E1 S1 V1=>by
  obtain⟨ds,h2,qz⟩:=xr S1 V1 h1
  unfold yo at h2
  split at h2
  ·split at h2
   ·rename_i es ps e
    obtain⟨v,rfl,a,vs,rfl,g1,g2⟩:=dA qz
    rw[HP e] at g2
    obtain⟨as,rfl,hl,g⟩:=HU g2
    refine⟨a,as,ps,rfl,aU.of g1,hl,fun i b k' e1 e2=>S1.sub _ _ (g i b k' e1 e2),h2.1.2,h2.1.1,fun p hp=>⟨p,(gN ps ps.length).length,rfl,bz,by have:=h2.1.1;have:=BR ps ps.length;omega,?_⟩⟩
    have s1:ax H1 (upd H1 p (k6 p (gN ps ps.length).length)):=cW hp
    exact k _ _ h2.2 _ _ _ _ (E1.trans (Ext.al S1 s1)) (S1.al s1) rfl
   ·exact h2.elim
  ·exact h2.elim⟩
end
end L2
namespace LJ
open PySem L2
variable [aD]
noncomputable def Ig:D->Bool
 | .int _=>true
 | _=>false
noncomputable def jV:D->Int->Int->Bool
 | .int i,lo,hi=>decide (lo <= i) && decide (i <= hi)
 | _,_,_=>false
noncomputable def nV:D->Int->Bool
 | .tup ds,n=>(ds.length:Int) == n
 | _,_=>false
theorem c_ {K:RV->List OV->Prop} {d:D} {sl:List (Option DV)} (h:K (.p d) []):hJ 0 K (.p d) ⟨sl,[]⟩:=⟨[],rfl,rfl,h⟩
noncomputable def vA:GD:=fun ys aj K=>∃ d,ys=[.p d]/\aj=[]/\K (.p (.bl (Ig d))) []
noncomputable def B4:WS:=(aN (kn (d1 (aa 0) (cE "int")) (A_ (d1 (aa 0) (cE "bool")))))
theorem QV:∀ ys aj K',ys.length=1->vA ys aj K'->B4 (bS aj.length K') ⟨ys.map some ++ List.replicate 0 none,aj.map some⟩:=by
 rintro ys aj K' - ⟨d,rfl,rfl,k⟩
 unfold B4
 simp? only []
 cases d<;>simp only[cg,aQ]<;>exact c_ k
noncomputable def kC:GD:=fun ys aj K=>∃ d lo hi,ys=[.p d,.p (.int lo),.p (.int hi)]/\aj=[]/\K (.p (.bl (jV d lo hi))) []
noncomputable def B5:WS:=(aN (kn (av 1 vA (ao (aa 0) ah)) (Bu (aa 1) (aa 0) (aa 2) (oI fun i j => .bl (decide (i <= j))) (oI fun i j => .bl (decide (i <= j))))))
theorem QW:∀ ys aj K',ys.length=3->kC ys aj K'->B5 (bS aj.length K') ⟨ys.map some ++ List.replicate 0 none,aj.map some⟩:=by
 rintro ys aj K' - ⟨d,lo,hi,rfl,rfl,k⟩
 unfold B5
 simp? only []
 refine⟨d,rfl,rfl,?_⟩
 cases d<;>simp? only [Ig,jV] at k ⊢ <;> first | exact c_ k | skip
 rename_i i
 by_cases c:lo <= i
 ·rw[Yk c] at k ⊢
  simp only[q1a] at k
  exact c_ k
 ·rw[Yz c] at k ⊢
  simp only[q2i] at k
  exact c_ k
noncomputable def rC:GD:=fun ys aj K=>∃ d n,ys=[.p d,.p (.int n)]/\aj=[]/\K (.p (.bl (nV d n))) []
noncomputable def B6:WS:=(aN (kn (d1 (aa 0) (cE "tuple")) (d2 (dN (ao (aa 0) ah) cY) (aa 1) oEq)))
theorem QX:∀ ys aj K',ys.length=2->rC ys aj K'->B6 (bS aj.length K') ⟨ys.map some ++ List.replicate 0 none,aj.map some⟩:=by
 rintro ys aj K' - ⟨d,n,rfl,rfl,k⟩
 unfold B6
 simp? only []
 cases d<;>simp? only [cg,aQ,nV,ay] at k ⊢ <;> exact c_ k
noncomputable def Ih (m:Int):D->D->Bool
 | .int i,b=>jV b (i + 1) (m - 1)
 | _,_=>false
noncomputable def vB (m:Int) (a b:D):Bool:=jV a 0 (m - 1) && Ih m a b
theorem vC {d:D} {lo hi:Int} (h:jV d lo hi=true):∃ i,d = .int i/\lo <= i/\i <= hi:=by
 cases d with
 | int i =>
  have h:(decide (lo <= i) && decide (i <= hi))=true:=h
  rw[YI,YB,YB] at h
  exact⟨i,rfl,h⟩
 | _=>cases h
noncomputable def vD:GD:=fun ys aj K=>∃ m a b,ys=[.p (.int m),.p a,.p b]/\aj=[]/\K (.p (.bl (vB m a b))) []
noncomputable def B7:WS:=(aN (kn (av 3 kC (ao (aa 1) (ao (dC (.int 0)) (ao (d2 (aa 0) (dC (.int 1)) (oI fun i j => .int (i - j))) ah)))) (av 3 kC (ao (aa 2) (ao (d2 (aa 1) (dC (.int 1)) eQ) (ao (d2 (aa 0) (dC (.int 1)) (oI fun i j => .int (i - j))) ah))))))
theorem QY:∀ ys aj K',ys.length=3->vD ys aj K'->B7 (bS aj.length K') ⟨ys.map some ++ List.replicate 0 none,aj.map some⟩:=by
 rintro ys aj K' - ⟨m,a,b,rfl,rfl,k⟩
 unfold B7
 simp? only []
 refine⟨a,0,m - 1,rfl,rfl,?_⟩
 simp? only []
 unfold vB at k
 cases q:jV a 0 (m - 1)
 ·rw[q] at k
  exact c_ k
 ·rw[q] at k
  obtain⟨i,rfl,_,_⟩:=vC q
  simp? only [q1a,Ih] at k ⊢
  refine⟨b,i + 1,m - 1,rfl,rfl,?_⟩
  simp? only []
  exact c_ k
noncomputable def cF (m:Int):D->Bool
 | .tup [a,b,p]=>vB m a b && jV p 0 1000000000
 | _=>false
noncomputable def vE:GD:=fun ys aj K=>∃ m d,ys=[.p (.int m),.p d]/\aj=[]/\K (.p (.bl (cF m d))) []
noncomputable def B8:WS:=(au (bG (gA (dT (av 2 rC (ao (aa 1) (ao (dC (.int 3)) ah))))) (aN (dC (.bl false))) fM) (aN (kn (av 3 vD (ao (aa 0) (ao (d2 (aa 1) (dC (.int 0)) bc) (ao (d2 (aa 1) (dC (.int 1)) bc) ah)))) (av 3 kC (ao (d2 (aa 1) (dC (.int 2)) bc) (ao (dC (.int 0)) (ao (dC (.int 1000000000)) ah)))))))
theorem QZ {m:Int} {d:D} (h:nV d 3=false):cF m d=false:=by
 unfold cF
 split
 ·exact absurd h (by simp[nV])
 ·rfl
theorem B9 {d:D} (h:nV d 3=true):∃ a b c,d = .tup [a,b,c]:=by
 cases d with
 | tup ds =>
  have h:((ds.length:Int) == 3)=true:=h
  have h:=Zd h
  match ds,h with
  | [a,b,c],_=>exact⟨a,b,c,rfl⟩
  | [],h=>simp at h
  | [_],h=>simp at h
  | [_,_],h=>simp at h
  | _ :: _ :: _ :: _ :: r,h=>simp at h;omega
 | _=>cases h
theorem B_ {d:D} (h:nV d 2=true):∃ a b,d = .tup [a,b]:=by
 cases d with
 | tup ds =>
  have h:((ds.length:Int) == 2)=true:=h
  have h:=Zd h
  match ds,h with
  | [a,b],_=>exact⟨a,b,rfl⟩
  | [],h=>simp at h
  | [_],h=>simp at h
  | _ :: _ :: _ :: r,h=>simp at h;omega
 | _=>cases h
theorem Q0:∀ ys aj K',ys.length=2->vE ys aj K'->B8 (bS aj.length K') ⟨ys.map some ++ List.replicate 0 none,aj.map some⟩:=by
 rintro ys aj K' - ⟨m,d,rfl,rfl,k⟩
 unfold B8
 refine aW fun N hN => ?_
 simp? only []
 refine⟨d,3,rfl,rfl,?_⟩
 simp? only []
 cases q:nV d 3
 ·rw[QZ q] at k
  simp only[q2j,Z9]
  exact c_ k
 ·simp only[ZS,Ym,Y1]
  subst hN
  obtain⟨a,b,c,rfl⟩:=B9 q
  simp? only [i8,i9,at2]
  refine⟨m,a,b,rfl,rfl,?_⟩
  simp? only [cF] at k ⊢
  cases q2:vB m a b
  ·rw[q2] at k
   exact c_ k
  ·rw[q2] at k
   refine⟨c,0,1000000000,rfl,rfl,?_⟩
   simp? only [q1a] at k ⊢
   exact c_ k
noncomputable def pairOf:D->Int × Int
 | .tup [.int i,.int j,_]=>(i,j)
 | _=>(0,0)
theorem Ii {m:Int} {d:D} (h:cF m d=true):∃ i j p,d = .tup [.int i,.int j,.int p]/\0 <= i/\i < j/\j < m/\0 <= p/\p <= 1000000000:=by
 unfold cF at h
 split at h
 ·rename_i a b p
  rw[YI] at h
  obtain⟨h1,h2⟩:=h
  unfold vB at h1
  rw[YI] at h1
  obtain⟨i,rfl,i0,i1⟩:=vC h1.1
  have h3:jV b (i + 1) (m - 1)=true:=h1.2
  obtain⟨j,rfl,j0,j1⟩:=vC h3
  obtain⟨p',rfl,p0,p1⟩:=vC h2
  exact⟨i,j,p',rfl,i0,by omega,by omega,p0,p1⟩
 ·cases h
noncomputable def rD (m:Int):D->Bool
 | .tup ws=>decide (ws.length <= 30) && (ws.all (cF m) && decide ((ws.map pairOf).Nodup))
 | _=>false
noncomputable def vF:GD:=fun ys aj K=>∃ m d,ys=[.p (.int m),.p d]/\aj=[]/\m <= 12/\K (.p (.bl (rD m d))) []
noncomputable def Ca:WS:=(au (bG (qA (gA (dT (d1 (aa 1) (cE "tuple")))) (dT (d2 (dN (ao (aa 1) ah) cY) (dC (.int 30)) (oI fun i j => .bl (decide (j < i)))))) (aN (dC (.bl false))) fM) (au (bG (gA (dT (dN (ao (fG (bO (aa 1)) [none,some 0] (bt 0) c9 (av 2 vE (ao (aa 1) (ao (aa 0) ah)))) ah) nP))) (aN (dC (.bl false))) fM) (aN (d2 (dN (ao (fG (bO (aa 1)) [none] (bt 0) c9 (i7 (aa 0) i5 (qT (dC (.int 2))))) ah) yo) (dN (ao (aa 1) ah) cY) oEq))))
theorem Q1:∀ ys aj K',ys.length=2->vF ys aj K'->Ca (bS aj.length K') ⟨ys.map some ++ List.replicate 0 none,aj.map some⟩:=by
 rintro ys aj K' - ⟨m,d,rfl,rfl,hm,k⟩
 unfold Ca
 refine aW fun N hN => ?_
 by_cases ht:∃ ws,d = .tup ws
 ·obtain⟨ws,rfl⟩:=ht
  simp? only [cg,show aQ "tuple" "tuple" = true from rfl]
  by_cases Ij:(30:Int) < ws.length
  ·rw[XI (Yk Ij)]
   have:rD m (.tup ws)=false:=by
    show (decide (ws.length <= 30) && _)=false
    rw[Yz (by omega)];rfl
   rw[this] at k
   exact c_ k
  ·rw[Nj (by rw[Yz Ij];decide)]
   subst hN
   have vG:ws.length <= 30:=by omega
   refine aW fun N hN => ?_
   simp? only []
   refine kB (fun d => .bl (cF m d)) (by omega) trivial ?_ ?_
   ·intro d hd acc L ha h
    simp? only []
    refine⟨m,d,rfl,rfl,?_⟩
    simp? only []
    exact⟨ha,h⟩
   ·have e:qU (ws.map fun d=>D.bl (cF m d))=some (ws.map (cF m)):=by
     have:=Hb (ws.map (cF m))
     rw[Ys] at this
     exact this
    simp? only [e]
    have ea:(ws.map (cF m)).all id=ws.all (cF m):=by rw[List.all_map];rfl
    rw[ea]
    cases q:ws.all (cF m)
    ·have:rD m (.tup ws)=false:=by
      show (decide (ws.length <= 30) && (ws.all (cF m) && _))=false
      rw[q];simp
     rw[this] at k
     exact c_ k
    ·simp only[ZS,Ym,Y1]
     subst hN
     have hw:∀ w∈ws,cF m w=true:=Zy.mp q
     simp? only []
     refine kB (fun d => .tup [.int (pairOf d).1,.int (pairOf d).2]) (by omega) trivial ?_ ?_
     ·intro d hd acc L ha h
      obtain⟨i,j,p,rfl,_⟩:=Ii (hw d hd)
      have ec:cutD [D.int i,D.int j,D.int p] none (some 2)=[D.int i,D.int j]:=by
       unfold cutD;rfl
      simp? only [ec]
      exact⟨ha,h⟩
     ·have ep:o8 (ws.map fun d=>D.tup [.int (pairOf d).1,.int (pairOf d).2])=some (ws.map pairOf):=by
       have:=HQ (ws.map pairOf)
       rw[Ys] at this
       exact this
      have kk:rD m (.tup ws)=decide ((ws.map pairOf).Nodup):=by
       show (decide (ws.length <= 30) && (ws.all (cF m) && _))=_
       rw[q,Yk vG];rfl
      rw[kk] at k
      simp? only [yo,ep,ay]
      refine⟨⟨vG,fun p hp => ?_⟩,c_ ?_⟩
      ·obtain⟨w,Q2,rfl⟩:=Nk.mp hp
       obtain⟨i,j,p,rfl,a1,a2,a3,_⟩:=Ii (hw w Q2)
       exact⟨a1,a2,by show j < 12;omega⟩
      ·have:(((gN (ws.map pairOf) ws.length).length:Int) == (ws.length:Int))=decide ((ws.map pairOf).Nodup):=by
        by_cases c:(ws.map pairOf).Nodup
        ·have e2:=HR c (ws.map pairOf).length (qq _)
         rw[qp] at e2
         rw[Yk c,e2,YD,qp,Nat.min_self]
         simp
        ·rw[Yz c]
         refine beq_false_of_ne fun z=>c (Qv ?_)
         rw[qp];omega
       rw[this];exact k
 ·have:rD m d=false:=by
   cases d with
   | tup ws=>exact absurd ⟨ws,rfl⟩ ht
   | _=>rfl
  rw[this] at k
  cases d with
  | tup ws=>exact absurd ⟨ws,rfl⟩ ht
  | _=>simp? only [cg];exact c_ k
noncomputable def lB:D->Bool
 | .tup [m,ws]=>jV m 1 12 && (match m with
  | .int i=>rD i ws
  | _=>false)
 | _=>false
noncomputable def vH:GD:=fun ys aj K=>∃ d,ys=[.p d]/\aj=[]/\K (.p (.bl (lB d))) []
noncomputable def Cb:WS:=(au (bG (gA (dT (av 2 rC (ao (aa 0) (ao (dC (.int 2)) ah))))) (aN (dC (.bl false))) fM) (aN (kn (av 3 kC (ao (d2 (aa 0) (dC (.int 0)) bc) (ao (dC (.int 1)) (ao (dC (.int 12)) ah)))) (av 2 vF (ao (d2 (aa 0) (dC (.int 0)) bc) (ao (d2 (aa 0) (dC (.int 1)) bc) ah))))))
theorem Q3:∀ ys aj K',ys.length=1->vH ys aj K'->Cb (bS aj.length K') ⟨ys.map some ++ List.replicate 0 none,aj.map some⟩:=by
 rintro ys aj K' - ⟨d,rfl,rfl,k⟩
 unfold Cb
 refine aW fun N hN => ?_
 simp? only []
 refine⟨d,2,rfl,rfl,?_⟩
 simp? only []
 cases q:nV d 2
 ·have:lB d=false:=by
   unfold lB
   split
   ·exact absurd q (by simp[nV])
   ·rfl
  rw[this] at k
  simp only[q2j,Z9]
  exact c_ k
 ·simp only[ZS,Ym,Y1]
  subst hN
  obtain⟨a,b,rfl⟩:=B_ q
  simp? only [i8,i9]
  refine⟨a,1,12,rfl,rfl,?_⟩
  simp? only [lB] at k ⊢
  cases q2:jV a 1 12
  ·rw[q2] at k
   exact c_ k
  ·rw[q2] at k
   obtain⟨i,rfl,_,hi⟩:=vC q2
   refine⟨i,b,rfl,rfl,hi,?_⟩
   simp? only [q1a] at k ⊢
   exact c_ k
theorem lC {K:RV->List OV->Prop} {d:D} {sl:List (Option DV)} {mu:List (Option OV)} (h:K (.p d) []):hJ 0 K (.p d) ⟨sl,mu⟩:=⟨[],rfl,rfl,h⟩
theorem Cc:∀ {ds:List D},l9 ds=true->∀ d∈ds,jL d=true
 | [],_,d,h=>nomatch h
 | a :: r,hn,d,h=>by
  simp only[l9,YI] at hn
  rcases Nh.mp h with rfl | h
  ·exact hn.1
  ·exact Cc hn.2 d h
theorem Cd:∀ {ds:List D} {d:D},d∈ds->dep d <= a_ ds
 | a :: r,d,h=>by
  simp only[a_]
  rcases Nh.mp h with rfl | h
  ·omega
  ·have:=Cd h;omega
theorem nW:aQ "NoneType" "bool" = false:=rfl
theorem nX:aQ "NoneType" "int" = false:=rfl
theorem nY:aQ "NoneType" "str" = false:=rfl
theorem nZ:aQ "NoneType" "tuple" = false:=rfl
theorem n5:aQ "NoneType" "list" = false:=rfl
theorem mj:aQ "bool" "bool" = true:=rfl
theorem mq:aQ "bool" "int" = true:=rfl
theorem mx:aQ "bool" "str" = false:=rfl
theorem my:aQ "bool" "tuple" = false:=rfl
theorem mz:aQ "bool" "list" = false:=rfl
theorem lD:aQ "int" "bool" = false:=rfl
theorem lE:aQ "int" "int" = true:=rfl
theorem lF:aQ "int" "str" = false:=rfl
theorem lG:aQ "int" "tuple" = false:=rfl
theorem lH:aQ "int" "list" = false:=rfl
theorem kD:aQ "str" "bool" = false:=rfl
theorem kE:aQ "str" "int" = false:=rfl
theorem kF:aQ "str" "str" = true:=rfl
theorem kG:aQ "str" "tuple" = false:=rfl
theorem kH:aQ "str" "list" = false:=rfl
theorem pb:aQ "tuple" "bool" = false:=rfl
theorem pd:aQ "tuple" "int" = false:=rfl
theorem pe:aQ "tuple" "str" = false:=rfl
theorem pf:aQ "tuple" "tuple" = true:=rfl
theorem ph:aQ "tuple" "list" = false:=rfl
theorem mB:aQ "list" "bool" = false:=rfl
theorem mC:aQ "list" "int" = false:=rfl
theorem mD:aQ "list" "str" = false:=rfl
theorem mE:aQ "list" "tuple" = false:=rfl
theorem mF:aQ "list" "list" = true:=rfl
theorem Ce:∀ {as:List D} {d:D},d∈cD as as->∃ a,d = .tup [a,a]/\a∈as
 | [],d,h=>nomatch h
 | x :: r,d,h=>by
  simp only[cD] at h
  rcases Nh.mp h with rfl | h
  ·exact⟨x,rfl,FN⟩
  ·obtain⟨a,e,m⟩:=Ce h
   exact⟨a,e,My _ m⟩
theorem Cf:∀ l:List D,a_ (l.map fun _=>D.bl true) <= 55
 | []=>YK _
 | _ :: r=>by
  rw[Yt]
  have:=Cf r
  simp only[a_,dep]
  omega
noncomputable def lI (n:Nat):GD:=fun ys aj K=>∃ d,dep d <= n/\n <= 50/\jL d=true/\((ys=[.p d,.p d]/\aj=[]/\K (.p (.bl true)) [])\/(∃ ds,d = .lst ds/\ys=[.o 0,.p d]/\aj=[.lst ds]/\K (.p (.bl true)) [.lst ds]))
noncomputable def jw (Cg:GD):WS:=(au (bG (dT (d2 (aa 1) (dC .non) ly)) (aN (d2 (aa 0) (dC .non) ly)) fM) (au (bG (qA (dT (d1 (aa 1) (cE "bool"))) (dT (d1 (aa 0) (cE "bool")))) (aN (kn (d1 (aa 1) (cE "bool")) (kn (d1 (aa 0) (cE "bool")) (d2 (aa 0) (aa 1) oEq)))) fM) (au (bG (dT (d1 (aa 1) (cE "int"))) (aN (kn (d1 (aa 0) (cE "int")) (d2 (aa 0) (aa 1) oEq))) fM) (au (bG (dT (d1 (aa 1) (cE "str"))) (aN (kn (d1 (aa 0) (cE "str")) (d2 (aa 0) (aa 1) oEq))) fM) (au (bG (qA (dT (d2 (d1 (aa 1) (cE "tuple")) (d1 (aa 0) (cE "tuple")) oX)) (dT (d2 (d1 (aa 1) (cE "list")) (d1 (aa 0) (cE "list")) oX))) (aN (dC (.bl false))) fM) (au (bG (dT (d2 (dN (ao (aa 0) ah) cY) (dN (ao (aa 1) ah) cY) oX)) (aN (dC (.bl false))) fM) (aN (d2 (dC (.bl false)) (fG (qL (ao (aa 0) (ao (aa 1) ah))) [none,none] (kq 2 (f7 (bt 0) (f7 (bt 1) jQ))) c9 (av 2 Cg (ao (aa 0) (ao (aa 1) ah)))) (mi true)))))))))
noncomputable def vI (g:Nat->GD):Nat->GD
 | 0=>fun _ _ _=>False
 | n + 1=>g n
theorem Q4 (g:GD) {K':RV->List OV->Prop} (k:K' (.p (.bl true)) []):jw g (bS 0 K') ⟨[some (.p .non),some (.p .non)],[]⟩:=by
 unfold jw
 refine aW fun N hN => ?_
 simp? only [cg,nW,nX,nY,nZ,n5,ay]
 exact lC k
theorem Q5 (g:GD) {K':RV->List OV->Prop} (b:Bool) (k:K' (.p (.bl true)) []):jw g (bS 0 K') ⟨[some (.p (.bl b)),some (.p (.bl b))],[]⟩:=by
 unfold jw
 refine aW fun N hN => ?_
 simp? only [cg,mj,mq,mx,my,mz,gB]
 subst hN
 refine aW fun N hN => ?_
 simp? only [cg,mj,mq,mx,my,mz,gB]
 exact lC k
theorem same_int (g:GD) {K':RV->List OV->Prop} (b:Int) (k:K' (.p (.bl true)) []):jw g (bS 0 K') ⟨[some (.p (.int b)),some (.p (.int b))],[]⟩:=by
 unfold jw
 refine aW fun N hN => ?_
 simp? only [cg,lD,lE,lF,lG,lH,gB]
 subst hN
 refine aW fun N hN => ?_
 simp? only [cg,lD,lE,lF,lG,lH,gB]
 subst hN
 refine aW fun N hN => ?_
 simp? only [cg,lD,lE,lF,lG,lH,gB]
 exact lC k
theorem same_str (g:GD) {K':RV->List OV->Prop} (b:Str) (k:K' (.p (.bl true)) []):jw g (bS 0 K') ⟨[some (.p (.str b)),some (.p (.str b))],[]⟩:=by
 unfold jw
 refine aW fun N hN => ?_
 simp? only [cg,kD,kE,kF,kG,kH,gB]
 subst hN
 refine aW fun N hN => ?_
 simp? only [cg,kD,kE,kF,kG,kH,gB]
 subst hN
 refine aW fun N hN => ?_
 simp? only [cg,kD,kE,kF,kG,kH,gB]
 subst hN
 refine aW fun N hN => ?_
 simp? only [cg,kD,kE,kF,kG,kH,gB]
 exact lC k
theorem Q6 {n:Nat} {K':RV->List OV->Prop} {ds:List D} (hd:dep (.lst ds) <= n) (hn:n <= 50) (nd:jL (.lst ds)=true) (k:K' (.p (.bl true)) []):jw (vI lI n) (bS 0 K') ⟨[some (.p (.lst ds)),some (.p (.lst ds))],[]⟩:=by
 unfold jw
 refine aW fun N hN => ?_
 simp? only [cg,nW,nX,nY,nZ,n5,mj,mq,mx,my,mz,lD,lE,lF,lG,lH,kD,kE,kF,kG,kH,pb,pd,pe,pf,ph,mB,mC,mD,mE,mF]
 subst hN
 refine aW fun N hN => ?_
 simp? only [cg,nW,nX,nY,nZ,n5,mj,mq,mx,my,mz,lD,lE,lF,lG,lH,kD,kE,kF,kG,kH,pb,pd,pe,pf,ph,mB,mC,mD,mE,mF]
 subst hN
 refine aW fun N hN => ?_
 simp? only [cg,nW,nX,nY,nZ,n5,mj,mq,mx,my,mz,lD,lE,lF,lG,lH,kD,kE,kF,kG,kH,pb,pd,pe,pf,ph,mB,mC,mD,mE,mF]
 subst hN
 refine aW fun N hN => ?_
 simp? only [cg,nW,nX,nY,nZ,n5,mj,mq,mx,my,mz,lD,lE,lF,lG,lH,kD,kE,kF,kG,kH,pb,pd,pe,pf,ph,mB,mC,mD,mE,mF]
 subst hN
 refine aW fun N hN => ?_
 simp? only [cg,mB,mC,mD,mE,mF]
 subst hN
 simp only[gB,ZS,Ym,Y1]
 refine aW fun N hN => ?_
 simp? only [gB]
 subst hN
 obtain⟨m,rfl⟩:∃ m,n=m + 1:=⟨n - 1,by simp only[dep] at hd;omega⟩
 have Ci:a_ ds <= m:=by simp only[dep] at hd;omega
 have vJ:l9 ds=true:=by simp only[jL,YI] at nd;exact nd.2
 have vK:ds.length <= 1000:=by simp only[jL,YI,YB] at nd;exact nd.1
 have zl:(cD ds ds).length <= 1000:=by rw[xO];omega
 simp? only []
 refine L2.kB (fun d => .bl true) zl trivial ?_ ?_
 ·intro d tQ acc L ha h
  obtain⟨a,rfl,ma⟩:=Ce tQ
  simp? only []
  refine⟨a,Zb (Cd ma) Ci,by omega,Cc vJ a ma,.inl ⟨rfl,rfl,?_⟩⟩
  simp? only []
  exact⟨ha,h⟩
 ·simp? only []
  have e1:((cD ds ds).map fun _=>D.bl true).any (fun e=>ay e (.bl false))=false:=by
   rw[Z0]
   intro x hx
   obtain⟨_,_,rfl⟩:=Nk.mp hx
   simp[ay]
  have e2:a_ ((cD ds ds).map fun _=>D.bl true) <= 55:=Cf _
  exact⟨e2,by rw[e1];exact lC k⟩
theorem Q7 {n:Nat} {K':RV->List OV->Prop} {ds:List D} (hd:dep (.lst ds) <= n) (hn:n <= 50) (nd:jL (.lst ds)=true) (k:K' (.p (.bl true)) [.lst ds]):jw (vI lI n) (bS 1 K') ⟨[some (.o 0),some (.p (.lst ds))],[some (.lst ds)]⟩:=by
 unfold jw
 refine aW fun N hN => ?_
 simp? only [cg,nW,nX,nY,nZ,n5,mj,mq,mx,my,mz,lD,lE,lF,lG,lH,kD,kE,kF,kG,kH,pb,pd,pe,pf,ph,mB,mC,mD,mE,mF]
 subst hN
 refine aW fun N hN => ?_
 simp? only [cg,nW,nX,nY,nZ,n5,mj,mq,mx,my,mz,lD,lE,lF,lG,lH,kD,kE,kF,kG,kH,pb,pd,pe,pf,ph,mB,mC,mD,mE,mF]
 subst hN
 refine aW fun N hN => ?_
 simp? only [cg,nW,nX,nY,nZ,n5,mj,mq,mx,my,mz,lD,lE,lF,lG,lH,kD,kE,kF,kG,kH,pb,pd,pe,pf,ph,mB,mC,mD,mE,mF]
 subst hN
 refine aW fun N hN => ?_
 simp? only [cg,nW,nX,nY,nZ,n5,mj,mq,mx,my,mz,lD,lE,lF,lG,lH,kD,kE,kF,kG,kH,pb,pd,pe,pf,ph,mB,mC,mD,mE,mF]
 subst hN
 refine aW fun N hN => ?_
 simp? only [cg,mB,mC,mD,mE,mF]
 subst hN
 simp only[gB,ZS,Ym,Y1]
 refine aW fun N hN => ?_
 simp? only [gB]
 subst hN
 obtain⟨m,rfl⟩:∃ m,n=m + 1:=⟨n - 1,by simp only[dep] at hd;omega⟩
 have Ci:a_ ds <= m:=by simp only[dep] at hd;omega
 have vJ:l9 ds=true:=by simp only[jL,YI] at nd;exact nd.2
 have vK:ds.length <= 1000:=by simp only[jL,YI,YB] at nd;exact nd.1
 have zl:(cD ds ds).length <= 1000:=by rw[xO];omega
 simp? only []
 refine L2.kB (fun d => .bl true) zl rfl ?_ ?_
 ·intro d tQ acc L ha h
  obtain⟨a,rfl,ma⟩:=Ce tQ
  simp? only []
  refine⟨a,Zb (Cd ma) Ci,by omega,Cc vJ a ma,.inl ⟨rfl,rfl,?_⟩⟩
  simp? only []
  exact⟨ha,h⟩
 ·simp? only []
  have e1:((cD ds ds).map fun _=>D.bl true).any (fun e=>ay e (.bl false))=false:=by
   rw[Z0]
   intro x hx
   obtain⟨_,_,rfl⟩:=Nk.mp hx
   simp[ay]
  have e2:a_ ((cD ds ds).map fun _=>D.bl true) <= 55:=Cf _
  exact⟨e2,by rw[e1];exact⟨[.lst ds],rfl,rfl,k⟩⟩
theorem Q8 (n:Nat):∀ ys aj K',ys.length=2->lI n ys aj K'->jw (vI lI n) (bS aj.length K') ⟨ys.map some ++ List.replicate 0 none,aj.map some⟩:=by
 rintro ys aj K' - ⟨d,hd,hn,nd,⟨rfl,rfl,k⟩ | ⟨ds,rfl,rfl,rfl,k⟩⟩
 ·cases d with
  | tup ds=>cases nd
  | non=>exact Q4 _ k
  | bl b=>exact Q5 _ b k
  | int b=>exact same_int _ b k
  | str b=>exact same_str _ b k
  | lst ds=>exact Q6 hd hn nd k
 ·exact Q7 hd hn nd k
noncomputable def aO (ns:List Int):D := .lst (ns.map D.int)
noncomputable def gO (fs:List Int) (i j:Nat):List Int:=fs.map fun x=>if x=max (fs.getD i 0) (fs.getD j 0) then min (fs.getD i 0) (fs.getD j 0) else x
theorem vL (fs:List Int) (i j:Nat):(gO fs i j).length=fs.length:=by unfold gO;rw[qp]
theorem vM {ns:List Int} {i:Nat} (h:i < ns.length):fB (ns.map D.int) (i:Int)=some (.int (ns.getD i 0)):=by
 refine oE ?_
 rw[Ni,qo h,FP,qo h];rfl
theorem d4 {K:RV->List OV->Prop} {d:D} {sl:List (Option DV)} {mu:List (Option OV)} (h:K (.p d) []):hJ 0 K (.p d) ⟨sl,mu⟩:=⟨[],rfl,rfl,h⟩
noncomputable def sW:GD:=fun ys aj K=>∃ (fs:List Int) (i j:Nat),ys=[.p (aO fs),.p (.int i),.p (.int j)]/\aj=[]/\i < fs.length/\j < fs.length/\fs.length <= 12/\K (.p (aO (gO fs i j))) []
noncomputable def Cj:WS:=(au (aG 3 (dN (ao (d2 (aa 0) (aa 1) bc) (ao (d2 (aa 0) (aa 2) bc) ah)) xZ)) (au (aG 4 (dN (ao (d2 (aa 0) (aa 1) bc) (ao (d2 (aa 0) (aa 2) bc) ah)) va)) (aN (fG (bO (aa 0)) [none,some 4,some 3] (bt 0) c9 (uQ (dT (d2 (aa 0) (aa 2) oEq)) (aa 1) (aa 0))))))
theorem Q9:∀ ys aj K',ys.length=3->sW ys aj K'->Cj (bS aj.length K') ⟨ys.map some ++ List.replicate 2 none,aj.map some⟩:=by
 rintro ys aj K' - ⟨fs,i,j,rfl,rfl,hi,hj,Ic,k⟩
 have a1:=vM hi
 have a2:=vM hj
 unfold Cj aO
 refine aW fun N hN => ?_
 simp? only [a1,a2]
 subst hN
 refine aW fun N hN => ?_
 simp? only [a1,a2]
 subst hN
 simp? only []
 refine kB (fun d=>match d with
  | .int x => .int (if x=max (fs.getD i 0) (fs.getD j 0) then min (fs.getD i 0) (fs.getD j 0) else x)
  | _ => .non) (by rw[qp];omega) trivial ?_ ?_
 ·intro d hd acc L ha h
  obtain⟨x,_,rfl⟩:=Nk.mp hd
  simp? only []
  cases q:ay (.int x) (.int (max (fs.getD i 0) (fs.getD j 0)))
  ·have:¬ x=max (fs.getD i 0) (fs.getD j 0):=fun z=>by rw[z,gB] at q;cases q
   simp only[this,Y1] at h
   exact⟨ha,h⟩
  ·have:x=max (fs.getD i 0) (fs.getD j 0):=by simp only[ay] at q;exact Zd q
   simp only[this,Z9] at h
   exact⟨ha,h⟩
 ·refine d4 ?_
  have e:(fs.map D.int).map (fun d=>match d with
   | .int x=>D.int (if x=max (fs.getD i 0) (fs.getD j 0) then min (fs.getD i 0) (fs.getD j 0) else x)
   | _ => .non)=(gO fs i j).map D.int:=by
   unfold gO
   rw[Ys,Ys];rfl
  rw[e]
  exact k
noncomputable def dy (ws:List (Int × Int × Int)) (n:Int):Nat × Nat:=((ws.getD n.toNat (0,0,0)).1.toNat,(ws.getD n.toNat (0,0,0)).2.1.toNat)
noncomputable def gm (ws:List (Int × Int × Int)) (fs:List Int) (ns:List Int):List Int:=ns.foldl (fun fs n=>gO fs (dy ws n).1 (dy ws n).2) fs
theorem yp (ws:List (Int × Int × Int)):∀ (ns:List Int) (fs:List Int),(gm ws fs ns).length=fs.length
 | [],fs=>rfl
 | n :: r,fs=>by
  show (gm ws (gO fs _ _) r).length=_
  rw[yp ws r,vL]
noncomputable def eZ (m:Int) (ws:List (Int × Int × Int)) (ns:List Int):List Int:=gm ws (ba m.toNat) ns
noncomputable def Nums (ws:List (Int × Int × Int)) (ns:List Int):Prop:=∀ n∈ns,0 <= n/\n < (ws.length:Int)
theorem sX {m:Int} {ws:List (Int × Int × Int)} (W:dz m ws) {n:Int} (h0:0 <= n) (h1:n < (ws.length:Int)):∃ y,ws.getD n.toNat (0,0,0)=y/\y∈ws/\fB (ws.map bL) n=some (bL y)/\∃ i j:Nat,y.1=i/\y.2.1=j/\i < m.toNat/\j < m.toNat/\i < j:=by
 obtain⟨k,rfl⟩:∃ k:Nat,n=k:=⟨n.toNat,by omega⟩
 have hk:k < ws.length:=by omega
 refine⟨ws[k],?_,ZQ hk,oE ?_,?_⟩
 ·rw[Yv,FP,qo hk];rfl
 ·rw[Ni,qo hk];rfl
 ·obtain⟨a,b,c,_,_⟩:=W.ends _ (ZQ hk)
  exact⟨ws[k].1.toNat,ws[k].2.1.toNat,by omega,by omega,by omega,by omega,by omega⟩
noncomputable def sY:GD:=fun ys aj K=>∃ (m:Int) (ws:List (Int × Int × Int)) (ns:List Int),dz m ws/\Nums ws ns/\((ys=[.p (aB m ws),.p (aO ns)]/\aj=[]/\K (.p (aO (eZ m ws ns))) [])\/(ys=[.p (aB m ws),.o 0]/\aj=[.lst (ns.map D.int)]/\K (.p (aO (eZ m ws ns))) [.lst (ns.map D.int)]))
noncomputable def yq:WS:=(au (aG 2 (x_ (ao (d2 (aa 0) (dC (.int 0)) bc) ah))) (au (eW (bO (aa 1)) (bt 3) (au (aG 4 (d2 (d2 (aa 0) (dC (.int 1)) bc) (aa 3) bc)) (aG 2 (av 3 sW (ao (aa 2) (ao (d2 (aa 4) (dC (.int 0)) bc) (ao (d2 (aa 4) (dC (.int 1)) bc) ah))))))) (aN (aa 2))))
theorem Q_:∀ ys aj K',ys.length=2->sY ys aj K'->yq (bS aj.length K') ⟨ys.map some ++ List.replicate 3 none,aj.map some⟩:=by
 rintro ys aj K' - ⟨m,ws,ns,W,hn,h⟩
 have m1:=W.m1
 have ki:=W.ki
 have il:(ba m.toNat).length=m.toNat:=by unfold ba;simp
 have core:∀ (x:DV) (mu:List (Option OV)) (bh:aw->Prop) (K:KS),(∀ sl,bh ⟨sl,mu⟩)->(∀ fs,fs=eZ m ws ns->K.nx ⟨[some (.p (aB m ws)),some x,some (.p (aO fs)),none,none],mu⟩)->(∀ k,x = .o k->k < mu.length) →
   kr ⟨[some (.p (aB m ws)),some x,some (.p (aO (ba m.toNat))),none,none],mu⟩ bh (bt 3) (au (aG 4 (d2 (d2 (aa 0) (dC (.int 1)) bc) (aa 3) bc)) (aG 2 (av 3 sW (ao (aa 2) (ao (d2 (aa 4) (dC (.int 0)) bc) (ao (d2 (aa 4) (dC (.int 1)) bc) ah)))))) K (ns.map D.int) ⟨[some (.p (aB m ws)),some x,some (.p (aO (ba m.toNat))),none,none],mu⟩:=by
  intro x mu bh K hc hK hx
  refine oZ (fun i δ => δ = ⟨[some (.p (aB m ws)),some x,some (.p (aO (gm ws (ba m.toNat) (ns.take i)))),none,none],mu⟩) rfl ?_ ?_
  ·rintro j d δ L hj rfl hL
   rw[Ni] at hj
   obtain⟨n,mG,rfl⟩:=XM.mp hj
   obtain⟨n0,n1⟩:=hn n (YO mG)
   obtain⟨y,ey,hy,ea,i,k,e1,e2,h1,h2,_⟩:=sX W n0 n1
   refine⟨hc _,?_⟩
   simp only[bt,Y7,Y8]
   refine aW fun N hN => ?_
   simp? only [i9,aB,ea]
   subst hN
   simp? only [i8,i9,bL]
   have hlen:(gm ws (ba m.toNat) (ns.take j)).length=m.toNat:=by rw[yp,il]
   refine⟨gm ws (ba m.toNat) (ns.take j),i,k,by rw[e1,e2],rfl,by omega,by omega,by omega,?_⟩
   have ej:gO (gm ws (ba m.toNat) (ns.take j)) i k=gm ws (ba m.toNat) (ns.take (j + 1)):=by
    have:ns.take (j + 1)=ns.take j ++ [n]:=by rw[ZY,mG];rfl
    rw[this]
    unfold gm
    rw[List.foldl_append]
    show _=gO _ (dy ws n).1 (dy ws n).2
    have:dy ws n=(i,k):=by
     unfold dy
     rw[ey,e1,e2,Yv,Yv]
    rw[this]
   rw[ej]
   have eq:(aw.trim ⟨[some (.p (aB m ws)),some x,some (.p (aO (ba m.toNat))),none,none],mu⟩ ⟨[some (.p (aB m ws)),some x,some (.p (aO (gm ws (ba m.toNat) (ns.take (j + 1))))),some (.p (.int n)),some (.p (bL y))],mu⟩)=⟨[some (.p (aB m ws)),some x,some (.p (aO (gm ws (ba m.toNat) (ns.take (j + 1))))),none,none],mu⟩:=by
    unfold aw.trim
    rw[q0i]
    cases x with
    | p d=>rfl
    | o q =>
     have:=hx q rfl
     simp only[gh,uT,this,Z9]
   have:=hL _ rfl
   rw[<-eq] at this
   exact this
  ·rintro δ rfl
   rw[qp,YT (qq _)]
   exact⟨hc _,hK _ rfl⟩
 have rg:cu 0 m.toNat=(ba m.toNat).map D.int:=sQ m.toNat
 rcases h with⟨rfl,rfl,k⟩ | ⟨rfl,rfl,k⟩
 ·unfold yq
  refine aW fun N hN => ?_
  simp? only [i8,aB]
  refine⟨⟨by omega,by omega⟩,?_⟩
  subst hN
  rw[rg]
  refine aW fun N hN=>vv fun g' b' K2 hg dJ hK => ?_
  simp? only [aO]
  subst hg dJ hK
  refine core (.p (aO ns)) [] _ _ (fun _=>trivial) (fun fs e => ?_) (fun k z=>by cases z)
  subst e
  show N _
  subst hN
  simp? only []
  exact d4 k
 ·unfold yq
  refine aW fun N hN => ?_
  simp? only [i8,aB]
  refine⟨⟨by omega,by omega⟩,?_⟩
  subst hN
  rw[rg]
  refine aW fun N hN=>vv fun g' b' K2 hg dJ hK => ?_
  simp? only []
  subst hg dJ hK
  refine core (.o 0) [some (.lst (ns.map D.int))] _ _ (fun _=>rfl) (fun fs e => ?_) (fun k z=>by cases z;exact Nat.zero_lt_one)
  subst e
  show N _
  subst hN
  simp? only []
  exact⟨[.lst (ns.map D.int)],rfl,rfl,k⟩
theorem Ra (a b:Int):sortI [a,b]=[min a b,max a b]:=by
 refine (xX (as:=[min a b,max a b]) ?_ ?_).symm
 ·by_cases c:a <= b
  ·rw[Int.min_eq_left c,Int.max_eq_right c]
  ·rw[Int.min_eq_right (by omega),Int.max_eq_left (by omega)]
   exact List.Perm.swap ..
 ·refine List.Pairwise.cons (fun x hx => ?_) (List.pairwise_singleton _ _)
  rw[YF.mp hx];omega
noncomputable def vN:GD:=sY
noncomputable def yr:WS:=(au (aG 2 (x_ (ao (d2 (aa 0) (dC (.int 0)) bc) ah))) (au (eW (bO (aa 1)) (bt 3) (au (iZ (dN (ao (fG (bO (i7 (d2 (d2 (aa 0) (dC (.int 1)) bc) (aa 3) bc) i5 (qT (dC (.int 2))))) [none,some 2] (bt 0) c9 (d2 (aa 1) (aa 0) bc)) ah) u_) (kq 2 (f7 (bt 4) (f7 (bt 5) jQ)))) (aG 2 (fG (bO (aa 2)) [none,some 4,some 5] (bt 0) c9 (uQ (dT (d2 (aa 0) (aa 2) oEq)) (aa 1) (aa 0)))))) (aN (aa 2))))
theorem Rb:∀ ys aj K',ys.length=2->vN ys aj K'->yr (bS aj.length K') ⟨ys.map some ++ List.replicate 4 none,aj.map some⟩:=by
 rintro ys aj K' - ⟨m,ws,ns,W,hn,h⟩
 have m1:=W.m1
 have ki:=W.ki
 have il:(ba m.toNat).length=m.toNat:=by unfold ba;simp
 have core:∀ (x:DV) (mu:List (Option OV)) (bh:aw->Prop) (K:KS),(∀ sl,bh ⟨sl,mu⟩)->(∀ fs,fs=eZ m ws ns->K.nx ⟨[some (.p (aB m ws)),some x,some (.p (aO fs)),none,none,none],mu⟩)->(∀ k,x = .o k->k < mu.length) →
   kr ⟨[some (.p (aB m ws)),some x,some (.p (aO (ba m.toNat))),none,none,none],mu⟩ bh (bt 3) (au (iZ (dN (ao (fG (bO (i7 (d2 (d2 (aa 0) (dC (.int 1)) bc) (aa 3) bc) i5 (qT (dC (.int 2))))) [none,some 2] (bt 0) c9 (d2 (aa 1) (aa 0) bc)) ah) u_) (kq 2 (f7 (bt 4) (f7 (bt 5) jQ)))) (aG 2 (fG (bO (aa 2)) [none,some 4,some 5] (bt 0) c9 (uQ (dT (d2 (aa 0) (aa 2) oEq)) (aa 1) (aa 0))))) K (ns.map D.int) ⟨[some (.p (aB m ws)),some x,some (.p (aO (ba m.toNat))),none,none,none],mu⟩:=by
  intro x mu bh K hc hK hx
  refine oZ (fun i δ => δ = ⟨[some (.p (aB m ws)),some x,some (.p (aO (gm ws (ba m.toNat) (ns.take i)))),none,none,none],mu⟩) rfl ?_ ?_
  ·rintro j d δ L hj rfl hL
   rw[Ni] at hj
   obtain⟨n,mG,rfl⟩:=XM.mp hj
   obtain⟨n0,n1⟩:=hn n (YO mG)
   obtain⟨y,ey,hy,ea,i,k,e1,e2,h1,h2,_⟩:=sX W n0 n1
   refine⟨hc _,?_⟩
   have hlen:(gm ws (ba m.toNat) (ns.take j)).length=m.toNat:=by rw[yp,il]
   have ej:gO (gm ws (ba m.toNat) (ns.take j)) i k=gm ws (ba m.toNat) (ns.take (j + 1)):=by
    have:ns.take (j + 1)=ns.take j ++ [n]:=by rw[ZY,mG];rfl
    rw[this]
    unfold gm
    rw[List.foldl_append]
    show _=gO _ (dy ws n).1 (dy ws n).2
    have:dy ws n=(i,k):=by
     unfold dy
     rw[ey,e1,e2,Yv,Yv]
    rw[this]
   generalize Yc:gm ws (ba m.toNat) (ns.take j)=fs at hlen ej
   have a1:=vM (ns:=fs) (i:=i) (by omega)
   have a2:=vM (ns:=fs) (i:=k) (by omega)
   simp only[bt,Y7,Y8]
   refine aW fun N hN => ?_
   have ec:cutD [D.int y.1,D.int y.2.1,D.int y.2.2] none (some 2)=[D.int i,D.int k]:=by rw[<-e1,<-e2];rfl
   simp? only [i9,aB,ea,bL,ec]
   refine L2.kB (fun d=>match d with
    | .int z => .int (fs.getD z.toNat 0)
    | _ => .non) (by show 2 <= 1000;decide) trivial ?_ ?_
   ·intro d hd acc L' ha h'
    simp only[Nh,Yx,ZI] at hd
    rcases hd with rfl | rfl
    ·simp? only [aO,a1]
     simp only[Yv] at h'
     exact⟨ha,h'⟩
    ·simp? only [aO,a2]
     simp only[Yv] at h'
     exact⟨ha,h'⟩
   ·have es:intsOf [D.int (fs.getD i 0),D.int (fs.getD k 0)]=some [fs.getD i 0,fs.getD k 0]:=rfl
    simp? only [Yv,u_,es,Ra]
    subst hN
    simp? only [aO]
    refine L2.kB (fun d=>match d with
     | .int x => .int (if x=max (fs.getD i 0) (fs.getD k 0) then min (fs.getD i 0) (fs.getD k 0) else x)
     | _ => .non) (by rw[qp];omega) trivial ?_ ?_
    ·intro d hd acc L' ha h'
     obtain⟨z,_,rfl⟩:=Nk.mp hd
     simp? only []
     cases q:ay (.int z) (.int (max (fs.getD i 0) (fs.getD k 0)))
     ·have:¬ z=max (fs.getD i 0) (fs.getD k 0):=fun w=>by rw[w,gB] at q;cases q
      simp only[this,Y1] at h'
      exact⟨ha,h'⟩
     ·have:z=max (fs.getD i 0) (fs.getD k 0):=by simp only[ay] at q;exact Zd q
      simp only[this,Z9] at h'
      exact⟨ha,h'⟩
    ·have e:(fs.map D.int).map (fun d=>match d with
      | .int x=>D.int (if x=max (fs.getD i 0) (fs.getD k 0) then min (fs.getD i 0) (fs.getD k 0) else x)
      | _ => .non)=(gO fs i k).map D.int:=by
      unfold gO
      rw[Ys,Ys];rfl
     rw[e,ej]
     have eq:(aw.trim ⟨[some (.p (aB m ws)),some x,some (.p (aO (ba m.toNat))),none,none,none],mu⟩ ⟨[some (.p (aB m ws)),some x,some (.p (aO (gm ws (ba m.toNat) (ns.take (j + 1))))),some (.p (.int n)),some (.p (.int (min (fs.getD i 0) (fs.getD k 0)))),some (.p (.int (max (fs.getD i 0) (fs.getD k 0))))],mu⟩)=⟨[some (.p (aB m ws)),some x,some (.p (aO (gm ws (ba m.toNat) (ns.take (j + 1))))),none,none,none],mu⟩:=by
      unfold aw.trim
      rw[q0i]
      cases x with
      | p d=>rfl
      | o q =>
       have:=hx q rfl
       simp only[gh,uT,this,Z9]
     have:=hL _ rfl
     rw[<-eq] at this
     exact this
  ·rintro δ rfl
   rw[qp,YT (qq _)]
   exact⟨hc _,hK _ rfl⟩
 have rg:cu 0 m.toNat=(ba m.toNat).map D.int:=sQ m.toNat
 rcases h with⟨rfl,rfl,k⟩ | ⟨rfl,rfl,k⟩
 ·unfold yr
  refine aW fun N hN => ?_
  simp? only [i8,aB]
  refine⟨⟨by omega,by omega⟩,?_⟩
  subst hN
  rw[rg]
  refine aW fun N hN=>vv fun g' b' K2 hg dJ hK => ?_
  simp? only [aO]
  subst hg dJ hK
  refine core (.p (aO ns)) [] _ _ (fun _=>trivial) (fun fs e => ?_) (fun k z=>by cases z)
  subst e
  show N _
  subst hN
  simp? only []
  exact d4 k
 ·unfold yr
  refine aW fun N hN => ?_
  simp? only [i8,aB]
  refine⟨⟨by omega,by omega⟩,?_⟩
  subst hN
  rw[rg]
  refine aW fun N hN=>vv fun g' b' K2 hg dJ hK => ?_
  simp? only []
  subst hg dJ hK
  refine core (.o 0) [some (.lst (ns.map D.int))] _ _ (fun _=>rfl) (fun fs e => ?_) (fun k z=>by cases z;exact Nat.zero_lt_one)
  subst e
  show N _
  subst hN
  simp? only []
  exact⟨[.lst (ns.map D.int)],rfl,rfl,k⟩
noncomputable def vO:GD:=fun ys aj K=>∃ (m:Int) (ws:List (Int × Int × Int)),dz m ws/\ys=[.p (aB m ws)]/\aj=[]/\K (.n ((ba ws.length).map D.int)) []
noncomputable def Ck:WS:=(aN (BI (ao (dN (ao (d2 (aa 0) (dC (.int 1)) bc) ah) cY) ah)))
theorem Rc:∀ ys aj K',ys.length=1->vO ys aj K'->Ck (bS aj.length K') ⟨ys.map some ++ List.replicate 0 none,aj.map some⟩:=by
 rintro ys aj K' - ⟨m,ws,W,rfl,rfl,k⟩
 have:=W.jf
 unfold Ck
 simp? only [i9,aB]
 refine⟨⟨by omega,by omega⟩,[],rfl,rfl,.inl ?_⟩
 rw[Yv,sQ]
 exact k
noncomputable def sZ (marks:List Int) (f:Int):List Int:=(ba marks.length).filter fun h=>decide (marks.getD h.toNat 0=f)
noncomputable def rE (marks:List Int):List (List Int):=(sortI (ju marks)).map (sZ marks)
noncomputable def jx (ls:List (List Int)):D := .lst (ls.map aO)
noncomputable def vP:GD:=fun ys aj K=>∃ (m:Int) (ws:List (Int × Int × Int)) (ns:List Int),dz m ws/\Nums ws ns/\((ys=[.p (aB m ws),.p (aO ns)]/\aj=[]/\K (.p (jx (rE (eZ m ws ns)))) [])\/(ys=[.p (aB m ws),.o 0]/\aj=[.lst (ns.map D.int)]/\K (.p (jx (rE (eZ m ws ns)))) [.lst (ns.map D.int)]))
noncomputable def yt:WS:=(au (aG 2 (av 2 vN (ao (aa 0) (ao (aa 1) ah)))) (aN (fG (bO (dN (ao (aa 2) ah) o9)) [none,some 0,some 2] (bt 0) c9 (fG (lh (ao (d2 (aa 1) (dC (.int 0)) bc) ah)) [none,some 0,some 2] (bt 0) (dT (d2 (d2 (aa 2) (aa 0) bc) (aa 1) oEq)) (aa 0)))))
theorem Cm {m:Int} {ws:List (Int × Int × Int)} {ns:List Int}:(eZ m ws ns).length=m.toNat:=by
 unfold eZ
 rw[yp];unfold ba;simp
theorem Rf:∀ ys aj K',ys.length=2->vP ys aj K'->yt (bS aj.length K') ⟨ys.map some ++ List.replicate 1 none,aj.map some⟩:=by
 rintro ys aj K' - ⟨m,ws,ns,W,hn,h⟩
 have m1:=W.m1
 have ki:=W.ki
 have ml:=Cm (m:=m) (ws:=ws) (ns:=ns)
 have core:∀ (x:DV) (mu:List (Option OV)) (K:KS),K.rt (.p (jx (rE (eZ m ws ns)))) ⟨[some (.p (aB m ws)),some x,some (.p (aO (eZ m ws ns)))],mu⟩ →
   (aN (fG (bO (dN (ao (aa 2) ah) o9)) [none,some 0,some 2] (bt 0) c9 (fG (lh (ao (d2 (aa 1) (dC (.int 0)) bc) ah)) [none,some 0,some 2] (bt 0) (dT (d2 (d2 (aa 2) (aa 0) bc) (aa 1) oEq)) (aa 0)))) K ⟨[some (.p (aB m ws)),some x,some (.p (aO (eZ m ws ns)))],mu⟩:=by
  intro x mu K k
  generalize eZ m ws ns=marks at ml k
  have ei:intsOf (marks.map D.int)=some marks:=nN marks
  have ol:=HS marks
  simp only[aN,fG,bO,dN,ao,ah,aa,q0O,Z2,jN,ib,o9,aO,ei,qK,c8,Yt,Z4,Option.join_some]
  refine⟨by omega,?_⟩
  refine L2.kB (fun d=>match d with
   | .int f=>aO (sZ marks f)
   | _ => .non) (by rw[qp,Bv];omega) trivial ?_ ?_
  ·intro d hd acc L ha h
   obtain⟨f,_,rfl⟩:=Nk.mp hd
   simp? only [i8,aB]
   refine⟨by omega,?_⟩
   refine L2.sT (fun d=>match d with
    | .int z=>decide (marks.getD z.toNat 0=f)
    | _=>false) id (by rw[nM];omega) trivial ?_ ?_
   ·intro d hd eS L' Rg h1 h2
    obtain⟨i,hi⟩:=Yj.mp hd
    obtain⟨hi,rfl⟩:=oS hi
    have e0:(0 + (i:Int))=i:=by omega
    rw[e0] at h1 h2 ⊢
    have ai:=vM (ns:=marks) (i:=i) (by omega)
    simp? only [ai]
    cases q:ay (.int (marks.getD i 0)) (.int f)
    ·refine h2 ?_
     show decide (marks.getD (i:Int).toNat 0=f)=false
     rw[Yv]
     refine Yz fun z => ?_
     rw[z,gB] at q;cases q
    ·refine⟨Rg,h1 ?_⟩
     show decide (marks.getD (i:Int).toNat 0=f)=true
     rw[Yv]
     simp only[ay] at q
     exact Yk (Zd q)
   ·simp? only []
    refine⟨ha,?_⟩
    have e:((cu 0 m.toNat).filter fun d=>match d with
     | .int z=>decide (marks.getD z.toNat 0=f)
     | _=>false).map id=(sZ marks f).map D.int:=by
     rw[q2k,sQ,q0q]
     unfold sZ
     rw[ml];rfl
    rw[e]
    exact h
  ·have e:((sortI (ju marks)).map D.int).map (fun d=>match d with
    | .int f=>aO (sZ marks f)
    | _ => .non)=(rE marks).map aO:=by
    unfold rE
    rw[Ys,Ys];rfl
   rw[e]
   exact k
 rcases h with⟨rfl,rfl,k⟩ | ⟨rfl,rfl,k⟩
 ·unfold yt
  refine aW fun N hN => ?_
  simp? only []
  refine⟨m,ws,ns,W,hn,.inl ⟨rfl,rfl,?_⟩⟩
  simp? only []
  subst hN
  exact core _ _ _ (d4 k)
 ·unfold yt
  refine aW fun N hN => ?_
  simp? only []
  refine⟨m,ws,ns,W,hn,.inr ⟨rfl,rfl,?_⟩⟩
  simp? only []
  subst hN
  exact core _ _ _ ⟨[.lst (ns.map D.int)],rfl,rfl,k⟩
theorem Co {n:Nat} {z:Int} (h:z∈ba n):0 <= z/\z < (n:Int):=by
 unfold ba at h
 obtain⟨i,hi,rfl⟩:=Nk.mp h
 have:=Yr.mp hi
 simp;omega
theorem mH {H:Hp} {a:Addr} {o:HO} (h:H a=none):ax H (upd H a o):=fun b u e=>by rw[aH (cf e h)];exact e
structure yu (H:Hp) (p c:Addr) (at_ z:Int):Prop where
 lst:H p=some (.lst [.ref c,.int at_,.int z])
 cells:∃ ns:List Int,H c=some (.lst (ns.map V.int))/\ns.length <= 63
 pos:0 <= at_
theorem yu.ne {H:Hp} {p c:Addr} {k z:Int} (P:yu H p c k z):c≠p:=by
 obtain⟨ns,h,_⟩:=P.cells
 intro e
 subst e
 rw[P.lst] at h
 have h':=YA h
 injection h' with sF
 cases ns with
 | nil=>cases sF
 | cons n r=>injection sF with h1 _;cases h1
theorem Rh {ns:List Int} {k:Int} (h0:0 <= k) (h1:k < (ns.length:Int)):∃ n,fB (ns.map V.int) k=some (.int n):=by
 obtain⟨i,rfl⟩:∃ i:Nat,k=i:=⟨k.toNat,by omega⟩
 have hi:i < ns.length:=by omega
 refine⟨ns[i],oE ?_⟩
 rw[Ni,qo hi];rfl
noncomputable def Cp (K:PySem.W.Frag):Sp:=fun vs H Q _=>∃ (a:Addr) (ns:List Int),vs=[.ref a]/\aU K H a (ns.map V.int)/\ns.length <= 63/\∀ (p c:Addr) (H':Hp),ax H H'->H p=none->yu H' p c 0 0->Q (.ref p) H'
noncomputable def yw (K:PySem.W.Frag):Sp:=fun vs H Q _=>∃ (a:Addr) (ns:List Int),vs=[.ref a]/\aU K H a (ns.map V.int)/\ns.length <= 63/\aD.ok H/\∀ H',Q (.bl true) H'
theorem Cq (ns:List Int) (lo hi:Option Int):c7 (ns.map V.int) lo hi=((ns.drop (HT.aX ns.length 0 lo)).take (HT.aX ns.length ns.length hi - HT.aX ns.length 0 lo)).map V.int:=by
 unfold c7
 rw[qp,List.map_take,List.map_drop]
theorem Ri {H:Hp} {p c a:Addr} {n:Nat} (hT:aD.ok H) (N:yu H p c 0 0):∃ (F:Hp) (ns:List Int),ns.length <= 63/\SR F [p] ⟨none :: some (.o 0) :: List.replicate n none,[some (.lst [.lst (ns.map D.int),.int 0,.int 0])]⟩ (some (.ref a) :: some (.ref p) :: List.replicate n none) H:=by
 obtain⟨ns,hc,hn⟩:=N.cells
 have ne:=N.ne
 refine⟨upd (fun _=>none) c (.lst (ns.map V.int)),ns,hn,⟨fun b o e => ?_,fun b ⟨k,ov,e1,e2⟩ => ?_,rfl,fun k l a ov ow e1 e2 _ _ => ?_,fun k ov e => ?_,fun i x e => ?_,by simp,hT,fun b hb=>by
  obtain⟨ps,q⟩:=aD.tb hT hb
  rw[aH fun z=>by subst z;rw[hc] at q;cases q]⟩⟩
 ·by_cases z:b=c
  ·subst z;rw[bz] at e;cases e;exact hc
  ·rw[aH z] at e;cases e
 ·cases k with
  | zero=>cases (show some p=some b by simpa using e1);rw[aH (ZV ne)]
  | succ k=>simp at e1
 ·cases k with
  | zero =>
   cases l with
   | zero=>rfl
   | succ l=>simp at e2
  | succ k=>simp at e1
 ·cases k with
  | zero =>
   cases (show OV.lst [.lst (ns.map D.int),.int 0,.int 0]=ov by simpa using e)
   refine⟨p,_,rfl,N.lst,_,rfl,?_⟩
   refine .cons ?_ (.cons rfl (.cons rfl .nil))
   simp only[Is]
   exact⟨c,_,rfl,bz,qO⟩
  | succ k=>simp at e
 ·cases i with
  | zero=>simp at e
  | succ i =>
   cases i with
   | zero =>
    cases (show DV.o 0=x by simpa using e)
    exact⟨_,rfl,p,rfl,rfl⟩
   | succ i =>
    exfalso
    have e:(List.replicate n (none:Option DV))[i]? = some (some x):=by simpa using e
    rw[q0L] at e
    split at e<;>cases e
theorem Rj {B:WS} {F:Hp} {ad:List Addr} {δ : aw} {σ : St} {H:Hp} {Q:VK} (S:SR F ad δ σ H) (h:B ⟨fun _=>False,fun x _=>x = .p (.bl true),fun _=>False,fun _=>False⟩ δ) (q:∀ H',Q (.bl true) H'):dX B { nx:=fun _ H'=>Q .non H',rt:=Q } σ H :=
 ⟨F,ad,δ,_,S,h,⟨fun δ' h=>h.elim,fun δ' h=>h.elim,fun δ' h=>h.elim,fun x δ' h v F' aA σ' H' E' S' V=>by
  have h:x = .p (.bl true):=h
  subst h
  have V:v = .bl true:=V
  subst V
  exact q H'⟩⟩
end LJ
namespace L2
open PySem PySem.Spec PyProof.Rows
noncomputable def Cr (Ts:List (Addr × Array Value)) (H:Hp):Prop:=∀ b,(∃ ps,Ts.lookup b=some ps/\H b=some (.tbl ps))\/(Ts.lookup b=none/\(H b=none\/∃ o xs,H b=some (.frz o (.lst xs))))
theorem Rk {P:Program} {w:World} {K:PySem.W.Frag} {mg mb:Str->Option Value} {CX:jE} {k:Nat} {fa a:Addr} {fd:FuncData} {x:Str} {sp:Sp} {s₁ : Shared} {vs:List Value} {ns:List Int} (Ts:List (Addr × Array Value))
  (hT:∀ b ps,Ts.lookup b=some ps->s₁.heap.get? b=some { cls := .none,data := .fields ps }/\isCodeTable s₁.heap b/\K.lookup b=none)
  (KX:K.In s₁.heap) (vQ:s₁.heap.Ns mainGlobals mg) (hb:s₁.heap.Ns builtinsNs mb) (Rl:∀ x:Str,x ≠ "__name__" -> mb x=bootBuiltins x) (Cs:s₁.heap.NoLimit) (hg:s₁.gens = #[])
  (ha:s₁.heap.get? a=some { cls := .type "list",data := .seq vs.toArray }) (hi:IntsAre vs ns) (hl:ns.length <= sizeLine) (hr:bf k callerA)
  (hB:∃ bm ob,mg "__builtins__" = some (.ref bm)/\bm≠builtinsNs/\s₁.heap.get? bm=some ob/\ob.cls = .type "module" /\ ob.dict=some builtinsNs/\ob.data = .plain)
  (F:∀ base:Heap,K.In base->base.Ns mainGlobals mg->(∀ b ps,Ts.lookup b=some ps->base.BuiltinsAt mg b)->aM P w K mg base CX k fa fd [x] sp) (vR:∀ (s:Shared) (u:Value),BindsTo s fd ⟨[u],[]⟩ [(x,u)])
  (oB:∀ H:Hp,Cr Ts H->aU K H a (ns.map V.int)->sp [.ref a] H (fun v _=>v = .bl true) fun _ _ _=>False)
  (Ct:∀ H e s',CX [] H s₁ (fun _ _ _=>False) e s'->False) :
  codeAny (model P w) callerA (.call (.ref fa) ⟨[.ref a],[]⟩) (fun r s'=>r = .ok (.ret (.bool true))/\OldK s₁.heap s'.heap/\s'.os=s₁.os/\AllBare s'.gens) s₁ := by
 have rv:=FK hi
 have Cu:=hi.length
 have aT:Ts.lookup a=none:=by
  cases q:Ts.lookup a with
  | none=>rfl
  | some ps =>
   have:=(hT a ps q).1
   rw[ha] at this
   have z:=congrArg Obj.cls (YA this)
   cases (show Value.type "list" = Value.none from z)
 have core:∀ H:Hp,Cr Ts H->aU K H a (ns.map V.int)->dI P w H s₁.heap->(∀ b,Ts.lookup b=none->H b≠none->b=a)->(H a≠none->K.lookup a=none) →
   codeAny (model P w) callerA (.call (.ref fa) ⟨[.ref a],[]⟩) (fun r s'=>r = .ok (.ret (.bool true))/\OldK s₁.heap s'.heap/\s'.os=s₁.os/\AllBare s'.gens) s₁ := by
  intro H hO hS aK hA hK
  have hV:∀ {b:Addr} {o:Obj},s₁.heap.get? b=some o->H b=none->(gv s₁.heap H).get? b=some o:=fun e n=>Lk e n
  have m8:∀ {b:Addr} {o:Obj} {es:Array DictEntry} {ep:Nat},s₁.heap.get? b=some o->o.data = .dict es ep->H b=none:=fun {b o es ep} e d=>by
   cases q:H b with
   | none=>rfl
   | some u =>
    cases t:Ts.lookup b with
    | some ps =>
     have:=(hT b ps t).1
     rw[e] at this;cases this
     cases d
    | none =>
     have e':b=a:=hA b t (by rw[q];simp)
     subst e'
     rw[ha] at e;cases e
     have d':Data.seq vs.toArray _=Data.dict es ep:=d
     cases d'
  have yx:∀ {b:Addr} {m:Str->Option Value},s₁.heap.Ns b m->(gv s₁.heap H).Ns b m:=fun {b m} ⟨o,es,ep,e,d,r⟩=>⟨o,es,ep,hV e (m8 e d),d,r⟩
  have Ik:K.In (gv s₁.heap H):=fun b o e=>hV (KX b o e) (by
   cases q:H b with
   | none=>rfl
   | some u =>
    cases t:Ts.lookup b with
    | some ps=>rw[(hT b ps t).2.2] at e;cases e
    | none =>
     have e':b=a:=hA b t (by rw[q];simp)
     subst e'
     rw[hK (by rw[q];simp)] at e;cases e)
  have Rm:∀ b ps,Ts.lookup b=some ps->(gv s₁.heap H).BuiltinsAt mg b:=fun b ps t=>by
   obtain⟨bm,ob,b1,b2,b3,b4,b5,b6⟩:=hB
   refine⟨bm,ob,b1,b2,fun z => ?_,fun z => ?_,hV b3 ?_,b4,b5,b6⟩
   ·obtain⟨o,es,ep,e1,e2,_⟩:=vQ
    rw[z,e1] at b3;cases b3
    rw[e2] at b6;cases b6
   ·have:=(hT b ps t).1
    rw[z,this] at b3;cases b3
    cases b6
   ·cases q:H bm with
    | none=>rfl
    | some u =>
     cases t':Ts.lookup bm with
     | some Rn =>
      have:=(hT bm Rn t').1
      rw[b3] at this;cases this
      cases b6
     | none =>
      have e':bm=a:=hA bm t' (by rw[q];simp)
      rw[e',ha] at b3;cases b3
      cases b6
  have hM:Mod K mg (gv s₁.heap H):=⟨Ik,yx vQ,⟨mb,yx hb,Rl⟩,let ⟨mc,h1,h2⟩:=Cs; ⟨mc,yx h1,h2⟩⟩
  have e0:mZ P w K mg (gv s₁.heap H) callerA [] s₁ H:=⟨rfl,hM,fun b o e=>Ll e,Nat.le_of_eq (Lj _ _),trivial,fun b hb=>absurd (show b∈([]:List Addr) from hb) (by simp),aK,.of_eq hg⟩
  refine q0w ((F _ Ik (yx vQ) Rm).run callerA [] s₁ H ⟨[.ref a],[]⟩ [.ref a] [.ref a] _ _ hr e0 (vR s₁ (.ref a)) (.cons rfl .nil) (oB H hO hS)) fun r s' h => ?_
  cases r with
  | error e=>exact (Ct H e s' h).elim
  | ok fl =>
   cases fl with
   | next=>exact False.elim h
   | brk=>exact False.elim h
   | cont=>exact False.elim h
   | ret u =>
    obtain⟨v,H',os,bare,un,vS,r',q⟩:=h
    have q':v = .bl true:=q
    subst q'
    obtain rfl:u=Value.bool true:=r'
    have all:∀ b o,s₁.heap.get? b=some o->asItWas s₁.heap s'.heap b o/\∃ o',s'.heap.get? b=some o':=fun b o e=>by
     rcases hO b with⟨ps,t,z⟩ | ⟨t,z | ⟨ob,xs,z⟩⟩
     ·obtain⟨more,z2⟩:=un.gu b ps z
      have e2:s'.heap.get? b=some { cls := .none,data := .fields (ps ++ more) }:=vS b _ z2
      have e1:=(hT b ps t).1
      rw[e] at e1;cases e1
      exact⟨.inr (.inl ⟨(hT b ps t).2.1,rfl,ps,more,rfl,e2⟩),_,e2⟩
     ·have e2:=un.keep b o e z (by intro z;exact absurd (show b∈([]:List Addr) from z) (by simp)) (by simp)
      exact⟨.inl e2,_,e2⟩
     ·have z2:=un.gs b ob _ z
      obtain⟨e1,_⟩:=aK b _ z
      obtain⟨e2,_⟩:=vS b _ z2
      rw[e] at e1;cases e1
      exact⟨.inl e2,_,e2⟩
    exact⟨rfl,⟨fun b o e=>(all b o e).1,fun b o e=>(all b o e).2⟩,os,bare⟩
 have px:∀ (H:Hp) b ps,Ts.lookup b=some ps->aF P w H s₁.heap b (.tbl ps):=fun H b ps t=>(hT b ps t).1
 cases hk:K.lookup a with
 | some o =>
  have e:=KX a o hk
  rw[ha] at e
  cases e
  have hv:∀ b,(fun b=>(Ts.lookup b).map HO.tbl:Hp) b=(Ts.lookup b).map HO.tbl:=fun _=>rfl
  refine core (fun b=>(Ts.lookup b).map HO.tbl) (fun b => ?_) (.inr ⟨_,vs.toArray,_,hk,rfl,rfl,rfl,by rw[xb,Cu];exact hl,by simpa using rv⟩) (fun b u z => ?_) (fun b t z => ?_) fun z => ?_
  ·cases t:Ts.lookup b with
   | some ps=>exact .inl ⟨ps,rfl,by show (Ts.lookup b).map HO.tbl=_;rw[t];rfl⟩
   | none=>exact .inr ⟨rfl,.inl (by show (Ts.lookup b).map HO.tbl=_;rw[t];rfl)⟩
  ·obtain⟨ps,t,rfl⟩:=XM.mp (show (Ts.lookup b).map HO.tbl=some u from z)
   exact px _ b ps t
  ·exact absurd (show (Ts.lookup b).map HO.tbl=none by rw[t];rfl) z
  ·exact absurd (show (Ts.lookup a).map HO.tbl=none by rw[aT];rfl) z
 | none =>
  refine core (fun b=>if b=a then some (.frz { cls := .type "list",data := .seq vs.toArray } (.lst (ns.map V.int))) else (Ts.lookup b).map HO.tbl) (fun b => ?_) (.inl (.inr ⟨{ cls := .type "list",data := .seq vs.toArray },XI rfl⟩)) (fun b u z => ?_) (fun b t z => ?_) fun _=>hk
  ·by_cases hb:b=a
   ·subst hb
    exact .inr ⟨aT,.inr ⟨_,_,XI rfl⟩⟩
   ·cases t:Ts.lookup b with
    | some ps=>exact .inl ⟨ps,rfl,(Nj hb).trans (by rw[t];rfl)⟩
    | none=>exact .inr ⟨rfl,.inl ((Nj hb).trans (by rw[t];rfl))⟩
  ·by_cases hb:b=a
   ·have z':=(XI hb).symm.trans z
    cases z'
    subst hb
    exact⟨ha,by rw[qp];exact hl,vs,_,rv,ha⟩
   ·have z':=(Nj hb).symm.trans z
    obtain⟨ps,t,rfl⟩:=XM.mp z'
    exact px _ b ps t
  ·by_cases hb:b=a
   ·exact hb
   ·exact absurd ((Nj hb).trans (by rw[t];rfl)) z
theorem Ro {l:PySem.W.OpenLaw} {n k:Nat} {q:Program} {loose:List Str} {XP:(Str->Option Value)->Heap->Prop} {YP:World->Heap->Prop} {d:DefRec} {K:World->PySem.W.Frag} {CX:World->jE} {sp:World->Sp} {x:Str} {Ts:World->List (Addr × Array Value)}
  (hn:l.most=some n) (Rp:n <= sizeLine) (ug:d.params.defaults=[]) (hr:bf k callerA)
  (hY:∀ (w:World) (h:Heap),YP w h->(K w).In h)
  (hT:∀ (w:World) (h:Heap),YP w h->∀ b ps,(Ts w).lookup b=some ps->h.get? b=some { cls := .none,data := .fields ps }/\isCodeTable h b/\(K w).lookup b=none)
  (F:∀ (w:World) (mg:Str->Option Value) (fa:Addr) (h:Heap),(K w).In h->h.Ns mainGlobals mg->mg d.name=some (.ref fa) →
   ∃ fd:FuncData,(∀ (s:Shared) (u:Value),BindsTo s fd ⟨[u],[]⟩ [(x,u)]) ∧
    ∀ base:Heap,(K w).In base->base.Ns mainGlobals mg->(∀ b ps,(Ts w).lookup b=some ps->base.BuiltinsAt mg b)->aM l.prog w (K w) mg base (CX w) k fa fd [x] (sp w))
  (oB:∀ (w:World) (H:Hp) (a:Addr) (ns:List Int),ns.length <= n->Cr (Ts w) H->aU (K w) H a (ns.map V.int)->sp w [.ref a] H (fun v _=>v = .bl true) fun _ _ _=>False)
  (Ct:∀ (w:World) (H:Hp) (s:Shared) (e:Value) (s':Shared),CX w [] H s (fun _ _ _=>False) e s'->False) :
  PySem.W.WalkO q loose XP YP l.row.toRowW d [] (fun f vs=>PySem.call f vs):=by
 refine Att.iw hn ug fun w s₀ s₁ mg mb fa o pm cd doc a vs ns G Y ho hd fR nk qm hints hlen hg => ?_
 have KX:=hY w _ Y
 obtain⟨fd,hb,hF⟩:=F w mg fa _ KX G.T.g nk
 exact Rk (Ts w) (hT w _ Y) KX G.T.g G.T.b G.T.builtins G.T.nolimit hg qm hints (Zb hlen Rp) hr G.T.bmain hF hb (fun H hO hS=>oB w H a ns hlen hO hS) fun H e s'=>Ct w H s₁ e s'
section
variable {X:Cx} {pins:List (Addr × Obj)} {σ : St} {H:Hp} {s:Shared} {h':Heap}
theorem Inv.grow {T c f:Addr} {ps more:Array Value} {oc of:HO} {t':Nat} (I:Inv X pins σ H s) (hT:H T=some (.tbl ps)) (k:∀ b u,b≠T->s.heap.get? b=some u->h'.get? b=some u) (yy:h'.get? T=some { cls := .none,data := .fields (ps ++ more) })
  (hc:s.heap.objs.size <= c) (hf:s.heap.objs.size <= f) (Cv:c≠f) (Rq:∀ H2,aF X.prog X.w H2 h' c oc) (Rr:∀ H2,aF X.prog X.w H2 h' f of) :
  Inv X pins σ (upd (upd (upd H T (.tbl (ps ++ more))) c oc) f of) { s with heap:=h',toks:=t' }:=by
 have tl:T < s.heap.objs.size:=(I.aK T _ hT).lt
 have cT:c≠T:=ZU (Yn tl hc)
 have fT:f≠T:=ZU (Yn tl hf)
 have Yd:H c=none:=I.aK.fresh hc
 have Rt:H f=none:=I.aK.fresh hf
 have old:∀ b,b < s.heap.objs.size->b≠T->upd (upd (upd H T (.tbl (ps ++ more))) c oc) f of b=H b:=fun b hb nT=>by
  rw[aH (XN (Yn hb hf)),aH (XN (Yn hb hc)),aH nT]
 have atT:upd (upd (upd H T (.tbl (ps ++ more))) c oc) f of T=some (.tbl (ps ++ more)):=by
  rw[aH (ZV fT),aH (ZV cT),bz]
 have lt:∀ b u,H b=some u->b < s.heap.objs.size:=fun b u e=>(I.aK b u e).lt
 have d5:∀ b u,H b=some u->(∀ qs,u ≠ .tbl qs)->upd (upd (upd H T (.tbl (ps ++ more))) c oc) f of b=some u:=fun b u e n=>by
  rw[old b (lt b u e) (fun z=>by subst z;rw[hT] at e;cases e;exact n _ rfl)];exact e
 refine I.un (t':=t') ⟨fun b o e n _ _=>k b o (fun z=>by subst z;rw[hT] at n;cases n) e,fun b o e n _ _=>⟨o.slots,k b o (fun z=>by subst z;rw[hT] at n;cases n) e⟩,fun b o e n _ => ?_,fun b o e _ => ?_,fun b xs e=>d5 b _ e (fun _ z=>by cases z),fun b o u e=>d5 b _ e (fun _ z=>by cases z),fun b qs e => ?_⟩ fun b u e => ?_
 ·rw[old b (Ng e) (fun z=>by subst z;rw[hT] at n;cases n)];exact n
 ·by_cases z:b=T
  ·subst z;exact⟨_,yy⟩
  ·exact⟨o,k b o z e⟩
 ·by_cases z:b=T
  ·subst z;rw[hT] at e;cases e;exact⟨more,atT⟩
  ·exact⟨#[],by rw[old b (lt b _ e) z,e];simp⟩
 ·by_cases z1:b=f
  ·subst z1;rw[bz] at e;cases e;exact Rr _
  ·rw[aH z1] at e
   by_cases z2:b=c
   ·subst z2;rw[bz] at e;cases e;exact Rq _
   ·rw[aH z2] at e
    by_cases z3:b=T
    ·subst z3;rw[bz] at e;cases e;exact yy
    ·rw[aH z3] at e
     refine aF.gX (I.aK b u e) (fun d v hd q => ?_) (fun d q=>d5 d _ q (fun _ z=>by cases z)) (fun d xs q=>d5 d _ q (fun _ z=>by cases z))
     ·refine k d v (fun y => ?_) q
      subst y
      rcases hd with y | y
      ·exact z3 y.symm
      ·rw[hT] at y;cases y
noncomputable def mI (c:Addr) (q:Str):HO := .ext fun h=>∃ o vs tq,h.get? c=some o/\o.data = .fields vs/\vs[1]? = some (.str q tq)
theorem Ru {P:Program} {w:World} {H:Hp} {h:Heap} {c:Addr} {q:Str} (e:h.CodeRec (.ref c) q):aF P w H h c (mI c q):=by
 obtain⟨c',o,vs,tq,z,ho,hd,hq⟩:=e
 cases z
 exact⟨⟨o,vs,tq,ho,hd,hq⟩,⟨o,ho⟩,fun h1 h2 ⟨o,vs,tq,e1,e2,e3⟩ k=>⟨o,vs,tq,k o e1,e2,e3⟩⟩
theorem Rv {P:Program} {w:World} {H:Hp} {h:Heap} {c:Addr} {q:Str} (x:aF P w H h c (mI c q)):h.CodeRec (.ref c) q:=by
 obtain⟨⟨o,vs,tq,ho,hd,hq⟩,_⟩:=x
 exact⟨c,o,vs,tq,rfl,ho,hd,hq⟩
end
end L2
namespace L2
open PySem PySem.Spec PyProof.Rows PySem.W
section
variable {X:Cx} {pins:List (Addr × Obj)} {σ : St} {H:Hp} {s:Shared} {params:Arguments} {body:Expr} {scope:Scope} {pos:Pos} {iI:List (Str × Addr)} {cc T:Addr} {ps:Array Value} {E:Value->Shared->Prop} {Q:Value->Shared->Prop}
noncomputable def ja (f:Addr) (name qual:Str) (params:Arguments) (body:Expr) (scope:Scope) (iI:List (Str × Addr)) (pm cd:Value):HO := .ext fun h=>∃ vT,h.get? f=some { cls := .type "function",data := .func (kla_fn name qual params body scope iI pm cd vT) }
noncomputable def d6 (H:Hp) (T:Addr) (pos:Pos) (qual:Str):Prop:=∃ ps,H T=some (.tbl ps)/\TriplesOk ps.toList/\(codeAmong pos ps.toList=none\/∃ c,codeAmong pos ps.toList=some (.ref c)/\H c=some (mI c qual))
theorem Rw (I:Inv X pins σ H s) (hT:d6 H T pos (X.env.qual ++ "<lambda>")) (Cw:defaultsOf params X.env=([],[])) (o_:closureFor scope X.env=pure iI) (jy:X.env.code = .ref cc) (C:CodeHd s.heap cc T) (Rx:mainGlobals≠T) (hg:s.heap.Ns mainGlobals X.mg) (hb:s.heap.BuiltinsAt X.mg T)
  (h:∀ f H' s' c,Inv X pins σ H' s'->d6 H' T pos (X.env.qual ++ "<lambda>")->(∀ b o,H b=some o->b≠T->H' b=some o)->H f=none->H' f=some (ja f "<lambda>" (X.env.qual ++ "<lambda>") params body scope iI ((X.mg "__name__").getD .none) (.ref c))->H' c=some (mI c (X.env.qual ++ "<lambda>"))->Q (.ref f) s') :
  wpAny (model X.prog X.w) X.A (eval (.Lambda params body scope pos) X.env) Q E s:=by
 obtain⟨ps,hP,ht,hf⟩:=hT
 have Cy:s.heap.get? T=some { cls := .none,data := .fields ps }:=I.aK T _ hP
 refine kla_eval Cw ?_
 rcases hf with Il | ⟨c,hf,yz⟩
 ·refine kla_makeFunction o_ I.ok.glob hg jy C Cy ht Il Rx hb fun c' vT h' tk hx yA cQ Cz Ry => ?_
  have hsz:s.heap.objs.size <= h'.objs.size:=Zp (q0I yA cQ)
  have tl:T < s.heap.objs.size:=Ng Cy
  have Rz:T≠h'.objs.size:=XN (Yn tl hsz)
  have RA:T≠c':=XN (Yn tl yA)
  have Cv:c'≠h'.objs.size:=XN cQ
  have Im:(ps ++ #[rawInt pos.line,rawInt pos.col,Value.ref c']).toList=ps.toList ++ [rawInt pos.line,rawInt pos.col,Value.ref c']:=by simp
  have atT:upd (upd (upd H T (.tbl (ps ++ #[rawInt pos.line,rawInt pos.col,.ref c']))) c' (mI c' (X.env.qual ++ "<lambda>"))) h'.objs.size (ja h'.objs.size "<lambda>" (X.env.qual ++ "<lambda>") params body scope iI ((X.mg "__name__").getD .none) (.ref c')) T=some (.tbl (ps ++ #[rawInt pos.line,rawInt pos.col,.ref c'])):=by
   rw[aH Rz,aH RA,bz]
  have atC:upd (upd (upd H T (.tbl (ps ++ #[rawInt pos.line,rawInt pos.col,.ref c']))) c' (mI c' (X.env.qual ++ "<lambda>"))) h'.objs.size (ja h'.objs.size "<lambda>" (X.env.qual ++ "<lambda>") params body scope iI ((X.mg "__name__").getD .none) (.ref c')) c'=some (mI c' (X.env.qual ++ "<lambda>")):=by
   rw[aH Cv,bz]
  refine h h'.objs.size _ _ c' (I.grow (t':=tk) (oc:=mI c' (X.env.qual ++ "<lambda>")) (of:=ja h'.objs.size "<lambda>" (X.env.qual ++ "<lambda>") params body scope iI ((X.mg "__name__").getD .none) (.ref c')) hP (fun b u nb e=>ue _ (hx b u nb e)) (ue _ Ry) yA hsz Cv (fun _=>Ru (Cz.push _)) fun _ => ?_) ⟨_,atT,?_,.inr ⟨c',?_,atC⟩⟩ (fun b o e nb => ?_) (I.aK.fresh hsz) bz atC
  ·exact⟨⟨vT,XJ _ rfl⟩,⟨_,XJ _ rfl⟩,fun h1 h2 ⟨v,e⟩ k=>⟨v,k _ e⟩⟩
  ·rw[Im];exact TriplesOk_snoc _ _ _ _ ht
  ·rw[Im];exact codeAmong_snoc _ ht Il
  ·have bl:b < s.heap.objs.size:=(I.aK b o e).lt
   rw[aH (XN (Yn bl hsz)),aH (XN (Yn bl yA)),aH nb];exact e
 ·refine kla_makeFunctionHit o_ I.ok.glob hg jy C Cy ht hf hb fun vT h' tk hk hsz => ?_
  have hn:H h'.objs.size=none:=I.aK.fresh hsz
  refine h h'.objs.size _ _ c (I.laid (a:=h'.objs.size) (o:=ja h'.objs.size "<lambda>" (X.env.qual ++ "<lambda>") params body scope iI ((X.mg "__name__").getD .none) (.ref c)) (t':=tk) (fun b u e=>ue _ (hk b u e)) hsz ?_) ⟨ps,?_,ht,.inr ⟨c,hf,?_⟩⟩ (fun b o e _ => ?_) hn bz ?_
  ·exact⟨⟨vT,XJ _ rfl⟩,⟨_,XJ _ rfl⟩,fun h1 h2 ⟨v,e⟩ k=>⟨v,k _ e⟩⟩
  ·rw[aH (cf hP hn)];exact hP
  ·rw[aH (cf yz hn)];exact yz
  ·rw[aH (cf e hn)];exact e
  ·rw[aH (cf yz hn)];exact yz
end
structure LD where
 A:Around
 cl:List (Str × Addr)
 f:Addr
 cd:Value
 s:Shared
 H:Hp
@[reducible] noncomputable def n6 (X:Cx) (qual:Str) (scope:Scope) (Nb:List Str) (d:LD):Cx where
 prog:=X.prog
 w:=X.w
 K:=X.K
 mg:=X.mg
 base:=X.base
 A:=d.A.deeper (envX qual scope d.s.heap.objs.size d.f d.cd d.cl)
 N:=Nb
 s₀ := d.s
 H₀ := d.H
 env:=envX qual scope d.s.heap.objs.size d.f d.cd d.cl
 outer:=X.stack
 stack:=envX qual scope d.s.heap.objs.size d.f d.cd d.cl :: X.stack
 ex:=[]
 fn:=fun _=>false
 calm:=true
 pn:=[]
 xe:=fun _ _=>False
noncomputable def yB (N:List Str) (xc scope:Scope) (x:Str) (Nb:List Str) (cp:List (Option Nat)):Bool :=
 l8 N xc scope (x :: Nb) (none :: cp) && (scope.names.all fun y=>decide (y.2 ≠ .cell)) && decide (scope.names.lookup x=some .local) && cp.all (·.isSome)
section
variable {X:Cx} {pins:List (Addr × Obj)} {σ : St} {H:Hp} {s:Shared} {params:Arguments} {body:Expr} {scope:Scope} {cl:List (Str × Addr)} {E:Value->Shared->Prop} {Q:VK} {name qual x:Str} {f c:Addr} {pm:Value} {A:Around} {v:V} {u:Value} {Nb:List Str} {cp:List (Option Nat)} {t:TE}
theorem RB (I:Inv X pins σ H s) (hf:H f=some (ja f name qual params body scope cl pm (.ref c))) (hc:H c=some (mI c qual)) (hA:A.frames=some X.stack) (hh:A.handled=none) (hd:A.depth < recursionLimit)
  (hk:scope.kind = .function) (ho:yB X.N X.env.scope scope x Nb cp=true) (RC:scope.isCoroutine=false) (CA:scope.isGenerator=false)
  (rF:∀ y c,cl.lookup y=some c->X.env.cells.lookup y=some c) (yC:∀ y∈scope.names,y.2 = .free->∃ c,cl.lookup y.1=some c)
  (hb:∀ (ct:Value),bindArgs (kla_fn name qual params body scope cl pm (.ref c) ct) ⟨[u],[]⟩=pure [(x,u)]) (r:RelV v u)
  (J:JE (n6 X qual scope (x :: Nb) ⟨A,cl,f,.ref c,s,H⟩) body t) (h:t (some v :: iM cp σ) H Q):wpAny (model X.prog X.w) A (call (.ref f) [u]) (EP X pins σ Q) E s:=by
 unfold yB at ho
 simp only[YI,Zy,YB] at ho
 obtain⟨⟨⟨ho,Io⟩,hx⟩,cps⟩:=ho
 have S:=x2j hk ho
 obtain⟨⟨ct,RD⟩,_⟩:=I.aK f _ hf
 have fR:=Rv (I.aK c _ hc)
 refine wpAny_call (kla_callFunE hd RD rfl RC CA rfl fR ?_)
 rw[hb ct]
 refine xa (wpAny_newFunctionEnv (fun y hy=>Io y hy) (fun y hy=>by rw[YF.mp hy];exact hx) (fun h₁ vQ uq => ?_) hk)
 have vU:∀ b o,s.heap.get? b=some o->h₁.get? b=some o:=fun b o e=>uq.extBut b o (XN (Ng e)) (ue _ e)
 refine⟨I.nolimit.keeps vU,?_⟩
 have e0:=I.t6
 show codeAny _ _ (.expr body (envX qual scope s.heap.objs.size f (.ref c) cl)) _ _
 have m8:∀ b:Addr,b∉(n6 X qual scope (x :: Nb) ⟨A,cl,f,.ref c,s,H⟩).ex:=fun b z=>absurd (show b∈([]:List Addr) from z) (by simp)
 have mem:∀ {y:Str} {k:NameKind},scope.names.lookup y=some k->(y,k)∈scope.names:=fun e=>Zf e
 have I1:Inv (n6 X qual scope (x :: Nb) ⟨A,cl,f,.ref c,s,H⟩) [] (some v :: iM cp σ) H { s with heap:=h₁,toks:=s.toks + [(x,u)].length }:=by
  refine⟨⟨e0.mod,hk,rfl,rfl,qq _,fun y z d h1 h2=>I.ok.inj y z d (rF y d h1) (rF z d h2),fun y hy => ?_,fun y d z _=>(by cases z),fun _=>hh,Around.frames_deeper hA,.inr ⟨rfl,rfl⟩,fun b z=>absurd z (m8 b),e0.bs,e0.ot,fun b _ _=>m8 b,fun b z=>absurd z (m8 b),e0.fA,e0.pR⟩,
   rfl,e0.bare,Un.kept vU,⟨_,vQ,fun i y w h1 h2 h3 => ?_⟩,fun y d hy => ?_,e0.aK.fresh (qq _),fun y d hy=>I.cR y d (rF y d hy),fun p hp=>absurd (show p∈([]:List (Addr × Obj)) from hp) (by simp),e0.aK.kept vU,?_⟩
  ·have hy:scope.names.lookup y=some .cell\/scope.names.lookup y=some .free:=hy
   rcases hy with hy | hy
   ·exact absurd rfl (Io _ (mem hy))
   ·exact yC _ (mem hy) rfl
  ·cases i with
   | zero =>
    cases (show some x=some y by simpa using h1)
    cases (show v=w by simpa using h2)
    exact⟨u,r,.inl ⟨hx,by simp⟩⟩
   | succ j =>
    have h1:Nb[j]? = some y:=by simpa using h1
    have h2:(iM cp σ)[j]? = some (some w):=by simpa using h2
    unfold iM at h2
    rw[Ni] at h2
    obtain⟨o,q1,q2⟩:=XM.mp h2
    match o,q2 with
    | none,q2=>cases q2
    | some i',q2 =>
     have q2:(σ[i']?).join=some w:=q2
     obtain⟨n1,n2⟩:=S.ui (j + 1) i' y (by simpa using q1) (by simpa using h1)
     have hs : σ[i']? = some (some w):=by
      cases q : σ[i']? with
      | none=>rw[q] at q2;cases q2
      | some z=>rw[q] at q2;cases (show z=some w from q2);rfl
     have kd:=S.free _ (mem n2) rfl
     obtain⟨m,hn,hl⟩:=I.loc
     obtain⟨u',rv,lk⟩:=hl i' y w n1 hs (by rcases kd with z | z;exact .inr (.inl z);exact .inr (.inr z))
     refine⟨u',rv,?_⟩
     rcases lk with⟨z,_⟩ | ⟨_,d,e1,o,e2,e3⟩
     ·rcases kd with k | k<;>(rw[show X.env.kindOf y=some .local from z] at k;cases k)
     ·obtain⟨d',e4⟩:=yC _ (mem n2) rfl
      have:=rF _ _ e4
      rw[e1] at this;cases this
      exact .inr ⟨.inr n2,d,e4,o,vU _ _ e2,e3⟩
  ·obtain⟨z,o,e2,e3⟩:=I.cell y d (rF y d hy)
   exact⟨z,o,vU _ _ e2,e3⟩
  ·have:=S.len
   show (some v :: iM cp σ).length=(x :: Nb).length
   unfold iM
   rw[FL,qp]
   simpa using this
 refine kla_codeExpr (Z3 (J.out [] _ _ H Q I1 h) (fun u' s' hs => ?_) fun e s' hs=>hs.elim)
 obtain⟨w,H',J',rv,q⟩:=hs
 exact I.after ⟨w,H',J'.os,J'.bare,J'.base,J'.aK,rv,q⟩
end
noncomputable def jW (h:Heap) (k:LK) (v:Value):Prop:=∃ a o xs n,v = .ref a/\h.get? a=some o/\o.cls = .type "tuple" /\ o.data = .seq xs n/\IntsAre xs.toList k
section
variable {prog:Program} {w:World} {A:Around} {E:Value->Shared->Prop} {s:Shared} {Q:Bool->Shared->Prop}
theorem Ip {fin:Bool}:∀ {us ws:List Value} {ks ls:LK} (i:Nat),IntsAre us ks->IntsAre ws ls->fin=decide (us.length < ws.length)->Q (HT.lexLt ks ls) s->KatLex prog w A true fin Q (us.zip ws) i s
 | _,_,_,_,i,.nil,.nil,hf,h=>by
  rw[q0X]
  subst hf
  exact h
 | _,_,_,_,i,.nil,.cons m u r,hf,h=>by
  rw[q0X]
  have:fin=true:=by rw[hf];simp
  subst this
  exact h
 | _,_,_,_,i,.cons n t r,.nil,hf,h=>by
  rw[List.zip_nil_right]
  have:fin=false:=by rw[hf];simp
  subst this
  exact h
 | _,_,_,_,i,.cons n t r,.cons m u r',hf,h=>by
  rw[q0k]
  refine kat_cons (wpAny_eqBool_int (kat_go (fun e => ?_) fun e => ?_))
  ·have e:n=m:=Zd e
   subst e
   rw[HT.m_,XI rfl] at h
   exact kat_yes (Ip (i + 1) r r' (by rw[hf];simp) h)
  ·have e:¬ n=m:=fun z=>by subst z;simp at e
   rw[HT.m_,Nj e] at h
   refine kat_no ?_
   cases q:(true && i == 0) with
   | true=>exact oneLt_int h
   | false=>exact kat_one _ _ (q1h h)
theorem RE {k l:LK} {x y:Value} (hx:jW s.heap k x) (hy:jW s.heap l y) (h:Q (HT.lexLt k l) s):wpAny (model prog w) A (keyLt' (tuples' true) x y) Q E s:=by
 obtain⟨a,o,xs,n,rfl,h1,_,h2,h3⟩:=hx
 obtain⟨b,o',ys,n',rfl,g1,_,g2,g3⟩:=hy
 exact kat_lt h1 h2 g1 g2 (Ip 0 h3 g3 (by rw[FO,FO]) h)
theorem Iq {h:Heap}:∀ {keys:List Value} {ks:List LK},(∀ k∈ks,k≠[])->keys.length=ks.length->(∀ (i:Nat) (k:LK) (v:Value),ks[i]? = some k->keys[i]? = some v->jW h k v)->∃ fs,KatTups h keys fs/\fs.length=keys.length/\∀ v∈fs,∃ n t,v=Value.int n t
 | [],[],_,_,_=>⟨[],.nil,rfl,fun v hv=>nomatch hv⟩
 | [],_ :: _,_,hl,_=>by simp at hl
 | _ :: _,[],_,hl,_=>by simp at hl
 | v :: keys,k :: ks,h8,hl,ht=>by
  obtain⟨fs,t,hf,hi⟩:=Iq (h:=h) (keys:=keys) (ks:=ks) (fun k hk=>h8 k (My _ hk)) (by simpa using hl) fun i k v e1 e2=>ht (i + 1) k v (by simpa using e1) (by simpa using e2)
  obtain⟨a,o,xs,n,rfl,h1,hc,h2,h3⟩:=ht 0 k v rfl rfl
  have hk:=h8 k FN
  generalize hx:xs.toList=xl at h3
  cases h3 with
  | nil=>exact absurd rfl hk
  | cons m t' r =>
   have h0:xs[0]? = some (.int m t'):=by rw[<-Yp,hx];rfl
   refine⟨.int m t' :: fs,.cons h1 hc h2 h0 t,by rw[FL,FL,hf],fun v hv => ?_⟩
   rcases Nh.mp hv with rfl | hv
   ·exact⟨m,t',rfl⟩
   ·exact hi v hv
theorem RF {M:Model} {keys:List Value} {ks:List LK} {Q:SortKind->Shared->Prop} (h0:0 < keys.length) (h8:∀ k∈ks,k≠[]) (hl:keys.length=ks.length) (ht:∀ (i:Nat) (k:LK) (v:Value),ks[i]? = some k->keys[i]? = some v->jW s.heap k v) (h:Q (tuples' true) s) :
  wpAny M A (keyKind' keys.toArray) Q E s:=by
 obtain⟨fs,t,hf,hi⟩:=Iq h8 hl ht
 refine kat_kind (T := .type "int") t (by omega) (fun v hv => ?_) (by decide) ?_
 ·obtain⟨n,t',rfl⟩:=hi v hv
  exact .now
 ·exact h
theorem getD_some {α : Type} {l:List α} {i:Nat} {d : α} (h:i < l.length):l[i]? = some (l.getD i d):=by
 rw[qo h,FP,qo h];rfl
end
section
variable {X:Cx} {pins:List (Addr × Obj)} {σ : St} {H:Hp} {s:Shared} {A:Around} {E:Value->Shared->Prop} {a:Addr} {vs:List Value} {f:Value}
theorem Inv.gP {h':Heap} {t':Nat} {b:Addr} (I:Inv X pins σ H s) (fb:bq X pins H b) (k:∀ c o,c≠b->s.heap.get? c=some o->h'.get? c=some o):Inv X pins σ H { s with heap:=h',toks:=t' } :=
 I.turned k fb.1 fb.2.1 fb.2.2.2.1 fb.2.2.2.2.1 fb.2.2.2.2.2
theorem Inv.jX {b:Addr} {o:Obj} (I:Inv X pins σ H s) (fb:bq X pins H b) (e:s.heap.get? b=some o) (hc:∀ v,o.data ≠ .cell v):Inv X ((b,o) :: pins) σ H s :=
 I.fH fun p hp=>by
  rcases Nh.mp hp with rfl | hp
  ·exact⟨e,fb.1,fb.2.1,fb.2.2.1,hc⟩
  ·exact I.pin p (Yq _ hp)
theorem Inv.e7 {p:Addr × Obj} (I:Inv X (p :: pins) σ H s):Inv X pins σ H s:=I.fH fun q hq=>I.pin q (Yq _ (My _ hq))
theorem bq.cons {b:Addr} {p:Addr × Obj} (f:bq X pins H b) (n:p.1≠b):bq X (p :: pins) H b :=
 ⟨f.1,f.2.1,f.2.2.1,f.2.2.2.1,f.2.2.2.2.1,fun q hq=>by
  rcases YL.mp hq with z | z
  ·exact f.2.2.2.2.2 q (ZC _ z)
  ·rcases Nh.mp z with rfl | z
   ·exact n
   ·exact f.2.2.2.2.2 q (Yq _ z)⟩
theorem CB {c:String} {xs:Array Value} {n:Nat}:∀ v,(seqObj c xs n).data ≠ .cell v:=fun v z=>by cases z
end
section
variable {prog:Program} {w:World} {A:Around} {E:Value->Shared->Prop} {s:Shared}
end
section
variable {X:Cx} {pins:List (Addr × Obj)} {σ : St} {H:Hp} {s:Shared} {E:Value->Shared->Prop}
theorem Inv.vV {a:Addr} {o:HO} (I:Inv X pins σ H s) (fa:bq X pins H a) (ha:X.s₀.heap.objs.size <= a) (new:aF X.prog X.w (upd H a o) s.heap a o):Inv X pins σ (upd H a o) s:=by
 obtain⟨f0,f1,f2,_,f4,f5⟩:=fa
 have ne:∀ {b u},H b=some u->b≠a:=fun e z=>by rw[z,f0] at e;cases e
 refine⟨I.ok,I.os,I.bare,⟨I.base.keep,I.base.slot,fun b u e n hx => ?_,I.base.there,fun b xs e => ?_,fun b u v e => ?_,fun b ps e => ?_⟩,I.loc,I.cell,?_,fun x c e => ?_,fun p hp => ?_,fun b u e => ?_,I.len⟩
 ·rw[aH (XN (Yn (Ng e) ha))];exact I.base.free b u e n hx
 ·have:=I.base.fQ b xs e
  rw[aH (ne this)];exact this
 ·have:=I.base.gs b u v e
  rw[aH (ne this)];exact this
 ·obtain⟨more,this⟩:=I.base.gu b ps e
  exact⟨more,by rw[aH (ne this)];exact this⟩
 ·rw[aH (ZV f1)];exact I.free
 ·rw[aH (f4 x c e)];exact I.cR x c e
 ·obtain⟨e1,e2,e3⟩:=I.pin p hp
  exact⟨e1,by rw[aH (f5 p hp)];exact e2,e3⟩
 ·by_cases z:b=a
  ·subst z;rw[bz] at e;cases e;exact new
  ·rw[aH z] at e
   refine (I.aK b u e).gX (fun c v _ q=>q) (fun c q => ?_) fun c xs q => ?_
   ·rw[aH (ne q)];exact q
   ·rw[aH (ne q)];exact q
theorem RG {xs:List V} {vs:List Value} (r:Vals xs vs) {p:List Nat} (hp:∀ i∈p,i < vs.length):Vals (p.map fun i=>xs.getD i .non) (p.map fun i=>vs.getD i Value.none):=by
 induction p with
 | nil=>exact .nil
 | cons i q ih =>
  refine .cons ?_ (ih fun j hj=>hp j (My _ hj))
  have hi:=hp i FN
  obtain⟨u,e1,e2⟩:=r.get (getD_some (l:=xs) (d:=V.non) (by rw[r.length];exact hi))
  have:=getD_some (l:=vs) (d:=Value.none) hi
  rw[this] at e1;cases e1
  exact e2
theorem dB.mem {n:Nat} {p:Array Nat} (h:dB n p) {i:Nat} (hi:i∈p.toList):i < n:=by
 have:=(q1t.mp h.perm).mem_iff.mp hi
 simpa using this
end
theorem af.at {H:Hp} {ds:List D} {vs:List V} {i:Nat} {d:D} {v:V} (h:af H ds vs) (e1:ds[i]? = some d) (e2:vs[i]? = some v):Is H d v:=by
 obtain⟨d',e3,h'⟩:=h.get e2
 rw[e1] at e3;cases e3
 exact h'
theorem af.vW {H:Hp}:∀ {ds:List D} {vs:List V},vs.length=ds.length->(∀ (i:Nat) (d:D),ds[i]? = some d->∃ v,vs[i]? = some v/\Is H d v)->af H ds vs
 | [],[],_,_ => .nil
 | [],_ :: _,h,_=>by simp at h
 | _ :: _,[],h,_=>by simp at h
 | d :: ds,v :: vs,h,g=>by
  obtain⟨v',e,h1⟩:=g 0 d rfl
  cases (show some v=some v' from e)
  exact .cons h1 (af.vW (by simpa using h) fun i d e=>by simpa using g (i + 1) d (by simpa using e))
structure pA where
 T:Addr
 pos:Pos
 qual:Str
theorem d6.same {H H':Hp} {T:Addr} {pos:Pos} {q:Str} (h:d6 H T pos q) (s:ax H H'):d6 H' T pos q:=by
 obtain⟨ps,e,t,c⟩:=h
 exact⟨ps,s _ _ e,t,c.imp id fun ⟨c,e1,e2⟩=>⟨c,e1,s _ _ e2⟩⟩
theorem d6.keep {H H':Hp} {T T':Addr} {pos:Pos} {q:Str} (h:d6 H T pos q) (ne:T≠T') (hT:∃ ps,H T'=some (.tbl ps)) (s:∀ b o,H b=some o->b≠T'->H' b=some o):d6 H' T pos q:=by
 obtain⟨ps,e,t,c⟩:=h
 refine⟨ps,s _ _ e ne,t,c.imp id fun ⟨c,e1,e2⟩=>⟨c,e1,s _ _ e2 fun z => ?_⟩⟩
 obtain⟨qs,hT⟩:=hT
 rw[z,hT] at e2;cases e2
theorem d6.put {H:Hp} {T a:Addr} {pos:Pos} {q:Str} {o o':HO} (h:d6 H T pos q) (ha:H a=some o) (hk:(∃ vs,o = .lst vs)\/∃ ws,o = .dK ws):d6 (upd H a o') T pos q:=by
 obtain⟨ps,e,t,c⟩:=h
 have ne:∀ {b u},H b=some u->(∀ vs,u ≠ .lst vs)->(∀ ws,u ≠ .dK ws)->b≠a:=fun {b u} e n1 n2 z=>by
  subst z
  rw[ha] at e;cases e
  rcases hk with⟨_,z⟩ | ⟨_,z⟩
  ·exact n1 _ z
  ·exact n2 _ z
 refine⟨ps,by rw[aH (ne e (fun _ z=>by cases z) fun _ z=>by cases z)];exact e,t,c.imp id fun ⟨c,e1,e2⟩=>⟨c,e1,?_⟩⟩
 rw[aH (ne e2 (fun _ z=>by cases z) fun _ z=>by cases z)];exact e2
@[reducible] noncomputable def rG (ls:List pA):aD where
 ad:=ls.map (·.T)
 ok:=fun H=>∀ l∈ls,d6 H l.T l.pos l.qual
 same:=fun h s l hl=>(h l hl).same s
 put:=fun h ha hk l hl=>(h l hl).put ha hk
 tb:=fun h ha=>by
  obtain⟨l,hl,rfl⟩:=Nk.mp ha
  obtain⟨ps,e,_⟩:=h l hl
  exact⟨ps,e⟩
variable [aD]
structure CC (T:Addr) (pos:Pos) (q:Str):Prop where
 mem:T∈aD.ad
 get:∀ H:Hp,aD.ok H->d6 H T pos q
 put:∀ H H':Hp,aD.ok H->d6 H' T pos q->(∀ b o,H b=some o->b≠T->H' b=some o)->aD.ok H'
omit [aD] in
theorem RH {ls:List pA} {l:pA} (hl:l∈ls) (nd:∀ a∈ls,∀ b∈ls,a.T=b.T->a=b):@CC (rG ls) l.T l.pos l.qual:=by
 letI:aD:=rG ls
 refine⟨q1i hl,fun H h=>h l hl,fun H H' h t k l' ic => ?_⟩
 by_cases z:l'.T=l.T
 ·rw[nd _ ic _ hl z];exact t
 ·obtain⟨ps,e,_⟩:=h l hl
  exact (h l' ic).keep z ⟨ps,e⟩ k
structure RI (X:Cx) (T:Addr):Prop where
 code:∃ cc,X.env.code = .ref cc/\CodeHd X.base cc T
 ng:mainGlobals≠T
 blt:X.base.BuiltinsAt X.mg T
section
variable {F H H':Hp} {ad:List Addr} {δ : aw} {σ : St}
theorem SR.vX (S:SR F ad δ σ H) (k:∀ b o,H b=some o->b∉aD.ad->H' b=some o) (tk:aD.ok H'):SR (Nw F H H') ad δ σ H':=by
 have sm:=Nw.same (H':=H') S.sub
 have nF:∀ {a o},F a=some o->a∉aD.ad:=fun {a o} e t=>by rw[S.nt a t] at e;cases e
 have nO:∀ {i a ov},ad[i]? = some a -> δ.mu[i]? = some (some ov)->a∉aD.ad:=fun {i a ov} e1 e2 t=>by
  obtain⟨a',o,e3,e4,h⟩:=S.mu i ov e2
  rw[e1] at e3;cases e3
  obtain⟨ps,q⟩:=aD.tb S.tab t
  rw[e4] at q;cases q
  rcases h.kind with⟨_,z⟩ | ⟨_,z⟩<;>cases z
 refine⟨fun a o e => ?_,fun a l => ?_,S.cj,S.inj,fun i ov e => ?_,fun i x e => ?_,S.len,tk,fun a ha => ?_⟩
 ·unfold Nw at e
  cases q:H a with
  | none=>rw[q] at e;exact e
  | some u=>rw[q] at e;exact k a o (S.sub a o e) (nF e)
 ·obtain⟨i,ov,e1,e2⟩:=l
  obtain⟨a',o,e3,e4,_⟩:=S.mu i ov e2
  rw[e1] at e3;cases e3
  unfold Nw;rw[e4];exact S.off a ⟨i,ov,e1,e2⟩
 ·obtain⟨a,o,e1,e2,h⟩:=S.mu i ov e
  exact⟨a,o,e1,k a o e2 (nO e1 e),h.same sm⟩
 ·obtain⟨v,e1,h⟩:=S.sl i x e
  refine⟨v,e1,?_⟩
  cases x with
  | p d=>exact Is.same sm h
  | o k=>exact h
 ·obtain⟨ps,q⟩:=aD.tb S.tab ha
  unfold Nw;rw[q];exact S.nt a ha
theorem Ext.vX (S:SR F ad δ σ H) (k:∀ b o,H b=some o->b∉aD.ad->H' b=some o) (tk:aD.ok H'):Ext F ad δ.mu H (Nw F H H') ad δ.mu H' where
 same:=Nw.same S.sub
 new:=fun a o e=>by
  unfold Nw at e
  cases q:H a with
  | none=>exact .inr (.inl rfl)
  | some u=>rw[q] at e;exact .inl e
 keep:=fun a o e _ t=>k a o e t
 pre:=fun _ _ e=>e
 cm:=fun _ l => .inl l
 g_:=fun a o e=>by
  by_cases t:a∈aD.ad
  ·obtain⟨ps,q⟩:=aD.tb tk t
   exact⟨_,q⟩
  ·exact⟨o,k a o e t⟩
theorem SR.vY {sl:List (Option DV)} {mu:List (Option OV)} {τ : St} {d:D} {v:V} (S:SR F ad ⟨sl,mu⟩ τ H) (h:Is F d v):SR F ad ⟨some (.p d) :: sl,mu⟩ (some v :: τ) H:=by
 refine⟨S.sub,S.off,S.cj,S.inj,S.mu,fun i x e => ?_,by have:=S.len;simp only[FL];exact congrArg (· + 1) this,S.tab,S.nt⟩
 cases i with
 | zero=>cases (show some (some (DV.p d))=some (some x) from e);exact⟨v,rfl,h⟩
 | succ i=>exact S.sl i x e
theorem Ext.pB {F' H':Hp} {aA:List Addr} {dE:List (Option OV)} {a:Addr} {o:HO} (S:SR F ad δ σ H) (e:Ext F ad δ.mu H F' aA dE H') (h:H a=some o) (n1:∀ vs,o ≠ .lst vs) (n2:∀ ws,o ≠ .dK ws) (n3:∀ ps,o ≠ .tbl ps):H' a=some o:=by
 refine e.keep a o h (fun ⟨i,ov,e1,e2⟩ => ?_) fun t => ?_
 ·obtain⟨a',u,e3,e4,q⟩:=S.mu i ov e2
  rw[e1] at e3;cases e3
  rw[h] at e4;cases e4
  rcases q.kind with⟨_,z⟩ | ⟨_,z⟩
  ·exact n1 _ z
  ·exact n2 _ z
 ·obtain⟨ps,q⟩:=aD.tb S.tab t
  rw[h] at q;exact n3 _ (YA q)
end
noncomputable def RJ (cp:List (Option Nat)) (fb:WE) (δ : aw) (ds:List D) (key:D->LK):Prop :=
 ∀ d∈ds,key d≠[]/\fb ⟨some (.p d) :: c8 cp δ.sl,δ.mu⟩ fun y δ'=>y = .p (.tup ((key d).map D.int)) /\ δ'.mu = δ.mu
section
variable {X:Cx} {params:Arguments} {body:Expr} {scope:Scope} {gF:Pos} {x:Str} {Nb:List Str} {cp:List (Option Nat)} {fb:WE} {T:Addr}
structure lJ (X:Cx) (params:Arguments) (body:Expr) (scope:Scope) (gF:Pos) (T:Addr) (x:Str) (Nb:List Str) (cp:List (Option Nat)) (fb:WE):Prop where
 env:RI X T
 tbl:CC T gF (X.env.qual ++ "<lambda>")
 RK:defaultsOf params X.env=([],[])
 kind:scope.kind = .function
 names:yB X.N X.env.scope scope x Nb cp=true
 co:scope.isCoroutine=false
 gen:scope.isGenerator=false
 bind:∀ (cl:List (Str × Addr)) (pm cd ct u:Value),bindArgs (kla_fn "<lambda>" (X.env.qual ++ "<lambda>") params body scope cl pm cd ct) ⟨[u],[]⟩=pure [(x,u)]
 room:∃ k,bf (k + 3) X.A/\∀ d:LD,bf k (d.A.deeper (envX (X.env.qual ++ "<lambda>") scope d.s.heap.objs.size d.f d.cd d.cl))->JE (n6 X (X.env.qual ++ "<lambda>") scope (x :: Nb) d) body (tD fb)
end
structure RL (mg:Str->Option Value) (base:Heap) (fd:FuncData) (T:Addr) (pos:Pos) (q:Str):Prop where
 code:∃ cc,fd.code = .ref cc/\CodeHd base cc T
 ng:mainGlobals≠T
 blt:base.BuiltinsAt mg T
 tbl:CC T pos q
theorem bQ.CD {P:Program} {w:World} {K:PySem.W.Frag} {mg:Str->Option Value} {base:Heap} {x qual:Str} {st:Stmt} {f:Addr} {fd:FuncData} {N ps:List Str} {k:Nat} {G:GD} (F:bQ K x qual st f fd) (S:cA N ps (bA st))
  (dS:∀ (a0:Value) (A:Around) (outer:List Env) (s:Shared) (H:Hp) (E:XK),fd.code=a0->bf k (A.deeper (envOfC qual (bA st) s.heap.objs.size f a0)) →
   ∃ B:WS,fK (gy bJ P w K mg base N qual (bA st) f a0 A outer s H E).mT (jI st) (dX B)/\∀ ys aj K',ys.length=ps.length->G ys aj K'->B (bS aj.length K') ⟨ys.map some ++ List.replicate (N.length - ps.length) none,aj.map some⟩) :
  aM P w K mg base bJ (k + 1) f fd ps (aI G ps.length):=by
 obtain⟨oc,od,kV,doc,pm,an,a0,ct,m9,rfl,lk,fR⟩:=F.ex
 refine Fp lk fR S (fun vs H Q E h=>h.1) fun A outer s H vs Q E hr h => ?_
 obtain⟨hl,Fz,ad,ys,aj,K',S0,g,kk⟩:=h
 obtain⟨B,jb,hb⟩:=dS a0 A outer s H E rfl hr
 have hy:ys.length=ps.length:=by
  have:=S0.len
  rw[qp] at this
  rw[<-hl,this];show _=(ys.map some).length;rw[qp]
 refine⟨_,jb.out.mT,Fz,ad,⟨ys.map some ++ List.replicate (N.length - ps.length) none,aj.map some⟩,bS aj.length K',by rw[<-hl];exact S0.start,hb ys aj K' hy g,⟨fun δ' h F' aA σ' H' E' S' => ?_,fun δ' h=>h.elim,fun δ' h=>h.elim,fun y δ' h v F' aA σ' H' E' S' V => ?_⟩⟩
 ·exact xH (σ' := σ') S0 E' S' (x := .p .non) (v := .non) rfl h kk
 ·exact xH (σ' := σ') S0 E' S' V h kk
section
variable {X:Cx} {params:Arguments} {body a e:Expr} {scope:Scope} {gF p1 p2 q1 q2 jF:Pos} {x:Str} {Nb:List Str} {cp:List (Option Nat)} {fb f:WE} {fa:WA} {T:Addr}
end
end L2
namespace L2
open PySem PySem.Spec PyProof.Rows PySem.W
theorem CF:∀ {k l:LK} (n m:Int),k.length=l.length->HT.lexLt (k ++ [n]) (l ++ [m])=if k=l then decide (n < m) else HT.lexLt k l
 | [],[],n,m,_=>by
  show (if n=m then HT.lexLt [] [] else decide (n < m))=_
  rw[XI rfl]
  by_cases h:n=m
  ·rw[XI h];subst h;simp[HT.lexLt]
  ·rw[Nj h]
 | [],_ :: _,_,_,h=>by simp at h
 | _ :: _,[],_,_,h=>by simp at h
 | a :: k,b :: l,n,m,h=>by
  rw[q1L,q1L,HT.m_,HT.m_,CF n m (by simpa using h)]
  by_cases e:a=b
  ·subst e
   rw[XI rfl,XI rfl]
   by_cases e2:k=l
   ·subst e2;rw[XI rfl,XI rfl]
   ·rw[Nj e2,Nj fun z=>e2 (q09 z).2]
  ·rw[Nj e,Nj e,Nj fun z=>e (q09 z).1]
noncomputable def lK (h:Heap) (L:Nat) (k:LK) (v:Value):Prop:=∃ a o xs n b kb m t,v = .ref a/\h.get? a=some o/\o.cls = .type "tuple" /\ o.data = .seq xs n/\xs.toList=[.ref b,.int m t]/\jW h kb (.ref b)/\kb.length=L/\k=kb ++ [m]
section
variable {prog:Program} {w:World} {A:Around} {E:Value->Shared->Prop} {s:Shared} {Q:Bool->Shared->Prop}
theorem CG:∀ {us:List Value} {ns:List Int},IntsAre us ns->ItemsAre (intKind prog w) ns us
 | _,_,.nil => .nil
 | _,_,.cons n t r => .cons (q05 ..) (CG r)
theorem RM {L:Nat} {k l:LK} {x y:Value} (hu:A.units < cLine) (hx:lK s.heap L k x) (hy:lK s.heap L l y) (h:Q (HT.lexLt k l) s):wpAny (model prog w) A (keyLt' (tuples' false) x y) Q E s:=by
 obtain⟨a,o,xs,n,b,kb,m,t,rfl,h1,_,h2,h3,⟨b',ob,bs,nb,eb,g1,gc,g2,g3⟩,hL,rfl⟩:=hx
 obtain⟨a',o',RN,n',c,kc,m',t',rfl,nr,_,fP,zI,⟨c',oc,cs,nc,ec,f1,fc,f2,f3⟩,RO,rfl⟩:=hy
 cases eb
 cases ec
 have hz:xs.size=2:=by rw[<-FO,h3];rfl
 have BN:RN.size=2:=by rw[<-FO,zI];rfl
 rw[CF m m' (by rw[hL,RO])] at h
 have k1:IsTupleKey (intKind prog w) s.heap kb b:=⟨ob,bs,nb,g1,gc,g2,CG g3⟩
 have k2:IsTupleKey (intKind prog w) s.heap kc c:=⟨oc,cs,nc,f1,fc,f2,CG f3⟩
 refine kat_lt h1 h2 nr fP ?_
 rw[h3,zI,hz,BN,q0k,q0k,q0X]
 refine kat_cons (wpAny_eqBool_tuple hu k1 k2 (kat_go (fun e => ?_) fun e => ?_))
 ·have e:kb=kc:=by simpa using e
  rw[XI e] at h
  refine kat_yes (kat_cons (wpAny_eqBool_int (kat_go (fun e2 => ?_) fun e2 => ?_)))
  ·have e2:m=m':=Zd e2
   subst e2
   refine kat_yes (kat_nil ?_)
   simpa using h
  ·exact kat_no (kat_one _ _ (q1h h))
 ·have e:¬ kb=kc:=by simpa using e
  rw[Nj e] at h
  exact kat_no (kat_one _ _ (HT.Ae ⟨ob,g1,gc,nb,g2⟩ ⟨oc,f1,fc,nc,f2⟩ g3 f3 hu h))
theorem RP {M:Model} {L:Nat} {vs:List Value} {ks:List LK} {Q:SortKind->Shared->Prop} (h0:0 < vs.length) (hl:vs.length=ks.length) (ht:∀ (i:Nat) (k:LK) (v:Value),ks[i]? = some k->vs[i]? = some v->lK s.heap L k v) (h:Q (tuples' false) s) :
  wpAny M A (keyKind' vs.toArray) Q E s:=by
 have key:∀ (vs:List Value) (ks:List LK),vs.length=ks.length->(∀ (i:Nat) (k:LK) (v:Value),ks[i]? = some k->vs[i]? = some v->lK s.heap L k v)->∃ fs,KatTups s.heap vs fs/\fs.length=vs.length/\∀ v∈fs,Looks M s.heap (typeOf v) (.type "tuple"):=by
  intro vs
  induction vs with
  | nil=>exact fun ks _ _=>⟨[],.nil,rfl,fun v hv=>nomatch hv⟩
  | cons v vs ih =>
   intro ks hl ht
   match ks,hl,ht with
   | k :: ks,hl,ht =>
    obtain⟨fs,t,hf,hi⟩:=ih ks (by simpa using hl) fun i k v e1 e2=>ht (i + 1) k v (by simpa using e1) (by simpa using e2)
    obtain⟨a,o,xs,n,b,kb,m,t',rfl,h1,hc,h2,h3,⟨b',ob,bs,nb,eb,g1,gc,g2,g3⟩,_⟩:=ht 0 k v rfl rfl
    cases eb
    have h0:xs[0]? = some (.ref b):=by rw[<-Yp,h3];rfl
    refine⟨.ref b :: fs,.cons h1 hc h2 h0 t,by rw[FL,FL,hf],fun v hv => ?_⟩
    rcases Nh.mp hv with rfl | hv
    ·rw[<-gc];exact (Looks.ld g1).andThen .now
    ·exact hi v hv
 obtain⟨fs,t,hf,hi⟩:=key vs ks hl ht
 exact kat_kind (T := .type "tuple") t (by omega) hi (by decide) h
end
section
variable {X:Cx} {pins:List (Addr × Obj)} {σ : St} {H:Hp} {s:Shared} {A:Around} {E:Value->Shared->Prop} {a:Addr} {vs:List Value} {ks:List LK} {κ : SortKind}
theorem RQ {n0:Nat} {R:PySem.Fin->Shared->Prop} (I:Inv X pins σ H s) (fa:bq X pins H a) (ha:s.heap.get? a=some (seqObj "list" vs.toArray n0)) (oJ:vs.length < 64)
  (kind:∀ s':Shared,Inv X pins σ H s'->2 <= vs.length->∀ Q:SortKind->Shared->Prop,Q κ s'->wpAny (model X.prog X.w) A (keyKind' vs.toArray) Q E s')
  (ask:∀ s':Shared,Inv X pins σ H s'->∀ (i j:Nat) (C:Bool->Shared->Prop),i < vs.length->j < vs.length->C (HT.lexLt (ks.getD i []) (ks.getD j [])) s'->wpAny (model X.prog X.w) A (keyLt' κ (vs.getD i Value.none) (vs.getD j Value.none)) C (fun _ _=>False) s')
  (fin:∀ (p:Array Nat) (s':Shared) (c:Nat),dB vs.length p->Up (fun i=>ks.getD i []) p vs.length->Inv X pins σ H s'->s'.heap.get? a=some (seqObj "list" (List.toArray (p.toList.map fun i=>vs.getD i Value.none)) c)->R (.done (.ret .none)) s') :
  wpAny (model X.prog X.w) A (Builtin.«list.sort» ⟨[.ref a],[]⟩) R E s:=by
 have sb:=YM s.heap a (Obj.mapSeq fun _=>(#[]:Array Value))
 obtain⟨e1,gW⟩:∃ e1,(s.heap.update a (Obj.mapSeq fun _=>(#[]:Array Value))).get? a=some (seqObj "list" #[] e1):=⟨_,get?_update_seq ha fun _ => #[]⟩
 have I1:Inv X pins σ H { s with heap:=s.heap.update a (Obj.mapSeq fun _=>(#[]:Array Value)) }:=I.gP (t':=s.toks) fa fun c o n e=>(sb.2 c n).trans e
 rw[list_sort_plain]
 refine nq (listItems_at ha rfl ?_)
 refine nq (listUpdate_at ha rfl ?_ (by rw[xb,ZW];omega) (YK _))
 refine nq (seqEpoch_at gW rfl ?_)
 refine nq (wpAny_newTuple ?_ (by show vs.length <= _;rw[ZW];omega))
 refine nq (q1G ?_ (YK _))
 refine YE ?_
 generalize Ye:s.heap.update a (Obj.mapSeq fun _=>(#[]:Array Value))=g0 at gW I1 sb
 show wpAny (model X.prog X.w) A _ R E { s with heap:=(g0.push (seqObj "tuple" vs.toArray 0)).push (seqObj "list" #[] 0) }
 have I2:Inv X pins σ H { s with heap:=(g0.push (seqObj "tuple" vs.toArray 0)).push (seqObj "list" #[] 0) }:=I1.kept (h':=(g0.push (seqObj "tuple" vs.toArray 0)).push (seqObj "list" #[] 0)) (t':=s.toks) fun b u e=>ue _ (ue _ e)
 have gq:((g0.push (seqObj "tuple" vs.toArray 0)).push (seqObj "list" #[] 0)).get? a=some (seqObj "list" #[] e1):=ue _ (ue _ gW)
 have kp:∀ b o,b≠a->s.heap.get? b=some o->((g0.push (seqObj "tuple" vs.toArray 0)).push (seqObj "list" #[] 0)).get? b=some o:=fun b o n e=>ue _ (ue _ ((sb.2 b n).trans e))
 generalize (g0.push (seqObj "tuple" vs.toArray 0)).push (seqObj "list" #[] 0)=g1 at I2 gq kp
 dsimp only
 have tail:∀ (st:SortSt) (p:Array Nat),(arrOf st).map (·.2)=List.toArray (p.toList.map fun i=>vs.getD i Value.none)->failedOf st=none->dB vs.length p->Up (fun i=>ks.getD i []) p vs.length->wpAny (model X.prog X.w) A (do
   let touched:=(<- seqEpoch a) != e1
   Builtin.List.listUpdate (.ref a) fun _=>(arrOf st).map (·.2)
   if let some e:=failedOf st then rule "list.sort.comparison-raised";throw e
   if touched then rule "list.sort.modified";raiseError "ValueError" "list modified during sort"
   ret .none) R E { s with heap:=g1 }:=by
  intro st p CH hf hp up
  have hz:(p.toList.map fun i=>vs.getD i Value.none).length=vs.length:=by rw[qp,FO,hp.size]
  rw[CH]
  have s2:=YM g1 a (Obj.mapSeq fun _=>List.toArray (p.toList.map fun i=>vs.getD i Value.none))
  obtain⟨c2,j9⟩:∃ c2,(g1.update a (Obj.mapSeq fun _=>List.toArray (p.toList.map fun i=>vs.getD i Value.none))).get? a=some (seqObj "list" (List.toArray (p.toList.map fun i=>vs.getD i Value.none)) c2):=⟨_,get?_update_seq gq fun _=>List.toArray (p.toList.map fun i=>vs.getD i Value.none)⟩
  have J:Inv X pins σ H { s with heap:=g1.update a (Obj.mapSeq fun _=>List.toArray (p.toList.map fun i=>vs.getD i Value.none)) }:=I2.gP (h':=g1.update a (Obj.mapSeq fun _=>List.toArray (p.toList.map fun i=>vs.getD i Value.none))) (t':=s.toks) fa fun c o n e=>(s2.2 c n).trans e
  refine nq (seqEpoch_at gq rfl ?_)
  refine nq (listUpdate_at gq rfl ?_ (YK _) (Zb (Nat.le_of_eq (by rw[xb,hz])) (by rw[ZW];omega)))
  rw[hf]
  simp only[bne_self_eq_false,Ym,Y1]
  exact xa (fin p _ c2 hp up J j9)
 by_cases h2:vs.toArray.size < 2
 ·rw[XI h2,XI h2]
  refine nq (xa ?_)
  rw[StateT.run_pure]
  refine nq (xa ?_)
  rw[xb] at h2
  refine tail (SortSt.mk' general' (vs.toArray.zip vs.toArray) #[] 7 none) (List.range vs.length).toArray ?_ rfl ⟨Array.Perm.refl _⟩ fun i j jU hj => ?_
  ·have RR:arrOf (SortSt.mk' general' (vs.toArray.zip vs.toArray) #[] 7 none)=(List.toArray (List.range vs.length)).map (kas_item (vs.toArray.zip vs.toArray)):=by
    have e:=kas_range (vs.toArray.zip vs.toArray)
    rw[show (vs.toArray.zip vs.toArray).size=vs.length by simp] at e
    rw[e]
   exact kat_snds rfl RR
  ·have:i=j:=by omega
   subst this
   exact kle_refl _
 ·rw[Nj h2,Nj h2]
  rw[xb] at h2
  refine nq (kind _ I2 (by omega) _ ?_)
  refine nq (Z3 (kat_run (κ := κ) (E:=E) (Q:=fun ji s'=>s'={ s with heap:=g1 }/\∃ p:Array Nat,arrOf ji=p.map (kas_item (vs.toArray.zip vs.toArray))/\failedOf ji=none/\dB vs.length p/\Up (fun i=>ks.getD i []) p vs.length)
   (G:=fun p s'=>s'={ s with heap:=g1 }/\dB vs.length p/\Up (fun i=>ks.getD i []) p vs.length) rfl (by omega) oJ (fun p ji s' a1 a2 a3 a4=>⟨a4.1,p,a2,a3,a4.2.1,a4.2.2⟩) ?_) ?_ fun _ _ x=>x)
  ·refine P0 (k:=fun i=>ks.getD i []) (I:=fun s'=>s'={ s with heap:=g1 }) (fun i j C s' hi hj e hC => ?_) (by omega) rfl fun p s' a1 a2 a3=>⟨a3,a1,a2⟩
   subst e
   exact ask _ I2 i j C hi hj (hC _ rfl)
  ·rintro ⟨⟨⟩,ji⟩ s' ⟨rfl,p,a1,a2,a3,a4⟩
   exact tail ji p (kat_snds rfl a1) a2 a3 a4
theorem Ir {l:Addr} {xs:List V} {Q:Value->Shared->Prop} (I:Inv X pins σ H s)
  (col:∀ Q':List Value->Shared->Prop,(∀ h' tk vs,(∀ b o,s.heap.get? b=some o->h'.get? b=some o)->Vals xs vs->Q' vs { s with heap:=h',toks:=tk })->wpAny (model X.prog X.w) X.A.in1 (collect (.ref l)) Q' E s) (oJ:xs.length < 64)
  (kind:∀ (s':Shared) (vs:List Value),Vals xs vs->Inv X pins σ H s'->2 <= vs.length->∀ Q:SortKind->Shared->Prop,Q κ s'->wpAny (model X.prog X.w) X.A.in1.in1 (keyKind' vs.toArray) Q E s')
  (ask:∀ (s':Shared) (vs:List Value),Vals xs vs->Inv X pins σ H s'->∀ (i j:Nat) (C:Bool->Shared->Prop),i < vs.length->j < vs.length->C (HT.lexLt (ks.getD i []) (ks.getD j [])) s'->wpAny (model X.prog X.w) X.A.in1.in1 (keyLt' κ (vs.getD i Value.none) (vs.getD j Value.none)) C (fun _ _=>False) s')
  (fin:∀ (p:Array Nat) (s':Shared) (a:Addr),dB xs.length p->Up (fun i=>ks.getD i []) p xs.length->H a=none->Inv X pins σ (upd H a (.lst (p.toList.map fun i=>xs.getD i .non))) s'->Q (.ref a) s') :
  wpAny (model X.prog X.w) X.A (call (.builtin "sorted") [.ref l]) Q E s:=by
 refine Calls.call_function_entry kind_sorted plain_sorted entry_sorted (args_sorted1 _) ?_
 unfold Builtin.«sorted»
 refine nq (m:=checkCount "sorted" 1 1 _) (xa ?_)
 refine nq (col _ fun h' tk ag kp rv => ?_)
 have lv:ag.length=xs.length:=rv.length.symm
 refine nq (q1G ?_ (by rw[ZW];omega))
 have I1:Inv X pins σ H { s with heap:=h',toks:=tk }:=I.kept kp
 have fa:bq X pins H h'.objs.size:=I1.gZ (qq _) (I1.aK.fresh (qq _))
 have RS:X.s₀.heap.objs.size <= h'.objs.size:=I1.sz
 have I2:Inv X pins σ H { s with heap:=h'.push (seqObj "list" ag.toArray 0),toks:=tk }:=I1.kept (h':=h'.push (seqObj "list" ag.toArray 0)) (t':=tk) fun b u e=>ue _ e
 have oy:(h'.push (seqObj "list" ag.toArray 0)).get? h'.objs.size=some (seqObj "list" ag.toArray 0):=XJ _ rfl
 refine nq (YE (Zr slot_list_sort ⟨_,oy,rfl⟩ entry_list_sort ?body (args_list_sort _)))
 case body =>
  refine RQ (κ := κ) (ks:=ks) I2 fa oy (by omega) (fun s' J h2 Q' hq=>kind s' ag rv J h2 Q' hq) (fun s' J i j C hi hj hC=>ask s' ag rv J i j C hi hj hC) fun p s' c hp up J e=>⟨_,rfl,?_⟩
  rw[lv] at hp up
  refine xa ⟨_,rfl,fin p s' h'.objs.size hp up fa.1 (J.vV fa RS ?_)⟩
  have hz:(p.toList.map fun i=>xs.getD i V.non).length=xs.length:=by rw[qp,FO,hp.size]
  exact⟨by rw[hz,ZW];omega,_,c,RG rv fun i hi=>by rw[lv];exact hp.mem hi,e⟩
end
noncomputable def CI (ds:List D) (key:D->LK):Prop :=
 (∀ d∈ds,key d≠[]/\d = .tup ((key d).map D.int))\/∃ L:Nat,∀ d∈ds,∃ (k:LK) (n:Int),k.length=L/\d = .tup [.tup (k.map D.int),.int n]/\key d=k ++ [n]
noncomputable def yD:List D->(D->Prop)->Prop
 | [.lst ds],K=>ds.length < 64/\∃ key:D->LK,CI ds key/\∀ out:List D,out.Perm ds->(out.map key).Pairwise kle->K (.lst out)
 | [.tup ds],K=>ds.length < 64/\∃ key:D->LK,CI ds key/\∀ out:List D,out.Perm ds->(out.map key).Pairwise kle->K (.lst out)
 | _,_=>False
theorem RT {ds:List D} {key:D->LK} {p:Array Nat} {n:Nat} (hn:ds.length=n) (hp:dB n p) (up:Up (fun i=>(ds.map key).getD i []) p n):(p.toList.map fun i=>ds.getD i .non).Perm ds/\((p.toList.map fun i=>ds.getD i .non).map key).Pairwise kle:=by
 subst hn
 constructor
 ·have h1:=(q1t.mp hp.perm).map fun i=>ds.getD i D.non
  have h2:(List.range ds.length).map (fun i=>ds.getD i D.non)=ds:=by
   refine q0t fun i => ?_
   rw[Ni]
   by_cases hi:i < ds.length
   ·rw[Ze hi,q11,qo hi,FP,qo hi];rfl
   ·rw[ZO (by rw[Zh];omega),ZO (by omega)];rfl
  rw[show (List.range ds.length).toArray.toList=List.range ds.length from rfl,h2] at h1
  exact h1
 ·rw[Ys,q0y]
  intro i j hi hj jU
  rw[qp,FO,hp.size] at hi hj
  have:=up i j (Zp jU) hj
  unfold KA at this
  rw[ZD,ZD]
  have gp:∀ {i:Nat} (h:i < p.toList.length),p.getD i 0=p.toList[i]:=fun {i} h=>by
   have h':i < p.size:=by rw[<-FO];exact h
   simp[Array.getD,h']
  have gk:∀ {i:Nat},i < ds.length->(ds.map key).getD i []=key (ds.getD i .non):=fun {i} h=>by
   rw[FP,Ni,qo h,FP,qo h];rfl
  have pi:=hp.lt hi
  have pj:=hp.lt hj
  dsimp only at this
  rw[gk pi,gk pj,gp (by rw[FO,hp.size];exact hi),gp (by rw[FO,hp.size];exact hj)] at this
  exact this
theorem RU {F:Hp} {ds:List D} {xs:List V} {p:List Nat} (h:af F ds xs) (hp:∀ i∈p,i < ds.length):af F (p.map fun i=>ds.getD i .non) (p.map fun i=>xs.getD i .non):=by
 refine af.vW (by rw[qp,qp]) fun i d e => ?_
 rw[Ni] at e ⊢
 obtain⟨z,e1,rfl⟩:=XM.mp e
 rw[e1]
 have hz:=hp z (YO e1)
 exact⟨_,rfl,af.at h (getD_some hz) (getD_some (by rw[h.length];exact hz))⟩
section
variable [aD] {X:Cx}
theorem yE {pins:List (Addr × Obj)} {σ : St} {H F:Hp} {s:Shared} {k:LK} {v:V} {u:Value} (I:Inv X pins σ H s) (sub:ax F H) (h:Is F (.tup (k.map D.int)) v) (r:RelV v u):jW s.heap k u:=by
 simp only[Is] at h
 obtain⟨a,us,rfl,e,i⟩:=h
 cases r
 rw[oV i] at e
 obtain⟨ag,rv,⟨o,o1,o2,n,o3⟩,_⟩:=I.tuple (bC.of (sub _ _ e))
 exact⟨a,o,_,n,rfl,o1,o2,o3,by simpa using intsAre_of rv⟩
theorem CJ {pins:List (Addr × Obj)} {σ : St} {H F:Hp} {s:Shared} {k:LK} {m:Int} {v:V} {u:Value} (I:Inv X pins σ H s) (sub:ax F H) (h:Is F (.tup [.tup (k.map D.int),.int m]) v) (r:RelV v u):lK s.heap k.length (k ++ [m]) u:=by
 simp only[Is,af] at h
 obtain⟨a,us,rfl,e,v1,r1,rfl,h1,v2,r2,rfl,h2,rfl⟩:=h
 cases r
 obtain⟨ag,rv,⟨o,o1,o2,n,o3⟩,_⟩:=I.tuple (bC.of (sub _ _ e))
 have h2:v2 = .int m:=h2
 subst h2
 have nr:Is F (.tup (k.map D.int)) v1:=by simp only[Is];exact h1
 cases rv with
 | cons q1 rv =>
  cases rv with
  | cons q2 rv =>
   cases rv
   have t1:=yE I sub nr q1
   obtain⟨b,_,_,_,rfl,_⟩:=id t1
   obtain⟨t,rfl⟩:=q2
   exact⟨a,o,_,n,b,k,m,t,rfl,o1,o2,o3,rfl,t1,rfl,rfl⟩
theorem Iu {pins:List (Addr × Obj)} {σ : St} {H F:Hp} {s:Shared} {E:Value->Shared->Prop} {l:Addr} {ds:List D} {us:List V} {key:D->LK} {Q:Value->Shared->Prop} (hu:X.A.units + 64 < cLine) (I:Inv X pins σ H s) (sub:ax F H) (hl:H l=some (.lst us)\/H l=some (.tup us)) (hi:af F ds us) (oJ:ds.length < 64) (sh:CI ds key)
  (fin:∀ (out:List D) (ws:List V) (a:Addr) (s':Shared),out.Perm ds->(out.map key).Pairwise kle->af F out ws->H a=none->Inv X pins σ (upd H a (.lst ws)) s'->Q (.ref a) s'):wpAny (model X.prog X.w) X.A (call (.builtin "sorted") [.ref l]) Q E s:=by
 have col:∀ Q':List Value->Shared->Prop,(∀ h' tk vs,(∀ b o,s.heap.get? b=some o->h'.get? b=some o)->Vals us vs->Q' vs { s with heap:=h',toks:=tk })->wpAny (model X.prog X.w) X.A.in1 (collect (.ref l)) Q' E s:=fun Q' hQ=>by
  rcases hl with hl | hl
  ·obtain⟨ag,rv,pl,hz⟩:=I.list (aU.of hl)
   obtain⟨o,o1,o2,n,o3⟩:=pl.isList
   exact wpAny_collect_seq l (.inl rfl) o1 o2 o3 (fun h' kp=>hQ h' s.toks _ kp (by simpa using rv)) (by rw[xb,<-rv.length];exact hz)
  ·obtain⟨ag,rv,⟨o,o1,o2,n,o3⟩,hz⟩:=I.tuple (bC.of hl)
   exact wpAny_collect_seq l (.inr rfl) o1 o2 o3 (fun h' kp=>hQ h' s.toks _ kp (by simpa using rv)) (by rw[xb,<-rv.length];exact hz)
 have lu:=hi.length
 have RW:X.A.in1.in1.units < cLine:=by show X.A.units + 1 + 1 < cLine;omega
 have gk:∀ {i:Nat},i < ds.length->(ds.map key).getD i []=key (ds.getD i .non):=fun {i} h=>by
  rw[FP,Ni,qo h,FP,qo h];rfl
 have isAt:∀ {i:Nat},i < ds.length->∀ {vs:List Value},Vals us vs->∃ v,Is F (ds.getD i .non) v/\RelV v (vs.getD i Value.none):=fun {i} h {vs} rv=>by
  obtain⟨u,e1,e2⟩:=rv.get (getD_some (l:=us) (d:=V.non) (i:=i) (by omega))
  have:=getD_some (l:=vs) (d:=Value.none) (i:=i) (by rw[<-rv.length];omega)
  rw[this] at e1;cases e1
  exact⟨_,af.at hi (getD_some h) (getD_some (by omega)),e2⟩
 have mem:∀ {i:Nat},i < ds.length->ds.getD i .non∈ds:=fun {i} h=>YO (getD_some h)
 have ke:∀ {i:Nat} {k:LK},(ds.map key)[i]? = some k->i < ds.length/\k=key (ds.getD i .non):=fun {i k} e=>by
  have h:i < ds.length:=by have:=(su.mp e).1;rwa [qp] at this
  refine⟨h,?_⟩
  have:=getD_some (l:=ds.map key) (d:=[]) (i:=i) (by rw[qp];exact h)
  rw[e,gk h] at this
  exact YA this
 have ve:∀ {i:Nat} {v:Value} {vs:List Value},vs[i]? = some v->v=vs.getD i Value.none:=fun {i v vs} e=>by
  rw[FP,e];rfl
 have lz:∀ (p:Array Nat) (s':Shared) (a:Addr),dB us.length p->Up (fun i=>(ds.map key).getD i []) p us.length->H a=none->Inv X pins σ (upd H a (.lst (p.toList.map fun i=>us.getD i .non))) s'->Q (.ref a) s':=fun p s' a hp up ha J=>by
  obtain⟨o1,o2⟩:=RT lu.symm hp up
  exact fin _ _ a s' o1 o2 (RU hi fun i bN=>by rw[<-lu];exact hp.mem bN) ha J
 rcases sh with sh | ⟨L,sh⟩
 ·refine Ir (κ := tuples' true) (ks:=ds.map key) I col (by omega) (fun s' vs rv J h2 Q' hq => ?_) (fun s' vs rv J i j C bN vm hC => ?_) lz
  ·refine RF (ks:=ds.map key) (by omega) (fun k hk => ?_) (by rw[qp,<-rv.length];omega) (fun i k v e1 e2 => ?_) hq
   ·obtain⟨d,hd,rfl⟩:=Nk.mp hk
    exact (sh d hd).1
   ·obtain⟨h,rfl⟩:=ke e1
    obtain⟨w,i1,r1⟩:=isAt h rv
    rw[(sh _ (mem h)).2] at i1
    rw[<-ve e2] at r1
    exact yE J sub i1 r1
  ·rw[<-rv.length] at bN vm
   rw[gk (by omega),gk (by omega)] at hC
   obtain⟨w,i1,r1⟩:=isAt (i:=i) (by omega) rv
   obtain⟨w',i2,r2⟩:=isAt (i:=j) (by omega) rv
   rw[(sh _ (mem (by omega))).2] at i1 i2
   exact RE (yE J sub i1 r1) (yE J sub i2 r2) hC
 ·refine Ir (κ := tuples' false) (ks:=ds.map key) I col (by omega) (fun s' vs rv J h2 Q' hq => ?_) (fun s' vs rv J i j C bN vm hC => ?_) lz
  ·refine RP (L:=L) (ks:=ds.map key) (by omega) (by rw[qp,<-rv.length];omega) (fun i k v e1 e2 => ?_) hq
   obtain⟨h,rfl⟩:=ke e1
   obtain⟨w,i1,r1⟩:=isAt h rv
   obtain⟨k,n,hk,e3,e4⟩:=sh _ (mem h)
   rw[e3] at i1
   rw[<-ve e2] at r1
   rw[e4,<-hk]
   exact CJ J sub i1 r1
  ·rw[<-rv.length] at bN vm
   rw[gk (by omega),gk (by omega)] at hC
   obtain⟨w,i1,r1⟩:=isAt (i:=i) (by omega) rv
   obtain⟨w',i2,r2⟩:=isAt (i:=j) (by omega) rv
   obtain⟨k,n,hk,e3,e4⟩:=sh _ (mem (i:=i) (by omega))
   obtain⟨k',n',jS,RX,RY⟩:=sh _ (mem (i:=j) (by omega))
   rw[e3] at i1
   rw[RX] at i2
   rw[e4,RY] at hC
   have t1:=CJ J sub i1 r1
   have t2:=CJ J sub i2 r2
   rw[hk] at t1
   rw[jS] at t2
   exact RM RW t1 t2 hC
theorem RZ (hu:X.A.units + 64 < cLine):dW X (.builtin "sorted") yD:=by
 rintro pins s σ H xs us Q I r ⟨F,ds,K,sub,rd,q,md⟩
 unfold yD at q
 split at q
 ·rename_i es
  obtain⟨oJ,key,sh,hK⟩:=q
  obtain⟨v,rfl,a,vs,rfl,h1,h2⟩:=dA rd
  obtain⟨u,rfl,rx⟩:=vals1 r
  cases rx
  exact Iu hu I sub (.inl h1) h2 oJ sh fun out ws b s' o1 o2 o3 hb J=>⟨.ref b,_,J,rfl,md _ _ _ (hK out o1 o2) (cW hb) (oW sub hb o3)⟩
 ·rename_i es
  obtain⟨oJ,key,sh,hK⟩:=q
  obtain⟨v,rfl,h⟩:=dA rd
  have h:Is F (.tup es) v:=h
  simp only[Is] at h
  obtain⟨a,vs,rfl,h1,h2⟩:=h
  obtain⟨u,rfl,rx⟩:=vals1 r
  cases rx
  exact Iu hu I sub (.inr (sub _ _ h1)) h2 oJ sh fun out ws b s' o1 o2 o3 hb J=>⟨.ref b,_,J,rfl,md _ _ _ (hK out o1 o2) (cW hb) (oW sub hb o3)⟩
 ·exact q.elim
end
end L2
namespace LJ
open PySem L2 PySem.W
theorem R0 {ls:List pA} {b:Addr} {ps:Array Value}:(ls.map fun l=>(l.T,(#[]:Array Value))).lookup b=some ps->(∃ l∈ls,l.T=b)/\ps = #[]:=by
 induction ls with
 | nil=>intro h;cases h
 | cons l ls ih =>
  intro h
  rw[Yt,Yy] at h
  cases q:b == l.T with
  | true =>
   rw[q] at h
   exact⟨⟨l,FN,(Zd q).symm⟩,(YA h).symm⟩
  | false =>
   rw[q] at h
   obtain⟨⟨l',h1,h2⟩,h3⟩:=ih h
   exact⟨⟨l',My _ h1,h2⟩,h3⟩
theorem CK {ls:List pA} {l:pA} (h:l∈ls):(ls.map fun l=>(l.T,(#[]:Array Value))).lookup l.T=some #[]:=by
 induction ls with
 | nil=>cases h
 | cons l' ls ih =>
  rw[Yt,Yy]
  cases q:l.T == l'.T with
  | true=>rfl
  | false =>
   rcases Nh.mp h with rfl | h
   ·simp at q
   ·exact ih h
theorem R1 {l:OpenLaw} {q:Program} {loose:List Str} {XP:(Str->Option Value)->Heap->Prop} {d:DefRec} {K:Params->Frag} {as:List Addr} {e:∀ P,as=(K P).map (·.1)} {ts:List Addr} {kk:Nat} (ls:List pA) (R3:ls.map (·.T)=ts) (hn:l.most=some 63) (ug:d.params.defaults=[]) (hr:bf kk callerA)
  (fR:∀ (w:World) (h:Heap),(K w.params).In h->∀ t∈ls,∃ cc,CodeHd h cc t.T) (R4:∀ P,noTabs (K P)=true)
  (F:∀ (w:World) (mg:Str->Option Value) (fa:Addr) (h:Heap),(K w.params).In h->h.Ns mainGlobals mg->mg d.name=some (.ref fa) →
   ∃ fd:FuncData,(∀ (s:Shared) (u:Value),BindsTo s fd ⟨[u],[]⟩ [("script",u)])/\∀ base:Heap,(K w.params).In base->base.Ns mainGlobals mg->(∀ t∈ls,base.BuiltinsAt mg t.T)->aM l.prog w (K w.params) mg base bJ kk fa fd ["script"] (@yw (rG ls) (K w.params))) :
  WalkO q loose XP (kmHook K as e ts).says l.row.toRowW d [] (fun f vs=>PySem.call f vs) :=
 L2.Ro (n:=63) (k:=kk) (x := "script") (K:=fun w=>K w.params) (CX:=fun _=>bJ) (sp:=fun w=>@yw (rG ls) (K w.params)) (Ts:=fun _=>ls.map fun l=>(l.T,#[])) hn (by decide) ug hr (fun w h Y=>km_in_of Y)
  (fun w h Y b ps hl=>by
   obtain⟨⟨t,ht,rfl⟩,rfl⟩:=R0 hl
   have e1:h.get? t.T=some (tabObj #[]):=km_tabs_of Y t.T (by rw[<-R3];exact q1i ht)
   refine⟨e1,?_,?_⟩
   ·obtain⟨cc,o,vs,_,_,_,_,_,_,_,c1,c2,c3,c4,_⟩:=fR w h (km_in_of Y) t ht
    exact⟨cc,o,vs,c1,c2,c3,c4⟩
   ·cases z:(K w.params).lookup t.T with
    | none=>rfl
    | some o =>
     have e2:=km_in_of Y t.T o z
     rw[e1] at e2;cases e2
     have h2:=Zy.mp (R4 w.params) (t.T,tabObj #[]) (mem_of_lookupK z)
     exact absurd (show false=true from h2) Yo)
  (fun w mg fa h KX G nk=>by
   obtain⟨fd,hb,hF⟩:=F w mg fa h KX G nk
   exact⟨fd,hb,fun base k1 k2 k3=>hF base k1 k2 fun t ht=>k3 t.T #[] (CK ht)⟩)
  (fun w H a ns hl hO hS=>by
   letI:aD:=rG ls
   refine⟨a,ns,rfl,hS,hl,fun t ht => ?_,fun _=>rfl⟩
   rcases hO t.T with⟨ps,z1,z2⟩ | ⟨z1,_⟩
   ·rw[CK ht] at z1;cases z1
    exact⟨#[],z2,trivial,.inl rfl⟩
   ·rw[CK ht] at z1;cases z1)
  fun _ _ _ _ _ z=>z
end LJ
namespace LJ
open PySem L2
variable [aD]
omit [aD] in
theorem R5 {m:Int} {ws:List (Int × Int × Int)} (h:dz m ws):lB (aB m ws)=true:=by
 show (jV (.int m) 1 12 && rD m (.tup (ws.map bL)))=true
 have h1:jV (.int m) 1 12=true:=by
  show (decide (1 <= m) && decide (m <= 12))=true
  rw[Yk h.m1,Yk h.ki];rfl
 rw[h1,q1a]
 show (decide ((ws.map bL).length <= 30) && ((ws.map bL).all (cF m) && decide (((ws.map bL).map pairOf).Nodup)))=true
 have h2:(ws.map bL).all (cF m)=true:=by
  refine Zy.mpr fun d hd => ?_
  obtain⟨y,hy,rfl⟩:=Nk.mp hd
  obtain⟨a,b,c,d,e⟩:=h.ends y hy
  show (((decide (0 <= y.1) && decide (y.1 <= m - 1)) && (decide (y.1 + 1 <= y.2.1) && decide (y.2.1 <= m - 1))) && (decide (0 <= y.2.2) && decide (y.2.2 <= 1000000000)))=true
  rw[Yk a,Yk (by omega:y.1 <= m - 1),Yk (by omega:y.1 + 1 <= y.2.1),Yk (by omega:y.2.1 <= m - 1),Yk d,Yk e];rfl
 have h3:(ws.map bL).map pairOf=ws.map fun y=>(y.1,y.2.1):=by rw[Ys];rfl
 rw[h2,h3,Yk h.unlike,qp,Yk h.jf];rfl
noncomputable def vZ:GD:=fun ys aj K=>∃ (m:Int) (ws:List (Int × Int × Int)),dz m ws/\ys=[.p (aB m ws)]/\aj=[]/\K (.p .non) []
noncomputable def CL:WS:=(bG (gA (dT (av 1 vH (ao (aa 0) ah)))) uS fM)
theorem R6:∀ ys aj K',ys.length=1->vZ ys aj K'->CL (bS aj.length K') ⟨ys.map some ++ List.replicate 0 none,aj.map some⟩:=by
 rintro ys aj K' - ⟨m,ws,W,rfl,rfl,k⟩
 unfold CL
 simp? only []
 refine⟨aB m ws,rfl,rfl,?_⟩
 rw[R5 W]
 simp? only []
 exact d4 k
noncomputable def v3:GD:=fun ys aj K=>∃ y:Int × Int × Int,ys=[.p (bL y)]/\aj=[]/\K (.p (.tup [.int y.2.2,.int y.1,.int y.2.1])) []
noncomputable def CM:WS:=(aN (fZ (ao (d2 (aa 0) (dC (.int 2)) bc) (ao (d2 (aa 0) (dC (.int 0)) bc) (ao (d2 (aa 0) (dC (.int 1)) bc) ah)))))
theorem R7:∀ ys aj K',ys.length=1->v3 ys aj K'->CM (bS aj.length K') ⟨ys.map some ++ List.replicate 0 none,aj.map some⟩:=by
 rintro ys aj K' - ⟨y,rfl,rfl,k⟩
 unfold CM
 simp? only [bL,i8,i9,at2]
 exact d4 k
noncomputable def dG (ws:List (Int × Int × Int)) (n:Int):LK:=[(ws.getD n.toNat (0,0,0)).2.2,(ws.getD n.toNat (0,0,0)).1,(ws.getD n.toNat (0,0,0)).2.1]
theorem R8 {m:Int} {ws:List (Int × Int × Int)} (W:dz m ws) {a b:Int} (ha:0 <= a/\a < (ws.length:Int)) (hb:0 <= b/\b < (ws.length:Int)) (e:dG ws a=dG ws b):a=b:=by
 obtain⟨i,rfl⟩:∃ i:Nat,a=i:=⟨a.toNat,by omega⟩
 obtain⟨j,rfl⟩:∃ j:Nat,b=j:=⟨b.toNat,by omega⟩
 have hi:i < ws.length:=by omega
 have hj:j < ws.length:=by omega
 unfold dG at e
 rw[Yv,Yv,FP,qo hi,FP,qo hj] at e
 simp only[Option.getD_some,List.cons.injEq,and_true] at e
 have q:(ws.map fun y=>(y.1,y.2.1))[i]'(by rw[qp];exact hi)=(ws.map fun y=>(y.1,y.2.1))[j]'(by rw[qp];exact hj):=by
  rw[ZD,ZD,e.2.1,e.2.2]
 have:=(q0h W.unlike).mp q
 rw[this]
noncomputable def v5:GD:=fun ys aj K=>∃ (m:Int) (ws:List (Int × Int × Int)) (n:Int),dz m ws/\(0 <= n/\n < (ws.length:Int))/\ys=[.p (aB m ws),.p (.int n)]/\aj=[]/\K (.p (.tup ((dG ws n).map D.int))) []
noncomputable def CN:WS:=(au (iZ (d2 (d2 (aa 0) (dC (.int 1)) bc) (aa 1) bc) (kq 3 (f7 (bt 2) (f7 (bt 3) (f7 (bt 4) jQ))))) (aN (fZ (ao (aa 4) (ao (aa 2) (ao (aa 3) ah))))))
theorem R9:∀ ys aj K',ys.length=2->v5 ys aj K'->CN (bS aj.length K') ⟨ys.map some ++ List.replicate 3 none,aj.map some⟩:=by
 rintro ys aj K' - ⟨m,ws,n,W,⟨n0,n1⟩,rfl,rfl,k⟩
 obtain⟨y,ey,hy,ea,_⟩:=sX W n0 n1
 unfold CN
 simp? only [i9,aB,ea,bL]
 unfold dG at k
 rw[ey] at k
 exact d4 k
noncomputable def jY (ws:List (Int × Int × Int)) (n:Int):D := .tup [.tup ((dG ws n).map D.int),.int n]
theorem R_ {a b:LK} {n m:Int} (hl:a.length=b.length) (h:kle (a ++ [n]) (b ++ [m])):kle a b:=by
 unfold kle at h ⊢
 rw[CF _ _ hl.symm] at h
 by_cases e:b=a
 ·rw[e];exact yc a
 ·rw[Nj e] at h;exact h
end LJ
namespace L2
open PySem PySem.Spec PyProof.Rows
variable [aD]
noncomputable def cZ (kvs:List (Key × D)) (k:Key):Option D:=(kvs.find? fun kv=>decide (kv.1=k)).map (·.2)
noncomputable def putD (kvs:List (Key × D)) (k:Key) (d:D):List (Key × D) :=
 if (kvs.any fun kv=>decide (kv.1=k))=true then kvs.map (fun kv=>if kv.1=k then (kv.1,d) else kv) else kvs ++ [(k,d)]
theorem fY.val {F:Hp} (k:Key):∀ {gz:List (Key × D)} {ws:List (Key × V)},fY F gz ws->(cZ gz k=none/\bU ws k=none)\/∃ d v,cZ gz k=some d/\bU ws k=some v/\Is F d v
 | [],_,h=>by have h:_=[]:=h;subst h;exact .inl ⟨rfl,rfl⟩
 | kd :: r,_,⟨v,t,e,h1,h2⟩=>by
  subst e
  by_cases c:kd.1=k
  ·refine .inr ⟨kd.2,v,?_,uA c,h1⟩
   unfold cZ;rw[List.find?_cons_of_pos (by simpa using c)];rfl
  ·rw[uB c]
   have e:cZ (kd :: r) k=cZ r k:=by unfold cZ;rw[List.find?_cons_of_neg (by simpa using c)]
   rw[e]
   exact fY.val k h2
theorem fY.length {F:Hp}:∀ {gz:List (Key × D)} {ws:List (Key × V)},fY F gz ws->ws.length=gz.length
 | [],_,h=>by have h:_=[]:=h;subst h;rfl
 | kd :: r,_,⟨v,t,e,h1,h2⟩=>by subst e;rw[FL,FL,h2.length]
theorem fY.any {F:Hp} (k:Key):∀ {gz:List (Key × D)} {ws:List (Key × V)},fY F gz ws->(ws.any fun kv=>decide (kv.1=k))=gz.any fun kv=>decide (kv.1=k)
 | [],_,h=>by have h:_=[]:=h;subst h;rfl
 | kd :: r,_,⟨v,t,e,h1,h2⟩=>by subst e;rw[q0e,q0e,h2.any k]
theorem fY.iV {F:Hp} (k:Key) {d:D} {v:V} (hd:Is F d v):∀ {gz:List (Key × D)} {ws:List (Key × V)},fY F gz ws->fY F (gz.map fun kv=>if kv.1=k then (kv.1,d) else kv) (ws.map fun kv=>if kv.1=k then (kv.1,v) else kv)
 | [],_,h=>by have h:_=[]:=h;subst h;rfl
 | kd :: r,_,⟨u,t,e,h1,h2⟩=>by
  subst e
  by_cases c:kd.1=k
  ·rw[Yt,Yt,XI c,XI c]
   exact⟨v,_,rfl,hd,h2.iV k hd⟩
  ·rw[Yt,Yt,Nj c,Nj c]
   exact⟨u,_,rfl,h1,h2.iV k hd⟩
theorem fY.snoc {F:Hp} {k:Key} {d:D} {v:V} (hd:Is F d v):∀ {gz:List (Key × D)} {ws:List (Key × V)},fY F gz ws->fY F (gz ++ [(k,d)]) (ws ++ [(k,v)])
 | [],_,h=>by have h:_=[]:=h;subst h;exact⟨v,[],rfl,hd,rfl⟩
 | kd :: r,_,⟨u,t,e,h1,h2⟩=>by subst e;exact⟨u,_,rfl,h1,h2.snoc hd⟩
theorem fY.put {F:Hp} {gz:List (Key × D)} {ws:List (Key × V)} {k:Key} {d:D} {v:V} (h:fY F gz ws) (hd:Is F d v):fY F (putD gz k d) (putK ws k v):=by
 unfold putD putK
 rw[h.any k]
 split
 ·exact h.iV k hd
 ·exact h.snoc hd
noncomputable def jZ (x:DV) (δ : aw) (K:Nat->List (Key × D)->Prop):Prop:=match x with
 | .o k=>match δ.mu[k]? with
  | some (some (.dct kvs))=>K k kvs
  | _=>False
 | _=>False
theorem Iv {F H:Hp} {ad:List Addr} {δ : aw} {σ : St} {x:DV} {v:V} {K:Nat->List (Key × D)->Prop} (S:SR F ad δ σ H) (V1:gJ F ad x v) (h:jZ x δ K):∃ k kvs a ws,x = .o k/\K k kvs/\v = .ref a/\ad[k]? = some a/\H a=some (.dK ws)/\fY F kvs ws /\ δ.mu[k]? = some (some (.dct kvs)):=by
 unfold jZ at h
 split at h
 ·rename_i k
  split at h
  ·rename_i kvs e
   obtain⟨a,e1,rfl⟩:=V1
   obtain⟨a',o,e2,e3,ws,rfl,h4⟩:=S.mu k _ e
   rw[e1] at e2;cases e2
   exact⟨k,kvs,a,ws,rfl,h,rfl,e1,e3,h4,e⟩
  ·exact h.elim
 ·exact h.elim
noncomputable def j2 (x:DV) (P:Int->Prop):Prop:=match x with
 | .p (.int i)=>P i
 | _=>False
theorem Iw {F:Hp} {ad:List Addr} {x:DV} {v:V} {P:Int->Prop} (hv:gJ F ad x v) (h:j2 x P):∃ i,v=kV (.inl i)/\P i:=by
 unfold j2 at h
 split at h
 ·rename_i i;exact⟨i,hv,h⟩
 ·exact h.elim
noncomputable def CO:WE:=fun δ K=>K (.o δ.mu.length) ⟨δ.sl,δ.mu ++ [some (.dct [])]⟩
noncomputable def n8 (neg:Bool) (fi fo:WE):WE:=fun δ K=>fi δ fun x δ1=>fo δ1 fun y δ2=>j2 x fun i=>jZ y δ2 fun _ kvs=>K (.p (.bl (neg != (cZ kvs (.inl i)).isSome))) δ2
noncomputable def CP (fv fo fi:WE):WS:=fun K δ => fv δ fun z δ1=>fo δ1 fun x δ2=>fi δ2 fun y δ3=>nA z δ3 fun d δ4=>j2 y fun i=>jZ x δ4 fun k kvs=>kvs.length < 1000/\K.nx ⟨δ4.sl,δ4.mu.set k (some (.dct (putD kvs (.inl i) d)))⟩
section
variable {X:Cx} {o i e v:Expr} {fo fi fv fk fe:WE} {pos:Pos}
theorem Sa:JE X (.Dict [] [] pos) (tD CO):=iz.weak fun σ H Q ⟨F,ad,δ,K,S,q,k⟩ p hp=>by
 have oi:gf F (.dct []) (.dK []):=⟨[],rfl,rfl⟩
 refine k _ _ q _ _ _ _ (Ext.own S hp) (S.own hp oi) ⟨p,?_,rfl⟩
 rw[<-S.cj,Yi (qq _),YZ];rfl
theorem Sb {neg:Bool} (td:TE) (hn:∀ σ H (Q:VK),(tD fi σ H fun y H1=>tD fo σ H1 fun x H2=>∃ a o,x = .ref a/\jM H2 a y o/\Q (.bl (neg != o.isSome)) H2)->td σ H Q):∀ σ H Q,tD (n8 neg fi fo) σ H Q->td σ H Q:=fun σ H Q h0_ => el7 h0_ fun F ad δ K S q k =>hn σ H Q ⟨F,ad,δ,_,S,q,fun x δ1 h1 v F1 aP H1 E1 S1 V1=>⟨F1,aP,δ1,_,S1,h1,fun y δ2 h2 u F2 bV H2 E2 S2 V2=>by
  obtain⟨i,rfl,h3⟩:=Iw (V1.ext E2) h2
  obtain⟨k0,kvs,a,ws,rfl,h4,rfl,e1,e2,i1,m1⟩:=Iv S2 V2 h3
  refine⟨a,_,rfl,jM.k e2,?_⟩
  have es:(bU ws (Sum.inl i:Key)).isSome=(cZ kvs (.inl i)).isSome:=by
   rcases i1.val (.inl i) with⟨z1,z2⟩ | ⟨d,v,z1,z2,_⟩
   ·rw[z1,z2];rfl
   ·rw[z1,z2];rfl
  rw[es]
  exact k _ _ h4 _ _ _ _ (E1.trans E2) S2 rfl⟩⟩
theorem Sd {t:TE} {f:WE} (h:∀ σ H Q,tD f σ H Q->t σ H Q):∀ σ H Q,cS (dT f) σ H Q->tB t σ H Q:=fun σ H Q h0_ => el7 h0_ fun F ad δ K S q k =>h σ H _ ⟨F,ad,δ,_,S,q,fun x δ1 h1 v F1 aP H1 E1 S1 V1=>by
  obtain⟨b,rfl,h2⟩:=uR V1 h1
  exact⟨b,rfl,k _ _ h2 _ _ _ E1 S1⟩⟩
theorem Se (hu:X.A.units + 64 < cLine) (hi:JE X i (tD fi)) (ho:JE X o (tD fo)) (hm:behindInMarks .In o=false:=by rfl):JT X (.Compare i [.In] [o] pos) (cS (dT (n8 false fi fo))) :=
 (Of (OE (by omega) hi ho) hm).weak (Sd (Sb (qu (tD fi) (tD fo)) fun σ H Q h=>by simp only[Bool.false_bne] at h;exact h))
theorem Sf {pos':Pos} (hu:X.A.units + 64 < cLine) (ho:JE X o (tD fo)) (hi:JE X i (tD fi)) (hv:JE X v (tD fv)) (hs:swapsWith v (some (.Subscript o i pos')) pos.line X.env=pure false:=by rfl):JS X (.Assign [.Subscript o i pos'] v pos) (dX (CP fv fo fi)) :=
 (OF (by omega) ho hi hv hs).weak fun D σ H h0_ => el7 h0_ fun F ad δ K S q k =>⟨F,ad,δ,_,S,q,fun z δ1 h1 w F1 aP H1 E1 S1 V1=>⟨F1,aP,δ1,_,S1,h1,fun x δ2 h2 u F2 bV H2 E2 S2 V2=>⟨F2,bV,δ2,_,S2,h2,fun y δ3 h3 t F3 oP H3 E3 S3 V3=>by
  obtain⟨d,δ4,F4,h4,E4,S4,i4⟩:=uP S3 ((V1.ext E2).ext E3) h3
  obtain⟨i,rfl,h5⟩:=Iw V3 h4
  obtain⟨k0,kvs,a,ws,rfl,h6,rfl,e1,e2,i1,m1⟩:=Iv S4 ((V2.ext E3).ext E4) h5
  have oi:gf F4 (.dct (putD kvs (.inl i) d)) (.dK (putK ws (.inl i) w)):=⟨_,rfl,i1.put i4⟩
  refine⟨a,_,rfl,kZ.k e2 (ka (by rw[i1.length];exact Zp h6.1)),?_⟩
  exact k.nx _ h6.2 _ _ _ _ ((((E1.trans E2).trans E3).trans E4).trans (Ext.put S4 m1 e1)) (S4.put m1 e1 oi)⟩⟩⟩
end
noncomputable def lL (δ0:aw) (t:WT) (b:WS) (K:KS):Nat->aw->Prop
 | 0,_=>False
 | n + 1,δ => t δ fun bb δ1=>if bb=true then b { nx:=fun δ2=>lL δ0 t b K n (δ0.trim δ2),ct:=fun δ2=>lL δ0 t b K n (δ0.trim δ2),bk:=K.nx,rt:=K.rt } δ1 else K.nx δ1
noncomputable def CQ (t:WT) (b:WS):WS:=fun K δ => ∃ n,lL δ t b K n δ
theorem Iy {X:Cx} {c:Expr} {body:List Stmt} {t:WT} {b:WS} {pos:Pos} (hp:PassesOwn (model X.prog X.w) X.A X.env X.xe) (hc:JT X c (cS t)) (hb:fK X body (dX b)):JS X (.While c body [] pos) (dX (CQ t b)) :=
 (Ov hp hc hb).weak fun D σ H ⟨F,ad,δ,K,S,⟨n,q⟩,k⟩=>by
 refine⟨fun m σ' H'=>∃ F' aA δ',Ext F ad δ.mu H F' aA δ'.mu H'/\SR F' aA δ' σ' H'/\lL δ t b K m δ',⟨n,F,ad,δ,.refl,S,q⟩,?_⟩
 rintro m σ' H' ⟨F',aA,δ',E',S',h⟩
 cases m with
 | zero=>exact h.elim
 | succ m =>
  refine⟨F',aA,δ',_,S',h,fun bb δ1 h1 F1 aP H1 E1 S1 => ?_⟩
  have E2:=E'.trans E1
  cases bb with
  | false =>
   dsimp only at h1 ⊢
   rw[Nj Yo] at h1 ⊢
   exact k.nx _ h1 _ _ _ _ E2 S1
  | true =>
   dsimp only at h1 ⊢
   rw[XI rfl] at h1 ⊢
   refine⟨fun σ2 H2=>∃ F2 bV δ2,Ext F ad δ.mu H F2 bV δ2.mu H2/\SR F2 bV δ2 σ2 H2/\lL δ t b K m δ2,fun σ2 H2 ⟨F2,bV,δ2,e1,e2,e3⟩=>⟨m,by omega,F2,bV,δ2,e1,e2,e3⟩,?_⟩
   refine⟨F1,aP,δ1,_,S1,h1,⟨fun δ2 h2 F2 bV σ2 H2 X2 S2=>⟨F2,_,_,(E2.trans X2).trim S.cj,S2.trim,h2⟩,k.nx.ext E2,fun δ2 h2 F2 bV σ2 H2 X2 S2=>⟨F2,_,_,(E2.trans X2).trim S.cj,S2.trim,h2⟩,(k.ext E2).rt⟩⟩
end L2
namespace LJ
open PySem L2
variable [aD]
theorem Sg {kvs:List (Key × D)} {k l:Key} {d:D} (h:cZ kvs k=none):cZ (putD kvs k d) l=if l=k then some d else cZ kvs l:=by
 have na:(kvs.any fun kv=>decide (kv.1=k))=false:=by
  cases q:kvs.any fun kv=>decide (kv.1=k) with
  | false=>rfl
  | true =>
   obtain⟨kv,h1,h2⟩:=List.any_eq_true.mp q
   unfold cZ at h
   rw[Option.map_eq_none_iff] at h
   exact absurd h2 (q0H.mp h kv h1)
 unfold putD
 rw[na,Nj Yo]
 unfold cZ
 rw[List.find?_append]
 cases q:kvs.find? fun kv=>decide (kv.1=l) with
 | some kv =>
  have e:=q0F q
  have e:kv.1=l:=by simpa using e
  rw[Nj]
  ·rfl
  ·intro z
   subst z
   have hm:=q0z q
   have:=Z0.mp na kv hm
   exact this (by simpa using e)
 | none =>
  by_cases c:l=k
  ·subst c
   rw[XI rfl]
   simp
  ·rw[Nj c]
   simp[show ¬ k=l from fun z=>c z.symm]
theorem Sh {kvs:List (Key × D)} {k:Key} {d:D}:(putD kvs k d).length <= kvs.length + 1:=by
 unfold putD
 split
 ·rw[qp];omega
 ·rw[Aw];simp
noncomputable def v7:GD:=fun ys aj K=>∃ (m:Int) (ws:List (Int × Int × Int)) (ns:List Int),dz m ws/\Nums ws ns/\ns.Nodup/\ns.length <= 900/\ys=[.p (aB m ws),.p (aO ns)]/\aj=[]/\K (.p .non) []
noncomputable def CS:WS:=(au (nG (av 1 vZ (ao (aa 0) ah))) (au (bG (gA (dT (d1 (aa 1) (cE "list")))) uS fM) (au (aG 2 (d2 (dN (ao (d2 (aa 0) (dC (.int 1)) bc) ah) cY) (dC (.int 1)) (oI fun i j => .int (i - j)))) (au (aG 3 CO) (eW (lj (ao (aa 1) ah)) (kq 2 (f7 (bt 4) (f7 (bt 5) jQ))) (au (bG (qA (gA (dT (av 3 kC (ao (aa 5) (ao (dC (.int 0)) (ao (aa 2) ah)))))) (dT (n8 false (aa 5) (aa 3)))) uS fM) (CP (dC (.bl true)) (aa 3) (aa 5))))))))
theorem Si:∀ ys aj K',ys.length=2->v7 ys aj K'->CS (bS aj.length K') ⟨ys.map some ++ List.replicate 4 none,aj.map some⟩:=by
 rintro ys aj K' - ⟨m,ws,ns,W,hn,nd,hl,rfl,rfl,k⟩
 unfold CS
 refine aW fun N hN => ?_
 simp? only []
 refine⟨m,ws,W,rfl,rfl,?_⟩
 show N _
 subst hN
 refine aW fun N hN => ?_
 simp? only []
 rw[show aO ns = .lst (ns.map D.int) from rfl]
 simp? only [cg,aQ,Bool.true_or]
 subst hN
 refine aW fun N hN => ?_
 simp? only [i9,aB]
 subst hN
 refine aW fun N hN => ?_
 simp? only [CO]
 subst hN
 have il:∀ (j:Nat) (d:D),(kz 0 (ns.map D.int))[j]? = some d->∃ n:Int,ns[j]? = some n/\d=D.tup [.int (j:Int),.int n]:=fun j d hd=>by
  obtain⟨e,h1,h2⟩:=uZ hd
  rw[Ni] at h1
  obtain⟨n,h3,rfl⟩:=XM.mp h1
  exact⟨n,h3,by rw[h2,YY]⟩
 have el:(kz 0 (ns.map D.int)).length=ns.length:=by rw[uY,qp]
 simp only[eW,lj,ao,aa,ah,q0O,Z2,qK]
 refine oZ (fun i δ => ∃ kvs:List (Key × D),kvs.length <= i/\(∀ n:Int,(cZ kvs (.inl n)).isSome=decide (n∈ns.take i)) /\ δ = ⟨[some (.p (.tup [.int m,.tup (ws.map bL)])),some (.p (.lst (ns.map D.int))),some (.p (.int (ws.length - 1))),some (.o 0),none,none],[some (.dct kvs)]⟩) ?_ ?_ ?_
 ·refine⟨[],qq _,fun n=>by simp[cZ],?_⟩
  simp only[qp]
 ·rintro j d δ L hj ⟨kvs,kl,kv,rfl⟩ hL
  obtain⟨n,mG,rfl⟩:=il j d hj
  obtain⟨n0,n1⟩:=hn n (YO mG)
  have jl:j < ns.length:=(su.mp mG).1
  have ff:(cZ kvs (.inl n)).isSome=false:=by
   rw[kv n]
   refine Yz fun hm => ?_
   obtain⟨i,hi,ei⟩:=YG.mp hm
   rw[YD] at hi
   rw[q1z] at ei
   have e2:ns[j]=n:=(su.mp mG).2
   have:=(q0h (h₀ := by omega) (h₁ := jl) nd).mp (ei.trans e2.symm)
   omega
  have fn:cZ kvs (.inl n)=none:=by
   cases q:cZ kvs (.inl n) with
   | none=>rfl
   | some d=>rw[q] at ff;cases ff
  have wb:jV (.int n) 0 (ws.length - 1)=true:=by
   show (decide (0 <= n) && decide (n <= (ws.length:Int) - 1))=true
   rw[Yk n0,Yk (by omega)];rfl
  refine⟨trivial,?_⟩
  simp only[kq,f7,jQ,bt,ib,Y7,Y8,FL,q0n]
  refine⟨trivial,?_⟩
  refine aW fun N hN => ?_
  simp? only []
  refine⟨.int n,0,ws.length - 1,rfl,rfl,?_⟩
  simp? only [wb,n8,j2,jZ,ff,Bool.false_bne]
  subst hN
  simp? only [CP,j2,jZ]
  refine⟨by omega,hL _ ⟨putD kvs (.inl n) (.bl true),?_,fun l => ?_,?_⟩⟩
  ·have:=Sh (kvs:=kvs) (k := .inl n) (d := .bl true);omega
  ·rw[Sg fn,ZY,mG]
   by_cases c:l=n
   ·subst c
    rw[XI rfl]
    exact (Yk (by simp)).symm
   ·rw[Nj (fun z=>c (Sum.inl.inj z)),kv l]
    simp[c]
  ·simp? only []
 ·rintro δ ⟨kvs,_,_,rfl⟩
  exact⟨trivial,d4 k⟩
end LJ
namespace L2
open PySem PySem.Spec PyProof.Rows PySem.W
section
open PySem.SeqAt
open PySem.AutoSeq1 (wpAny_loadPart')
open PySem.MeetsSeq PySem.MeetsSeq2 PySem.MeetsSeq3
end
section
variable {prog:Program} {w:World} {A:Around} {E:Value->Shared->Prop} {s:Shared} {Q:Bool->Shared->Prop}
end
section
variable [aD] {X:Cx}
end
end L2
namespace LJ
open PySem L2
noncomputable abbrev Lt:=Int × (Addr × List Int)
noncomputable def d7 (es:List Lt):List (Key × V):=es.map fun e=>(Sum.inl e.1,V.ref e.2.1)
structure de (H:Hp) (es:List Lt):Prop where
 at_:∀ e∈es,H e.2.1=some (.lst (e.2.2.map V.int))
 n9:(es.map (·.2.1)).Nodup
 n_:(es.map (·.1)).Nodup
noncomputable def strip (es:List Lt):List (Int × List Int):=es.map fun e=>(e.1,e.2.2)
noncomputable def mJ (g:List (Int × List Int)) (x h:Int):List (Int × List Int):=if x∈g.map (·.1) then g.map (fun e=>if e.1=x then (e.1,e.2 ++ [h]) else e) else g ++ [(x,[h])]
noncomputable def df (fs:List Int):Nat->List (Int × List Int)
 | 0=>[]
 | i + 1=>mJ (df fs i) (fs.getD i 0) i
theorem Iz (x:Int):∀ es:List Lt,bU (d7 es) (Sum.inl x:Key)=(es.find? fun e=>decide (e.1=x)).map fun e=>V.ref e.2.1
 | []=>rfl
 | e :: es=>by
  by_cases c:e.1=x
  ·rw[List.find?_cons_of_pos (by simpa using c)]
   exact uA (congrArg Sum.inl c)
  ·rw[List.find?_cons_of_neg (by simpa using c)]
   have:=Iz x es
   rw[<-this]
   exact uB (fun z=>c (Sum.inl.inj z))
theorem Sj (es:List Lt):(strip es).map (·.1)=es.map (·.1):=by unfold strip;rw[Ys];rfl
noncomputable def grow (es:List Lt) (x h:Int):List Lt:=es.map fun e=>if e.1=x then (e.1,e.2.1,e.2.2 ++ [h]) else e
theorem Sk (es:List Lt) (x h:Int):d7 (grow es x h)=d7 es:=by
 unfold d7 grow
 rw[Ys]
 refine YJ fun e _ => ?_
 show ((Sum.inl (if e.1=x then (e.1,e.2.1,e.2.2 ++ [h]) else e).1:Key),V.ref (if e.1=x then (e.1,e.2.1,e.2.2 ++ [h]) else e).2.1)=_
 split<;>rfl
theorem Sl (es:List Lt) (x h:Int):(grow es x h).map (·.2.1)=es.map (·.2.1):=by
 unfold grow
 rw[Ys]
 refine YJ fun e _ => ?_
 show (if e.1=x then (e.1,e.2.1,e.2.2 ++ [h]) else e).2.1=_
 split<;>rfl
theorem Sm (es:List Lt) (x h:Int):(grow es x h).map (·.1)=es.map (·.1):=by
 unfold grow
 rw[Ys]
 refine YJ fun e _ => ?_
 show (if e.1=x then (e.1,e.2.1,e.2.2 ++ [h]) else e).1=_
 split<;>rfl
theorem Sn {es:List Lt} {x h:Int} (hx:x∈es.map (·.1)):strip (grow es x h)=mJ (strip es) x h:=by
 unfold mJ
 rw[XI (by rw[Sj];exact hx)]
 unfold strip grow
 rw[Ys,Ys]
 refine YJ fun e _ => ?_
 show ((if e.1=x then (e.1,e.2.1,e.2.2 ++ [h]) else e).1,(if e.1=x then (e.1,e.2.1,e.2.2 ++ [h]) else e).2.2)=if e.1=x then (e.1,e.2.2 ++ [h]) else (e.1,e.2.2)
 split<;>rfl
theorem So {es:List Lt} (n:(es.map (·.1)).Nodup) {e e':Lt} (h:e∈es) (h':e'∈es) (q:e.1=e'.1):e=e':=by
 obtain⟨i,hi,rfl⟩:=YG.mp h
 obtain⟨j,hj,rfl⟩:=YG.mp h'
 have:=(q0h (h₀ := by rw[qp];exact hi) (h₁ := by rw[qp];exact hj) n).mp (by rw[ZD,ZD];exact q)
 subst this;rfl
theorem Sq {es:List Lt} (n:(es.map (·.2.1)).Nodup) {e e':Lt} (h:e∈es) (h':e'∈es) (q:e.2.1=e'.2.1):e=e':=by
 obtain⟨i,hi,rfl⟩:=YG.mp h
 obtain⟨j,hj,rfl⟩:=YG.mp h'
 have:=(q0h (h₀ := by rw[qp];exact hi) (h₁ := by rw[qp];exact hj) n).mp (by rw[ZD,ZD];exact q)
 subst this;rfl
theorem de.grow {H:Hp} {es:List Lt} {e:Lt} {h:Int} (L:de H es) (he:e∈es):de (upd H e.2.1 (.lst (e.2.2.map V.int ++ [V.int h]))) (grow es e.1 h):=by
 refine⟨fun e' pC => ?_,by rw[Sl];exact L.n9,by rw[Sm];exact L.n_⟩
 unfold LJ.grow at pC
 obtain⟨d,hd,rfl⟩:=Nk.mp pC
 by_cases c:d.1=e.1
 ·obtain rfl:=So L.n_ hd he c
  rw[XI rfl]
  show upd H d.2.1 _ d.2.1=some (.lst ((d.2.2 ++ [h]).map V.int))
  rw[bz,Yw];rfl
 ·rw[Nj c]
  rw[aH fun z=>c (by rw[Sq L.n9 hd he z])]
  exact L.at_ d hd
theorem de.snoc {H H':Hp} {es:List Lt} {x h:Int} {n:Addr} (L:de H es) (hn:H n=none) (hx:x∉es.map (·.1)) (kp:∀ e∈es,H' e.2.1=H e.2.1) (h':H' n=some (.lst [V.int h])):de H' (es ++ [(x,n,[h])]):=by
 refine⟨fun e he => ?_,?_,?_⟩
 ·rcases YL.mp he with q | q
  ·rw[kp e q];exact L.at_ e q
  ·rw[YF.mp q];exact h'
 ·rw[Yw]
  refine Y3.mpr ⟨L.n9,by simp,fun a ha b hb z => ?_⟩
  subst z
  obtain⟨e,he,rfl⟩:=Nk.mp ha
  have:e.2.1=n:=by simpa using hb
  rw[<-this,L.at_ e he] at hn
  cases hn
 ·rw[Yw]
  refine Y3.mpr ⟨L.n_,by simp,fun a ha b hb z => ?_⟩
  subst z
  have:a=x:=by simpa using hb
  exact hx (by rw[<-this];exact ha)
variable [aD]
noncomputable def yF:GD:=fun ys aj K=>∃ (m:Int) (ws:List (Int × Int × Int)) (ns:List Int),dz m ws/\Nums ws ns/\ns.Nodup/\ns.length <= 900/\ys=[.p (aB m ws),.p (aO ns)]/\aj=[]/\K (.p (jx ((df (eZ m ws ns) m.toNat).map (·.2)))) []
end LJ
namespace L2
open PySem
variable [aD]
noncomputable def kO (δ : aw):aw:=⟨δ.sl,δ.mu.map fun _=>none⟩
section
variable {F F' H H':Hp} {ad aA:List Addr} {δ δ':aw} {σ σ':St}
theorem CT {a:Addr}:¬ Lv ad (kO δ).mu a:=fun ⟨k,ov,_,e⟩=>by
 unfold kO at e
 rw[show (aw.mk δ.sl (δ.mu.map fun _=>(none:Option OV))).mu = δ.mu.map fun _=>none from rfl,Ni] at e
 obtain⟨_,_,z⟩:=XM.mp e
 cases z
theorem SR.hide (S:SR F ad δ σ H):SR F ad (kO δ) σ H:=by
 have no:∀ (k:Nat) (ov:OV),(kO δ).mu[k]? = some (some ov)->False:=fun k ov e=>by
  unfold kO at e
  rw[show (aw.mk δ.sl (δ.mu.map fun _=>(none:Option OV))).mu = δ.mu.map fun _=>none from rfl,Ni] at e
  obtain⟨_,_,z⟩:=XM.mp e
  cases z
 exact⟨S.sub,fun a l=>absurd l CT,by rw[S.cj];unfold kO;rw[qp],fun k l a ov ow _ _ e _=>(no _ _ e).elim,fun k ov e=>(no _ _ e).elim,S.sl,S.len,S.tab,S.nt⟩
noncomputable def IA (H:Hp) (v:V) (H':Hp):Prop:=∃ a b r,v = .ref a/\H a=none/\H' a=some (.lst (.ref b :: r))/\H b=none
theorem Sr {x:V} {r:List V}:fB (x :: r) 0=some x:=by
 unfold fB jk
 rw[FL,XI (by omega),XI (by omega)]
 rfl
end
section
variable {X:Cx} {CU j6 iQ mV:Stmt} {i n:Nat} {G:GD} {fa:WA} {t:WT} {B:TS} {E:XK}
end
end L2
namespace LJ
open PySem L2
variable [aD]
noncomputable def Ss:V->List V->Hp->VK->Prop:=fun x vs H Q=>∃ (d:Addr) (kvs:List (Key × V)) (k:Key) (dv:V),x = .ref d/\vs=[kV k,dv]/\H d=some (.dK kvs)/\kvs.length < sizeLine/\(∀ v,bU kvs k=some v->Q v H)/\(bU kvs k=none->Q dv (upd H d (.dK (putK kvs k dv))))
noncomputable def Su:V->List V->Hp->VK->Prop:=fun x vs H Q=>∃ (d:Addr) (kvs:List (Key × V)),x = .ref d/\vs=[]/\H d=some (.dK kvs)/\∀ r,H r=none->Q (.ref r) (upd H r (iB r d))
noncomputable def Sv:List V->Hp->VK->Prop:=fun xs H Q=>∃ (r d:Addr) (kvs:List (Key × V)),xs=[.ref r]/\H r=some (iB r d)/\H d=some (.dK kvs)/\∀ l,H l=none->Q (.ref l) (upd H l (.lst (kvs.map (·.2))))
noncomputable def Sw:TS:=dX (nG (av 2 v7 (ao (aa 0) (ao (aa 1) ah))))
noncomputable def Sx (Kf:PySem.W.Frag):TS:=ir (fU AV (j8 2)) (ir (p8 (AF Kf (dR (qc (aI sY 2) [] E0 (dR (c5 0) (dR (c5 1) cV))) cV)) (pY Kf 2 (wU (j8 3) (wU (j8 4) pX)))
 (oA (j_ Kf "list" oF (j_ Kf "dict" Ss (c5 2) (dR (c5 4) (dR (jD cV) cV))) (dR (c5 3) cV))))
 (pV (si Sv (dR (qh Kf "dict" Su (c5 2)) cV))))
theorem Sy {fs:List Int}:∀ {i:Nat},0 < i->df fs i≠[]
 | i + 1,_,z=>by
  unfold df mJ at z
  split at z
  ·rename_i c
   rw[List.map_eq_nil_iff] at z
   rw[z] at c
   exact nomatch c
  ·simp at z
theorem Sz {Kf:PySem.W.Frag} {H F0:Hp} {ad:List Addr} {vs:List V} {m:Int} {ws:List (Int × Int × Int)} {ns:List Int} {K':RV->List OV->Prop} {Q:VK} {Dd:Ends} (hl:vs.length=2) (W:dz m ws) (hn:Nums ws ns) (hd:ns.Nodup) (CV:ns.length <= 900)
  (hK:K' (.p (jx ((df (eZ m ws ns) m.toNat).map (·.2)))) []) (S0:SR F0 ad ⟨[DV.p (aB m ws),DV.p (aO ns)].map some,([]:List OV).map some⟩ (vs.map some) H) (kk:∀ r ows,K' r ows->∀ v F' H',xG F0 ad H r ows v F' H'->IA H v H'->Q v H') (hD:∀ v H',Q v H'->Dd.rt v H') :
  ir Sw (Sx Kf) Dd (start ["web", "ways", "lots", "house", "first"] vs) H:=by
 have ea:ad=[]:=by have:=S0.cj;simpa using this
 subst ea
 have S1:=S0.start (N:=["web", "ways", "lots", "house", "first"])
 rw[hl] at S1
 refine⟨F0,[],_,{ nx:=fun δ' => δ'=⟨[some (.p (aB m ws)),some (.p (aO ns)),none,none,none],[]⟩,rt:=fun _ _=>False },S1,?_,⟨?_,fun _ h=>h.elim,fun _ h=>h.elim,fun _ _ h=>h.elim⟩⟩
 ·simp? only []
  exact⟨m,ws,ns,W,hn,hd,CV,rfl,rfl,rfl⟩
 rintro δ' rfl F1 aP σ1 H1 E1 S1
 have ea:aP=[]:=by have:=S1.cj;simpa using this
 subst ea
 obtain⟨v0,e0,i0⟩:=S1.sl 0 _ rfl
 obtain⟨v1,e1,i1⟩:=S1.sl 1 _ rfl
 have hlen:=S1.len
 obtain⟨w2,w3,w4,rfl⟩:∃ w2 w3 w4,σ1=[some v0,some v1,w2,w3,w4]:=by
  obtain⟨a,r,rfl⟩:=Zs hlen
  obtain⟨b,r,rfl⟩:=Zs (q0l hlen)
  have hlen:=q0l (q0l hlen)
  obtain⟨c,r,rfl⟩:=Zs hlen
  obtain⟨d,r,rfl⟩:=Zs (q0l hlen)
  obtain⟨e,rfl⟩:=List.length_eq_one_iff.mp (q0l (q0l hlen))
  cases (show some a=some (some v0) from e0)
  cases (show some b=some (some v1) from e1)
  exact⟨c,d,e,rfl⟩
 intro dl nL
 have v8:H dl=none:=by
  cases q:H dl with
  | none=>rfl
  | some u=>obtain⟨u',h'⟩:=E1.g_ dl u q;rw[nL] at h';cases h'
 have fl:F1 dl=none:=by
  cases q:F1 dl with
  | none=>rfl
  | some u=>rw[S1.sub dl u q] at nL;cases nL
 have nl:¬ Lv [] ([]:List (Option OV)) dl:=fun ⟨k,ov,z,_⟩=>by simp at z
 have S2:=S1.other (o := .dK []) fl nl (aD.same S1.tab (cW nL))
 have E2:=E1.other (o := .dK []) v8
 refine⟨_,rfl,_,rfl,?_⟩
 refine Bg (E:=E0) (xs:=[.p (aB m ws),.p (aO ns)]) (K:=fun r ows=>r = .p (aO (eZ m ws ns))/\ows=[]) S2 ⟨v0,_,rfl,i0,v1,_,rfl,i1,rfl⟩ rfl rfl rfl ⟨m,ws,ns,W,hn,.inl ⟨rfl,rfl,rfl,rfl⟩⟩ fun res ows v F3 H3 ⟨er,eo⟩ X3 S3 f9 => ?_
 subst er eo
 have v9:(eZ m ws ns).length=m.toNat:=Cm
 have ki:=W.ki
 generalize eZ m ws ns=fs at hK f9 v9
 have f9:Is F3 (.lst (fs.map D.int)) v:=f9
 simp only[Is] at f9
 obtain⟨g,us,rfl,hg,iu⟩:=f9
 have SA:=oV iu
 subst SA
 have CW:Ext F1 [] [] (upd H1 dl (.dK [])) F3 [] [] H3:=X3
 have E3:Ext F0 [] [] H F3 [] [] H3:=E2.trans CW
 have yG:∀ a,¬ Lv [] ([]:List (Option OV)) a:=fun a ⟨k,ov,z,_⟩=>by simp at z
 have SD:dl∉aD.ad:=fun z=>by obtain⟨ps,q⟩:=aD.tb S1.tab z;rw[nL] at q;cases q
 have yH:H3 dl=some (.dK []):=CW.keep dl _ bz (yG _) SD
 have yI:H3 g=some (.lst (fs.map V.int)):=S3.sub _ _ hg
 have SE:F3 dl=none:=by
  cases q:F3 dl with
  | none=>rfl
  | some u =>
   rcases CW.new dl u q with z | z | z
   ·rw[fl] at z;cases z
   ·rw[bz] at z;cases z
   ·exact absurd z (yG _)
 have gd:g≠dl:=fun z=>by rw[z,yH] at yI;cases yI
 refine⟨g,rfl,⟨_,aU.of yI⟩,?_⟩
 refine F9 (K:=Kf) (a:=g) (xs:=fs.map V.int) (fun i σ H4=>∃ (es:List Lt) (w3 w4:Option V),σ = [some v0,some v1,some (.ref dl),w3,w4]/\(∀ a o,H3 a=some o->a≠dl->H4 a=some o)/\aD.ok H4/\H4 dl=some (.dK (d7 es))/\de H4 es/\(∀ e∈es,H3 e.2.1=none)/\strip es=df fs i/\es.length <= i/\∀ e∈es,e.2.2.length <= i) ?_ (fun i σ H4 _ ⟨_,_,_,_,kp,_⟩=>aU.of (kp g _ yI gd)) ?_ ?_
 ·exact⟨[],w3,w4,rfl,fun a o e _=>e,S3.tab,yH,⟨(fun e he=>nomatch he),Zu,Zu⟩,(fun e he=>nomatch he),rfl,qq _,fun e he=>nomatch he⟩
 ·rintro i x T' σ H4 hx ⟨es,w3,w4,rfl,kp,tk,pD,L4,fr,st,le,ll⟩ yy
  rw[Ni] at hx
  obtain⟨y,ey,rfl⟩:=XM.mp hx
  have hi:=(su.mp ey).1
  have eD:fs.getD i 0=y:=by rw[FP,ey];rfl
  have s5:ax H4 (upd H4 T' (.tup [.int (i:Int),.int y])):=mH yy
  refine⟨T',_,rfl,bC.of bz,rfl,_,_,rfl,_,_,rfl,rfl,?_⟩
  have SF:=s5 _ _ pD
  refine⟨_,rfl,.inr (.inr (.inl ⟨rfl,.inl ⟨_,SF⟩⟩)),_,rfl,YK _,fun en IB => ?_⟩
  have s6:=s5.trans (mH (o := .lst []) IB)
  have yJ:=s6 _ _ pD
  have v_:upd (upd H4 T' (.tup [.int (i:Int),.int y])) en (.lst []) en=some (.lst []):=bz
  have j3:H4 en=none:=s5.free IB
  have pE:=aD.same tk s6
  generalize upd (upd H4 T' (.tup [.int (i:Int),.int y])) en (.lst [])=H6 at s6 yJ v_ pE
  have L6:de H6 es:=⟨fun e he=>s6 _ _ (L4.at_ e he),L4.n9,L4.n_⟩
  have CY:en≠dl:=fun z=>by rw[z,pD] at j3;cases j3
  have wa:H3 en=none:=by
   cases q:H3 en with
   | none=>rfl
   | some u=>rw[kp en u q CY] at j3;cases j3
  have fv:=Iz y es
  refine⟨dl,d7 es,Sum.inl y,.ref en,rfl,rfl,yJ,ka (by unfold d7;rw[qp];omega),fun v hv => ?_,fun hv => ?_⟩
  ·rw[hv] at fv
   cases ff:es.find? fun e=>decide (e.1=y) with
   | none=>rw[ff] at fv;cases fv
   | some e =>
    rw[ff] at fv
    obtain rfl:v=V.ref e.2.1:=by simpa using fv
    have he:e∈es:=q0z ff
    have ek:e.1=y:=by simpa using q0F ff
    have iN:y∈es.map (·.1):=Nk.mpr ⟨e,he,ek⟩
    have CZ:=L6.at_ e he
    have C0:e.2.1≠dl:=fun z=>by have:=fr e he;rw[z,yH] at this;cases this
    refine⟨.inl ⟨rfl,_,aU.of CZ⟩,_,rfl,e.2.1,_,_,rfl,rfl,CZ,?_,?_⟩
    ·refine ka ?_
     rw[qp]
     have:=ll e he
     omega
    ·refine⟨LJ.grow es y i,_,_,rfl,fun b' o eb nb => ?_,aD.put pE CZ (.inl ⟨_,rfl⟩),?_,?_,?_,?_,?_,?_⟩
     ·rw[aH (cf eb (fr e he))];exact s6 _ _ (kp _ _ eb nb)
     ·rw[aH (ZV C0),Sk];exact yJ
     ·rw[<-ek];exact L6.grow he
     ·intro e' pC
      unfold LJ.grow at pC
      obtain⟨d,hd,rfl⟩:=Nk.mp pC
      have:=fr d hd
      split<;>exact this
     ·rw[Sn iN,st];show mJ (df fs i) y i=mJ (df fs i) (fs.getD i 0) i;rw[eD]
     ·unfold LJ.grow;rw[qp];omega
     ·intro e' pC
      unfold LJ.grow at pC
      obtain⟨d,hd,rfl⟩:=Nk.mp pC
      have:=ll d hd
      split
      ·show (d.2.2 ++ [(i:Int)]).length <= i + 1
       rw[Aw,Yu];omega
      ·omega
  ·rw[hv] at fv
   have iN:y∉es.map (·.1):=fun z=>by
    obtain⟨e,he,ek⟩:=Nk.mp z
    cases ff:es.find? fun e=>decide (e.1=y) with
    | none=>exact absurd (q0H.mp ff e he) (by simpa using ek)
    | some e'=>rw[ff] at fv;cases fv
   have rH:upd H6 dl (.dK (putK (d7 es) (Sum.inl y) (.ref en))) en=some (.lst []):=by rw[aH CY];exact v_
   refine⟨.inl ⟨rfl,_,aU.of rH⟩,_,rfl,en,_,_,rfl,rfl,rH,ka (YK _),?_⟩
   refine⟨es ++ [(y,en,[(i:Int)])],_,_,rfl,fun b' o eb nb => ?_,aD.put (aD.put pE yJ (.inr ⟨_,rfl⟩)) rH (.inl ⟨_,rfl⟩),?_,?_,?_,?_,?_,?_⟩
   ·rw[aH (cf eb wa),aH nb];exact s6 _ _ (kp _ _ eb nb)
   ·rw[aH (ZV CY),bz,N4 _ hv];unfold d7;rw[Yw];rfl
   ·refine L4.snoc j3 iN (fun e he => ?_) (by rw[bz];rfl)
    have ne1:e.2.1≠en:=cf (L4.at_ e he) j3
    have C0:e.2.1≠dl:=fun z=>by have:=fr e he;rw[z,yH] at this;cases this
    rw[aH ne1,aH C0,L4.at_ e he];exact s6 _ _ (L4.at_ e he)
   ·intro e he
    rcases YL.mp he with q | q
    ·exact fr e q
    ·rw[YF.mp q];exact wa
   ·unfold strip at st ⊢
    rw[Yw,st]
    show df fs i ++ [(y,[(i:Int)])]=mJ (df fs i) (fs.getD i 0) i
    unfold mJ
    rw[eD,Nj (by rw[<-st,Ys];exact iN)]
   ·rw[Aw,Yu];omega
   ·intro e he
    rcases YL.mp he with q | q
    ·have:=ll e q;omega
    ·rw[YF.mp q];show 1 <= i + 1;omega
 ·rintro σ H4 ⟨es,w3,w4,rfl,kp,tk,pD,L4,fr,st,le,ll⟩
  rw[qp,v9] at st
  refine⟨_,rfl,.inr (.inr (.inl ⟨rfl,.inl ⟨_,pD⟩⟩)),dl,_,rfl,rfl,pD,fun v hv => ?_⟩
  have s5:ax H4 (upd H4 v (iB v dl)):=mH hv
  refine⟨v,dl,_,rfl,bz,s5 _ _ pD,fun r IC => ?_⟩
  have s6:=s5.trans (mH (o := .lst ((d7 es).map (·.2))) IC)
  have yK:H4 r=none:=s5.free IC
  have C1:upd (upd H4 v (iB v dl)) r (.lst ((d7 es).map (·.2))) r=some (.lst ((d7 es).map (·.2))):=bz
  have pE:=aD.same tk s6
  generalize upd (upd H4 v (iB v dl)) r (.lst ((d7 es).map (·.2)))=H5 at s6 C1 pE
  have SG:r≠dl:=fun z=>by rw[z,pD] at yK;cases yK
  have ID:H3 r=none:=by
   cases q:H3 r with
   | none=>rfl
   | some u=>rw[kp r u q SG] at yK;cases yK
  have non:∀ {x:Addr},H3 x=none->H x=none:=fun {x} e=>by
   cases q:H x with
   | none=>rfl
   | some u=>obtain⟨u',z⟩:=E3.g_ x u q;rw[e] at z;cases z
  have SH:IA H (.ref r) H5:=by
   cases es with
   | nil=>exact absurd st.symm (Sy (by have:=W.m1;omega))
   | cons e es=>exact⟨r,e.2.1,_,rfl,non ID,C1,non (fr e FN)⟩
  refine hD _ _ (kk _ _ hK _ (Nw F3 H3 H5) _ ?_ SH)
  have sm:ax F3 (Nw F3 H3 H5):=Nw.same S3.sub
  refine⟨fun a o e => ?_,E3.same.trans sm,fun a o e => ?_,fun a o e _ t => ?_,pE,fun a ha => ?_,rfl,fun j ow e=>by simp at e,fun a ha=>by simp at ha,?_⟩
  ·unfold Nw at e
   cases q:H3 a with
   | none=>rw[q] at e;exact e
   | some u =>
    rw[q] at e
    have e:F3 a=some o:=e
    exact s6 _ _ (kp _ _ (S3.sub _ _ e) fun z=>by rw[z,SE] at e;cases e)
  ·unfold Nw at e
   cases q:H3 a with
   | none =>
    refine .inr ?_
    cases q0:H a with
    | none=>rfl
    | some u=>obtain⟨u',h'⟩:=E3.g_ a u q0;rw[q] at h';cases h'
   | some u =>
    rw[q] at e
    have e:F3 a=some o:=e
    rcases E3.new a o e with z | z | z
    ·exact .inl z
    ·exact .inr z
    ·exact absurd z (yG _)
  ·exact s6 _ _ (kp _ _ (E3.keep a o e (yG _) t) fun z=>by rw[z,v8] at e;cases e)
  ·obtain⟨ps,q⟩:=aD.tb S3.tab ha
   unfold Nw;rw[q];exact S3.nt a ha
  ·show Is (Nw F3 H3 H5) (.lst (((df fs m.toNat).map (·.2)).map aO)) _
   simp only[Is]
   refine⟨r,_,rfl,by unfold Nw;rw[ID];exact C1,?_⟩
   rw[<-st]
   have key:∀ xs:List Lt,(∀ e∈xs,e∈es)->af (Nw F3 H3 H5) (((strip xs).map (·.2)).map aO) ((d7 xs).map (·.2)):=by
    intro xs
    induction xs with
    | nil=>intro _;exact .nil
    | cons e xs ih =>
     intro h
     show af _ (aO e.2.2 :: _) (V.ref e.2.1 :: _)
     simp only[af]
     refine⟨_,_,rfl,?_,ih fun x hx=>h x (My _ hx)⟩
     have he:=h e FN
     show Is _ (.lst (e.2.2.map D.int)) _
     simp only[Is]
     refine⟨e.2.1,e.2.2.map V.int,rfl,by unfold Nw;rw[fr e he];exact s6 _ _ (L4.at_ e he),qO⟩
   exact key es fun _ h=>h
noncomputable def C2 (p q:Int) (fs:List Int):List Int:=fs.map fun x=>if x=p then q else x
theorem SI {p q x y:Int}:(if x=p then q else x)=(if y=p then q else y)↔x=y\/((x=p\/x=q)/\(y=p\/y=q)):=by
 by_cases h1:x=p<;>by_cases h2:y=p
 ·rw[XI h1,XI h2];constructor<;>intro h<;>omega
 ·rw[XI h1,Nj h2];constructor<;>intro h<;>omega
 ·rw[Nj h1,XI h2];constructor<;>intro h<;>omega
 ·rw[Nj h1,Nj h2];constructor<;>intro h<;>omega
theorem IE {f:Int->Int} {fs:List Int} {i:Nat} (h:i < fs.length):(fs.map f).getD i 0=f (fs.getD i 0):=by
 rw[FP,Ni,qo h,FP,qo h];rfl
theorem IF {a b:Int}:ay (.int a) (.int b)=decide (a=b):=by
 cases q:ay (.int a) (.int b)
 ·exact (Yz fun z=>by rw[z,gB] at q;cases q).symm
 ·simp only[ay] at q
  exact (Yk (Zd q)).symm
end LJ
namespace LJ
open PySem L2
noncomputable abbrev Wy:=Int × Int × Int
noncomputable def yL (S:Wy->Prop) (a b:Int):Prop:=∃ w,S w/\((w.1=a/\w.2.1=b)\/(w.1=b/\w.2.1=a))
inductive aY (S:Wy->Prop) (a:Int):Int->Prop
 | rf:aY S a a
 | st {b c:Int}:aY S a b->yL S b c->aY S a c
section
variable {S S':Wy->Prop} {a b c:Int}
theorem yL.symm (h:yL S a b):yL S b a:=let ⟨w,h1,h2⟩:=h; ⟨w,h1,h2.symm⟩
theorem aY.trans (h:aY S a b) (h':aY S b c):aY S a c:=by
 induction h' with
 | rf=>exact h
 | st _ e ih=>exact .st ih e
theorem aY.symm (h:aY S a b):aY S b a:=by
 induction h with
 | rf=>exact .rf
 | st _ e ih=>exact (aY.st .rf e.symm).trans ih
theorem aY.bind (h:aY S a b) (k:∀ w,S w->aY S' w.1 w.2.1):aY S' a b:=by
 induction h with
 | rf=>exact .rf
 | st _ e ih =>
  obtain⟨w,h1,h2⟩:=e
  rcases h2 with⟨rfl,rfl⟩ | ⟨rfl,rfl⟩
  ·exact ih.trans (k w h1)
  ·exact ih.trans (k w h1).symm
theorem aY.one {w:Wy} (h:S w):aY S w.1 w.2.1 := .st .rf ⟨w,h,.inl ⟨rfl,rfl⟩⟩
theorem aY.mono (h:aY S a b) (k:∀ w,S w->S' w):aY S' a b:=h.bind fun w hw => .one (k w hw)
theorem aY.none (h:aY S a b) (k:∀ w,¬ S w):a=b:=by
 cases h with
 | rf=>rfl
 | st _ e=>obtain⟨w,h1,_⟩:=e;exact absurd h1 (k w)
theorem aY.add {w:Wy} (k:∀ v,S' v↔S v\/v=w):aY S' a b↔aY S a b\/(aY S a w.1/\aY S w.2.1 b)\/(aY S a w.2.1/\aY S w.1 b):=by
 constructor
 ·intro h
  induction h with
  | rf=>exact .inl .rf
  | st _ e ih =>
   rename_i b c _
   obtain⟨v,h1,h2⟩:=e
   rcases (k v).mp h1 with h1 | rfl
   ·have e':aY S b c := .st .rf ⟨v,h1,h2⟩
    rcases ih with i | ⟨i,j⟩ | ⟨i,j⟩
    ·exact .inl (i.trans e')
    ·exact .inr (.inl ⟨i,j.trans e'⟩)
    ·exact .inr (.inr ⟨i,j.trans e'⟩)
   ·rcases h2 with⟨rfl,rfl⟩ | ⟨rfl,rfl⟩
    ·rcases ih with i | ⟨i,j⟩ | ⟨i,j⟩
     ·exact .inr (.inl ⟨i,.rf⟩)
     ·exact .inr (.inl ⟨i,.rf⟩)
     ·exact .inl i
    ·rcases ih with i | ⟨i,j⟩ | ⟨i,j⟩
     ·exact .inr (.inr ⟨i,.rf⟩)
     ·exact .inl i
     ·exact .inr (.inr ⟨i,.rf⟩)
 ·have up:∀ {x y},aY S x y->aY S' x y:=fun h=>h.mono fun v hv=>(k v).mpr (.inl hv)
  have o:aY S' w.1 w.2.1 := .one ((k w).mpr (.inr rfl))
  rintro (h | ⟨h,h'⟩ | ⟨h,h'⟩)
  ·exact up h
  ·exact ((up h).trans o).trans (up h')
  ·exact ((up h).trans o.symm).trans (up h')
end
variable [aD]
noncomputable def bu (n:Nat) (fs:List Int) (S:Wy->Prop):Prop:=fs.length=n/\∀ i j:Nat,i < n->j < n->(fs.getD i 0=fs.getD j 0↔aY S i j)
theorem IG {n i:Nat} (h:i < n):(ba n).getD i 0=i:=by
 unfold ba
 rw[FP,Ni,Ze h];rfl
theorem bu.start (n:Nat):bu n (ba n) (fun _=>False):=by
 refine⟨by unfold ba;simp,fun i j hi hj => ?_⟩
 rw[IG hi,IG hj]
 exact⟨fun e=>by rw[e];exact .rf,fun h=>h.none fun _ z=>z⟩
theorem bu.join {n i j:Nat} {fs:List Int} {S S':Wy->Prop} {w:Wy} {p q:Int} (h:bu n fs S) (hi:i < n) (hj:j < n) (e1:w.1=i) (e2:w.2.1=j) (k:∀ v,S' v↔S v\/v=w) (pq:(p=fs.getD i 0/\q=fs.getD j 0)\/(p=fs.getD j 0/\q=fs.getD i 0)):bu n (C2 p q fs) S':=by
 refine⟨by unfold C2;rw[qp,h.1],fun x y hx hy => ?_⟩
 unfold C2
 rw[IE (by rw[h.1];exact hx),IE (by rw[h.1];exact hy),SI,aY.add k,e1,e2,<-h.2 x y hx hy,<-h.2 x i hx hi,<-h.2 x j hx hj,<-h.2 j y hj hy,<-h.2 i y hi hy]
 rcases pq with⟨rfl,rfl⟩ | ⟨rfl,rfl⟩
 ·constructor
  ·rintro (h | ⟨h1 | h1,h2 | h2⟩)
   ·exact .inl h
   ·exact .inl (h1.trans h2.symm)
   ·exact .inr (.inl ⟨h1,h2.symm⟩)
   ·exact .inr (.inr ⟨h1,h2.symm⟩)
   ·exact .inl (h1.trans h2.symm)
  ·rintro (h | ⟨h1,h2⟩ | ⟨h1,h2⟩)
   ·exact .inl h
   ·exact .inr ⟨.inl h1,.inr h2.symm⟩
   ·exact .inr ⟨.inr h1,.inl h2.symm⟩
 ·constructor
  ·rintro (h | ⟨h1 | h1,h2 | h2⟩)
   ·exact .inl h
   ·exact .inl (h1.trans h2.symm)
   ·exact .inr (.inr ⟨h1,h2.symm⟩)
   ·exact .inr (.inl ⟨h1,h2.symm⟩)
   ·exact .inl (h1.trans h2.symm)
  ·rintro (h | ⟨h1,h2⟩ | ⟨h1,h2⟩)
   ·exact .inl h
   ·exact .inr ⟨.inr h1,.inl h2.symm⟩
   ·exact .inr ⟨.inl h1,.inr h2.symm⟩
noncomputable def br (ws:List Wy) (n:Int):Wy:=ws.getD n.toNat (0,0,0)
end LJ
namespace LJ
open PySem L2
variable [aD]
open Classical in
open Classical in
open Classical in
noncomputable def k3 (w:Wy):LK:=[w.1,w.2.1,w.2.2]
theorem s_ (n:Nat):(ba n).length=n:=by unfold ba;simp
structure Good (fs:List Int):Prop where
 le:∀ h:Nat,h < fs.length->0 <= fs.getD h 0/\fs.getD h 0 <= h
 own:∀ h:Nat,h < fs.length->fs.getD (fs.getD h 0).toNat 0=fs.getD h 0
theorem getD_at {fs:List Int} {h:Nat} (hl:h < fs.length):fs.getD h 0=fs[h]:=by rw[FP,qo hl];rfl
theorem SJ {fs:List Int} {i j h:Nat} (hl:h < fs.length):(gO fs i j).getD h 0=if fs.getD h 0=max (fs.getD i 0) (fs.getD j 0) then min (fs.getD i 0) (fs.getD j 0) else fs.getD h 0:=by
 rw[getD_at (by rw[vL];exact hl),getD_at hl]
 unfold gO
 rw[ZD]
theorem SK (n:Nat):Good (ba n):=by
 have e:∀ h:Nat,h < (ba n).length->(ba n).getD h 0=h:=fun h hl=>by
  rw[s_] at hl
  rw[ba,FP,Ni,Ze hl];rfl
 refine⟨fun h hl=>by rw[e h hl];omega,fun h hl => ?_⟩
 rw[e h hl,Yv,e h hl]
theorem Good.join {fs:List Int} (G:Good fs) {i j:Nat} (hi:i < fs.length) (hj:j < fs.length):Good (gO fs i j):=by
 have a1:=G.le i hi
 have a2:=G.le j hj
 have o1:=G.own i hi
 have o2:=G.own j hj
 generalize hg:max (fs.getD i 0) (fs.getD j 0)=g
 generalize hk:min (fs.getD i 0) (fs.getD j 0)=k
 have gk:0 <= k/\k <= g/\k.toNat < fs.length/\fs.getD k.toNat 0=k:=by
  rw[<-hg,<-hk]
  rcases Int.le_total (fs.getD i 0) (fs.getD j 0) with c | c
  ·rw[Int.min_eq_left c,Int.max_eq_right c];exact⟨a1.1,c,by omega,o1⟩
  ·rw[Int.min_eq_right c,Int.max_eq_left c];exact⟨a2.1,c,by omega,o2⟩
 have at_:∀ h,h < fs.length->(gO fs i j).getD h 0=if fs.getD h 0=g then k else fs.getD h 0:=fun h hl=>by rw[SJ hl,hg,hk]
 refine⟨fun h hl => ?_,fun h hl => ?_⟩
 ·rw[vL] at hl
  have:=G.le h hl
  rw[at_ h hl]
  split<;>omega
 ·rw[vL] at hl
  have b:=G.le h hl
  have c:=G.own h hl
  rw[at_ h hl]
  by_cases d:fs.getD h 0=g
  ·rw[XI d,at_ _ gk.2.2.1,gk.2.2.2]
   split<;>rfl
  ·rw[Nj d,at_ _ (by omega),c,Nj d]
theorem C3 {m:Int} {ws:List Wy} (W:dz m ws) {n:Int} (h0:0 <= n) (h1:n < (ws.length:Int)):∃ i k:Nat,dy ws n=(i,k)/\(br ws n).1=i/\(br ws n).2.1=k/\i < m.toNat/\k < m.toNat:=by
 obtain⟨y,ey,hy,_,i,k,e1,e2,h1,h2,_⟩:=sX W h0 h1
 refine⟨i,k,?_,by unfold br;rw[ey];exact e1,by unfold br;rw[ey];exact e2,h1,h2⟩
 unfold dy
 rw[ey,e1,e2,Yv,Yv]
theorem IH {m:Int} {ws:List Wy} (W:dz m ws):∀ (ns fs:List Int),Nums ws ns->fs.length=m.toNat->Good fs->Good (gm ws fs ns)
 | [],_,_,_,G=>G
 | n :: ns,fs,hn,hl,G=>by
  have b:=hn n (FN ..)
  obtain⟨i,k,e,_,_,h1,h2⟩:=C3 W b.1 b.2
  refine IH W ns _ (fun x hx=>hn x (My _ hx)) (by rw[vL];exact hl) ?_
  show Good (gO fs (dy ws n).1 (dy ws n).2)
  rw[e]
  exact G.join (by omega) (by omega)
theorem II {m:Int} {ws:List Wy} (W:dz m ws):∀ (ns fs:List Int) (S:Wy->Prop),Nums ws ns->bu m.toNat fs S->bu m.toNat (gm ws fs ns) (fun v=>S v\/∃ k∈ns,v=br ws k)
 | [],fs,S,_,h=>by
  have:(fun v=>S v\/∃ k∈([]:List Int),v=br ws k)=S:=funext fun v=>propext (by simp)
  rw[this];exact h
 | n :: ns,fs,S,hn,h=>by
  have b:=hn n (FN ..)
  obtain⟨i,k,e,e1,e2,h1,h2⟩:=C3 W b.1 b.2
  have step:bu m.toNat (gO fs i k) (fun v=>S v\/v=br ws n):=by
   refine bu.join (w:=br ws n) (p:=max (fs.getD i 0) (fs.getD k 0)) (q:=min (fs.getD i 0) (fs.getD k 0)) h h1 h2 e1 e2 (fun v=>Iff.rfl) ?_
   omega
  have:=II W ns _ _ (fun x hx=>hn x (My _ hx)) step
  have eq:(fun v=>(S v\/v=br ws n)\/∃ k∈ns,v=br ws k)=(fun v=>S v\/∃ k∈n :: ns,v=br ws k):=funext fun v=>propext (by
   constructor
   ·rintro ((h | h) | ⟨k,hk,h⟩)
    ·exact .inl h
    ·exact .inr ⟨n,FN,h⟩
    ·exact .inr ⟨k,My _ hk,h⟩
   ·rintro (h | ⟨k,hk,h⟩)
    ·exact .inl (.inl h)
    ·rcases Nh.mp hk with rfl | hk
     ·exact .inl (.inr h)
     ·exact .inr ⟨k,hk,h⟩)
  rw[eq] at this
  show bu _ (gm ws (gO fs (dy ws n).1 (dy ws n).2) ns) _
  rw[e]
  exact this
noncomputable def pF (ws:List Wy) (ns:List Int):Wy->Prop:=fun v=>∃ k∈ns,v=br ws k
theorem SM {m:Int} {ws:List Wy} (W:dz m ws) {ns:List Int} (hn:Nums ws ns):bu m.toNat (eZ m ws ns) (pF ws ns):=by
 have:=II W ns _ _ hn (bu.start m.toNat)
 have eq:(fun v=>False\/∃ k∈ns,v=br ws k)=pF ws ns:=funext fun v=>propext (by unfold pF;simp)
 rw[eq] at this
 exact this
theorem IJ {m:Int} {ws:List Wy} (W:dz m ws) {ns:List Int} (hn:Nums ws ns):Good (eZ m ws ns):=IH W ns _ hn (s_ _) (SK _)
noncomputable def bI (fs:List Int) (i:Nat) (x:Int):List Int:=((List.range i).filter fun h=>decide (fs.getD h 0=x)).map fun h:Nat=>(h:Int)
noncomputable def roots (fs:List Int) (i:Nat):List Nat:=(List.range i).filter fun h=>decide (fs.getD h 0=(h:Int))
theorem C4 {fs:List Int} (G:Good fs):∀ i,i <= fs.length->df fs i=(roots fs i).map fun r:Nat=>((r:Int),bI fs i (r:Int))
 | 0,_=>rfl
 | i + 1,hi=>by
  have ih:=C4 G i (by omega)
  have le:=G.le i (by omega)
  have own:=G.own i (by omega)
  show mJ (df fs i) (fs.getD i 0) i=_
  rw[ih]
  have keys:((roots fs i).map fun r:Nat=>((r:Int),bI fs i (r:Int))).map (·.1)=(roots fs i).map fun r:Nat=>(r:Int):=by rw[Ys];rfl
  have lM:∀ x,bI fs (i + 1) x=if fs.getD i 0=x then bI fs i x ++ [(i:Int)] else bI fs i x:=fun x=>by
   unfold bI
   rw[q1c,Z8]
   by_cases c:fs.getD i 0=x
   ·rw[XI c,Yw,List.filter_cons_of_pos (by simpa using c)];rfl
   ·rw[Nj c,List.filter_cons_of_neg (by simpa using c),List.filter_nil,ZM]
  have lN:∀ r,r∈roots fs i↔r < i/\fs.getD r 0=(r:Int):=fun r=>by
   unfold roots
   rw[YH,Yr,YB]
  unfold mJ
  rw[keys]
  by_cases c:fs.getD i 0=(i:Int)
  ·have no:fs.getD i 0∉(roots fs i).map fun r:Nat=>(r:Int):=fun z=>by
    obtain⟨r,hr,e⟩:=Nk.mp z
    have:=((lN r).mp hr).1
    omega
   rw[Nj no]
   have er:roots fs (i + 1)=roots fs i ++ [i]:=by
    unfold roots
    rw[q1c,Z8,List.filter_cons_of_pos (by simpa using c)];rfl
   rw[er,Yw]
   congr 1
   ·refine YJ fun r hr => ?_
    have:=((lN r).mp hr).1
    rw[lM,Nj (by omega)]
   ·show [(fs.getD i 0,[(i:Int)])]=[((i:Int),bI fs (i + 1) i)]
    rw[lM,XI c,c]
    have:bI fs i (i:Int)=[]:=by
     unfold bI
     rw[List.filter_eq_nil_iff.mpr fun h hh => ?_]
     ·rfl
     ·have h1:=Yr.mp hh
      have:=G.le h (by omega)
      rw[YB]
      omega
    rw[this];rfl
  ·obtain⟨x,ex⟩:∃ x:Nat,fs.getD i 0=x:=⟨(fs.getD i 0).toNat,by omega⟩
   rw[ex] at own le c ⊢
   rw[Yv] at own
   have hx:x∈roots fs i:=(lN x).mpr ⟨by omega,own⟩
   rw[XI (Nk.mpr ⟨x,hx,rfl⟩)]
   have er:roots fs (i + 1)=roots fs i:=by
    unfold roots
    rw[q1c,Z8,List.filter_cons_of_neg (by rw[ex];simpa using c),List.filter_nil,ZM]
   rw[er,Ys]
   refine YJ fun r hr => ?_
   show (if (r:Int)=(x:Int) then ((r:Int),bI fs i r ++ [(i:Int)]) else ((r:Int),bI fs i r))=((r:Int),bI fs (i + 1) r)
   rw[lM,ex]
   by_cases d:(r:Int)=(x:Int)
   ·rw[XI d,XI d.symm]
   ·rw[Nj d,Nj (ZV d)]
theorem yM:∀ {a b:List Int},a.Pairwise (· < ·)->b.Pairwise (· < ·)->(∀ x,x∈a↔x∈b)->a=b
 | [],[],_,_,_=>rfl
 | [],y :: _,_,_,h=>absurd ((h y).mpr (FN ..)) (by simp)
 | x :: _,[],_,_,h=>absurd ((h x).mp (FN ..)) (by simp)
 | x :: a,y :: b,ha,hb,h=>by
  obtain⟨h1,h2⟩:=Y9.mp ha
  obtain⟨h3,h4⟩:=Y9.mp hb
  have SN:x=y:=by
   rcases Nh.mp ((h x).mp (FN ..)) with e | e
   ·exact e
   ·rcases Nh.mp ((h y).mpr (FN ..)) with e' | e'
    ·exact e'.symm
    ·have:=h3 x e
     have:=h1 y e'
     omega
  subst SN
  rw[yM h2 h4 fun z => ?_]
  constructor
  ·intro hz
   rcases Nh.mp ((h z).mp (My _ hz)) with e | e
   ·have:=h1 z hz;omega
   ·exact e
  ·intro hz
   rcases Nh.mp ((h z).mpr (My _ hz)) with e | e
   ·have:=h3 z hz;omega
   ·exact e
theorem SO {fs:List Int} (G:Good fs) {S:List Int} (up:S.Pairwise (· < ·)) (mem:∀ x,x∈S↔x∈fs):S=(roots fs fs.length).map fun r:Nat=>(r:Int):=by
 refine yM up ?_ fun x => ?_
 ·refine Zi.mpr ?_
  unfold roots
  exact ((Zq (n:=fs.length)).filter _).imp fun h=>by omega
 ·rw[mem]
  constructor
  ·intro h
   obtain⟨i,hi,e⟩:=YG.mp h
   have e':fs.getD i 0=x:=by rw[getD_at hi,e]
   have le:=G.le i hi
   have own:=G.own i hi
   rw[e'] at le own
   refine Nk.mpr ⟨x.toNat,?_,by omega⟩
   unfold roots
   rw[YH,Yr,YB,own]
   omega
  ·intro h
   obtain⟨r,hr,rfl⟩:=Nk.mp h
   unfold roots at hr
   rw[YH,Yr,YB] at hr
   rw[<-hr.2,getD_at hr.1]
   exact ZQ hr.1
theorem SQ {fs:List Int} (G:Good fs) {S:List Int} (up:S.Pairwise (· < ·)) (mem:∀ x,x∈S↔x∈fs):(df fs fs.length).map (·.2)=S.map fun x=>bI fs fs.length x:=by
 rw[C4 G fs.length (qq _),SO G up mem,Ys,Ys]
 rfl
open Classical in
noncomputable def cls (n:Nat) (S:Wy->Prop) (h:Int):List Int:=(ba n).filter fun x=>decide (aY S h x)
theorem e8 {n:Nat} {x:Int}:x∈ba n↔0 <= x/\x < n:=by
 unfold ba
 constructor
 ·intro h
  obtain⟨k,hk,rfl⟩:=Nk.mp h
  have:=Yr.mp hk
  omega
 ·intro h
  exact Nk.mpr ⟨x.toNat,Yr.mpr (by omega),by omega⟩
theorem IK (n:Nat):(ba n).Pairwise (· < ·):=by
 unfold ba
 exact Zi.mpr ((Zq (n:=n)).imp fun h=>by omega)
open Classical in
theorem bw {n:Nat} {S:Wy->Prop} {h x:Int}:x∈cls n S h↔(0 <= x/\x < n)/\aY S h x:=by
 unfold cls
 rw[YH,e8,YB]
open Classical in
theorem yN (n:Nat) (S:Wy->Prop) (h:Int):(cls n S h).Pairwise (· < ·):=(IK n).filter _
structure wc (n:Nat) (S:Wy->Prop) (L:List (List Int)):Prop where
 nd:L.Nodup
 mem:∀ l,l∈L↔∃ h:Int,(0 <= h/\h < n)/\l=cls n S h
theorem IL {n:Nat} {S:Wy->Prop} {a b:Int} (h:aY S a b):cls n S a=cls n S b :=
 yM (yN _ _ _) (yN _ _ _) fun x=>by
  rw[bw,bw]
  exact⟨fun ⟨h1,h2⟩=>⟨h1,h.symm.trans h2⟩,fun ⟨h1,h2⟩=>⟨h1,h.trans h2⟩⟩
theorem IM {n:Nat} {S:Wy->Prop} {a:Int} (h:0 <= a/\a < n):a∈cls n S a:=bw.mpr ⟨h,.rf⟩
theorem SS {x y:Int} {xs ys:List Int} (h:x < y):kle (x :: xs) (y :: ys):=by
 unfold kle
 rw[HT.m_,Nj (by omega)]
 exact Yz (by omega)
theorem IP {n:Nat} {fs:List Int} {S:Wy->Prop} (M:bu n fs S) {r:Nat} (hr:r < n) (e:fs.getD r 0=r):bI fs n r=cls n S r:=by
 refine yM ?_ (yN _ _ _) fun x => ?_
 ·unfold bI
  exact Zi.mpr (((Zq (n:=n)).filter _).imp fun h=>by omega)
 ·rw[bw]
  unfold bI
  constructor
  ·intro h
   obtain⟨k,hk,rfl⟩:=Nk.mp h
   rw[YH,Yr,YB] at hk
   exact⟨by omega,(M.2 r k hr hk.1).mp (by rw[e,hk.2])⟩
  ·rintro ⟨⟨h0,h1⟩,hc⟩
   obtain⟨k,rfl⟩:∃ k:Nat,x=k:=⟨x.toNat,by omega⟩
   refine Nk.mpr ⟨k,?_,rfl⟩
   rw[YH,Yr,YB]
   have:=(M.2 r k hr (by omega)).mpr hc
   exact⟨by omega,by rw[<-this,e]⟩
noncomputable def rJ (fs:List Int) (n:Nat):List (List Int):=(roots fs n).map fun r:Nat=>bI fs n (r:Int)
theorem SU {fs:List Int} (G:Good fs):(df fs fs.length).map (·.2)=rJ fs fs.length:=by
 rw[C4 G fs.length (qq _),Ys];rfl
theorem yO {n:Nat} {fs:List Int} (G:Good fs) (hl:fs.length=n) {r:Nat} (hr:r < n) (e:fs.getD r 0=r):∃ t,bI fs n r=(r:Int) :: t:=by
 have mem:(r:Int)∈bI fs n r:=by
  unfold bI
  refine Nk.mpr ⟨r,?_,rfl⟩
  rw[YH,Yr,YB]
  exact⟨hr,e⟩
 have up:(bI fs n r).Pairwise (· < ·):=by
  unfold bI
  exact Zi.mpr (((Zq (n:=n)).filter _).imp fun h=>by omega)
 cases q:bI fs n r with
 | nil=>rw[q] at mem;simp at mem
 | cons x t =>
  refine⟨t,?_⟩
  have hx:x∈bI fs n r:=by rw[q];exact FN
  unfold bI at hx
  obtain⟨k,hk,rfl⟩:=Nk.mp hx
  rw[YH,Yr,YB] at hk
  have l:=G.le k (by omega)
  rw[hk.2] at l
  rw[q] at mem up
  rcases Nh.mp mem with z | z
  ·rw[z]
  ·have:=(Y9.mp up).1 _ z
   omega
theorem SV {fs:List Int} (G:Good fs):(rJ fs fs.length).Pairwise kle:=by
 unfold rJ
 refine Zi.mpr ?_
 have:(roots fs fs.length).Pairwise fun a b=>a < b/\(a < fs.length/\fs.getD a 0=a)/\b < fs.length/\fs.getD b 0=b:=by
  have h1:(roots fs fs.length).Pairwise (· < ·):=(Zq (n:=fs.length)).filter _
  have hm:∀ a∈roots fs fs.length,a < fs.length/\fs.getD a 0=a:=fun a ha=>by
   unfold roots at ha
   rw[YH,Yr,YB] at ha
   exact ha
  exact h1.imp_of_mem fun ha hb h=>⟨h,hm _ ha,hm _ hb⟩
 refine this.imp fun {a b} h => ?_
 obtain⟨t,e⟩:=yO G rfl h.2.1.1 h.2.1.2
 obtain⟨u,e'⟩:=yO G rfl h.2.2.1 h.2.2.2
 rw[e,e']
 exact SS (by omega)
theorem SW {n:Nat} {fs:List Int} {S:Wy->Prop} (G:Good fs) (M:bu n fs S):wc n S (rJ fs n):=by
 have hl:=M.1
 have hm:∀ a∈roots fs n,a < n/\fs.getD a 0=a:=fun a ha=>by
  unfold roots at ha
  rw[YH,Yr,YB] at ha
  exact ha
 refine⟨?_,fun l => ?_⟩
 ·unfold rJ
  refine Zi.mpr ?_
  have h1:(roots fs n).Pairwise (· < ·):=(Zq (n:=n)).filter _
  refine h1.imp_of_mem fun {a b} ha hb h z => ?_
  obtain⟨t,e⟩:=yO G hl (hm a ha).1 (hm a ha).2
  obtain⟨u,e'⟩:=yO G hl (hm b hb).1 (hm b hb).2
  rw[e,e'] at z
  have:=(q09 z).1
  omega
 ·unfold rJ
  constructor
  ·intro h
   obtain⟨r,hr,rfl⟩:=Nk.mp h
   obtain⟨h1,h2⟩:=hm r hr
   exact⟨r,by omega,IP M h1 h2⟩
  ·rintro ⟨h,hh,rfl⟩
   obtain⟨k,rfl⟩:∃ k:Nat,h=k:=⟨h.toNat,by omega⟩
   have le:=G.le k (by omega)
   have own:=G.own k (by omega)
   obtain⟨r,er⟩:∃ r:Nat,fs.getD k 0=r:=⟨(fs.getD k 0).toNat,by omega⟩
   rw[er] at le own
   rw[Yv] at own
   refine Nk.mpr ⟨r,?_,?_⟩
   ·unfold roots
    rw[YH,Yr,YB]
    exact⟨by omega,own⟩
   ·rw[IP M (by omega) own]
    exact IL ((M.2 r k (by omega) (by omega)).mp (by rw[own,er]))
noncomputable def dH (m:Int) (ws:List Wy) (ns:List Int):List (List Int):=(df (eZ m ws ns) m.toNat).map (·.2)
theorem IQ {m:Int} {ws:List Wy} (W:dz m ws) {ns:List Int} (hn:Nums ws ns):wc m.toNat (pF ws ns) (dH m ws ns)/\(dH m ws ns).Pairwise kle:=by
 have M:=SM W hn
 have G:=IJ W hn
 have e:dH m ws ns=rJ (eZ m ws ns) m.toNat:=by
  unfold dH
  have:=SU G
  rw[M.1] at this
  exact this
 rw[e]
 refine⟨SW G M,?_⟩
 have:=SV G
 rw[M.1] at this
 exact this
theorem SX {n:Nat} {S:Wy->Prop} {L:List (List Int)} (h:wc n S L) {l l':List Int} {x:Int} (hl:l∈L) (ic:l'∈L) (hx:x∈l) (iN:x∈l'):l=l':=by
 obtain⟨a,_,rfl⟩:=(h.mem l).mp hl
 obtain⟨b,_,rfl⟩:=(h.mem l').mp ic
 exact IL ((bw.mp hx).2.trans (bw.mp iN).2.symm)
theorem IS {n:Nat} {S:Wy->Prop}:∀ {L L0:List (List Int)},wc n S L0->(∀ l∈L,l∈L0)->L.Nodup->L.flatten.Nodup
 | [],_,_,_,_=>Zu
 | l :: L,L0,h,hs,nd=>by
  rw[ZK,Y3]
  rw[q0m] at nd
  refine⟨?_,IS h (fun x hx=>hs x (My _ hx)) nd.2,fun x hx y hy e => ?_⟩
  ·obtain⟨a,_,rfl⟩:=(h.mem l).mp (hs l FN)
   exact (yN _ _ _).imp fun h=>by omega
  ·subst e
   obtain⟨l',h1,h2⟩:=List.mem_flatten.mp hy
   exact nd.1 (by rw[SX h (hs l FN) (hs l' (My _ h1)) hx h2];exact h1)
theorem SY {l:List Int} (h:l.Pairwise (· < ·)):l.Nodup:=h.imp fun h=>by omega
theorem S7 {xs ys:List Int} (nd:xs.Nodup) (up:ys.Pairwise (· < ·)) (h:∀ x,x∈xs↔x∈ys):sortI xs=ys :=
 (xX ((List.perm_ext_iff_of_nodup (SY up) nd).mpr fun x=>(h x).symm) (up.imp fun h=>by omega)).symm
theorem S8 {n:Nat} {S:Wy->Prop} {L:List (List Int)} (h:wc n S L):sortI L.flatten=ba n:=by
 refine S7 (IS h (fun _ hx=>hx) h.nd) (IK n) fun x => ?_
 rw[List.mem_flatten,e8]
 constructor
 ·rintro ⟨l,hl,hx⟩
  obtain⟨a,_,rfl⟩:=(h.mem l).mp hl
  exact (bw.mp hx).1
 ·intro hx
  exact⟨_,(h.mem _).mpr ⟨x,hx,rfl⟩,IM hx⟩
theorem IT:∀ a b:List Int,cv (a.map D.int) (b.map D.int)=decide (a=b)
 | [],[]=>by simp[cv]
 | [],_ :: _=>by simp[cv]
 | _ :: _,[]=>by simp[cv]
 | x :: a,y :: b=>by
  rw[Yt,Yt]
  simp only[cv]
  rw[IF,IT a b]
  by_cases e:x=y<;>by_cases e2:a=b<;>simp[e,e2]
theorem tj:∀ us:List Int,a_ (us.map D.int)=0
 | []=>by simp[a_]
 | u :: r=>by rw[Yt];simp only[a_,dep];rw[tj r];rfl
theorem C5:∀ ls:List (List Int),a_ (ls.map aO) <= 1
 | []=>by simp[a_]
 | l :: r=>by
  rw[Yt]
  have h1:=C5 r
  have h2:=tj l
  simp only[a_,dep,aO]
  omega
theorem yP (l:List Int) (x:Int):((l.map D.int).any fun e=>ay e (.int x))=decide (x∈l):=by
 rw[List.any_map]
 cases q:decide (x∈l) with
 | true=>exact List.any_eq_true.mpr ⟨x,Zt q,gB _⟩
 | false =>
  refine Z0.mpr fun y hy => ?_
  show ¬ ay (.int y) (.int x)=true
  rw[IF]
  intro z
  have:=Zt z
  subst this
  exact q1m q hy
theorem S9 (L:List (List Int)):dep (jx L) <= 60:=by
 have:=C5 L
 unfold jx
 simp only[dep]
 omega
theorem IU {m:Int} {ws:List Wy} (W:dz m ws) {ns:List Int} (hn:Nums ws ns):(dH m ws ns).length <= 12/\(dH m ws ns).flatten.length <= 12:=by
 have ki:=W.ki
 obtain⟨h,_⟩:=IQ W hn
 have e:=S8 h
 have fl:(dH m ws ns).flatten.length=m.toNat:=by
  have:=Bv (dH m ws ns).flatten
  rw[e,s_] at this
  exact this.symm
 refine⟨?_,by omega⟩
 have key:∀ L:List (List Int),(∀ l∈L,l≠[])->L.length <= L.flatten.length:=by
  intro L
  induction L with
  | nil=>intro _;simp
  | cons l r ih =>
   intro h
   have h1:=ih fun x hx=>h x (My _ hx)
   have h2:l≠[]:=h l FN
   have h3:0 < l.length:=q1j.mpr h2
   rw[ZK,Aw,FL];omega
 have:=key (dH m ws ns) fun l hl=>by
  obtain⟨a,ha,rfl⟩:=(h.mem l).mp hl
  exact List.ne_nil_of_mem (IM ha)
 omega
end LJ
namespace L2
open PySem PySem.Spec PyProof.Rows PySem.W
theorem S_ (a v d:Value):argsOk "min" ⟨[a],[(Str.ofString "key",v),(Str.ofString "default",d)]⟩:=by unfold argsOk;kernel_rfl
section
variable {X:Cx} {pins:List (Addr × Obj)} {σ : St} {H:Hp} {s:Shared} {E:Value->Shared->Prop} {l q I S:Addr} {P:List V->Hp->Prop} {xs:List V} {d:Value} {R:Result->Shared->Prop}
noncomputable def Ta (kf:Nat->LK) (xs kvs:List V) (mK:Array Value):Prop :=
 (kvs=[]/\mK = #[])\/∃ (b:Nat) (x:V) (vb:Value) (t:Addr),b < kvs.length/\xs[b]? = some x/\RelV x vb/\kvs[b]? = some (.ref t)/\mK = #[vb,.ref t]/\∀ j,j < kvs.length->kle (kf b) (kf j)
theorem Tb (kf:Nat->LK) (hh:X.A.handled=none) (hu:X.A.units + 1 < cLine) (wd:l≠I) (we:S≠I) (fI:∀ H',H' I=none->bq X pins H' I) (fS:∀ H',H' S=none->bq X pins H' S)
  (hl:∀ kvs H',P kvs H'->H' l=some (.lst xs)) (hP:∀ kvs H',P kvs H'->∀ i,i < kvs.length->∃ t,kvs[i]? = some (.ref t)/\H' t=some (.tup ((kf i).map V.int)))
  (rK:∀ (dM:List (Addr × Obj)) (x:V) (u:Value) (kvs:List V) (H':Hp) (s':Shared),xs[kvs.length]? = some x->RelV x u->Inv X dM σ H' s'->P kvs H'->wpAny (model X.prog X.w) X.A.in1 (call (.ref q) [u]) (EP X dM σ fun k kj=>P (kvs ++ [k]) kj) (fun _ _=>False) s')
  (fin:∀ kvs H' s',kvs.length=xs.length->P kvs H'->Inv X pins σ H' s'->(xs=[]->R (.ok (.ret d)) s')/\∀ (b:Nat) (x:V) (u:Value),xs[b]? = some x->RelV x u->(∀ j,j < xs.length->kle (kf b) (kf j))->R (.ok (.ret u)) s') :
  ∀ (r:Nat) (kvs:List V) (H':Hp) (s':Shared) (mK:Array Value) (c:Nat) (oI:Obj),kvs.length + r=xs.length->Inv X ((S,seqObj "list" mK c) :: (I,oI) :: pins) σ H' s'->P kvs H'->oI.cls = .type "list_iterator" -> oI.data = .fields #[.ref l,.int kvs.length 0]->Ta kf xs kvs mK →
   codeAny (model X.prog X.w) X.A (.builtin "min.loop" ⟨[.ref I,.ref q,.ref S],[(Str.ofString "default",d)]⟩) R s':=by
 have iJ:(toString "min" ++ toString ".loop" : String) = "min.loop" := by decide
 intro r
 induction r with
 | zero =>
  intro kvs H' s' mK c oI hr J pk rZ C6 hb
  have pS:=J.pin (S,seqObj "list" mK c) (Yq _ (.head _))
  have pI:=J.pin (I,oI) (Yq _ (.tail _ (.head _)))
  have Jn:=J.e7.e7
  obtain⟨ag,rv,pl,_⟩:=Jn.list (aU.of (hl kvs H' pk))
  have lv:ag.length=xs.length:=rv.length.symm
  have Tc:kvs.length=ag.length:=by omega
  refine Zl PySem.F.entry_min_loop ?_
  rw[Y5 ZL _]
  show wpAny _ X.A.in1 (seqItems? (.ref S) >>= _) _ _ _
  refine nq (q0u pS.1 rfl ?_)
  show wpAny _ X.A.in1 (tryCatch (pyNext (.ref I)) _ >>= _) _ _ _
  have W:=q1o (prog:=X.prog) (w:=X.w) (A:=X.A.in1) hh I l wd ag.toArray
  refine nq (q1u (W.done _ _ _ ⟨⟨oI,pI.1,rZ,by rw[C6,xb,<-Tc]⟩,PlainL.isList pl⟩ fun h' lY jS => ?_))
  have J1:Inv X pins σ H' { s' with heap:=h',toks:=lY }:=Jn.gP (fI H' pI.2.1) fun c o n e=>jS c o (by simpa using n) e
  have rX:=jS S _ (by simpa using we) pS.1
  rcases hb with⟨oU,rfl⟩ | ⟨b,x,vb,t,hb,hx,rx,ht,rfl,best⟩
  ·refine nq (q1S (xa ?_))
   refine (fin kvs H' _ (by omega) pk J1).1 ?_
   cases xs with
   | nil=>rfl
   | cons _ _=>rw[oU] at hr;simp at hr
  ·have s1:=YM h' S (Obj.mapSeq fun _=>(#[]:Array Value))
   show wpAny _ X.A.in1 (updateSeq S (fun _ => #[]) >>= _) _ _ _
   refine nq (q0G rX rfl (nq (wpAny_letGo (xa ?_))))
   exact (fin kvs H' _ (by omega) pk (J1.gP (fS H' pS.2.1) fun c o n e=>(s1.2 c n).trans e)).2 b x vb hx rx fun j hj=>best j (by omega)
 | succ r ih =>
  intro kvs H' s' mK c oI hr J pk rZ C6 hb
  have pS:=J.pin (S,seqObj "list" mK c) (Yq _ (.head _))
  have pI:=J.pin (I,oI) (Yq _ (.tail _ (.head _)))
  have Jn:=J.e7.e7
  obtain⟨ag,rv,pl,_⟩:=Jn.list (aU.of (hl kvs H' pk))
  have lv:ag.length=xs.length:=rv.length.symm
  have cQ:kvs.length < ag.length:=by omega
  refine Zl PySem.F.entry_min_loop ?_
  rw[Y5 ZL _]
  show wpAny _ X.A.in1 (seqItems? (.ref S) >>= _) _ _ _
  refine nq (q0u pS.1 rfl ?_)
  show wpAny _ X.A.in1 (tryCatch (pyNext (.ref I)) _ >>= _) _ _ _
  have W:=q1o (prog:=X.prog) (w:=X.w) (A:=X.A.in1) hh I l wd ag.toArray
  refine nq (q1u (W.item kvs.length _ _ _ (by rw[xb];exact cQ) ⟨⟨oI,pI.1,rZ,C6⟩,PlainL.isList pl⟩ fun v h' lY hv C7 jS => ?_))
  have hv:ag[kvs.length]? = some v:=by simpa using hv
  obtain⟨rL,C8,wg,wj⟩:=id C7.1
  have hi:kvs.length < xs.length:=by omega
  obtain⟨u,e1,rx⟩:=rv.get (qo hi)
  rw[hv] at e1
  cases e1
  have hx:=qo hi
  generalize xs[kvs.length]=x at hx rx
  have rX:=jS S _ (by simpa using we) pS.1
  have nI:∀ z,rL.data ≠ .cell z:=fun z e=>by rw[wj] at e;cases e
  have J1:Inv X pins σ H' { s' with heap:=h',toks:=lY }:=Jn.gP (fI H' pI.2.1) fun c o n e=>jS c o (by simpa using n) e
  have J2:=(J1.jX (fI H' pI.2.1) C8 nI).jX ((fS H' pS.2.1).cons (p:=(I,rL)) we.symm) rX CB
  show wpAny _ X.A.in1 (tryCatch (holding [v] (call (.ref q) [v])) _ >>= _) _ _ _
  refine nq (q1u (YE (Z3 (rK _ x v kvs H' _ hx rx J2 pk) (fun kv s2 he => ?_) fun _ _ hF=>hF.elim)))
  obtain⟨kx,H2,J3,rk,yQ⟩:=he
  obtain⟨t2,et,jK⟩:=hP _ H2 yQ kvs.length (by rw[Aw];exact Y0 _)
  have ek:kx = .ref t2:=by
   rw[Yi (qq _),YZ] at et
   simpa using et
  subst ek
  cases rk
  have qS:=J3.pin (S,seqObj "list" mK c) (Yq _ (.head _))
  have qI:=J3.pin (I,rL) (Yq _ (.tail _ (.head _)))
  have Jm:=J3.e7.e7
  have IV:(kvs ++ [V.ref t2]).length + r=xs.length:=by rw[Aw,Yu];omega
  have wk:rL.data = .fields #[.ref l,.int ((kvs ++ [V.ref t2]).length:Nat) 0]:=by rw[wj,Aw];rfl
  have put:∀ (b:Nat),b < kvs.length + 1->b=kvs.length->(∀ j,j < kvs.length + 1->kle (kf b) (kf j))->codeAny (model X.prog X.w) X.A (.builtin "min.loop" ⟨[.ref I,.ref q,.ref S],[(Str.ofString "default",d)]⟩) R { s2 with heap:=s2.heap.update S (Obj.mapSeq fun _ => #[v,.ref t2]) }:=fun b hb eb best=>by
   subst eb
   have s1:=YM s2.heap S (Obj.mapSeq fun _ => #[v,Value.ref t2])
   obtain⟨c2,j9⟩:∃ c2,(s2.heap.update S (Obj.mapSeq fun _ => #[v,Value.ref t2])).get? S=some (seqObj "list" #[v,.ref t2] c2):=⟨_,get?_update_seq qS.1 fun _ => #[v,Value.ref t2]⟩
   have J4:Inv X pins σ H2 { s2 with heap:=s2.heap.update S (Obj.mapSeq fun _ => #[v,Value.ref t2]) }:=Jm.gP (t':=s2.toks) (fS H2 qS.2.1) fun c o n e=>(s1.2 c n).trans e
   have J5:=(J4.jX (fI H2 qI.2.1) ((s1.2 I we.symm).trans qI.1) nI).jX ((fS H2 qS.2.1).cons (p:=(I,rL)) we.symm) j9 CB
   refine ih _ H2 _ _ c2 rL IV J5 yQ wg wk (.inr ⟨kvs.length,x,v,t2,by rw[Aw];exact Y0 _,hx,rx,et,rfl,fun j hj=>best j (by rw[Aw] at hj;exact hj)⟩)
  rcases hb with⟨oU,rfl⟩ | ⟨b,y,vb,t,hb,hy,ry,ht,rfl,best⟩
  ·show wpAny _ X.A.in1 (updateSeq S (fun _ => #[v,.ref t2]) >>= _) _ _ _
   refine nq (q0G qS.1 rfl ?_)
   rw[iJ]
   refine xa ⟨ZT ZL _,put kvs.length (Y0 _) rfl fun j hj => ?_⟩
   rw[oU] at hj ⊢
   have:j=0:=by simp at hj;omega
   subst this
   exact kle_refl _
  ·obtain⟨t',IW,Td⟩:=hP _ H2 yQ b (by rw[Aw];omega)
   rw[XO hb,ht] at IW
   cases IW
   obtain⟨i1,r1,Te,_⟩:=Jm.tuple (bC.of jK)
   obtain⟨i2,r2,Tf,_⟩:=Jm.tuple (bC.of Td)
   show wpAny _ X.A.in1 (tryCatch (holding [v,.ref t2] (richCompare .Lt (.ref t2) (.ref t) >>= _)) _ >>= _) _ _ _
   refine nq (q1u (YE (nq ?_)))
   refine HT.Ae (ns:=kf kvs.length) (ms:=kf b) Te Tf (by simpa using intsAre_of r1) (by simpa using intsAre_of r2) hu ?_
   refine nq (YE (ZJ ?_))
   refine nq (wpAny_letGo (xa ?_))
   cases hq:HT.lexLt (kf kvs.length) (kf b) with
   | true =>
    simp only[Z9]
    refine nq (q0G qS.1 rfl (nq (wpAny_letGo ?_)))
    rw[iJ]
    refine xa ⟨ZT ZL _,put kvs.length (Y0 _) rfl fun j hj => ?_⟩
    by_cases e:j=kvs.length
    ·subst e;exact kle_refl _
    ·exact kle_trans (sR hq) (best j (by omega))
   | false =>
    simp only[Ym,Y1]
    refine nq (wpAny_letGo ?_)
    rw[iJ]
    refine xa ⟨ZT ZL _,ih _ H2 _ _ c rL IV J3 yQ wg wk (.inr ⟨b,y,vb,t,by rw[Aw];omega,hy,ry,by rw[XO hb];exact ht,rfl,fun j hj => ?_⟩)⟩
    by_cases e:j=kvs.length
    ·subst e;exact hq
    ·exact best j (by rw[Aw,Yu] at hj;omega)
theorem Tg {Q:Value->Shared->Prop} (kf:Nat->LK) (J:Inv X pins σ H s) (hh:X.A.handled=none) (hu:X.A.units + 1 < cLine) (p0:P [] H)
  (hl:∀ kvs H',P kvs H'->H' l=some (.lst xs)) (hP:∀ kvs H',P kvs H'->∀ i,i < kvs.length->∃ t,kvs[i]? = some (.ref t)/\H' t=some (.tup ((kf i).map V.int)))
  (rK:∀ (dM:List (Addr × Obj)) (x:V) (u:Value) (kvs:List V) (H':Hp) (s':Shared),xs[kvs.length]? = some x->RelV x u->Inv X dM σ H' s'->P kvs H'->wpAny (model X.prog X.w) X.A.in1 (call (.ref q) [u]) (EP X dM σ fun k kj=>P (kvs ++ [k]) kj) (fun _ _=>False) s')
  (fin:∀ kvs H' s',kvs.length=xs.length->P kvs H'->Inv X pins σ H' s'->(xs=[]->Q d s')/\∀ (b:Nat) (x:V) (u:Value),xs[b]? = some x->RelV x u->(∀ j,j < xs.length->kle (kf b) (kf j))->Q u s') :
  wpAny (model X.prog X.w) X.A (call (.builtin "min") [.ref l] [(Str.ofString "key",.ref q),(Str.ofString "default",d)]) Q E s:=by
 have iJ:(toString "min" ++ toString ".loop" : String) = "min.loop" := by decide
 obtain⟨ag,rv,pl,_⟩:=J.list (aU.of (hl _ _ p0))
 have xN:=PlainL.lt pl
 refine kmk_tree PySem.F.kind_min PySem.F.plain_min PySem.F.entry_min (S_ _ _ _) ?_
 show wpAny _ X.A.in1 (Builtin.Builtins.bindParams "min" ["key", "default"] 0 ⟨[],[(Str.ofString "key",.ref q),(Str.ofString "default",d)]⟩ >>= _) _ _ s
 refine nq (wpAny_of_eq (show Builtin.Builtins.bindParams "min" ["key", "default"] 0 ⟨[],[(Str.ofString "key",.ref q),(Str.ofString "default",d)]⟩=pure [some (.ref q),some d] from rfl) ?_)
 refine nq (xa ?_)
 refine nq (q0d (PlainL.isList pl) ?_)
 refine nq (q1G ?_ (YK _))
 rw[iJ]
 refine xa ⟨ZT ZL _,?_⟩
 have J1:Inv X pins σ H { s with heap:=s.heap.push { cls := .type "list_iterator",data := .fields #[.ref l,.int 0 0] } }:=J.kept (h':=s.heap.push { cls := .type "list_iterator",data := .fields #[.ref l,.int 0 0] }) (t':=s.toks) fun b u e=>ue _ e
 have gI:(s.heap.push { cls := .type "list_iterator",data := .fields #[.ref l,.int 0 0] }).get? s.heap.objs.size=some { cls := .type "list_iterator",data := .fields #[.ref l,.int 0 0] }:=XJ _ rfl
 have hS:(s.heap.push { cls := .type "list_iterator",data := .fields #[.ref l,.int 0 0] }).objs.size≠s.heap.objs.size:=fun z=>ZE _ (Nat.lt_of_lt_of_eq (Ng gI) z)
 have fI:∀ H',H' s.heap.objs.size=none->bq X pins H' s.heap.objs.size:=fun H' e=>J.gZ (qq _) e
 have IX:H s.heap.objs.size=none:=J.aK.fresh (qq _)
 have wd:l≠s.heap.objs.size:=XN xN
 generalize s.heap.objs.size=I at gI hS fI IX wd
 generalize s.heap.push { cls := .type "list_iterator",data := .fields #[.ref l,.int 0 0] }=g1 at J1 gI hS
 have fS:∀ H',H' g1.objs.size=none->bq X pins H' g1.objs.size:=fun H' e=>J1.gZ (qq _) e
 have Th:H g1.objs.size=none:=J1.aK.fresh (qq _)
 have J2:Inv X pins σ H { s with heap:=g1.push (seqObj "list" #[] 0) }:=J1.kept (h':=g1.push (seqObj "list" #[] 0)) (t':=s.toks) fun b u e=>ue _ e
 have J3:=(J2.jX (fI H IX) (ue _ gI) (fun z e=>by cases e)).jX ((fS H Th).cons (p:=(I,_)) hS.symm) (XJ _ rfl) CB
 exact Tb kf hh hu wd hS fI fS hl hP rK fin xs.length [] H _ #[] 0 _ (by simp) J3 p0 rfl rfl (.inl ⟨rfl,rfl⟩)
end
variable [aD]
noncomputable def yR (cp:List (Option Nat)) (fb:WE) (δ : aw) (ds:List D) (K:D->Prop):Prop :=
 ∃ key:D->LK,RJ cp fb δ ds key/\(ds=[]->K .non)/\∀ d∈ds,(∀ e∈ds,kle (key d) (key e))->K d
noncomputable def yS (cp:List (Option Nat)) (fb:WE) (x:DV) (δ : aw) (K:D->Prop):Prop:=∃ ds,x = .p (.lst ds)/\yR cp fb δ ds K
theorem Ti {cp:List (Option Nat)} {fb:WE} {x:DV} {δ : aw} {K:D->Prop} (h:yS cp fb x δ K):∃ ds,x = .p (.lst ds)/\yR cp fb δ ds K:=h
noncomputable def C9 (f:WE) (cp:List (Option Nat)) (fb:WE):WE:=fun δ K=>f δ fun x δ1=>yS cp fb x δ1 fun d=>K (.p d) δ1
section
variable {X:Cx} {params:Arguments} {body:Expr} {scope:Scope} {gF:Pos} {x:Str} {Nb:List Str} {cp:List (Option Nat)} {fb:WE} {T:Addr}
theorem Tj {pins:List (Addr × Obj)} {σ : St} {H:Hp} {s:Shared} {E:Value->Shared->Prop} {l:Addr} {F:Hp} {ad:List Addr} {δ : aw} {ds:List D} {xs:List V} {jF oa pos j p2} {Q:VK} (L:lJ X params body scope gF T x Nb cp fb) (hu:X.A.units + 64 < cLine)
  (I:Inv X pins σ H s) (S:SR F ad δ σ H) (hl:F l=some (.lst xs)) (hx:af F ds xs)
  (hs:yR cp fb δ ds fun d=>∀ v F' H',Ext F ad δ.mu H F' ad δ.mu H'->SR F' ad δ σ H'->Is F' d v->Q v H') :
  wpAny (model X.prog X.w) X.A (evalAll ((backToKw pos (keywordEach [⟨some "key",.Lambda params body scope gF,jF⟩,⟨some "default",.Constant .none j p2,oa⟩] X.env)).map (·.2))) (fun kvs s₂ => wpAny (model X.prog X.w) X.A (call (.builtin "min") [.ref l] (((backToKw pos (keywordEach [⟨some "key",.Lambda params body scope gF,jF⟩,⟨some "default",.Constant .none j p2,oa⟩] X.env)).filterMap (·.1)).zip kvs)) (EP X pins σ Q) E s₂) E s:=by
 obtain⟨key,hk,K0,K⟩:=hs
 obtain⟨k,wm,J⟩:=L.room
 obtain⟨cc,jy,hC⟩:=L.env.code
 show wpAny _ _ (evalAll [do let v <- eval (.Lambda params body scope gF) X.env;standAt pos;pure v,do let v <- eval (.Constant .none j p2) X.env;standAt pos;pure v]) _ _ _
 refine evalAll_cons (nq ?_)
 have C_:=L.names
 unfold yB at C_
 simp only[YI,Zy,YB] at C_
 have SC:=x2j L.kind C_.1.1.1
 obtain⟨cl,o_,rF,yC⟩:=FQ (scope:=scope) (env:=X.env) fun y hy e=>I.ok.has y.1 (SC.free y hy e)
 refine Rw I (L.tbl.get H S.tab) L.RK o_ jy (hC.keeps I.bk) L.env.ng (I.mod.glob.keeps I.bk) (L.env.blt.keeps I.bk) fun f H1 s1 c I1 t1 k1 Rt hf hc => ?_
 refine nq (q0C (xa ?_))
 refine evalAll_cons (nq (xa ?_))
 refine nq (q0C (xa ?_))
 refine evalAll_nil ?_
 show wpAny _ _ (call (.builtin "min") [.ref l] [(Str.ofString "key",.ref f),(Str.ofString "default",.none)]) _ _ _
 have kT:∀ b o,H b=some o->b∉aD.ad->H1 b=some o:=fun b o e t=>k1 b o e fun z=>t (by rw[z];exact L.tbl.mem)
 have k7:=L.tbl.put H H1 S.tab t1 k1
 have S1:=S.vX kT k7
 have E1:=Ext.vX S kT k7
 have lx:=hx.length
 have r1:bf (k + 2) X.A.in1:=bf.in1 (k:=k + 2) wm
 have gd:∀ {i:Nat} {d:D},ds[i]? = some d->ds.getD i .non=d:=fun {i d} e=>by rw[FP,e];rfl
 refine Tg (l:=l) (xs:=xs) (d := .none) (fun i=>key (ds.getD i .non)) (P:=fun kvs H'=>∃ F',Ext F ad δ.mu H F' ad δ.mu H'/\SR F' ad δ σ H'/\H' f=some (ja f "<lambda>" (X.env.qual ++ "<lambda>") params body scope cl ((X.mg "__name__").getD .none) (.ref c))/\H' c=some (mI c (X.env.qual ++ "<lambda>"))/\kvs.length <= ds.length/\∀ (i:Nat) (d:D) (kv:V),ds[i]? = some d->kvs[i]? = some kv->Is F' (.tup ((key d).map D.int)) kv)
  I1 r1.hd (by omega) ⟨_,E1,S1,hf,hc,YK _,fun i d kv _ e=>by simp at e⟩ (fun kvs H' ⟨F',E',S',_⟩=>S'.sub _ _ (E'.same _ _ hl)) (fun kvs H' ⟨F',E',S',yT,jB,hle,yU⟩ i hi => ?_) (fun dM v u kvs H' s' hv rv I' ⟨F',E',S',yT,jB,hle,yU⟩ => ?_) fun kvs H' s' ic ⟨F',E',S',yT,jB,hle,yU⟩ I'=>⟨fun h0 => ?_,fun b y u hy ry best => ?_⟩
 ·have hd:=qo (show i < ds.length by omega)
  have is:=yU i _ _ hd (qo hi)
  simp only[Is] at is
  obtain⟨t,us,e1,e2,e3⟩:=is
  refine⟨t,by rw[qo hi,e1],?_⟩
  rw[gd hd,<-oV e3];exact S'.sub _ _ e2
 ·have hi:kvs.length < ds.length:=by rw[<-lx];exact (su.mp hv).1
  have hd:=qo hi
  have Tn:Is F' ds[kvs.length] v:=af.at (hx.same E'.same) hd hv
  obtain⟨Yf,To⟩:=hk _ (ZQ hi)
  refine RB I' yT jB (by rw[show X.A.in1.frames=X.A.frames from rfl];exact I'.ok.frames) r1.hd (bf.depth (r1.mono (by omega:k + 1 <= k + 2))) L.kind L.names L.co L.gen rF yC (fun ct=>L.bind cl _ _ ct u) rv (J ⟨X.A.in1,cl,f,.ref c,s',H'⟩ ((r1.mono (by omega:k + 1 <= k + 2)).deeper _)) ?_
  refine⟨F',ad,_,_,(S'.uU (cp:=cp)).vY Tn,To,fun y δ' ⟨ey,em⟩ w F2 bV H2 E2 S2 V2 => ?_⟩
  subst ey
  have ea:bV=ad:=by
   have l2:bV.length=ad.length:=by rw[S2.cj,em,S'.cj]
   refine q0t fun i => ?_
   by_cases hi:i < ad.length
   ·rw[qo hi];exact E2.pre i _ (qo hi)
   ·rw[ZO (by omega),ZO (by omega)]
  subst ea
  obtain⟨EN,dE⟩ := δ'
  have em:dE = δ.mu:=em
  subst em
  refine⟨F2,E'.trans E2,SR.back S' E2 S2,E2.pB S' yT (fun _ z=>by cases z) (fun _ z=>by cases z) (fun _ z=>by cases z),E2.pB S' jB (fun _ z=>by cases z) (fun _ z=>by cases z) (fun _ z=>by cases z),by rw[Aw,Yu];exact hi,fun i d kv e1 e2 => ?_⟩
  by_cases nu:i < kvs.length
  ·rw[XO nu] at e2
   exact Is.same E2.same (yU i d kv e1 e2)
  ·have:i=kvs.length:=by
    have:=(su.mp e2).1
    rw[Aw,Yu] at this
    omega
   subst this
   rw[Yi (qq _),YZ] at e2
   cases (show some w=some kv from e2)
   rw[hd] at e1;cases e1
   exact V2
 ·have Tp:ds=[]:=ZZ.mp (by rw[<-lx,h0];rfl)
  exact⟨.non,H',I',rfl,K0 Tp _ F' H' E' S' (by simp only[Is])⟩
 ·have hb:b < ds.length:=by rw[<-lx];exact (su.mp hy).1
  have hd:=qo hb
  refine⟨y,H',I',ry,K ds[b] (ZQ hb) (fun e he => ?_) _ F' H' E' S' (af.at (hx.same E'.same) hd hy)⟩
  obtain⟨j,hj,rfl⟩:=YG.mp he
  have:=best j (by omega)
  rw[gd hd,gd (qo hj)] at this
  exact this
variable {e:Expr} {f:WE} {p1 q1 jF oa:Pos}
theorem Tq {j p2} (L:lJ X params body scope gF T x Nb cp fb) (hu:X.A.units + 64 < cLine) (Tr:Gl X "min") (hs:X.mg "min" = none) (Tt:bootBuiltins "min" = some (.builtin "min")) (ha:JA X [e] (cX (ao f ah)))
  (he:starEach [e] X.env=[(false,eval e X.env)]:=by rfl):JE X (.Call (.Name "min" p1) [e] [⟨some "key",.Lambda params body scope gF,jF⟩,⟨some "default",.Constant .none j p2,oa⟩] q1) (tD (C9 f cp fb)) :=
 ⟨fun pins s σ H Q I h0_ => el7 h0_ fun F ad δ K S q k =>by
  refine q0J (mS I Tr hs Tt ?_)
  refine callWith_kw ?_ (he:=by rw[he];rfl) (hplain:=by rw[he];rfl)
  refine aZ (ha.out q1 pins s σ H (fun vs H1=>∃ (l:Addr) (F1:Hp) (aP:List Addr) (δ1:aw) (ds:List D) (us:List V),vs=[.ref l]/\F1 l=some (.lst us)/\af F1 ds us/\Ext F ad δ.mu H F1 aP δ1.mu H1/\SR F1 aP δ1 σ H1/\yR cp fb δ1 ds fun d=>K (.p d) δ1) I ?_) fun us s1 Tu => ?_
  ·refine⟨F,ad,δ,fun xs δ1=>match xs with
    | [x]=>yS cp fb x δ1 fun d=>K (.p d) δ1
    | _=>False,S,q,fun xs δ1 h1 vs F1 aP H1 E1 S1 V1 => ?_⟩
   cases xs with
   | nil=>exact h1.elim
   | cons x xs =>
    cases xs with
    | cons _ _=>exact h1.elim
    | nil =>
     obtain⟨v,r,rfl,W1,W2⟩:=V1
     have W2:r=[]:=W2
     subst W2
     obtain⟨ds,rfl,h2⟩:=Ti h1
     have W1:Is F1 (.lst ds) v:=W1
     simp only[Is] at W1
     obtain⟨a,us,rfl,g1,g2⟩:=W1
     exact⟨a,F1,aP,δ1,ds,us,rfl,g1,g2,E1,S1,h2⟩
  ·obtain⟨vs,H1,I1,r1,l,F1,aP,δ1,ds,ws,ev,hl,hi,E1,S1,Tv⟩:=Tu
   subst ev
   obtain⟨u,rfl,rx⟩:=vals1 r1
   cases rx
   refine Tj L hu I1 S1 hl hi ?_
   obtain⟨key,hk,K0,hK⟩:=Tv
   exact⟨key,hk,fun h0 v F' H' E' S' is=>k _ _ (K0 h0) _ _ _ _ (E1.trans E') S' is,fun d hd hb v F' H' E' S' is=>k _ _ (hK d hd hb) _ _ _ _ (E1.trans E') S' is⟩⟩
end
end L2
namespace LJ
open PySem L2
variable [aD]
noncomputable def Dc:D->D
 | .tup [.int i,_] => .int i
 | _ => .non
noncomputable def De (p:Int->Bool):D->Bool
 | .tup [.int i,_]=>p i
 | _=>false
theorem IY (p:Int->Bool):∀ (ds:List D) (i:Nat),((kz i ds).filter (De p)).map Dc=((List.range' i ds.length).filter fun k:Nat=>p k).map fun k:Nat=>D.int k
 | [],_=>rfl
 | d :: r,i=>by
  have ih:=IY p r (i + 1)
  show (((D.tup [.int i,d]) :: kz (i + 1) r).filter _).map _=_
  rw[FL,List.range'_succ,q1O,q1O]
  show (if p i=true then _ else _:List D).map _=_
  cases q:p i with
  | true=>simp only[Z9,Yt,ih];rfl
  | false=>simp only[Ym,Y1,ih]
noncomputable def jz (l:List Int) (y:Wy):Bool:=decide (y.1∈l) != decide (y.2.1∈l)
noncomputable def e_ (ws:List Wy) (l:List Int):List Int:=(ba ws.length).filter fun n=>jz l (br ws n)
noncomputable def wo:GD:=fun ys aj K=>∃ (y:Wy) (l:List Int),ys=[.p (bL y),.p (aO l)]/\aj=[]/\K (.p (.bl (jz l y))) []
noncomputable def Df:WS:=(aN (d2 (d2 (d2 (aa 0) (dC (.int 0)) bc) (aa 1) (mi false)) (d2 (d2 (aa 0) (dC (.int 1)) bc) (aa 1) (mi false)) oX))
theorem Tw:∀ ys aj K',ys.length=2->wo ys aj K'->Df (bS aj.length K') ⟨ys.map some ++ List.replicate 0 none,aj.map some⟩:=by
 rintro ys aj K' - ⟨y,l,rfl,rfl,k⟩
 unfold Df
 simp? only [bL,aO,i8,i9]
 have d0:=tj l
 refine⟨by omega,by omega,?_⟩
 rw[yP,yP]
 unfold jz at k
 generalize decide (y.1∈l)=p at k
 generalize decide (y.2.1∈l)=q at k
 cases p<;>cases q<;>exact d4 k
noncomputable def wq:GD:=fun ys aj K=>∃ (m:Int) (ws:List Wy) (l:List Int),dz m ws/\ys=[.p (aB m ws),.p (aO l)]/\aj=[]/\K (.p (aO (e_ ws l))) []
noncomputable def Dg:WS:=(aN (fG (lj (ao (d2 (aa 0) (dC (.int 1)) bc) ah)) [none,none,some 1] (kq 2 (f7 (bt 0) (f7 (bt 1) jQ))) (dT (av 2 wo (ao (aa 1) (ao (aa 2) ah)))) (aa 0)))
theorem Tx:∀ ys aj K',ys.length=2->wq ys aj K'->Dg (bS aj.length K') ⟨ys.map some ++ List.replicate 0 none,aj.map some⟩:=by
 rintro ys aj K' - ⟨m,ws,l,W,rfl,rfl,k⟩
 have w30:=W.jf
 unfold Dg
 simp? only [aB,i9]
 refine sT (De fun i=>jz l (br ws i)) Dc (by rw[uY,qp];omega) trivial ?_ ?_
 ·intro d hd acc L' ha h1 h2
  obtain⟨z,hz⟩:=Yj.mp hd
  obtain⟨e,z1,z2⟩:=uZ hz
  rw[Ni] at z1
  obtain⟨y,z3,rfl⟩:=XM.mp z1
  rw[YY] at z2
  subst z2
  have ew:br ws (z:Int)=y:=by unfold br;rw[Yv,FP,z3];rfl
  simp only[De,Dc] at h1 h2
  rw[ew] at h1 h2
  simp? only []
  refine⟨y,l,rfl,rfl,?_⟩
  simp? only []
  cases q:jz l y with
  | true=>simp? only [];exact⟨ha,h1 q⟩
  | false=>simp? only [];exact h2 q
 ·have e:=IY (fun i=>jz l (br ws i)) (ws.map bL) 0
  have e2:(e_ ws l).map D.int=((List.range' 0 (ws.map bL).length).filter fun k:Nat=>jz l (br ws k)).map fun k:Nat=>D.int k:=by
   unfold e_ ba
   rw[q0q,Ys,qp,<-List.range_eq_range']
   rfl
  rw[<-e2] at e
  rw[e]
  exact d4 k
noncomputable def wt:GD:=fun ys aj K=>∃ (m:Int) (ws:List Wy) (ns:List Int),dz m ws/\Nums ws ns/\ns≠[]/\ys=[.p (aB m ws),.p (aO ns)]/\aj=[]/\∀ n∈ns,(∀ e∈ns,kle (dG ws n) (dG ws e))->K (.p (.int n)) []
noncomputable def Dh:WS:=(aN (C9 (aa 1) [some 0] (av 1 v3 (ao (d2 (d2 (aa 1) (dC (.int 1)) bc) (aa 0) bc) ah))))
theorem Tz:∀ ys aj K',ys.length=2->wt ys aj K'->Dh (bS aj.length K') ⟨ys.map some ++ List.replicate 0 none,aj.map some⟩:=by
 rintro ys aj K' - ⟨m,ws,ns,W,hn,ne,rfl,rfl,k⟩
 unfold Dh
 simp? only [C9,yS,aB,aO]
 refine⟨ns.map D.int,rfl,fun d=>match d with
  | .int n=>dG ws n
  | _=>[],fun d hd => ?_,fun h0 => ?_,fun d hd best => ?_⟩
 ·obtain⟨n,h,rfl⟩:=Nk.mp hd
  obtain⟨n0,n1⟩:=hn n h
  obtain⟨y,ey,hy,ea,_⟩:=sX W n0 n1
  refine⟨(by intro z;cases z),?_⟩
  simp? only [i9,ea]
  refine⟨y,rfl,rfl,?_⟩
  simp? only []
  unfold dG
  rw[ey]
  rfl
 ·exact absurd (List.map_eq_nil_iff.mp h0) ne
 ·obtain⟨n,h,rfl⟩:=Nk.mp hd
  exact d4 (k n h fun e he=>best _ (Nk.mpr ⟨e,he,rfl⟩))
open Classical in
noncomputable def lO (ws:List Wy) (ns:List Int):Int:=if h:∃ n,n∈ns/\∀ e∈ns,kle (dG ws n) (dG ws e) then Classical.choose h else 0
theorem IZ {m:Int} {ws:List Wy} (W:dz m ws) {ns:List Int} (hn:Nums ws ns) {n:Int} (h:n∈ns) (b:∀ e∈ns,kle (dG ws n) (dG ws e)):lO ws ns=n:=by
 unfold lO
 have ex:∃ n,n∈ns/\∀ e∈ns,kle (dG ws n) (dG ws e):=⟨n,h,b⟩
 rw[dif_pos ex]
 obtain⟨h1,h2⟩:=Classical.choose_spec ex
 exact R8 W (hn _ h1) (hn _ h) (Hj (h2 n h) (b _ h1))
theorem Di {ws:List Wy} {l:List Int}:Nums ws (e_ ws l):=fun n h=>Co (YH.mp h).1
theorem TB {ws:List Wy} {l:List Int}:(e_ ws l).length <= ws.length:=by
 unfold e_
 have:=q02 (fun n=>jz l (br ws n)) (ba ws.length)
 rw[s_] at this
 exact this
noncomputable def hW (ws:List Wy) (ls:List (List Int)):List Int:=((ls.map (e_ ws)).filter fun o=>decide (o≠[])).map (lO ws)
theorem Dj {ws:List Wy} {ls:List (List Int)}:(hW ws ls).length <= ls.length:=by
 unfold hW
 rw[qp]
 have:=q02 (fun o:List Int=>decide (o≠[])) (ls.map (e_ ws))
 rw[qp] at this
 exact this
noncomputable def d8 (m:Int) (ws:List Wy) (us:List Int):List Int:=sortI (ju (hW ws (dH m ws us)))
noncomputable def tu (f:List Int->D):D->D
 | .lst ds=>match intsOf ds with
  | some l=>f l
  | none => .non
 | _ => .non
noncomputable def wu (f:List Int->Bool):D->Bool
 | .lst ds=>match intsOf ds with
  | some l=>f l
  | none=>false
 | _=>false
theorem yV (f:List Int->D) (l:List Int):tu f (aO l)=f l:=by
 unfold aO
 simp only[tu,nN]
theorem Dk (f:List Int->Bool) (l:List Int):wu f (aO l)=f l:=by
 unfold aO
 simp only[wu,nN]
noncomputable def rM:GD:=fun ys aj K=>∃ (m:Int) (ws:List Wy) (us:List Int),dz m ws/\Nums ws us/\us.Nodup/\us.length <= 900/\ys=[.p (aB m ws),.p (aO us)]/\aj=[]/\K (.p (aO (d8 m ws us))) []
noncomputable def Dl:WS:=(au (aG 2 (fG (bO (av 2 yF (ao (aa 0) (ao (aa 1) ah)))) [none,some 0] (bt 0) c9 (av 2 wq (ao (aa 1) (ao (aa 0) ah))))) (aN (dN (ao (fG (bO (aa 2)) [none,some 0] (bt 0) (dT (d2 (dN (ao (aa 0) ah) cY) (dC (.int 0)) (oI fun i j => .bl (decide (j < i))))) (av 2 wt (ao (aa 1) (ao (aa 0) ah)))) ah) o9)))
theorem TC:∀ ys aj K',ys.length=2->rM ys aj K'->Dl (bS aj.length K') ⟨ys.map some ++ List.replicate 1 none,aj.map some⟩:=by
 rintro ys aj K' - ⟨m,ws,us,W,hu,nd,hl,rfl,rfl,k⟩
 have w30:=W.jf
 obtain⟨ll,lf⟩:=IU W hu
 unfold Dl
 refine aW fun N hN => ?_
 simp? only []
 refine⟨m,ws,us,W,hu,nd,hl,rfl,rfl,?_⟩
 rw[show ((df (eZ m ws us) m.toNat).map (·.2))=dH m ws us from rfl,show jx (dH m ws us) = .lst ((dH m ws us).map aO) from rfl]
 unfold d8 at k
 generalize dH m ws us=ls at k ll lf
 simp? only []
 refine kB (tu fun l=>aO (e_ ws l)) (by rw[qp];omega) trivial ?_ ?_
 ·intro d hd acc L' ha h
  obtain⟨l,_,rfl⟩:=Nk.mp hd
  rw[yV] at h
  simp? only []
  refine⟨m,ws,l,W,rfl,rfl,?_⟩
  simp? only []
  exact⟨ha,h⟩
 have e:(ls.map aO).map (tu fun l=>aO (e_ ws l))=(ls.map (e_ ws)).map aO:=by
  rw[Ys,Ys]
  exact YJ fun l _=>yV _ l
 rw[e]
 subst hN
 simp? only []
 refine L2.sT (wu fun o=>decide (o≠[])) (tu fun o => .int (lO ws o)) (by rw[qp,qp];omega) trivial ?_ ?_
 ·intro d hd acc L' ha h1 h2
  obtain⟨o,ho,rfl⟩:=Nk.mp hd
  obtain⟨l,_,rfl⟩:=Nk.mp ho
  rw[yV,Dk] at h1
  rw[Dk] at h2
  have hn:=Di (ws:=ws) (l:=l)
  generalize e_ ws l=o at h1 h2 hn
  rw[show aO o = .lst (o.map D.int) from rfl]
  simp? only []
  by_cases c:o=[]
  ·subst c
   rw[show decide ((0:Int) < (([]:List Int).length:Nat))=false from rfl]
   simp? only []
   exact h2 rfl
  ·have c1:decide ((0:Int) < (o.length:Nat))=true:=Yk (by have:=q1j.mpr c;omega)
   rw[c1]
   simp? only []
   refine⟨m,ws,o,W,hn,c,rfl,rfl,fun n hm best => ?_⟩
   rw[IZ W hn hm best] at h1
   simp? only []
   exact⟨ha,h1 (Yk c)⟩
 ·have e2:(((ls.map (e_ ws)).map aO).filter (wu fun o=>decide (o≠[]))).map (tu fun o => .int (lO ws o))=(hW ws ls).map D.int:=by
   unfold hW
   rw[q0q,Ys,Ys]
   rw[show (wu fun o=>decide (o≠[])) ∘ aO=fun o=>decide (o≠[]) from funext fun o=>Dk _ o]
   exact YJ fun o _=>yV _ o
  have cl:=Dj (ws:=ws) (ls:=ls)
  rw[e2]
  simp? only [nN]
  exact⟨by omega,d4 k⟩
theorem yW (ns:List Int):∀ i,i <= ns.length->(LJS.j5 ns i).Nodup/\∀ x,x∈LJS.j5 ns i↔x∈ns.take i
 | 0,_=>⟨Zu,fun x=>by simp[LJS.j5]⟩
 | i + 1,h=>by
  obtain⟨n,m⟩:=yW ns i (by omega)
  have et:ns.take (i + 1)=ns.take i ++ [ns.getD i 0]:=by
   rw[ZY,FP,qo (show i < ns.length by omega)];rfl
  rw[et]
  unfold LJS.j5 LJS.once
  split
  ·rename_i c
   refine⟨n,fun x => ?_⟩
   rw[m x,YL,YF]
   refine⟨.inl,fun z=>z.elim id fun z => ?_⟩
   subst z;exact (m _).mp c
  ·rename_i c
   refine⟨Y3.mpr ⟨n,by simp,fun a ha b hb z => ?_⟩,fun x => ?_⟩
   ·subst z;rw[YF.mp hb] at ha;exact c ha
   ·rw[YL,YL,m x]
theorem TF {m:Int} {ws:List Wy} (W:dz m ws) {ns:List Int} (hn:Nums ws ns):rE (eZ m ws ns)=dH m ws ns:=by
 have G:=IJ W hn
 obtain⟨nd,mem⟩:=yW (eZ m ws ns) _ (qq _)
 have hl:(eZ m ws ns).length=m.toNat:=Cm
 rw[q0i] at mem
 have up:(sortI (ju (eZ m ws ns))).Pairwise (· < ·):=by
  have vJ:(sortI (ju (eZ m ws ns))).Nodup:=(sortI_perm _).nodup_iff.mpr nd
  exact ((G_ _).and vJ).imp fun ⟨a,b⟩=>by omega
 have:=SQ G up fun x=>((sortI_perm _).mem_iff).trans (mem x)
 unfold dH rE
 rw[<-hl,this]
 refine YJ fun x _ => ?_
 unfold sZ bI ba
 rw[q0q]
 rfl
theorem TH (L:List (List Int)):dep (jx L) <= 3:=by
 have e:∀ L:List (List Int),a_ (L.map aO) <= 2:=fun L=>by
  induction L with
  | nil=>exact YK _
  | cons l r ih =>
   simp only[Yt,a_]
   exact Nat.max_le.mpr ⟨by have:=tj l;simp only[aO,dep];omega,ih⟩
 have:=e L
 unfold jx
 simp only[dep]
 omega
theorem TJ (L:List (List Int)) (h:L.length <= 1000) (h2:∀ l∈L,l.length <= 1000):jL (jx L)=true:=by
 have e:∀ us:List Int,l9 (us.map D.int)=true:=fun us=>by
  induction us with
  | nil=>rfl
  | cons n r ih=>simp only[Yt,l9,jL,ih,q0_]
 have e2:∀ L:List (List Int),(∀ l∈L,l.length <= 1000)->l9 (L.map aO)=true:=fun L h2=>by
  induction L with
  | nil=>rfl
  | cons l r ih =>
   simp only[Yt,l9,ih fun x hx=>h2 x (My _ hx),Bool.and_true,aO,jL,e,qp,Yk (h2 l FN)]
 simp only[jx,jL,e2 L h2,qp,Yk h,q0_]
theorem I0 {ws:List Wy}:∀ {ns:List Int},ns≠[]->∃ n,n∈ns/\∀ e∈ns,kle (dG ws n) (dG ws e)
 | [],h=>absurd rfl h
 | [a],_=>⟨a,FN,fun e he=>by rw[YF.mp he];exact kle_refl _⟩
 | a :: b :: r,_=>by
  obtain⟨n,h1,h2⟩:=I0 (ws:=ws) (ns:=b :: r) (by simp)
  cases q:HT.lexLt (dG ws n) (dG ws a) with
  | true=>exact⟨n,My _ h1,fun e he=>(Nh.mp he).elim (fun z=>by rw[z];exact sR q) (h2 e)⟩
  | false=>exact⟨a,FN,fun e he=>(Nh.mp he).elim (fun z=>by rw[z];exact kle_refl _) fun z=>kle_trans q (h2 e z)⟩
theorem TK {ws:List Wy} {ns:List Int} (h:ns≠[]):lO ws ns∈ns/\∀ e∈ns,kle (dG ws (lO ws ns)) (dG ws e):=by
 have ex:=I0 (ws:=ws) h
 unfold lO
 rw[dif_pos ex]
 exact Classical.choose_spec ex
theorem TL {ws:List Wy} {ls:List (List Int)} {n:Int}:n∈hW ws ls↔∃ l∈ls,e_ ws l≠[]/\n=lO ws (e_ ws l):=by
 unfold hW
 rw[Nk]
 constructor
 ·rintro ⟨o,ho,rfl⟩
  obtain⟨h1,h2⟩:=YH.mp ho
  obtain⟨l,hl,rfl⟩:=Nk.mp h1
  exact⟨l,hl,Zt h2,rfl⟩
 ·rintro ⟨l,hl,h1,rfl⟩
  exact⟨_,YH.mpr ⟨Nk.mpr ⟨l,hl,rfl⟩,Yk h1⟩,rfl⟩
theorem I_ (ns:List Int) (x:Int):x∈ju ns↔x∈ns:=by
 have:=(yW ns _ (qq _)).2 x
 rw[q0i] at this
 exact this
theorem j4 {m:Int} {ws:List Wy} {us:List Int} {n:Int}:n∈d8 m ws us↔∃ l∈dH m ws us,e_ ws l≠[]/\n=lO ws (e_ ws l):=by
 unfold d8
 rw[(sortI_perm _).mem_iff,I_,TL]
theorem Ja {m:Int} {ws:List Wy} {us:List Int}:(d8 m ws us).Nodup:=(sortI_perm _).nodup_iff.mpr (yW _ _ (qq _)).1
theorem Jb {m:Int} {ws:List Wy} {us:List Int} {n:Int} (h:n∈d8 m ws us):∃ l∈dH m ws us,n∈e_ ws l/\∀ e∈e_ ws l,kle (dG ws n) (dG ws e):=by
 obtain⟨l,hl,ne,rfl⟩:=j4.mp h
 exact⟨l,hl,TK ne⟩
theorem Jc {m:Int} {ws:List Wy} {us:List Int}:Nums ws (d8 m ws us):=fun n h=>by
 obtain⟨l,_,h1,_⟩:=Jb h
 exact Di n h1
theorem TM {m:Int} {ws:List Wy} (W:dz m ws) {us:List Int} (hu:Nums ws us) {l:List Int} (hl:l∈dH m ws us) {n:Int} (h:n∈e_ ws l):¬ aY (pF ws us) (br ws n).1 (br ws n).2.1:=fun c=>by
 obtain⟨g,_,rfl⟩:=((IQ W hu).1.mem l).mp hl
 obtain⟨h1,h2⟩:=YH.mp h
 obtain⟨n0,n1⟩:=Co h1
 obtain⟨i,k,_,e1,e2,b1,b2⟩:=C3 W n0 n1
 unfold jz at h2
 by_cases p:(br ws n).1∈cls m.toNat (pF ws us) g
 ·have q:(br ws n).2.1∈cls m.toNat (pF ws us) g:=bw.mpr ⟨by omega,(bw.mp p).2.trans c⟩
  rw[Yk p,Yk q] at h2
  cases h2
 ·have q:¬ (br ws n).2.1∈cls m.toNat (pF ws us) g:=fun z=>p (bw.mpr ⟨by omega,(bw.mp z).2.trans c.symm⟩)
  rw[Yz p,Yz q] at h2
  cases h2
theorem TN {m:Int} {ws:List Wy} (W:dz m ws) {us:List Int} (hu:Nums ws us) {n:Int} (h:n∈d8 m ws us):n∉us:=fun z=>by
 obtain⟨l,hl,h1,_⟩:=Jb h
 exact TM W hu hl h1 (.one ⟨n,z,rfl⟩)
theorem Jd {m:Int} {ws:List Wy} (W:dz m ws) {us:List Int} (hu:Nums ws us) (nd:us.Nodup):Nums ws (us ++ d8 m ws us)/\(us ++ d8 m ws us).Nodup :=
 ⟨fun n h=>(YL.mp h).elim (hu n) (Jc n),Y3.mpr ⟨nd,Ja,fun a ha b hb z=>TN W hu (by rw[z];exact hb) ha⟩⟩
theorem wx {ws:List Wy} {us:List Int} (hu:Nums ws us) (nd:us.Nodup):us.length <= ws.length:=by
 have h:us.Subset (ba ws.length):=fun n h=>by
  have:=hu n h
  exact e8.mpr this
 have:=List.Nodup.length_le_of_subset nd h
 rw[s_] at this
 exact this
theorem Je {δ0:aw} {t:WT} {b:WS} {K:KS} {n:Nat} {δ : aw} (h:∀ A B:aw->Prop,A=b { nx:=fun δ2=>lL δ0 t b K n (δ0.trim δ2),ct:=fun δ2=>lL δ0 t b K n (δ0.trim δ2),bk:=K.nx,rt:=K.rt }->B=K.nx->t δ fun bb δ1=>if bb=true then A δ1 else B δ1):lL δ0 t b K (n + 1) δ := h _ _ rfl rfl
noncomputable def lP (m:Int) (ws:List Wy):Nat->List Int->List (List Int)
 | 0,_=>[]
 | n + 1,us=>match d8 m ws us with
  | []=>[]
  | a :: r=>(a :: r) :: lP m ws n (us ++ a :: r)
noncomputable def jc (m:Int) (ws:List Wy):List (List Int):=lP m ws (ws.length + 1) []
noncomputable def wy:GD:=fun ys aj K=>∃ (m:Int) (ws:List Wy),dz m ws/\ys=[.p (aB m ws)]/\aj=[]/\K (.n ((jc m ws).map aO)) []
noncomputable def Dm:WS:=(au (aG 1 (sH ah)) (au (aG 2 (eU ah)) (au (aG 3 (av 2 rM (ao (aa 0) (ao (aa 2) ah)))) (au (CQ (dT (d2 (dN (ao (aa 3) ah) cY) (dC (.int 0)) (oI fun i j => .bl (decide (j < i))))) (au (nG (jT (aa 1) (ao (aa 3) ah))) (au (aG 2 (d2 (aa 2) (aa 3) eQ)) (aG 3 (av 2 rM (ao (aa 0) (ao (aa 2) ah))))))) (aN (aa 1))))))
theorem TQ:∀ ys aj K',ys.length=1->wy ys aj K'->Dm (bS aj.length K') ⟨ys.map some ++ List.replicate 3 none,aj.map some⟩:=by
 rintro ys aj K' - ⟨m,ws,W,rfl,rfl,k⟩
 have w30:=W.jf
 unfold Dm
 refine aW fun N hN => ?_
 simp? only []
 subst hN
 refine aW fun N hN => ?_
 simp? only []
 subst hN
 refine aW fun N hN => ?_
 simp? only []
 refine⟨m,ws,[],W,(fun n h=>nomatch h),Zu,YK _,rfl,rfl,?_⟩
 simp? only []
 subst hN
 refine aW fun N hN => ?_
 have TR:∀ x y,N ⟨[some (.p (aB m ws)),some (.o 0),some (.p x),some (.p y)],[some (.lst ((jc m ws).map aO))]⟩:=fun x y=>by
  subst hN
  simp? only []
  exact⟨[],rfl,rfl,.inl k⟩
 refine⟨ws.length + 1,?_⟩
 have go:∀ (n:Nat) (us:List Int) (rs:List (List Int)),Nums ws us->us.Nodup->ws.length < us.length + n->rs.length + n <= ws.length + 1->rs ++ lP m ws n us=jc m ws →
   lL ⟨[some (.p (aB m ws)),some (.o 0),some (.p (.lst [])),some (.p (aO (d8 m ws [])))],[some (.lst [])]⟩ (dT (d2 (dN (ao (aa 3) ah) cY) (dC (D.int 0)) (oI fun i j=>D.bl (decide (j < i)))))
    (au (nG (jT (aa 1) (ao (aa 3) ah))) (au (aG 2 (d2 (aa 2) (aa 3) eQ)) (aG 3 (av 2 rM (ao (aa 0) (ao (aa 2) ah))))))
    { nx:=N,rt:=(bS ([]:List OV).length K').rt,bk:=(bS ([]:List OV).length K').bk,ct:=(bS ([]:List OV).length K').ct } n
    ⟨[some (.p (aB m ws)),some (.o 0),some (.p (.lst (us.map D.int))),some (.p (aO (d8 m ws us)))],[some (.lst (rs.map aO))]⟩:=by
  intro n
  induction n with
  | zero =>
   intro us rs hu nd h _ _
   have:=wx hu nd
   omega
  | succ n ih =>
   intro us rs hu nd h hr he
   obtain⟨mu,mn⟩:=Jd W hu nd
   have ul:=wx mu mn
   refine Je fun A B hA hB => ?_
   unfold lP at he
   rw[show aO (d8 m ws us) = .lst ((d8 m ws us).map D.int) from rfl]
   simp? only []
   cases q:d8 m ws us with
   | nil =>
    rw[q] at he
    rw[show decide ((0:Int) < (([]:List Int).length:Nat))=false from rfl]
    simp? only []
    rw[show rs ++ []=rs from ZM rs] at he
    rw[he,hB]
    exact TR _ _
   | cons a r =>
    rw[q] at he mu mn ul
    have c1:decide ((0:Int) < ((a :: r).length:Nat))=true:=Yk (by rw[FL];omega)
    have c2:0 < (a :: r).length:=by rw[FL];omega
    dsimp only at he
    generalize a :: r=ar at he mu mn ul c1 c2
    rw[Aw] at ul
    rw[c1]
    simp? only []
    subst hA
    refine aW fun N2 eX => ?_
    simp? only []
    refine⟨by omega,?_⟩
    subst eX
    refine aW fun N2 eX => ?_
    simp? only []
    refine⟨by omega,?_⟩
    subst eX
    rw[<-Yw]
    simp? only []
    refine⟨m,ws,us ++ ar,W,mu,mn,by rw[Aw];omega,rfl,rfl,?_⟩
    simp? only []
    have:=ih (us ++ ar) (rs ++ [ar]) mu mn (by rw[Aw];omega) (by rw[Aw,Yu];omega) (by rw[ZH];exact he)
    rw[show (rs ++ [ar]).map aO=rs.map aO ++ [aO ar] from Yw] at this
    exact this
 have:=go (ws.length + 1) [] [] (fun n h=>nomatch h) Zu (by simp) (by simp) rfl
 exact this
end LJ
namespace PySem
open Sem (wp)
section
variable {prog:Program} {w:World} {A:Around} {E:Value->Shared->Prop} {s:Shared} {z TI TO i j:Addr} {fp gp:List Addr} {n m k:Nat} {P P':Nat->Value->Prop} {St Yg:Nat->Heap->Prop} {a b:Value}
end
section
variable {prog:Program} {w:World} {A:Around} {E:Value->Shared->Prop} {s:Shared}
end
end PySem
namespace L2
open PySem PySem.Spec PyProof.Rows
section
variable {X:Cx} {pins:List (Addr × Obj)} {σ : St} {H:Hp} {s:Shared}
end
section
variable {X:Cx} {elts:List Expr} {x1:Nat} {tp:Pos}
end
section
variable [aD] {X:Cx} {a b:Expr} {fa:WA}
end
end L2
namespace LJ
open PySem L2
variable [aD]
theorem TU {ds:List D} {t:Nat} (h:t <= ds.length):cutD ds none (some (t:Int))=ds.take t:=by
 unfold cutD
 rw[HT.Fq,HT.wZ ds.length ds.length t,Nat.min_eq_left h,q0Q,q1R]
noncomputable def wz:GD:=fun ys aj K=>∃ (m:Int) (ws:List Wy) (l:List Int) (n:Int),dz m ws/\(0 <= n/\n < (ws.length:Int))/\ys=[.p (aB m ws),.p (aO l),.p (.int n)]/\aj=[]/\K (.p (.bl (jz l (br ws n)))) []
noncomputable def Dp:WS:=(au (iZ (i7 (d2 (d2 (aa 0) (dC (.int 1)) bc) (aa 2) bc) i5 (qT (dC (.int 2)))) (kq 2 (f7 (bt 3) (f7 (bt 4) jQ)))) (aN (d2 (d2 (aa 3) (aa 1) (mi false)) (d2 (aa 4) (aa 1) (mi false)) oX)))
theorem TV:∀ ys aj K',ys.length=3->wz ys aj K'->Dp (bS aj.length K') ⟨ys.map some ++ List.replicate 2 none,aj.map some⟩:=by
 rintro ys aj K' - ⟨m,ws,l,n,W,⟨n0,n1⟩,rfl,rfl,k⟩
 obtain⟨y,ey,hy,ea,_⟩:=sX W n0 n1
 have ew:br ws n=y:=ey
 rw[ew] at k
 unfold Dp
 refine aW fun N hN => ?_
 have c2:cutD [D.int y.1,D.int y.2.1,D.int y.2.2] none (some 2)=[D.int y.1,D.int y.2.1]:=rfl
 simp? only [aB,i9,ea,bL,c2]
 subst hN
 simp? only [aO]
 have d0:=tj l
 refine⟨by omega,by omega,?_⟩
 rw[yP,yP]
 unfold jz at k
 generalize decide (y.1∈l)=p at k
 generalize decide (y.2.1∈l)=q at k
 cases p<;>cases q<;>exact d4 k
noncomputable def wA:D->D
 | .tup [_,n]=>n
 | _ => .non
noncomputable def wB:GD:=fun ys aj K=>∃ (m:Int) (ws:List Wy) (l:List Int),dz m ws/\ys=[.p (aB m ws),.p (aO l),.p (aO (ba ws.length))]/\aj=[]/\∀ os:List Int,os.Perm (e_ ws l)->(os.map (dG ws)).Pairwise kle->K (.p (aO os)) []
noncomputable def Dq:WS:=(au (aG 3 (fG (bO (aa 2)) [none,some 0,some 1] (bt 0) (dT (av 3 wz (ao (aa 1) (ao (aa 2) (ao (aa 0) ah))))) (fZ (ao (av 2 v5 (ao (aa 1) (ao (aa 0) ah))) (ao (aa 0) ah))))) (aN (fG (bO (dN (ao (aa 3) ah) yD)) [none,none] (kq 2 (f7 (bt 0) (f7 (bt 1) jQ))) c9 (aa 1))))
theorem TX:∀ ys aj K',ys.length=3->wB ys aj K'->Dq (bS aj.length K') ⟨ys.map some ++ List.replicate 1 none,aj.map some⟩:=by
 rintro ys aj K' - ⟨m,ws,l,W,rfl,rfl,k⟩
 have w30:=W.jf
 have il:=s_ ws.length
 have ol:=TB (ws:=ws) (l:=l)
 unfold Dq
 refine aW fun N hN => ?_
 rw[show aO (ba ws.length) = .lst ((ba ws.length).map D.int) from rfl]
 simp? only []
 refine sT (fun d=>match d with
  | .int n=>jz l (br ws n)
  | _=>false) (fun d=>match d with
  | .int n=>jY ws n
  | _ => .non) (by rw[qp];omega) trivial ?_ ?_
 ·intro d hd acc L ha h1 h2
  obtain⟨n,hn,rfl⟩:=Nk.mp hd
  have nn:=Co hn
  dsimp only at h1 h2
  simp? only []
  refine⟨m,ws,l,n,W,nn,rfl,rfl,?_⟩
  simp? only []
  cases q:jz l (br ws n) with
  | false=>simp? only [];exact h2 q
  | true =>
   simp? only []
   refine⟨m,ws,n,W,nn,rfl,rfl,?_⟩
   simp? only []
   exact⟨ha,h1 q⟩
 have e:(((ba ws.length).map D.int).filter fun d=>match d with
  | .int n=>jz l (br ws n)
  | _=>false).map (fun d=>match d with
  | .int n=>jY ws n
  | _ => .non)=(e_ ws l).map (jY ws):=by
  rw[q0q,Ys];rfl
 rw[e]
 subst hN
 simp? only [yD]
 refine⟨by omega,fun d=>match d with
  | .tup [.tup ks,.int n]=>(match intsOf ks with
   | some l=>l ++ [n]
   | none=>[])
  | _=>[],.inr ⟨3,fun d hd => ?_⟩,fun out pm pw => ?_⟩
 ·obtain⟨n,_,rfl⟩:=Nk.mp hd
  refine⟨dG ws n,n,rfl,rfl,?_⟩
  show (match intsOf ((dG ws n).map D.int) with
   | some l=>l ++ [n]
   | none=>[])=_
  rw[nN]
 ·obtain⟨ns,rfl,pn⟩:∃ ns:List Int,out=ns.map (jY ws)/\ns.Perm (e_ ws l):=by
   refine⟨out.map fun d=>match d with
    | .tup [_,.int n]=>n
    | _=>0,?_,?_⟩
   ·rw[Ys]
    refine (q2k out).symm.trans (YJ fun d hd => ?_)
    obtain⟨n,_,rfl⟩:=Nk.mp (pm.mem_iff.mp hd)
    rfl
   ·have:=pm.map fun d=>match d with
     | .tup [_,.int n]=>n
     | _=>0
    rw[Ys] at this
    exact this.trans (List.Perm.of_eq ((YJ fun n _=>rfl).trans (q2k _)))
  have nl:ns.length <= ws.length:=by rw[pn.length_eq];exact ol
  have up:(ns.map (dG ws)).Pairwise kle:=by
   rw[Ys] at pw
   rw[Zi] at pw ⊢
   refine pw.imp fun {a b} h => ?_
   have h:kle ((match intsOf ((dG ws a).map D.int) with
    | some l=>l ++ [a]
    | none=>[])) ((match intsOf ((dG ws b).map D.int) with
    | some l=>l ++ [b]
    | none=>[])):=h
   rw[nN,nN] at h
   exact R_ rfl h
  refine L2.kB wA (by rw[qp];omega) trivial ?_ ?_
  ·intro d hd acc L ha h
   obtain⟨n,_,rfl⟩:=Nk.mp hd
   simp? only [jY]
   exact⟨ha,h⟩
  ·have e:(ns.map (jY ws)).map wA=ns.map D.int:=by rw[Ys];rfl
   rw[e]
   exact d4 (k ns pn up)
theorem TY {ws:List Wy} {a b:List (List Int)}:hW ws (a ++ b)=hW ws a ++ hW ws b:=by
 unfold hW
 rw[Yw,Z8,Yw]
theorem TZ {m:Int} {ws:List Wy} (W:dz m ws) {l os:List Int} (p:os.Perm (e_ ws l)) (up:(os.map (dG ws)).Pairwise kle):hW ws [l]=os.take 1:=by
 unfold hW
 rw[Yt,Z4,q1O]
 cases os with
 | nil =>
  rw[List.nil_perm.mp p,Nj (by simp)]
  rfl
 | cons a r =>
  have ne:e_ ws l≠[]:=fun z=>by rw[z] at p;exact absurd p.length_eq (by simp)
  rw[XI (Yk ne)]
  rw[Yt,Y9] at up
  have:=IZ W Di (p.mem_iff.mp FN) fun e he=>(Nh.mp (p.mem_iff.mpr he)).elim (fun z=>by rw[z];exact kle_refl _) fun z=>up.1 _ (q1i z)
  show [lO ws (e_ ws l)]=[a]
  rw[this]
theorem T1 {m:Int} {ws:List Wy} {us:List Int} (h:hW ws (dH m ws us)=[]):d8 m ws us=[]:=by
 unfold d8
 rw[h]
 exact ZZ.mp (by rw[Bv];rfl)
theorem T2 {m:Int} {ws:List Wy} {us:List Int} (h:hW ws (dH m ws us)≠[]):d8 m ws us≠[]:=fun z=>by
 obtain⟨a,r,e⟩:=q1v h
 have:a∈d8 m ws us:=by
  unfold d8
  rw[(sortI_perm _).mem_iff,I_,e]
  exact FN
 rw[z] at this
 exact nomatch this
noncomputable def wC:GD:=fun ys aj K=>∃ (m:Int) (ws:List Wy),dz m ws/\ys=[.p (aB m ws)]/\aj=[]/\K (.n ((jc m ws).map aO)) []
noncomputable def Dr:WS:=(au (aG 1 (sH ah)) (au (aG 2 (eU ah)) (CQ (dT (dC (.bl true))) (au (aG 3 (eU ah)) (au (eW (bO (av 2 vP (ao (aa 0) (ao (aa 2) ah)))) (bt 4) (aG 3 (d2 (aa 3) (i7 (av 3 wB (ao (aa 0) (ao (aa 4) (ao (av 1 vO (ao (aa 0) ah)) ah)))) i5 (qT (dC (.int 1)))) eQ))) (au (bG (dT (d2 (aa 3) (eU ah) oEq)) (aN (aa 1)) fM) (au (aG 5 (dN (ao (aa 3) ah) o9)) (au (nG (jT (aa 1) (ao (aa 5) ah))) (aG 2 (d2 (aa 2) (aa 5) eQ))))))))))
theorem T3:∀ ys aj K',ys.length=1->wC ys aj K'->Dr (bS aj.length K') ⟨ys.map some ++ List.replicate 5 none,aj.map some⟩:=by
 rintro ys aj K' - ⟨m,ws,W,rfl,rfl,k⟩
 have w30:=W.jf
 unfold Dr
 refine aW fun N hN => ?_
 simp? only []
 subst hN
 refine aW fun N hN => ?_
 simp? only []
 subst hN
 refine⟨ws.length + 1,?_⟩
 generalize hK:bS ([]:List OV).length K'=KK
 have ret:∀ sl,KK.rt (.o 0) ⟨sl,[some (.lst ((jc m ws).map aO))]⟩:=fun sl=>by
  rw[<-hK]
  exact⟨[],rfl,rfl,.inl k⟩
 clear hK
 generalize hb:(au (aG 3 (eU ah)) _:WS)=bb
 have go:∀ (n:Nat) (us:List Int) (rs:List (List Int)),Nums ws us->us.Nodup->ws.length < us.length + n->rs.length + n <= ws.length + 1->rs ++ lP m ws n us=jc m ws →
   lL ⟨[some (.p (aB m ws)),some (.o 0),some (.p (.lst [])),none,none,none],[some (.lst [])]⟩ (dT (dC (.bl true))) bb KK n ⟨[some (.p (aB m ws)),some (.o 0),some (.p (.lst (us.map D.int))),none,none,none],[some (.lst (rs.map aO))]⟩:=by
  intro n
  induction n with
  | zero =>
   intro us rs hu nd h _ _
   have:=wx hu nd
   omega
  | succ n ih =>
   intro us rs hu nd h hr he
   obtain⟨mu,mn⟩:=Jd W hu nd
   have ul:=wx mu mn
   rw[Aw] at ul
   refine Je fun A B hA hB => ?_
   simp? only []
   obtain⟨L,eL⟩:∃ L,L=fun δ2=>lL ⟨[some (.p (aB m ws)),some (.o 0),some (.p (.lst [])),none,none,none],[some (.lst [])]⟩ (dT (dC (.bl true))) bb KK n (aw.trim ⟨[some (.p (aB m ws)),some (.o 0),some (.p (.lst [])),none,none,none],[some (.lst [])]⟩ δ2):=⟨_,rfl⟩
   have hL:∀ (rN:List Int) (wD:List (List Int)) (s3 s4 s5:Option DV),Nums ws rN->rN.Nodup->ws.length < rN.length + n->wD.length + n <= ws.length + 1->wD ++ lP m ws n rN=jc m ws →
     L ⟨[some (.p (aB m ws)),some (.o 0),some (.p (.lst (rN.map D.int))),s3,s4,s5],[some (.lst (wD.map aO))]⟩:=fun rN wD s3 s4 s5 h1 h2 h3 h4 h5=>by
    rw[eL]
    simp? only []
    exact ih rN wD h1 h2 h3 h4 h5
   subst hA
   rw[<-eL,<-hb]
   clear eL hb ih
   refine aW fun N2 eX => ?_
   simp? only []
   subst eX
   refine aW fun N2 eX => ?_
   refine vv fun g' b' K2 hg dJ hK => ?_
   simp? only []
   refine⟨m,ws,us,W,hu,.inl ⟨rfl,rfl,?_⟩⟩
   rw[TF W hu,show jx (dH m ws us) = .lst ((dH m ws us).map aO) from rfl]
   simp? only []
   subst hg dJ hK
   obtain⟨ll,lf⟩:=IU W hu
   refine oZ (fun i δ => δ = ⟨[some (.p (aB m ws)),some (.o 0),some (.p (.lst (us.map D.int))),some (.p (.lst ((hW ws ((dH m ws us).take i)).map D.int))),none,none],[some (.lst (rs.map aO))]⟩) rfl ?_ ?_
   ·rintro i d δ L2 hi rfl mO
    rw[Ni] at hi
    obtain⟨l,T4,rfl⟩:=XM.mp hi
    have et:(dH m ws us).take (i + 1)=(dH m ws us).take i ++ [l]:=by rw[ZY,T4];rfl
    have cl:=Dj (ws:=ws) (ls:=(dH m ws us).take i)
    rw[YD] at cl
    have mO:=mO _ rfl
    rw[et,TY] at mO
    refine⟨trivial,?_⟩
    simp only[bt,Y7,Y8]
    simp? only []
    refine⟨m,ws,W,rfl,rfl,?_⟩
    simp? only []
    refine⟨m,ws,l,W,rfl,rfl,fun os pm up => ?_⟩
    rw[TZ W pm up,Yw] at mO
    rw[show aO os = .lst (os.map D.int) from rfl]
    simp? only []
    have ct:cutD (os.map D.int) none (some 1)=(os.take 1).map D.int:=by
     cases os with
     | nil=>rfl
     | cons a r=>rw[show (1:Int)=((1:Nat):Int) from rfl,TU (by simp),List.map_take]
    rw[ct]
    refine⟨by rw[qp,YD];omega,mO⟩
   ·rintro δ rfl
    refine⟨trivial,?_⟩
    rw[qp,q0i]
    have cl:=Dj (ws:=ws) (ls:=dH m ws us)
    subst eX
    dsimp only
    refine aW fun N2 eX => ?_
    refine ym fun A B hA hB => ?_
    simp? only []
    refine⟨by rw[tj];decide,?_⟩
    rw[show (D.lst [])=D.lst (([]:List Int).map D.int) from rfl]
    simp only[ay,IT]
    unfold lP at he
    by_cases c:hW ws (dH m ws us)=[]
    ·rw[Yk c]
     simp? only []
     rw[T1 c] at he
     rw[show rs ++ []=rs from ZM rs] at he
     subst hA
     simp? only []
     rw[he]
     exact ret _
    ·rw[Yz c]
     simp? only []
     have rn:=T2 c
     obtain⟨a,r,er⟩:=q1v rn
     rw[er] at he
     dsimp only at he
     rw[<-er] at he
     have rl:0 < (d8 m ws us).length:=q1j.mpr rn
     subst hB
     show N2 _
     subst eX
     refine aW fun N2 eX => ?_
     simp? only [nN]
     refine⟨by omega,?_⟩
     rw[show sortI (ju (hW ws (dH m ws us)))=d8 m ws us from rfl]
     subst eX
     refine aW fun N2 eX => ?_
     simp? only []
     refine⟨by omega,?_⟩
     subst eX
     simp? only []
     refine⟨by omega,?_⟩
     rw[<-Yw]
     have:=hL (us ++ d8 m ws us) (rs ++ [d8 m ws us]) (some (.p (.lst ((hW ws (dH m ws us)).map D.int)))) none (some (.p (.lst ((d8 m ws us).map D.int)))) mu mn (by rw[Aw];omega) (by rw[Aw,Yu];omega) (by rw[ZH];exact he)
     rw[show (rs ++ [d8 m ws us]).map aO=rs.map aO ++ [aO (d8 m ws us)] from Yw] at this
     exact this
 exact go (ws.length + 1) [] [] (fun n h=>nomatch h) Zu (by simp) (by simp) rfl
end LJ
namespace L2
open PySem
variable [aD]
mutual
noncomputable def rO:D->Bool
 | .lst _=>false
 | .tup ds=>jd ds
 | _=>true
noncomputable def jd:List D->Bool
 | []=>true
 | d :: r=>rO d && jd r
end
noncomputable def iK (F:Hp):Hp:=fun a=>match F a with
 | some (.tup vs)=>some (.tup vs)
 | _=>none
theorem Ds {F:Hp} {a:Addr} {o:HO} (h:iK F a=some o):F a=some o/\∃ vs,o = .tup vs:=by
 unfold iK at h
 cases q:F a with
 | none=>rw[q] at h;cases h
 | some u =>
  rw[q] at h
  cases u with
  | tup vs=>cases h;exact⟨rfl,vs,rfl⟩
  | _=>cases h
theorem T5 {F:Hp} {a:Addr} {vs:List V} (h:F a=some (.tup vs)):iK F a=some (.tup vs):=by
 unfold iK
 rw[h]
mutual
theorem lQ {F:Hp}:∀ {d:D} {v:V},rO d=true->Is F d v->Is (iK F) d v
 | .lst _,_,h,_=>by simp[rO] at h
 | .tup ds,v,h,i=>by
  simp only[rO] at h
  simp only[Is] at i ⊢
  obtain⟨a,vs,e,f,k⟩:=i
  exact⟨a,vs,e,T5 f,Jf h k⟩
 | .non,_,_,i=>by simp only[Is] at i ⊢;exact i
 | .bl _,_,_,i=>by simp only[Is] at i ⊢;exact i
 | .int _,_,_,i=>by simp only[Is] at i ⊢;exact i
 | .str _,_,_,i=>by simp only[Is] at i ⊢;exact i
theorem Jf {F:Hp}:∀ {ds:List D} {vs:List V},jd ds=true->af F ds vs->af (iK F) ds vs
 | [],_,_,i=>by simp only[af] at i ⊢;exact i
 | d :: r,vs,h,i=>by
  simp only[jd,YI] at h
  simp only[af] at i ⊢
  obtain⟨v,t,e,h1,h2⟩:=i
  exact⟨v,t,e,lQ h.1 h1,Jf h.2 h2⟩
end
section
variable {F F' H H':Hp} {ad aA:List Addr} {δ δ':aw} {σ σ':St}
theorem Jg {Kf:PySem.W.Frag} {i:Nat} {a:Addr} {lR:List V} {H4:Hp} {K:KS} {D:Ends} (S:SR F ad δ σ H) (hi:i < δ.sl.length) (C:Cn F ad δ.mu H K.nx D.nx) (kp:∀ x o,H x=some o->x∉aD.ad->H4 x=some o) (dm:∀ x o,H x=some o->∃ o',H4 x=some o') (tk:aD.ok H4)
  (ha:H a=none) (h4:H4 a=some (.lst lR)) (l4:lR.length <= 950) (hk:K.nx ⟨δ.sl.set i none,δ.mu⟩):oA (j_ Kf "list" oF (c5 i) (dR (jD cV) cV)) D (σ.set i (some (.ref a))) H4:=by
 have gi:(σ.set i (some (V.ref a)))[i]? = some (some (.ref a)):=YN (by rw[S.len];exact hi)
 refine⟨_,gi,Or.inl ⟨rfl,lR,aU.of h4⟩,YK _,fun p hp => ?_⟩
 have pa:a≠p:=cf h4 hp
 have h5:upd H4 p (.lst []) a=some (.lst lR):=by rw[aH pa];exact h4
 refine⟨a,lR,_,rfl,rfl,h5,ka (by omega),?_⟩
 have pE:=aD.put (o' := .lst (lR ++ [V.ref p])) (aD.same tk (cW (o := .lst []) hp)) h5 (.inl ⟨_,rfl⟩)
 have pH:H p=none:=by
  cases q:H p with
  | none=>rfl
  | some u =>
   obtain⟨u',z⟩:=dm p u q
   rw[z] at hp;cases hp
 have old:∀ x o,H x=some o->x∉aD.ad->upd (upd H4 p (.lst [])) a (.lst (lR ++ [V.ref p])) x=some o:=fun x o e n=>by
  rw[aH (cf e ha),aH (cf e pH)]
  exact kp x o e n
 refine C _ hk F ad _ _ ⟨fun _ _ e=>e,fun _ _ e => .inl e,fun x o e _ n=>old x o e n,fun _ _ e=>e,fun _ e => .inl e,fun x o e => ?_⟩ ⟨fun x o e=>old x o (S.sub x o e) (fun z=>by rw[S.nt x z] at e;cases e),S.off,S.cj,S.inj,fun k ov e => ?_,fun j x e => ?_,?_,pE,S.nt⟩
 ·rw[aH (cf e ha),aH (cf e pH)]
  exact dm x o e
 ·obtain⟨x,o,e1,e2,e3⟩:=S.mu k ov e
  refine⟨x,o,e1,old x o e2 fun z => ?_,e3⟩
  obtain⟨ps,q⟩:=aD.tb S.tab z
  rw[e2] at q
  rcases e3.kind with⟨_,y⟩ | ⟨_,y⟩<;>rw[y] at q<;>cases q
 ·have e:(δ.sl.set i none)[j]? = some (some x):=e
  by_cases c:i=j
  ·subst c;rw[YN hi] at e;cases e
  ·rw[YU c] at e ⊢
   exact S.sl j x e
 ·show (σ.set i _).length=(δ.sl.set i none).length
  rw[Zn,Zn];exact S.len
noncomputable def yX (i j:Nat) (G:GD) (t t2:WT):WS:=fun K δ => i < δ.sl.length/\∃ d,δ.sl[j]? = some (some (.p d))/\rO d=true/\G [.p d] [] fun res _=>∃ ds,res = .n ds/\ds.length <= 900/\(∀ e∈ds,∃ es,e = .lst es/\es.length <= 900) ∧
 t ⟨δ.sl.set i (some (.p (.lst ds))),(kO δ).mu⟩ fun b δ2=>b=false/\t2 δ2 fun b2 _=>b2=(!ds.isEmpty)/\K.nx ⟨δ.sl.set i none,δ.mu⟩
theorem T6 {Kf:PySem.W.Frag} {i j:Nat} {G:GD} {t t2:WT} {B:TS} {E:XK}:∀ D σ H,dX (yX i j G t t2) D σ H->ir (fU (qc (aI G 1) [] E (dR (c5 j) cV)) (j8 i)) (ir (jC (cS t) B r_) (ir (jC (cS t2) (oA (j_ Kf "list" oF (kS (qf Kf) (c5 i) (tC (.int 0))) (dR (tC (.int 0)) cV))) r_) (oA (j_ Kf "list" oF (c5 i) (dR (jD cV) cV))))) D σ H:=fun D σ H ⟨F,ad,δ,K,S,⟨hi,d,hj,nl,g⟩,C⟩=>by
 obtain⟨v,ev,iv⟩:=S.sl j _ hj
 have iv:Is F d v:=iv
 refine⟨v,ev,rfl,iK F,[],[.p d],[],_,⟨fun a o e=>S.sub _ _ (Ds e).1,fun a ⟨k,ov,e,_⟩=>by simp at e,rfl,fun k l a ov ow e _ _ _=>by simp at e,fun k ov e=>by simp at e,fun k x e => ?_,rfl,S.tab,fun a ha => ?_⟩,g,fun r ows hk v2 F2 H2 P => ?_⟩
 ·cases k with
  | zero=>cases (show some (some (DV.p d))=some (some x) from e);exact⟨v,rfl,lQ nl iv⟩
  | succ k=>simp at e
 ·unfold iK;rw[S.nt a ha]
 obtain⟨ds,rfl,l1,l2,ht⟩:=hk
 obtain⟨a,vs,rfl,ha,T7,Yh,ia⟩:=P.res
 have kp:∀ b o,H b=some o->b∉aD.ad->H2 b=some o:=fun b o e t=>P.keep b o e (by simp) t
 have S2:=S.hide.vX kp P.tab
 have E2:=Ext.vX S.hide kp P.tab
 have Dt:Nw F H H2 a=some (.lst vs):=by unfold Nw;rw[ha];exact T7
 have sm:ax F2 (Nw F H H2):=fun x o e=>by
  unfold Nw
  cases q:H x with
  | none=>exact P.sub x o e
  | some u =>
   rcases P.new x o e with z | z
   ·exact (Ds z).1
   ·rw[q] at z;cases z
 have T8:=ia.same sm
 have rV:Is (Nw F H H2) (.lst ds) (.ref a):=by simp only[Is];exact⟨a,vs,rfl,Dt,T8⟩
 have T9:=S2.set (i:=i) (x := .p (.lst ds)) (v := .ref a) rV
 refine⟨Nw F H H2,ad,_,_,T9,ht,fun b δ3 ⟨hb,h3⟩ F3 oP H3 E3 S3 => ?_⟩
 subst hb
 rw[Nj (by decide)]
 refine⟨F3,oP,δ3,_,S3,h3,fun b2 δ4 ⟨tw,hk⟩ F4 uV H4 E4 S4 => ?_⟩
 have ET:=(E2.trans E3).trans E4
 have up:∀ x o,Nw F H H2 x=some o->H4 x=some o:=fun x o e=>S4.sub _ _ (E4.same _ _ (E3.same _ _ e))
 have lv:=ia.length
 cases ds with
 | nil =>
  have tw:b2=false:=tw
  subst tw
  dsimp only
  rw[Nj (by decide)]
  exact Jg S hi C.nx (fun x o e n=>ET.keep x o e CT n) ET.g_ S4.tab ha (up _ _ Dt) (by rw[lv];exact YK _) hk
 | cons e r =>
  have tw:b2=true:=tw
  subst tw
  dsimp only
  rw[XI rfl]
  obtain⟨es,rfl,l3⟩:=l2 e FN
  have Jh:=ia
  simp only[Is,af] at Jh
  obtain⟨x,tl,rfl,⟨b,us,rfl,fb,iu⟩,it⟩:=Jh
  have hb:H b=none:=by
   rcases P.new b _ fb with z | z
   ·obtain⟨_,ws,y⟩:=Ds z
    cases y
   ·exact z
  have Du:=up b _ (sm _ _ fb)
  have Ji:=up a _ Dt
  have gi:(σ.set i (some (V.ref a)))[i]? = some (some (.ref a)):=YN (by rw[S.len];exact hi)
  have lu:us.length <= 900:=by rw[iu.length];exact l3
  refine⟨_,gi,a,_,0,V.ref b,rfl,rfl,aU.of Ji,Sr,Or.inl ⟨rfl,us,aU.of Du⟩,b,us,_,rfl,rfl,Du,ka (by omega),?_⟩
  obtain⟨lR,h5,l5⟩:∃ lR,upd H4 b (.lst (us ++ [V.int 0])) a=some (.lst lR)/\lR.length <= 950:=by
   by_cases c:a=b
   ·subst c;exact⟨_,bz,by rw[Aw,Yu];omega⟩
   ·exact⟨_,by rw[aH c];exact Ji,by rw[lv];omega⟩
  refine Jg S hi C.nx (fun x o e n => ?_) (fun x o e => ?_) (aD.put S4.tab Du (.inl ⟨_,rfl⟩)) ha h5 l5 hk
  ·rw[aH (cf e hb)];exact ET.keep x o e CT n
  ·rw[aH (cf e hb)];exact ET.g_ x o e
end
section
variable {X:Cx} {CU j6 iQ mV:Stmt} {i j:Nat} {G:GD} {t t2:WT} {B:TS} {E:XK}
theorem T_ (h0:JS X CU (fU (qc (aI G 1) [] E (dR (c5 j) cV)) (j8 i))) (h1:JS X j6 (jC (cS t) B r_)) (h2:JS X iQ (jC (cS t2) (oA (j_ X.K "list" oF (kS (qf X.K) (c5 i) (tC (.int 0))) (dR (tC (.int 0)) cV))) r_)) (h3:JS X mV (oA (j_ X.K "list" oF (c5 i) (dR (jD cV) cV)))):fK X [CU,j6,iQ,mV] (dX (yX i j G t t2)):=(l_ h0 (l_ h1 (l_ h2 (qv h3)))).weak T6
end
end L2
namespace LJ
open PySem L2
variable [aD]
noncomputable abbrev Cg:=lI 3
noncomputable def Dv:WS:=(au (eW (lh (ao (dC (.int 3)) ah)) (bt 2) (au (aG 3 (av 3 vz (ao (av 1 vx (ao (aa 1) ah)) (ao (d2 (eU (ao (dC (.int 12)) (ao (dC (.int 9)) (ao (dC (.int 12)) ah)))) (aa 2) bc) (ao (dC (.int 30)) ah))))) (au (aG 4 (av 1 wC (ao (aa 3) ah))) (eW (lh (ao (dC (.int 2)) ah)) (bt 5) (yX 6 3 wy (gA (dT (av 2 Cg (ao (aa 6) (ao (aa 4) ah))))) (dT (d2 (aa 6) (eU ah) oX))))))) (aN (dC (.bl true))))
theorem Jj {m:Int} {ws:List Wy}:∀ (n:Nat) (us:List Int),(lP m ws n us).length <= n/\∀ r∈lP m ws n us,r.length <= ws.length
 | 0,_=>⟨qq _,fun r h=>nomatch h⟩
 | n + 1,us=>by
  have rl:=wx (Jc (m:=m) (ws:=ws) (us:=us)) Ja
  unfold lP
  cases q:d8 m ws us with
  | nil=>exact⟨YK _,fun r h=>nomatch h⟩
  | cons a b =>
   rw[q] at rl
   obtain⟨h1,h2⟩:=Jj (m:=m) (ws:=ws) n (us ++ a :: b)
   refine⟨by rw[FL];omega,fun r h => ?_⟩
   rcases Nh.mp h with rfl | h
   ·exact rl
   ·exact h2 r h
theorem Ua (ws:List Wy):jd (ws.map bL)=true:=by
 induction ws with
 | nil=>rfl
 | cons y r ih=>rw[Yt];simp only[jd,ih,bL,rO,q0_]
noncomputable abbrev KL:KS:=⟨fun _=>False,fun x _=>x = .p (.bl true),fun _=>False,fun _=>False⟩
theorem Ub (ns:List Int) (hn:ns.length <= 63):Dv KL ⟨none :: some (.o 0) :: List.replicate 5 none,[some (i_ ns 0 0)]⟩:=by
 unfold Dv
 refine aW fun N hN => ?_
 simp? only []
 refine⟨by decide,?_⟩
 refine oZ (fun i δ => ∃ o,bj (1000 * i) o /\ δ = ⟨none :: some (.o 0) :: List.replicate 5 none,[some o]⟩) ⟨i_ ns 0 0,⟨ns,0,0,rfl,hn,by omega,by omega⟩,rfl⟩ ?_ ?_
 ·rintro j d δ L hj ⟨o,P,rfl⟩ hL
  obtain⟨Dw,rfl⟩:=oS hj
  have Dw:j < 3:=Dw
  refine⟨trivial,?_⟩
  simp only[bt,Zg,List.replicate_zero,Y7,Y8]
  obtain⟨hs,ea,h1,Ic⟩:∃ hs:Int,fB [D.int 12,D.int 9,D.int 12] (0 + (j:Int))=some (.int hs)/\1 <= hs/\hs <= 12:=by
   match j,Dw with
   | 0,_=>exact⟨12,rfl,by decide,by decide⟩
   | 1,_=>exact⟨9,rfl,by decide,by decide⟩
   | 2,_=>exact⟨12,rfl,by decide,by decide⟩
  generalize (0 + (j:Int))=jt at ea
  refine aW fun N2 eX => ?_
  simp? only []
  refine⟨1000 * j,o,rfl,rfl,P,fun o1 P1 => ?_⟩
  simp? only [ea]
  refine⟨1000 * j,hs,30,o1,rfl,rfl,P1,by omega,by omega,by omega,by omega,by omega,fun m ws o2 W _ _ P2 => ?_⟩
  have w30:=W.jf
  simp? only []
  subst eX
  refine aW fun N2 eX => ?_
  simp? only []
  refine⟨m,ws,W,rfl,rfl,?_⟩
  simp? only []
  subst eX
  obtain⟨rl,ri⟩:=Jj (m:=m) (ws:=ws) (ws.length + 1) []
  rw[show lP m ws (ws.length + 1) []=jc m ws from rfl] at rl ri
  have nt:=TJ (jc m ws) (by omega) fun l h=>by have:=ri l h;omega
  have d3:=TH (jc m ws)
  have d0:=S9 (jc m ws)
  simp only[eW,lh,ao,dC,ah,jN,ib]
  refine⟨by decide,?_⟩
  refine oZ (fun i δ => δ = ⟨[none,some (.o 0),some (.p (.int jt)),some (.p (aB m ws)),some (.p (.lst ((jc m ws).map aO))),none,none],[some o2]⟩) rfl ?_ ?_
  ·rintro a d δ L3 ha rfl Dx
   have Dx:=Dx _ rfl
   refine⟨trivial,?_⟩
   simp only[bt,Y7,Y8]
   simp? only [yX,kO]
   refine⟨_,rfl,by unfold aB;simp only[rO,jd,Ua,q0_],m,ws,W,rfl,rfl,_,rfl,by rw[qp];omega,fun e he => ?_,?_⟩
   ·obtain⟨r,hr,rfl⟩:=Nk.mp he
    have:=ri r hr
    exact⟨r.map D.int,rfl,by rw[qp];omega⟩
   ·refine⟨jx (jc m ws),d3,by decide,nt,.inl ⟨rfl,rfl,?_⟩⟩
    simp? only []
    refine⟨by have:=C5 (jc m ws);omega,?_,Dx⟩
    generalize (jc m ws).map aO=xs
    cases xs with
    | nil=>rfl
    | cons x r=>simp only[ay,cv,List.isEmpty_cons]
  ·rintro δ rfl
   refine⟨trivial,?_⟩
   simp? only []
   exact hL _ ⟨o2,P2.mono (by omega),rfl⟩
 ·rintro δ ⟨o,P,rfl⟩
  refine⟨trivial,?_⟩
  subst hN
  simp? only []
end LJ
namespace LJ
open PySem L2
noncomputable def top (i:Nat):Stmt:=PySem.Challenge.pw_lotjoin_k20_rounds_told.main.body.getD i (.Pass ⟨0,0,0,0⟩)
section
variable [aD] {P:Program} {w:World} {K:PySem.W.Frag} {mg:Str->Option Value} {base:Heap}
noncomputable abbrev Dy:Stmt:=top 8
theorem fg:cA ["thing"] ["thing"] (bA Dy):=⟨rfl,rfl,rfl,by decide +kernel,rfl,by decide +kernel,by decide +kernel⟩
theorem Uc {f:Addr} {fd:FuncData} (F:bQ K "is_whole" "is_whole" Dy f fd) (B:BT mg):aM P w K mg base bJ 1 f fd ["thing"] (aI vA 1):=by
 refine F.dZ (k:=0) fg fun a0 A outer s H E hr => ?_
 have nd:=fg.nd
 have hu:=hr.units
 exact⟨B4,(bg (bR (me (iF Bx (by rfl) B.isinstance (by rfl) B.int A4 (dv 0)) (nE (O1 (iF vc (by rfl) B.isinstance (by rfl) B.bool uL (dv 0))))))),QV⟩
noncomputable abbrev Dz:Stmt:=top 9
theorem d9:cA ["thing", "least", "most"] ["thing", "least", "most"] (bA Dz):=⟨rfl,rfl,rfl,by decide +kernel,rfl,by decide +kernel,by decide +kernel⟩
theorem Ud {f Ue:Addr} {fd Ug:FuncData} (F:bQ K "is_within" "is_within" Dz f fd) (B:BT mg) (cG:Fn P w K mg base 1 "is_whole" ["thing"] (aI vA 1) Ue Ug):aM P w K mg base bJ 2 f fd ["thing", "least", "most"] (aI kC 3):=by
 refine F.dZ (k:=1) d9 fun a0 A outer s H E hr => ?_
 have nd:=d9.nd
 have hu:=hr.units
 exact⟨B5,(bg (bR (me (bT cG.ok (hr.mono (by decide)) (by rfl) cG.bD cG.kp cG.bd (aq (dv 0) aE)) (nE (PD G6 G6 (dv 1) (dv 0) (dv 2)))))),QW⟩
noncomputable abbrev DA:Stmt:=top 10
theorem dg:cA ["thing", "size"] ["thing", "size"] (bA DA):=⟨rfl,rfl,rfl,by decide +kernel,rfl,by decide +kernel,by decide +kernel⟩
theorem Uh {f:Addr} {fd:FuncData} (F:bQ K "is_tuple_of" "is_tuple_of" DA f fd) (B:BT mg):aM P w K mg base bJ 1 f fd ["thing", "size"] (aI rC 2):=by
 refine F.dZ (k:=0) dg fun a0 A outer s H E hr => ?_
 have nd:=dg.nd
 have hu:=hr.units
 exact⟨B6,(bg (bR (me (iF ya (by rfl) B.isinstance (by rfl) B.tuple uM (dv 0)) (nE (iX (ie hu) (gK jq (by rfl) B.len YV (aq (dv 0) aE)) (dv 1) (by rfl)))))),QX⟩
noncomputable abbrev DB:Stmt:=top 11
theorem fh:cA ["many", "one", "other"] ["many", "one", "other"] (bA DB):=⟨rfl,rfl,rfl,by decide +kernel,rfl,by decide +kernel,by decide +kernel⟩
theorem Ui {f rP:Addr} {fd rQ:FuncData} (F:bQ K "are_ends" "are_ends" DB f fd) (B:BT mg) (ak:Fn P w K mg base 2 "is_within" ["thing", "least", "most"] (aI kC 3) rP rQ):aM P w K mg base bJ 3 f fd ["many", "one", "other"] (aI vD 3):=by
 refine F.dZ (k:=2) fh fun a0 A outer s H E hr => ?_
 have nd:=fh.nd
 have hu:=hr.units
 exact⟨B7,(bg (bR (me (bT ak.ok (hr.mono (by decide)) (by rfl) ak.bD ak.kp ak.bd (aq (dv 1) (a7 az (jn (bx sN (dv 0) az) aE)))) (nE (bT ak.ok (hr.mono (by decide)) (by rfl) ak.bD ak.kp ak.bd (aq (dv 2) (jn (bx fO (dv 1) az) (jn (bx sN (dv 0) az) aE)))))))),QY⟩
noncomputable abbrev DC:Stmt:=top 12
theorem gQ:cA ["many", "thing"] ["many", "thing"] (bA DC):=⟨rfl,rfl,rfl,by decide +kernel,rfl,by decide +kernel,by decide +kernel⟩
theorem Uj {f DD Uk rP:Addr} {fd DE Ul rQ:FuncData} (F:bQ K "is_way" "is_way" DC f fd) (B:BT mg) {Jk:Value} (Jl:RelV (.int 1000000000) Jk/\mg "MOST_PRICE" = some Jk) (aJ:Fn P w K mg base 1 "is_tuple_of" ["thing", "size"] (aI rC 2) DD DE) (cH:Fn P w K mg base 3 "are_ends" ["many", "one", "other"] (aI vD 3) Uk Ul) (ak:Fn P w K mg base 2 "is_within" ["thing", "least", "most"] (aI kC 3) rP rQ):aM P w K mg base bJ 4 f fd ["many", "thing"] (aI vE 2):=by
 refine F.dZ (k:=3) gQ fun a0 A outer s H E hr => ?_
 have nd:=gQ.nd
 have hu:=hr.units
 exact⟨B8,(a6 (f6 (oK (iY (bT aJ.ok (hr.mono (by decide)) (by rfl) aJ.bD aJ.kp aJ.bd (aq (dv 1) (a7 az aE))))) (bg (bR k8)) gg) (bg (bR (me (bT cH.ok (hr.mono (by decide)) (by rfl) cH.bD cH.kp cH.bd (aq (dv 0) (bF (bE bH (dv 1) az (fun _ _=>rfl)) (bF (bE bH (dv 1) az (fun _ _=>rfl)) aE)))) (nE (bT ak.ok (hr.mono (by decide)) (by rfl) ak.bD ak.kp ak.bd (bF (bE bH (dv 1) az (fun _ _=>rfl)) (a7 az (aq (A8 (i:=1000000000) (by rfl) Jl.2 Jl.1) aE))))))))),Q0⟩
noncomputable abbrev DF:Stmt:=top 13
theorem fj:cA ["many", "thing"] ["many", "thing"] (bA DF):=⟨rfl,rfl,rfl,by decide +kernel,rfl,by decide +kernel,by decide +kernel⟩
theorem Um {f Uo:Addr} {fd Uq:FuncData} (F:bQ K "are_ways" "are_ways" DF f fd) (B:BT mg) {Jo:Value} (Jp:RelV (.int 30) Jo/\mg "MOST_WAYS" = some Jo) (d_:Fn P w K mg base 4 "is_way" ["many", "thing"] (aI vE 2) Uo Uq):aM P w K mg base bJ 5 f fd ["many", "thing"] (aI vF 2):=by
 refine F.dZ (k:=4) fj fun a0 A outer s H E hr => ?_
 have nd:=fj.nd
 have hu:=hr.units
 exact⟨Ca,(a6 (f6 (JW.jt (xy (oK (iY (iF ya (by rfl) B.isinstance (by rfl) B.tuple uM (dv 1)))) (xx (eV sP (gK jq (by rfl) B.len YV (aq (dv 1) aE)) (A8 (i:=30) (by rfl) Jp.2 Jp.1) (by rfl))))) (bg (bR k8)) gg) (a6 (f6 (oK (iY (gK (PL rfl) (by rfl) B.all ON (jn (jR [none,some 0] ["way", "many"] rfl (iD (dv 1)) (fun d=>(cq (i:=0) (show (["way", "many"]:List Str).Nodup by decide +kernel) rfl (by trivial))) (fun d=>ku) (fun d=>(bT d_.ok (hr.mono (by decide)) (by rfl) d_.bD d_.kp d_.bd (aq (dv 1) (aq (dv 0) aE))))) aE)))) (bg (bR k8)) gg) (bg (bR (iX (ie hu) (QU rfl hu (by rfl) B.len YV (by rfl) B.set xq (jn (jR [none] ["way"] rfl (iD (dv 1)) (fun d=>(cq (i:=0) (show (["way"]:List Str).Nodup by decide +kernel) rfl (by trivial))) (fun d=>ku) (fun d=>(yk (dv 0) xV (xW az)))) aE)) (gK jq (by rfl) B.len YV (aq (dv 1) aE)) (by rfl)))))),Q1⟩
noncomputable abbrev DG:Stmt:=top 14
theorem gR:cA ["thing"] ["thing"] (bA DG):=⟨rfl,rfl,rfl,by decide +kernel,rfl,by decide +kernel,by decide +kernel⟩
theorem Ur {f DD rP Us:Addr} {fd DE rQ Ut:FuncData} (F:bQ K "is_web" "is_web" DG f fd) (B:BT mg) {Jq:Value} (Jr:RelV (.int 12) Jq/\mg "MOST_HOUSES" = some Jq) (aJ:Fn P w K mg base 1 "is_tuple_of" ["thing", "size"] (aI rC 2) DD DE) (ak:Fn P w K mg base 2 "is_within" ["thing", "least", "most"] (aI kC 3) rP rQ) (cI:Fn P w K mg base 5 "are_ways" ["many", "thing"] (aI vF 2) Us Ut):aM P w K mg base bJ 6 f fd ["thing"] (aI vH 1):=by
 refine F.dZ (k:=5) gR fun a0 A outer s H E hr => ?_
 have nd:=gR.nd
 have hu:=hr.units
 exact⟨Cb,(a6 (f6 (oK (iY (bT aJ.ok (hr.mono (by decide)) (by rfl) aJ.bD aJ.kp aJ.bd (aq (dv 0) (a7 az aE))))) (bg (bR k8)) gg) (bg (bR (me (bT ak.ok (hr.mono (by decide)) (by rfl) ak.bD ak.kp ak.bd (bF (bE bH (dv 0) az (fun _ _=>rfl)) (a7 az (aq (A8 (i:=12) (by rfl) Jr.2 Jr.1) aE)))) (nE (bT cI.ok (hr.mono (by decide)) (by rfl) cI.bD cI.kp cI.bd (bF (bE bH (dv 0) az (fun _ _=>rfl)) (bF (bE bH (dv 0) az (fun _ _=>rfl)) aE)))))))),Q3⟩
noncomputable abbrev DH:Stmt:=top 15
theorem fm:cA ["web"] ["web"] (bA DH):=⟨rfl,rfl,rfl,by decide +kernel,rfl,by decide +kernel,by decide +kernel⟩
theorem Uu {f Uv:Addr} {fd Uw:FuncData} (F:bQ K "need_web" "need_web" DH f fd) (B:BT mg) (eg:Fn P w K mg base 6 "is_web" ["thing"] (aI vH 1) Uv Uw):aM P w K mg base bJ 7 f fd ["web"] (aI vZ 1):=by
 refine F.dZ (k:=6) fm fun a0 A outer s H E hr => ?_
 have nd:=fm.nd
 have hu:=hr.units
 exact⟨CL,(bg (f6 (oK (iY (bT eg.ok (hr.mono (by decide)) (by rfl) eg.bD eg.kp eg.bd (aq (dv 0) aE)))) (bg BK) gg)),R6⟩
noncomputable abbrev DI:Stmt:=top 16
theorem f_:cA ["way"] ["way"] (bA DI):=⟨rfl,rfl,rfl,by decide +kernel,rfl,by decide +kernel,by decide +kernel⟩
theorem Ux {f:Addr} {fd:FuncData} (F:bQ K "rank_of" "rank_of" DI f fd) (B:BT mg):aM P w K mg base bJ 1 f fd ["way"] (aI v3 1):=by
 refine F.dZ (k:=0) f_ fun a0 A outer s H E hr => ?_
 have nd:=f_.nd
 have hu:=hr.units
 exact⟨CM,(bg (bR (nB (bF (bE bH (dv 0) az (fun _ _=>rfl)) (bF (bE bH (dv 0) az (fun _ _=>rfl)) (bF (bE bH (dv 0) az (fun _ _=>rfl)) aE)))))),R7⟩
noncomputable abbrev DJ:Stmt:=top 18
theorem eu:cA ["web", "ways", "last", "seen", "place", "number"] ["web", "ways"] (bA DJ):=⟨rfl,rfl,rfl,by decide +kernel,rfl,by decide +kernel,by decide +kernel⟩
theorem Uy {f Uz rP:Addr} {fd UA rQ:FuncData} (F:bQ K "need_ways" "need_ways" DJ f fd) (B:BT mg) (cJ:Fn P w K mg base 7 "need_web" ["web"] (aI vZ 1) Uz UA) (ak:Fn P w K mg base 2 "is_within" ["thing", "least", "most"] (aI kC 3) rP rQ):aM P w K mg base bJ 8 f fd ["web", "ways"] (aI v7 2):=by
 refine F.dZ (k:=7) eu fun a0 A outer s H E hr => ?_
 have nd:=eu.nd
 have hu:=hr.units
 exact⟨CS,(a6 (sJ (bT cJ.ok (hr.mono (by decide)) (by rfl) cJ.bD cJ.kp cJ.bd (aq (dv 0) aE))) (a6 (f6 (oK (iY (iF By (by rfl) B.isinstance (by rfl) B.list qy (dv 1)))) (bg BK) gg) (a6 (cn (i:=2) nd rfl (by trivial) (bx sN (gK jq (by rfl) B.len YV (bF (bE bH (dv 0) az (fun _ _=>rfl)) aE)) az)) (a6 (cn (i:=3) nd rfl (by trivial) Sa) (bg (oO Zc rfl (G0 (by rfl) B.enumerate (aq (dv 1) aE)) (oN rfl (iC (cq (i:=4) nd rfl (by trivial)) (iC (cq (i:=5) nd rfl (by trivial)) oM))) (a6 (f6 (JW.jt (xy (oK (iY (bT ak.ok (hr.mono (by decide)) (by rfl) ak.bD ak.kp ak.bd (aq (dv 5) (a7 az (aq (dv 2) aE)))))) (xx (Se hu (dv 5) (dv 3))))) (bg BK) gg) (bg (Sf hu (dv 3) (dv 5) k8))))))))),Si⟩
noncomputable abbrev DK:Stmt:=top 19
theorem gT:cA ["firsts", "one", "other", "gone", "kept"] ["firsts", "one", "other"] (bA DK):=⟨rfl,rfl,rfl,by decide +kernel,rfl,by decide +kernel,by decide +kernel⟩
theorem UB {f:Addr} {fd:FuncData} (F:bQ K "joined" "joined" DK f fd) (B:BT mg):aM P w K mg base bJ 1 f fd ["firsts", "one", "other"] (aI sW 3):=by
 refine F.dZ (k:=0) gT fun a0 A outer s H E hr => ?_
 have nd:=gT.nd
 have hu:=hr.units
 exact⟨Cj,(a6 (cn (i:=3) nd rfl (by trivial) (gK (PM rfl) (by rfl) B.max P5 (bF (bE bH (dv 0) (dv 1) (fun _ _=>rfl)) (bF (bE bH (dv 0) (dv 2) (fun _ _=>rfl)) aE)))) (a6 (cn (i:=4) nd rfl (by trivial) (gK (Hf rfl) (by rfl) B.min BH (bF (bE bH (dv 0) (dv 1) (fun _ _=>rfl)) (bF (bE bH (dv 0) (dv 2) (fun _ _=>rfl)) aE)))) (bg (bR (jR [none,some 4,some 3] ["first", "kept", "gone"] rfl (iD (dv 0)) (fun d=>(cq (i:=0) (show (["first", "kept", "gone"]:List Str).Nodup by decide +kernel) rfl (by trivial))) (fun d=>ku) (fun d=>(GI (eV (ie hu) (dv 0) (dv 2) (by rfl)) (dv 1) (dv 0)))))))),Q9⟩
noncomputable abbrev DL:Stmt:=top 20
theorem eA:cA ["web", "ways", "firsts", "number", "way"] ["web", "ways"] (bA DL):=⟨rfl,rfl,rfl,by decide +kernel,rfl,by decide +kernel,by decide +kernel⟩
theorem UC {f UD:Addr} {fd UE:FuncData} (F:bQ K "firsts_of" "firsts_of" DL f fd) (B:BT mg) (eB:Fn P w K mg base 1 "joined" ["firsts", "one", "other"] (aI sW 3) UD UE):aM P w K mg base bJ 2 f fd ["web", "ways"] (aI sY 2):=by
 refine F.dZ (k:=1) eA fun a0 A outer s H E hr => ?_
 have nd:=eA.nd
 have hu:=hr.units
 exact⟨yq,(a6 (cn (i:=2) nd rfl (by trivial) (Hg rfl (by rfl) B.list qy (by rfl) B.range BG (bF (bE bH (dv 0) az (fun _ _=>rfl)) aE))) (a6 (oO Zc rfl (iD (dv 1)) (cq (i:=3) nd rfl (by trivial)) (a6 (cn (i:=4) nd rfl (by trivial) (bE bH (bE bH (dv 0) az (fun _ _=>rfl)) (dv 3) (fun _ _=>rfl))) (bg (cn (i:=2) nd rfl (by trivial) (bT eB.ok (hr.mono (by decide)) (by rfl) eB.bD eB.kp eB.bd (aq (dv 2) (bF (bE bH (dv 4) az (fun _ _=>rfl)) (bF (bE bH (dv 4) az (fun _ _=>rfl)) aE)))))))) (bg (bR (dv 2))))),Q_⟩
noncomputable abbrev yY:Stmt:=top 23
theorem fq:cA ["web", "ways"] ["web", "ways"] (bA yY):=⟨rfl,rfl,rfl,by decide +kernel,rfl,by decide +kernel,by decide +kernel⟩
theorem UG {f UH:Addr} {fd UI:FuncData} {T:Addr} (F:bQ K "least_of" "least_of" yY f fd) (B:BT mg) (LD:RL mg base fd T ⟨70,25,70,63⟩ ((("least_of" : Str) ++ ".<locals>.") ++ "<lambda>")) (dj:Fn P w K mg base 1 "rank_of" ["way"] (aI v3 1) UH UI):aM P w K mg base bJ 5 f fd ["web", "ways"] (aI wt 2):=by
 refine F.CD (k:=4) fq fun a0 A outer s H E hc hr => ?_
 have nd:=fq.nd
 have hu:=hr.units
 exact⟨Dh,(bg (bR (Tq (lJ.mk (x := "number") (Nb:=["web"]) (cp:=[some 0]) (T:=T) ⟨(let ⟨cc,e1,e2⟩:=LD.code; ⟨cc,hc.symm.trans e1,e2⟩),LD.ng,LD.blt⟩ LD.tbl rfl rfl (by first | rfl | kernel_rfl) rfl rfl (fun _ _ _ _ _=>rfl) ⟨1,hr.mono (by decide),fun d hr=>(bT dj.ok (hr.mono (by decide)) (by rfl) dj.bD dj.kp dj.bd (bF (bE bH (bE bH (dv 1) az (fun _ _=>rfl)) (dv 0) (fun _ _=>rfl)) aE))⟩) hu (by rfl) B.min BH (aq (dv 1) aE)))),Tz⟩
noncomputable abbrev DM:Stmt:=top 24
theorem eC:cA ["way", "houses"] ["way", "houses"] (bA DM):=⟨rfl,rfl,rfl,by decide +kernel,rfl,by decide +kernel,by decide +kernel⟩
theorem UJ {f:Addr} {fd:FuncData} (F:bQ K "leads_out" "leads_out" DM f fd) (B:BT mg):aM P w K mg base bJ 1 f fd ["way", "houses"] (aI wo 2):=by
 refine F.dZ (k:=0) eC fun a0 A outer s H E hr => ?_
 have nd:=eC.nd
 have hu:=hr.units
 exact⟨Df,(bg (bR (iX (sO hu) (iX (xT hu) (bE bH (dv 0) az (fun _ _=>rfl)) (dv 1) (by rfl)) (iX (xT hu) (bE bH (dv 0) az (fun _ _=>rfl)) (dv 1) (by rfl)) (by rfl)))),Tw⟩
noncomputable abbrev DN:Stmt:=top 25
theorem ft:cA ["web", "houses"] ["web", "houses"] (bA DN):=⟨rfl,rfl,rfl,by decide +kernel,rfl,by decide +kernel,by decide +kernel⟩
theorem UK {f UL:Addr} {fd UM:FuncData} (F:bQ K "ways_out" "ways_out" DN f fd) (B:BT mg) (bX:Fn P w K mg base 1 "leads_out" ["way", "houses"] (aI wo 2) UL UM):aM P w K mg base bJ 2 f fd ["web", "houses"] (aI wq 2):=by
 refine F.dZ (k:=1) ft fun a0 A outer s H E hr => ?_
 have nd:=ft.nd
 have hu:=hr.units
 exact⟨Dg,(bg (bR (jR [none,none,some 1] ["number", "way", "houses"] rfl (G0 (by rfl) B.enumerate (bF (bE bH (dv 0) az (fun _ _=>rfl)) aE)) (fun d=>(oN rfl (iC (cq (i:=0) (show (["number", "way", "houses"]:List Str).Nodup by decide +kernel) rfl (by trivial)) (iC (cq (i:=1) (show (["number", "way", "houses"]:List Str).Nodup by decide +kernel) rfl (by trivial)) oM)))) (fun d=>(oQ (iY (bT bX.ok (hr.mono (by decide)) (by rfl) bX.bD bX.kp bX.bd (aq (dv 1) (aq (dv 2) aE)))))) (fun d=>(dv 0))))),Tx⟩
noncomputable abbrev DO:Stmt:=top 30
theorem dh:cA ["cell", "at", "primes", "one", "two", "three"] ["cell", "at"] (bA DO):=⟨rfl,rfl,rfl,by decide +kernel,rfl,by decide +kernel,by decide +kernel⟩
theorem UN {f:Addr} {fd:FuncData} (F:bQ K "_law_spread" "_law_spread" DO f fd) (B:BT mg):aM P w K mg base bJ 1 f fd ["cell", "at"] (aI vw 2):=by
 refine F.dZ (k:=0) dh fun a0 A outer s H E hr => ?_
 have nd:=dh.nd
 have hu:=hr.units
 exact⟨BX,(a6 (f6 (eV Px (dv 0) (bx qR az az) (by rfl)) (bg (bR (dv 0))) gg) (a6 (cn (i:=2) nd rfl (by trivial) (nD (a7 az (a7 az (a7 az (a7 az (a7 az (a7 az (a7 az (a7 az aE)))))))))) (a6 (cn (i:=2) nd rfl (by trivial) (bx fO (dv 2) (nD (a7 az (a7 az (a7 az (a7 az (a7 az aE)))))))) (a6 (cn (i:=3) nd rfl (by trivial) (bx kA (bx qR (bx fO (bx fO (bx qQ (bx kA (dv 0) az) (bx fO (bx qQ az (dv 1)) az)) (bx qQ (dv 1) az)) az) az) (bE bH (dv 2) (bx kA (dv 1) az) (fun _ _=>rfl)))) (a6 (cn (i:=4) nd rfl (by trivial) (bx kA (bx qR (bx fO (bx fO (bx qQ (dv 3) (bx fO (dv 1) az)) (bx kA (dv 0) az)) az) az) (bE bH (dv 2) (bx kA (bx fO (dv 1) az) az) (fun _ _=>rfl)))) (a6 (cn (i:=5) nd rfl (by trivial) (bx kA (bx qR (bx fO (bx fO (dv 4) (bx kA (dv 3) az)) (dv 1)) az) (bE bH (dv 2) (bx kA (bx fO (dv 1) az) az) (fun _ _=>rfl)))) (bg (bR (bx fO (bx qQ (bx fO (bx qQ (dv 3) az) (dv 4)) az) (dv 5)))))))))),QI⟩
noncomputable abbrev DP:Stmt:=top 32
theorem eE:cA ["pen"] ["pen"] (bA DP):=⟨rfl,rfl,rfl,by decide +kernel,rfl,by decide +kernel,by decide +kernel⟩
theorem UO {f:Addr} {fd:FuncData} (F:bQ K "_law_anew" "_law_anew" DP f fd) (B:BT mg):aM P w K mg base bJ 1 f fd ["pen"] (aI vx 1):=by
 refine F.dZ (k:=0) eE fun a0 A outer s H E hr => ?_
 have nd:=eE.nd
 have hu:=hr.units
 exact⟨BY,(a6 ((sD az (uE (dv 0) az set_list)).weak yb) (bg (bR (dv 0)))),QJ⟩
noncomputable abbrev DQ:Stmt:=top 33
theorem eF:cA ["pen", "many", "at", "cell", "found"] ["pen", "many"] (bA DQ):=⟨rfl,rfl,rfl,by decide +kernel,rfl,by decide +kernel,by decide +kernel⟩
theorem UP {f UQ:Addr} {fd UR:FuncData} (F:bQ K "_law_take" "_law_take" DQ f fd) (B:BT mg) (bB:Fn P w K mg base 1 "_law_spread" ["cell", "at"] (aI vw 2) UQ UR):aM P w K mg base bJ 2 f fd ["pen", "many"] (aI iH 2):=by
 refine F.dZ (k:=1) eF fun a0 A outer s H E hr => ?_
 have nd:=eF.nd
 have hu:=hr.units
 exact⟨BZ,(a6 (f6 (eV (xS hu) (bE bH (dv 0) az (fun _ _=>rfl)) (dv 1) (by rfl)) (a6 (cn (i:=2) nd rfl (by trivial) (bE bH (dv 0) az (fun _ _=>rfl))) (a6 (cn (i:=3) nd rfl (by trivial) az) (a6 (f6 (eV (xS hu) (dv 2) (gK jq (by rfl) B.len YV (bF (bE bH (dv 0) az (fun _ _=>rfl)) aE)) (by rfl)) (bg (cn (i:=3) nd rfl (by trivial) (bE bH (bE bH (dv 0) az (fun _ _=>rfl)) (dv 2) (fun _ _=>rfl)))) (bg (f6 (eV sP (gK jq (by rfl) B.len YV (bF (bE bH (dv 0) az (fun _ _=>rfl)) aE)) az (by rfl)) (bg (cn (i:=3) nd rfl (by trivial) (bx kA (bE bH (bE bH (dv 0) az (fun _ _=>rfl)) (bx kA (bx fO (bx qQ (dv 2) az) az) (gK jq (by rfl) B.len YV (bF (bE bH (dv 0) az (fun _ _=>rfl)) aE))) (fun _ _=>rfl)) (bx fO (bx qR az az) (dv 2))))) gg))) (a6 ((sD (bx fO (dv 2) az) (uE (dv 0) az set_list)).weak yb) (bg ((sD (bT bB.ok (hr.mono (by decide)) (by rfl) bB.bD bB.kp bB.bd (aq (dv 3) (aq (dv 2) aE))) (uE (dv 0) az set_list)).weak yb)))))) gg) (a6 (cn (i:=4) nd rfl (by trivial) (bx kA (bE bH (dv 0) az (fun _ _=>rfl)) (dv 1))) (a6 ((sD (bx Pw (bE bH (dv 0) az (fun _ _=>rfl)) (dv 1)) (uE (dv 0) az set_list)).weak yb) (bg (bR (dv 4)))))),QK⟩
noncomputable abbrev DR:Stmt:=top 35
theorem cw:cA ["pen", "kind", "many", "every", "other", "ring", "half"] ["pen", "kind", "many"] (bA DR):=⟨rfl,rfl,rfl,by decide +kernel,rfl,by decide +kernel,by decide +kernel⟩
theorem US {f DS:Addr} {fd DT:FuncData} (F:bQ K "_law_pairs_of" "_law_pairs_of" DR f fd) (B:BT mg) (ae:Fn P w K mg base 2 "_law_take" ["pen", "many"] (aI iH 2) DS DT):aM P w K mg base bJ 3 f fd ["pen", "kind", "many"] (aI vy 3):=by
 refine F.dZ (k:=2) cw fun a0 A outer s H E hr => ?_
 have nd:=cw.nd
 have hu:=hr.units
 exact⟨B0,(a6 (cn (i:=3) nd rfl (by trivial) (xw aE)) (a6 (oO Zc rfl (qM (by rfl) B.range (aq (dv 2) aE)) (cq (i:=4) nd rfl (by trivial)) (bg (sJ ((ny Y2 PySem.F.slot_list_extend PySem.F.type_list_extend M_ (dv 3) (jn (jR [none,some 4] ["one", "other"] rfl (qM (by rfl) B.range (aq (dv 4) aE)) (fun d=>(cq (i:=0) (show (["one", "other"]:List Str).Nodup by decide +kernel) rfl (by trivial))) (fun d=>ku) (fun d=>(nB (aq (dv 0) (aq (dv 1) aE))))) aE)).weak PU)))) (a6 (f6 (eV (ie hu) (dv 1) az (by rfl)) (bg (bR (xF [none,some 0] ["other", "pen"] rfl (Pt (by rfl) B.range (a7 az (aq (dv 2) aE))) (fun d=>(cq (i:=0) (show (["other", "pen"]:List Str).Nodup by decide +kernel) rfl (by trivial))) (fun d=>ku) (fun d=>(nB (fE (bT ae.ok (hr.mono (by decide)) (by rfl) ae.bD ae.kp ae.bd (aq (dv 1) (aq (dv 0) aE))) (aq (dv 0) aE))))))) gg) (a6 (f6 (eV (ie hu) (dv 1) az (by rfl)) (a6 (Be [none] ["k"] (i:=5) nd rfl (by trivial) rfl (qM (by rfl) B.range (jn (bx sN (dv 2) az) aE)) (fun d=>(cq (i:=0) (show (["k"]:List Str).Nodup by decide +kernel) rfl (by trivial))) (fun d=>ku) (fun d=>(nB (aq (dv 0) (jn (bx fO (dv 0) az) aE))))) (bg (bR (P7 (dv 5) (jR [none,some 2] ["pair", "many"] rfl (iD (dv 3)) (fun d=>(cq (i:=0) (show (["pair", "many"]:List Str).Nodup by decide +kernel) rfl (by trivial))) (fun d=>(oQ (JW.jt (GH (eV (ie hu) (dv 0) (nB (a7 az (jn (bx sN (dv 1) az) aE))) (by rfl)) (GG (eV sP (dv 1) az (by rfl))))))) (fun d=>(dv 0))))))) gg) (a6 (f6 (eV (ie hu) (dv 1) az (by rfl)) (bg (bR (dv 3))) gg) (a6 (f6 (eV (ie hu) (dv 1) az (by rfl)) (bg (bR (xF [none,some 0] ["pair", "pen"] rfl (iD (dv 3)) (fun d=>(cq (i:=0) (show (["pair", "pen"]:List Str).Nodup by decide +kernel) rfl (by trivial))) (fun d=>(oQ (eV (ie hu) (bT ae.ok (hr.mono (by decide)) (by rfl) ae.bD ae.kp ae.bd (aq (dv 1) (a7 az aE))) az (by rfl)))) (fun d=>(dv 0))))) gg) (a6 (f6 (eV (ie hu) (dv 1) az (by rfl)) (a6 (cn (i:=6) nd rfl (by trivial) (bT ae.ok (hr.mono (by decide)) (by rfl) ae.bD ae.kp ae.bd (aq (dv 0) (jn (bx fO (dv 2) az) aE)))) (bg (bR (xF [none,some 6,some 0] ["pair", "half", "pen"] rfl (iD (dv 3)) (fun d=>(cq (i:=0) (show (["pair", "half", "pen"]:List Str).Nodup by decide +kernel) rfl (by trivial))) (fun d=>(oQ (JW.jt (GH (eV (ie hu) (iX (xS hu) (bE bH (dv 0) az (fun _ _=>rfl)) (dv 1) (by rfl)) (iX (xS hu) (bE bH (dv 0) az (fun _ _=>rfl)) (dv 1) (by rfl)) (by rfl)) (GG (eV sP (bT ae.ok (hr.mono (by decide)) (by rfl) ae.bD ae.kp ae.bd (aq (dv 2) (a7 az aE))) az (by rfl))))))) (fun d=>(dv 0)))))) gg) (bg (bR (xF [none,some 0] ["pair", "pen"] rfl (iD (dv 3)) (fun d=>(cq (i:=0) (show (["pair", "pen"]:List Str).Nodup by decide +kernel) rfl (by trivial))) (fun d=>(oQ (eV (ie hu) (bT ae.ok (hr.mono (by decide)) (by rfl) ae.bD ae.kp ae.bd (aq (dv 1) (a7 az aE))) az (by rfl)))) (fun d=>(dv 0)))))))))))),QN⟩
noncomputable abbrev DU:Stmt:=top 36
theorem fu:cA ["pen", "houses", "most", "kind", "prices", "many", "pairs", "ways", "k", "one", "other", "price"] ["pen", "houses", "most"] (bA DU):=⟨rfl,rfl,rfl,by decide +kernel,rfl,by decide +kernel,by decide +kernel⟩
theorem UT {f DS UU:Addr} {fd DT UW:FuncData} (F:bQ K "_law_web" "_law_web" DU f fd) (B:BT mg) (ae:Fn P w K mg base 2 "_law_take" ["pen", "many"] (aI iH 2) DS DT) (bo:Fn P w K mg base 3 "_law_pairs_of" ["pen", "kind", "many"] (aI vy 3) UU UW):aM P w K mg base bJ 4 f fd ["pen", "houses", "most"] (aI vz 3):=by
 refine F.dZ (k:=3) fu fun a0 A outer s H E hr => ?_
 have nd:=fu.nd
 have hu:=hr.units
 exact⟨B3,(a6 (cn (i:=3) nd rfl (by trivial) (bT ae.ok (hr.mono (by decide)) (by rfl) ae.bD ae.kp ae.bd (aq (dv 0) (a7 az aE)))) (a6 (cn (i:=4) nd rfl (by trivial) (bT ae.ok (hr.mono (by decide)) (by rfl) ae.bD ae.kp ae.bd (aq (dv 0) (a7 az aE)))) (a6 (cn (i:=5) nd rfl (by trivial) (bx fO az (bT ae.ok (hr.mono (by decide)) (by rfl) ae.bD ae.kp ae.bd (aq (dv 0) (aq (dv 1) aE))))) (a6 (cn (i:=6) nd rfl (by trivial) (Pa bo.ok (hr.mono (by decide)) (by rfl) bo.bD bo.kp bo.bd (aq (dv 0) (aq (dv 3) (aq (dv 5) aE))))) (a6 (cn (i:=7) nd rfl (by trivial) (xw aE)) (a6 (oO Zc rfl (qM (by rfl) B.range (fE (gK (Hf rfl) (by rfl) B.min BH (aq (dv 2) (fE (gK jq (by rfl) B.len YV (aq (dv 6) aE)) aE))) aE)) (cq (i:=8) nd rfl (by trivial)) (a6 (xC ((ny Y2 PySem.F.slot_list_pop PySem.F.type_list_pop Na (dv 6) (fE (bT ae.ok (hr.mono (by decide)) (by rfl) ae.bD ae.kp ae.bd (aq (dv 0) (fE (gK jq (by rfl) B.len YV (aq (dv 6) aE)) aE))) aE)).weak PV) (oN rfl (iC (cq (i:=9) nd rfl (by trivial)) (iC (cq (i:=10) nd rfl (by trivial)) oM)))) (a6 (cn (i:=11) nd rfl (by trivial) (bE bH (nD (a7 az (fE (bT ae.ok (hr.mono (by decide)) (by rfl) ae.bD ae.kp ae.bd (aq (dv 0) (a7 az aE))) (jn (bx sN (bx qR az az) (bT ae.ok (hr.mono (by decide)) (by rfl) ae.bD ae.kp ae.bd (aq (dv 0) (a7 az aE)))) (fE (bT ae.ok (hr.mono (by decide)) (by rfl) ae.bD ae.kp ae.bd (aq (dv 0) (jn (bx fO (bx qR az az) az) aE))) aE))))) (dv 4) (fun _ _=>rfl))) (bg (sJ ((ny Y2 Zv Zw ql (dv 7) (A9 (nB (aq (dv 9) (aq (dv 10) (aq (dv 11) aE)))) aE)).weak Bz)))))) (bg (bR (nB (aq (dv 5) (fE (OY PJ (by rfl) B.tuple uM (aq (dv 7) aE)) aE))))))))))),QO⟩
noncomputable abbrev DW:Stmt:=top 37
theorem fw:cA ["web", "number", "one", "other", "price"] ["web", "number"] (bA DW):=⟨rfl,rfl,rfl,by decide +kernel,rfl,by decide +kernel,by decide +kernel⟩
theorem UX {f:Addr} {fd:FuncData} (F:bQ K "_law_key" "_law_key" DW f fd) (B:BT mg):aM P w K mg base bJ 1 f fd ["web", "number"] (aI v5 2):=by
 refine F.dZ (k:=0) fw fun a0 A outer s H E hr => ?_
 have nd:=fw.nd
 have hu:=hr.units
 exact⟨CN,(a6 (xC (bE bH (bE bH (dv 0) az (fun _ _=>rfl)) (dv 1) (fun _ _=>rfl)) (oN rfl (iC (cq (i:=2) nd rfl (by trivial)) (iC (cq (i:=3) nd rfl (by trivial)) (iC (cq (i:=4) nd rfl (by trivial)) oM))))) (bg (bR (nB (aq (dv 4) (aq (dv 2) (aq (dv 3) aE))))))),R9⟩
noncomputable abbrev DX:Stmt:=top 38
theorem cx:cA ["web", "ways", "found", "number", "one", "other"] ["web", "ways"] (bA DX):=⟨rfl,rfl,rfl,by decide +kernel,rfl,by decide +kernel,by decide +kernel⟩
theorem UY {f:Addr} {fd:FuncData} (F:bQ K "_law_marks_by" "_law_marks_by" DX f fd) (B:BT mg):aM P w K mg base bJ 1 f fd ["web", "ways"] (aI vN 2):=by
 refine F.dZ (k:=0) cx fun a0 A outer s H E hr => ?_
 have nd:=cx.nd
 have hu:=hr.units
 exact⟨yr,(a6 (cn (i:=2) nd rfl (by trivial) (Hg rfl (by rfl) B.list qy (by rfl) B.range BG (bF (bE bH (dv 0) az (fun _ _=>rfl)) aE))) (a6 (oO Zc rfl (iD (dv 1)) (cq (i:=3) nd rfl (by trivial)) (a6 (xC (gK PK (by rfl) B.sorted vh (jn (jR [none,some 2] ["house", "found"] rfl (iD (yk (bE bH (bE bH (dv 0) az (fun _ _=>rfl)) (dv 3) (fun _ _=>rfl)) xV (xW az))) (fun d=>(cq (i:=0) (show (["house", "found"]:List Str).Nodup by decide +kernel) rfl (by trivial))) (fun d=>ku) (fun d=>(bE bH (dv 1) (dv 0) (fun _ _=>rfl)))) aE)) (oN rfl (iC (cq (i:=4) nd rfl (by trivial)) (iC (cq (i:=5) nd rfl (by trivial)) oM)))) (bg (cn (i:=2) nd rfl (by trivial) (jR [none,some 4,some 5] ["mark", "one", "other"] rfl (iD (dv 2)) (fun d=>(cq (i:=0) (show (["mark", "one", "other"]:List Str).Nodup by decide +kernel) rfl (by trivial))) (fun d=>ku) (fun d=>(GI (eV (ie hu) (dv 0) (dv 2) (by rfl)) (dv 1) (dv 0)))))))) (bg (bR (dv 2))))),Rb⟩
noncomputable abbrev DY:Stmt:=top 39
theorem eG:cA ["web", "ways", "marks"] ["web", "ways"] (bA DY):=⟨rfl,rfl,rfl,by decide +kernel,rfl,by decide +kernel,by decide +kernel⟩
theorem UZ {f U0:Addr} {fd U1:FuncData} (F:bQ K "_law_lots" "_law_lots" DY f fd) (B:BT mg) (bp:Fn P w K mg base 1 "_law_marks_by" ["web", "ways"] (aI vN 2) U0 U1):aM P w K mg base bJ 2 f fd ["web", "ways"] (aI vP 2):=by
 refine F.dZ (k:=1) eG fun a0 A outer s H E hr => ?_
 have nd:=eG.nd
 have hu:=hr.units
 exact⟨yt,(a6 (cn (i:=2) nd rfl (by trivial) (bT bp.ok (hr.mono (by decide)) (by rfl) bp.bD bp.kp bp.bd (aq (dv 0) (aq (dv 1) aE)))) (bg (bR (jR [none,some 0,some 2] ["first", "web", "marks"] rfl (iD (BS rfl (by rfl) B.sorted vh (by rfl) B.set xq (aq (dv 2) aE))) (fun d=>(cq (i:=0) (show (["first", "web", "marks"]:List Str).Nodup by decide +kernel) rfl (by trivial))) (fun d=>ku) (fun d=>(jR [none,some 0,some 2] ["house", "first", "marks"] rfl (qM (by rfl) B.range (bF (bE bH (dv 1) az (fun _ _=>rfl)) aE)) (fun d=>(cq (i:=0) (show (["house", "first", "marks"]:List Str).Nodup by decide +kernel) rfl (by trivial))) (fun d=>(oQ (eV (ie hu) (bE bH (dv 2) (dv 0) (fun _ _=>rfl)) (dv 1) (by rfl)))) (fun d=>(dv 0)))))))),Rf⟩
noncomputable abbrev DZ:Stmt:=top 40
theorem bY:cA ["web", "houses", "number", "one", "other"] ["web", "houses", "number"] (bA DZ):=⟨rfl,rfl,rfl,by decide +kernel,rfl,by decide +kernel,by decide +kernel⟩
theorem U2 {f:Addr} {fd:FuncData} (F:bQ K "_law_leads_out" "_law_leads_out" DZ f fd) (B:BT mg):aM P w K mg base bJ 1 f fd ["web", "houses", "number"] (aI wz 3):=by
 refine F.dZ (k:=0) bY fun a0 A outer s H E hr => ?_
 have nd:=bY.nd
 have hu:=hr.units
 exact⟨Dp,(a6 (xC (yk (bE bH (bE bH (dv 0) az (fun _ _=>rfl)) (dv 2) (fun _ _=>rfl)) xV (xW az)) (oN rfl (iC (cq (i:=3) nd rfl (by trivial)) (iC (cq (i:=4) nd rfl (by trivial)) oM)))) (bg (bR (iX (sO hu) (iX (xT hu) (dv 3) (dv 1) (by rfl)) (iX (xT hu) (dv 4) (dv 1) (by rfl)) (by rfl))))),TV⟩
noncomputable abbrev D0:Stmt:=top 41
theorem eI:cA ["web", "houses", "ways", "found"] ["web", "houses", "ways"] (bA D0):=⟨rfl,rfl,rfl,by decide +kernel,rfl,by decide +kernel,by decide +kernel⟩
theorem U3 {f U4 U5:Addr} {fd U6 U7:FuncData} (F:bQ K "_law_outs" "_law_outs" D0 f fd) (B:BT mg) (a9:Fn P w K mg base 1 "_law_leads_out" ["web", "houses", "number"] (aI wz 3) U4 U6) (cK:Fn P w K mg base 1 "_law_key" ["web", "number"] (aI v5 2) U5 U7):aM P w K mg base bJ 2 f fd ["web", "houses", "ways"] (aI wB 3):=by
 refine F.dZ (k:=1) eI fun a0 A outer s H E hr => ?_
 have nd:=eI.nd
 have hu:=hr.units
 exact⟨Dq,(a6 (Be [none,some 0,some 1] ["number", "web", "houses"] (i:=3) nd rfl (by trivial) rfl (iD (dv 2)) (fun d=>(cq (i:=0) (show (["number", "web", "houses"]:List Str).Nodup by decide +kernel) rfl (by trivial))) (fun d=>(oQ (iY (bT a9.ok (hr.mono (by decide)) (by rfl) a9.bD a9.kp a9.bd (aq (dv 1) (aq (dv 2) (aq (dv 0) aE))))))) (fun d=>(nB (fE (bT cK.ok (hr.mono (by decide)) (by rfl) cK.bD cK.kp cK.bd (aq (dv 1) (aq (dv 0) aE))) (aq (dv 0) aE))))) (bg (bR (jR [none,none] ["key", "number"] rfl (iD (gK (RZ hu) (by rfl) B.sorted vh (aq (dv 3) aE))) (fun d=>(oN rfl (iC (cq (i:=0) (show (["key", "number"]:List Str).Nodup by decide +kernel) rfl (by trivial)) (iC (cq (i:=1) (show (["key", "number"]:List Str).Nodup by decide +kernel) rfl (by trivial)) oM)))) (fun d=>ku) (fun d=>(dv 1)))))),TX⟩
noncomputable abbrev D1:Stmt:=top 42
theorem fx:cA ["web"] ["web"] (bA D1):=⟨rfl,rfl,rfl,by decide +kernel,rfl,by decide +kernel,by decide +kernel⟩
theorem U8 {f:Addr} {fd:FuncData} (F:bQ K "_law_all" "_law_all" D1 f fd) (B:BT mg):aM P w K mg base bJ 1 f fd ["web"] (aI vO 1):=by
 refine F.dZ (k:=0) fx fun a0 A outer s H E hr => ?_
 have nd:=fx.nd
 have hu:=hr.units
 exact⟨Ck,(bg (bR (P6 rfl (by rfl) B.list qy (by rfl) B.range BG (fE (gK jq (by rfl) B.len YV (bF (bE bH (dv 0) az (fun _ _=>rfl)) aE)) aE)))),Rc⟩
noncomputable abbrev D2:Stmt:=top 43
theorem fy:cA ["web", "found", "ways", "chosen", "lot", "more"] ["web"] (bA D2):=⟨rfl,rfl,rfl,by decide +kernel,rfl,by decide +kernel,by decide +kernel⟩
theorem U9 {f U_ Va Vb:Addr} {fd Vc Vd Ve:FuncData} (F:bQ K "_law_due" "_law_due" D2 f fd) (B:BT mg) (bZ:Fn P w K mg base 2 "_law_lots" ["web", "ways"] (aI vP 2) U_ Vc) (b7:Fn P w K mg base 2 "_law_outs" ["web", "houses", "ways"] (aI wB 3) Va Vd) (cL:Fn P w K mg base 1 "_law_all" ["web"] (aI vO 1) Vb Ve):aM P w K mg base bJ 3 f fd ["web"] (aI wC 1):=by
 refine F.dZ (k:=2) fy fun a0 A outer s H E hr => ?_
 have nd:=fy.nd
 have hu:=hr.units
 exact⟨Dr,(a6 (cn (i:=1) nd rfl (by trivial) (xw aE)) (a6 (cn (i:=2) nd rfl (by trivial) (nD aE)) (bg (Iy Zc (iY k8) (a6 (cn (i:=3) nd rfl (by trivial) (nD aE)) (a6 (oO Zc rfl (iD (bT bZ.ok (hr.mono (by decide)) (by rfl) bZ.bD bZ.kp bZ.bd (aq (dv 0) (aq (dv 2) aE)))) (cq (i:=4) nd rfl (by trivial)) (bg (cn (i:=3) nd rfl (by trivial) (bx fO (dv 3) (yk (bT b7.ok (hr.mono (by decide)) (by rfl) b7.bD b7.kp b7.bd (aq (dv 0) (aq (dv 4) (fE (bT cL.ok (hr.mono (by decide)) (by rfl) cL.bD cL.kp cL.bd (aq (dv 0) aE)) aE)))) xV (xW az)))))) (a6 (f6 (eV (ie hu) (dv 3) (nD aE) (by rfl)) (bg (bR (dv 1))) gg) (a6 (cn (i:=5) nd rfl (by trivial) (BS rfl (by rfl) B.sorted vh (by rfl) B.set xq (aq (dv 3) aE))) (a6 (sJ ((ny Y2 Zv Zw ql (dv 1) (aq (dv 5) aE)).weak Bz)) (bg (cn (i:=2) nd rfl (by trivial) (bx fO (dv 2) (dv 5))))))))))))),T3⟩
noncomputable abbrev D3:Stmt:=top 21
theorem gb:cA ["web", "ways", "lots", "house", "first"] ["web", "ways"] (bA D3):=⟨rfl,rfl,rfl,by decide +kernel,rfl,by decide +kernel,by decide +kernel⟩
theorem Vf {f fN fF:Addr} {fd Vg Vh:FuncData} (F:bQ K "lots_of" "lots_of" D3 f fd) (B:BT mg) (GN:Fn P w K mg base 8 "need_ways" ["web", "ways"] (aI v7 2) fN Vg) (GF:Fn P w K mg base 2 "firsts_of" ["web", "ways"] (aI sY 2) fF Vh):aM P w K mg base bJ 9 f fd ["web", "ways"] (aI yF 2):=by
 refine F.xm gb (fun vs H Q E h=>h.1) (fun a0 A outer s H vs Q E hr h => ?_)
 obtain⟨hl,F0,ad,ys,aj,K',S0,⟨m,ws,ns,W,hn,hd,CV,rfl,rfl,hK⟩,kk⟩:=h
 have nd:=gb.nd
 have hu:=hr.units
 refine⟨_,l_ (sJ (bT GN.ok (hr.mono (by decide)) (by rfl) GN.bD GN.kp GN.bd (aq (dv 0) (aq (dv 1) aE))))
  (l_ (uF (i:=2) nd rfl (Or.inl rfl) iz)
  (l_ (AZ Zc rfl (Gh (by rfl) B.enumerate (iW (uI GF.ok (hr.mono (by decide)) (by rfl) GF.bD GF.kp GF.bd .nil uh (iA (jv 0) (iA (jv 1) aV))) aV)) (AY rfl (uD (uC (i:=3) nd rfl (Or.inl rfl)) (uD (uC (i:=4) nd rfl (Or.inl rfl)) g9)))
   (qv (xj (ny Y2 Zv Zw ql (ny PySem.F.plainAttrs_dict q1e PySem.F.type_dict_setdefault OU (jv 2) (iA (jv 4) (uK (uH aV) aV))) (iA (jv 3) aV)))))
  (qv (AW (nv (OX rfl) (by rfl) B.list qy (iW (OD PySem.F.plainAttrs_dict q1F PySem.F.type_dict_values OW (jv 2)) aV)))))),?_⟩
 exact Sz (Kf:=K) hl W hn hd CV hK S0 (fun r ows h v F' H' P _=>kk r ows h v F' H' P) fun _ _ h=>h
noncomputable abbrev D4:Stmt:=top 27
theorem fz:cA ["web", "ways", "outs"] ["web", "ways"] (bA D4):=⟨rfl,rfl,rfl,by decide +kernel,rfl,by decide +kernel,by decide +kernel⟩
theorem Vi {f Vj Vk Vl:Addr} {fd Vm Vn Vo:FuncData} (F:bQ K "round_of" "round_of" D4 f fd) (B:BT mg) (dq:Fn P w K mg base 9 "lots_of" ["web", "ways"] (aI yF 2) Vj Vm) (cM:Fn P w K mg base 2 "ways_out" ["web", "houses"] (aI wq 2) Vk Vn) (cN:Fn P w K mg base 5 "least_of" ["web", "ways"] (aI wt 2) Vl Vo):aM P w K mg base bJ 10 f fd ["web", "ways"] (aI rM 2):=by
 refine F.dZ (k:=9) fz fun a0 A outer s H E hr => ?_
 have nd:=fz.nd
 have hu:=hr.units
 exact⟨Dl,(a6 (Be [none,some 0] ["lot", "web"] (i:=2) nd rfl (by trivial) rfl (iD (bT dq.ok (hr.mono (by decide)) (by rfl) dq.bD dq.kp dq.bd (aq (dv 0) (aq (dv 1) aE)))) (fun d=>(cq (i:=0) (show (["lot", "web"]:List Str).Nodup by decide +kernel) rfl (by trivial))) (fun d=>ku) (fun d=>(bT cM.ok (hr.mono (by decide)) (by rfl) cM.bD cM.kp cM.bd (aq (dv 1) (aq (dv 0) aE))))) (bg (bR (BS rfl (by rfl) B.sorted vh (by rfl) B.set xq (jn (jR [none,some 0] ["out", "web"] rfl (iD (dv 2)) (fun d=>(cq (i:=0) (show (["out", "web"]:List Str).Nodup by decide +kernel) rfl (by trivial))) (fun d=>(oQ (eV sP (gK jq (by rfl) B.len YV (aq (dv 0) aE)) az (by rfl)))) (fun d=>(bT cN.ok (hr.mono (by decide)) (by rfl) cN.bD cN.kp cN.bd (aq (dv 1) (aq (dv 0) aE))))) aE))))),TC⟩
noncomputable abbrev D5:Stmt:=top 28
theorem eJ:cA ["web", "rounds", "ways", "come"] ["web"] (bA D5):=⟨rfl,rfl,rfl,by decide +kernel,rfl,by decide +kernel,by decide +kernel⟩
theorem Vp {f Vq:Addr} {fd Vr:FuncData} (F:bQ K "rounds_of" "rounds_of" D5 f fd) (B:BT mg) (a8:Fn P w K mg base 10 "round_of" ["web", "ways"] (aI rM 2) Vq Vr):aM P w K mg base bJ 11 f fd ["web"] (aI wy 1):=by
 refine F.dZ (k:=10) eJ fun a0 A outer s H E hr => ?_
 have nd:=eJ.nd
 have hu:=hr.units
 exact⟨Dm,(a6 (cn (i:=1) nd rfl (by trivial) (xw aE)) (a6 (cn (i:=2) nd rfl (by trivial) (nD aE)) (a6 (cn (i:=3) nd rfl (by trivial) (bT a8.ok (hr.mono (by decide)) (by rfl) a8.bD a8.kp a8.bd (aq (dv 0) (aq (dv 2) aE)))) (a6 (Iy Zc (eV sP (gK jq (by rfl) B.len YV (aq (dv 3) aE)) az (by rfl)) (a6 (sJ ((ny Y2 Zv Zw ql (dv 1) (aq (dv 3) aE)).weak Bz)) (a6 (cn (i:=2) nd rfl (by trivial) (bx fO (dv 2) (dv 3))) (bg (cn (i:=3) nd rfl (by trivial) (bT a8.ok (hr.mono (by decide)) (by rfl) a8.bD a8.kp a8.bd (aq (dv 0) (aq (dv 2) aE)))))))) (bg (bR (dv 1))))))),TQ⟩
noncomputable abbrev D6:Stmt:=top 31
theorem lT:cA ["script", "cells", "k", "cell"] ["script"] (bA D6):=⟨rfl,rfl,rfl,by decide +kernel,rfl,by decide +kernel,by decide +kernel⟩
theorem Vs {f:Addr} {fd:FuncData} (F:bQ K "_law_open" "_law_open" D6 f fd) (h1:mg "list" = none) (h2:mg "enumerate" = none):aM P w K mg base bJ 1 f fd ["script"] (Cp K):=by
 refine F.xm lT (fun vs H Q E h => ?_) (fun a0 A outer s H vs Q E hr h => ?_)
 ·obtain⟨a,ns,rfl,_⟩:=h
  rfl
 ·obtain⟨a,ns,rfl,hS,hlen,fin⟩:=h
  have nd:=lT.nd
  refine⟨_,l_ (uF (i:=1) nd rfl (Or.inl rfl) (nv M7 (by rfl) h1 PyProof.Rows.boot_list (qw (A0 g7 (jv 0) Fv (w_ cb.out)) aV)))
   (l_ (AZ Zc rfl (Gh (by rfl) h2 (qw (A0 g7 (jv 0) (w_ cb.out) (w_ cb.out)) aV)) (AY rfl (uD (uC (i:=2) nd rfl (Or.inl rfl)) (uD (uC (i:=3) nd rfl (Or.inl rfl)) g9)))
    (qv (sD (uG Fd (A1 Am (jv 1) (uG zX (jv 2) cb) (fun _ _=>rfl)) (jv 3)) (uE (jv 1) (uG zX (jv 2) cb) set_list))))
   (qv (AW (uH (qw (jv 1) (qw cb (qw cb aV))))))),?_⟩
  refine⟨_,rfl,_,rfl,a,_,rfl,hS,fun l1 n1=>⟨l1,_,rfl,.inl (aU.of bz),fun c nc => ?_⟩⟩
  have s1:ax H (upd (upd H l1 (.lst (c7 (ns.map V.int) none (some 12)))) c (.lst (c7 (ns.map V.int) none (some 12)))):=(mH n1).trans (mH nc)
  refine⟨_,rfl,_,rfl,_,rfl,a,_,rfl,s1.seq hS,fun l2 n2=>⟨l2,rfl,⟨_,aU.of bz⟩,?_⟩⟩
  have Vt:H c=none:=(mH n1).free nc
  have Vu:=n2
  have hcc:∃ ms:List Int,ms.length=min 12 ns.length/\c7 (ns.map V.int) none (some 12)=ms.map V.int:=by
   refine⟨_,?_,Cq ns none (some 12)⟩
   rw[YD,ZP]
   have e1:HT.aX ns.length 0 none=0:=HT.Fq _ _
   have e2:HT.aX ns.length ns.length (some 12)=min 12 ns.length:=HT.wZ ns.length ns.length 12
   rw[e1,e2];omega
  have o_:(c7 (ns.map V.int) (some 12) (some 63)).length=ns.length - 12:=by
   rw[Cq,qp,YD,ZP]
   have e1:HT.aX ns.length 0 (some 12)=min 12 ns.length:=HT.wZ ns.length 0 12
   have e2:HT.aX ns.length ns.length (some 63)=min 63 ns.length:=HT.wZ ns.length ns.length 63
   rw[e1,e2];omega
  have Js:∀ i x,(c7 (ns.map V.int) (some 12) (some 63))[i]? = some x->∃ n:Int,x=V.int n:=fun i x e=>by
   rw[Cq,Ni] at e
   cases q:((ns.drop (HT.aX ns.length 0 (some 12))).take (HT.aX ns.length ns.length (some 63) - HT.aX ns.length 0 (some 12)))[i]? with
   | none=>rw[q] at e;cases e
   | some n=>rw[q] at e;exact⟨n,(YA e).symm⟩
  generalize c7 (ns.map V.int) (some 12) (some 63)=rest at o_ Js n2 ⊢
  obtain⟨ms,Vv,Vw⟩:=hcc
  refine F9 (K:=K) (a:=l2) (xs:=rest) (fun i σ H2=>∃ (ks:List Int) (v1 v2:Option V),σ = [some (.ref a),some (.ref c),v1,v2]/\H2 c=some (.lst (ks.map V.int))/\ks.length=min 12 ns.length/\H2 l2=some (.lst rest)/\ax H H2)
   ⟨ms,none,none,rfl,?_,Vv,bz,?_⟩ (fun i σ H2 _ ⟨_,_,_,_,_,_,q,_⟩=>aU.of q) ?_ ?_
  ·rw[aH (cf bz n2),bz,Vw]
  ·exact s1.trans (mH n2)
  ·rintro i x T σ H2 hi ⟨ks,v1,v2,rfl,hc,hk,sq,sm⟩ hT
   obtain⟨n,rfl⟩:=Js i x hi
   have qH:i < rest.length:=(su.mp hi).1
   have Vx:ks.length=12:=by omega
   have cT:c≠T:=cf hc hT
   have jB:upd H2 T (.tup [.int i,.int n]) c=some (.lst (ks.map V.int)):=by rw[aH cT];exact hc
   have j0:0 <= ((i:Int)) % 12:=Zx _ (by decide)
   have j1:((i:Int)) % 12 < 12:=Y6 _ (by decide)
   obtain⟨m,em⟩:=Rh (ns:=ks) j0 (by omega)
   have ix:jk (ks.map V.int).length ((i:Int) % 12)=some ((i:Int) % 12).toNat:=by
    unfold jk
    rw[XI j0,XI (by rw[qp];omega)]
   refine⟨T,_,rfl,bC.of bz,rfl,_,_,rfl,_,_,rfl,rfl,?_⟩
   refine⟨_,rfl,_,rfl,_,_,rfl,rfl,(show (0:Int) < 12 by decide),_,_,_,_,rfl,rfl,aU.of jB,em,_,rfl,_,_,rfl,rfl,_,rfl,_,rfl,_,_,rfl,rfl,(show (0:Int) < 12 by decide),_,_,_,_,rfl,rfl,jB,ix,?_⟩
   refine⟨ks.set ((i:Int) % 12).toNat (m + n),_,_,rfl,?_,by rw[Zn];exact hk,?_,?_⟩
   ·rw[bz,List.map_set]
   ·have Vy:l2≠c:=by
     intro z
     subst z
     exact absurd Vu (by rw[bz];intro y;cases y)
    rw[aH Vy,aH (cf sq hT)];exact sq
   ·intro b o e
    rw[aH (cf e Vt)]
    exact mH hT b o (sm b o e)
  ·rintro σ H2 ⟨ks,v1,v2,rfl,hc,hk,sq,sm⟩
   refine⟨_,rfl,(by show 3 <= sizeLine;decide),fun p np => ?_⟩
   have Vz:H p=none:=sm.free np
   exact fin p c _ (sm.trans (mH np)) Vz ⟨bz,⟨ks,by rw[aH (cf hc np)];exact hc,by omega⟩,Int.le_refl 0⟩
noncomputable abbrev yZ:Stmt:=top 34
theorem eK:cA ["found", "due"] ["found", "due"] (bA yZ):=⟨rfl,rfl,rfl,by decide +kernel,rfl,by decide +kernel,by decide +kernel⟩
theorem D7 {k:Nat} {f:Addr} {fd:FuncData} {ps:List Str} {n:Nat}:aM P w K mg base bJ k f fd ps (aI (fun _ _ _=>False) n) :=
 ⟨fun vs H Q E h=>by obtain⟨_,_,_,_,_,_,_,hF,_⟩:=h;exact hF.elim,fun A outer s H args us vs Q E _ _ _ _ h=>by obtain⟨_,_,_,_,_,_,_,hF,_⟩:=h;exact hF.elim⟩
theorem Jt {f:Addr} {fd:FuncData} (F:bQ K "_law_same" "_law_same" yZ f fd) (B:BT mg) (n:Nat) (aS:Fn P w K mg base n "_law_same" ["found", "due"] (aI (vI lI n) 2) f fd):aM P w K mg base bJ (n + 1) f fd ["found", "due"] (aI (lI n) 2):=by
 refine F.dZ (k:=n) eK fun a0 A outer s H E hr => ?_
 have nd:=eK.nd
 have hu:=hr.units
 exact⟨jw (vI lI n),(a6 (f6 (eV HW (dv 1) GA (by rfl)) (bg (bR (iX HW (dv 0) GA (by rfl)))) gg) (a6 (f6 (JW.jt (xy (iY (iF vc (by rfl) B.isinstance (by rfl) B.bool uL (dv 1))) (xx (iY (iF vc (by rfl) B.isinstance (by rfl) B.bool uL (dv 0)))))) (bg (bR (me (iF vc (by rfl) B.isinstance (by rfl) B.bool uL (dv 1)) (me (iF vc (by rfl) B.isinstance (by rfl) B.bool uL (dv 0)) (nE (iX (ie hu) (dv 0) (dv 1) (by rfl))))))) gg) (a6 (f6 (iY (iF Bx (by rfl) B.isinstance (by rfl) B.int A4 (dv 1))) (bg (bR (me (iF Bx (by rfl) B.isinstance (by rfl) B.int A4 (dv 0)) (nE (iX (ie hu) (dv 0) (dv 1) (by rfl)))))) gg) (a6 (f6 (iY (iF Hh (by rfl) B.isinstance (by rfl) B.str Gn (dv 1))) (bg (bR (me (iF Hh (by rfl) B.isinstance (by rfl) B.str Gn (dv 0)) (nE (iX (ie hu) (dv 0) (dv 1) (by rfl)))))) gg) (a6 (f6 (JW.jt (xy (eV (sO hu) (iF ya (by rfl) B.isinstance (by rfl) B.tuple uM (dv 1)) (iF ya (by rfl) B.isinstance (by rfl) B.tuple uM (dv 0)) (by rfl)) (xx (eV (sO hu) (iF By (by rfl) B.isinstance (by rfl) B.list qy (dv 1)) (iF By (by rfl) B.isinstance (by rfl) B.list qy (dv 0)) (by rfl))))) (bg (bR k8)) gg) (a6 (f6 (eV (sO hu) (gK jq (by rfl) B.len YV (aq (dv 0) aE)) (gK jq (by rfl) B.len YV (aq (dv 1) aE)) (by rfl)) (bg (bR k8)) gg) (bg (bR (iX (PB hu) k8 (jR [none,none] ["one", "other"] rfl (Pn (by rfl) B.zip (aq (dv 0) (aq (dv 1) aE))) (fun d=>(oN rfl (iC (cq (i:=0) (show (["one", "other"]:List Str).Nodup by decide +kernel) rfl (by trivial)) (iC (cq (i:=1) (show (["one", "other"]:List Str).Nodup by decide +kernel) rfl (by trivial)) oM)))) (fun d=>ku) (fun d=>(bT aS.ok (hr.mono (by omega)) (by rfl) aS.bD aS.kp aS.bd (aq (dv 0) (aq (dv 1) aE))))) (by rfl)))))))))),Q8 n⟩
theorem VA {f:Addr} {fd:FuncData} (F:bQ K "_law_same" "_law_same" yZ f fd) (B:BT mg) (bD:mg "_law_same" = some (.ref f)) (kp:PySem.W.keepIn K (.ref f)=true) (bd:Binds K fd ["found", "due"] []) (n:Nat):aM P w K mg base bJ (n + 1) f fd ["found", "due"] (aI (lI n) 2):=by
 induction n with
 | zero=>exact Jt F B 0 ⟨D7,bD,kp,bd⟩
 | succ m ih=>exact Jt F B (m + 1) ⟨ih,bD,kp,bd⟩
noncomputable abbrev wF:Stmt:=top 44
theorem lU:cA ["script", "pen", "turn", "web", "due", "again", "found"] ["script"] (bA wF):=⟨rfl,rfl,rfl,by decide +kernel,rfl,by decide +kernel,by decide +kernel⟩
theorem VB {f rR VC VD VE VF VG:Addr} {fd oe VH VI VJ VL VM:FuncData} (F:bQ K "law" "law" wF f fd) (B:BT mg) (GO:Fn P w K mg base 1 "_law_open" ["script"] (Cp K) rR oe) (cO:Fn P w K mg base 4 "_law_web" ["pen", "houses", "most"] (aI vz 3) VC VH) (b8:Fn P w K mg base 1 "_law_anew" ["pen"] (aI vx 1) VD VI) (cP:Fn P w K mg base 3 "_law_due" ["web"] (aI wC 1) VE VJ) (b9:Fn P w K mg base 11 "rounds_of" ["web"] (aI wy 1) VF VL) (aS:Fn P w K mg base 4 "_law_same" ["found", "due"] (aI (lI 3) 2) VG VM):aM P w K mg base bJ 19 f fd ["script"] (yw K):=by
 refine F.xm (k:=18) lU (fun vs H Q E h => ?_) (fun a0 A outer s H vs Q E hr h => ?_)
 ·obtain⟨a,ns,rfl,_⟩:=h
  rfl
 obtain⟨a,ns,rfl,hS,hlen,hT,fin⟩:=h
 have nd:=lU.nd
 have hu:=hr.units
 have rest:fK (gy bJ P w K mg base ["script", "pen", "turn", "web", "due", "again", "found"] "law" (bA wF) f a0 A outer s H E).mT ((jI wF).drop 1) (dX Dv):=(a6 (oO Zc rfl (qM (by rfl) B.range (a7 az aE)) (cq (i:=2) nd rfl (by trivial)) (a6 (cn (i:=3) nd rfl (by trivial) (bT cO.ok (hr.mono (by decide)) (by rfl) cO.bD cO.kp cO.bd (fE (bT b8.ok (hr.mono (by decide)) (by rfl) b8.bD b8.kp b8.bd (aq (dv 1) aE)) (bF (bE bH (nD (a7 az (a7 az (a7 az aE)))) (dv 2) (fun _ _=>rfl)) (a7 az aE))))) (a6 (cn (i:=4) nd rfl (by trivial) (bT cP.ok (hr.mono (by decide)) (by rfl) cP.bD cP.kp cP.bd (aq (dv 3) aE))) (bg (oO Zc rfl (qM (by rfl) B.range (a7 az aE)) (cq (i:=5) nd rfl (by trivial)) (T_ (uF (i:=6) nd rfl (by trivial) (uI b9.ok (hr.mono (by decide)) (by rfl) b9.bD b9.kp b9.bd .nil uh (iA (jv 3) aV))) (AX (oK (iY (bT aS.ok (hr.mono (by decide)) (by rfl) aS.bD aS.kp aS.bd (aq (dv 6) (aq (dv 4) aE))))) (bg (bR k8)) g8) (AX (eV (sO hu) (dv 6) (nD aE) (by rfl)) (qv (xj (ny Y2 Zv Zw ql (A1 Am (jv 6) cb (fun _ _=>rfl)) (uJ cb aV)))) g8) (xj (ny Y2 Zv Zw ql (jv 6) (uK (uH aV) aV))))))))) (bg (bR k8)))
 refine⟨_,l_ (uF (i:=1) nd rfl (by trivial) (uI GO.ok (hr.mono (by decide)) (by rfl) GO.bD GO.kp GO.bd .nil uh (iA (jv 0) aV))) rest,?_⟩
 refine⟨_,rfl,a,ns,rfl,hS,hlen,fun p c H1 sm hp N1 => ?_⟩
 obtain⟨F',ms,hm,S⟩:=Ri (a:=a) (n:=5) (aD.same hT sm) N1
 exact Rj S (Ub ms hm) fin
end
noncomputable def kI:List pA:=[⟨147,⟨70,25,70,63⟩,(("least_of" : Str) ++ ".<locals>.") ++ "<lambda>"⟩]
theorem VN:∀ a∈kI,∀ b∈kI,a.T=b.T->a=b:=by
 unfold kI
 intro a ha b hb h
 simp only[Nh,Yx,ZI] at ha hb
 rcases ha with rfl<;>rcases hb with rfl<;>first | rfl | exact absurd h (by decide)
theorem mL {us:List Value} (h:us.length=1):∃ a,us=[a]:=List.length_eq_one_iff.mp h
theorem iL {us:List Value} (h:us.length=2):∃ a b,us=[a,b]:=by
 cases us with
 | nil=>cases h
 | cons a r=>obtain⟨b,e⟩:=mL (q0l h);exact⟨a,b,by rw[e]⟩
theorem rS {us:List Value} (h:us.length=3):∃ a b c,us=[a,b,c]:=by
 cases us with
 | nil=>cases h
 | cons a r=>obtain⟨b,c,e⟩:=iL (q0l h);exact⟨a,b,c,by rw[e]⟩
structure dr (K:PySem.W.Frag) (x:Str) (st:Stmt) (f:Addr) (fd:FuncData):Prop where
 a:PySem.W.nsIn K mainGlobals x=some (some (.ref f))
 F:bQ K x x st f fd
 k:PySem.W.keepIn K (.ref f)=true
theorem defAt {K:PySem.W.Frag} {x:Str} {st:Stmt} {f:Addr} {od an:Option Addr} {sl:Array (Option Value)} {oc kV dc pm cd ct:Value} (a:PySem.W.nsIn K mainGlobals x=some (some (.ref f))) (l:K.lookup f=some ⟨oc,od,.func (PySem.W.fnOf x x (oG st) (jI st) (bA st) .none kV dc pm an cd ct),sl⟩) (q:PySem.W.codeIn K cd x=true) (k:PySem.W.keepIn K (.ref f)=true) :
  dr K x st f (PySem.W.fnOf x x (oG st) (jI st) (bA st) .none kV dc pm an cd ct):=⟨a,Nl l q k,k⟩
structure D8 (K:PySem.W.Frag) (x:Str) (st:Stmt) (f:Addr) (fd:FuncData) (T:Addr):Prop extends dr K x st f fd where
 cd:∃ cc,fd.code = .ref cc/\PySem.W.codeHdIn K cc T=true
theorem Ju {K:PySem.W.Frag} {x:Str} {st:Stmt} {f T cc:Addr} {od an:Option Addr} {sl:Array (Option Value)} {oc kV dc pm ct:Value} (a:PySem.W.nsIn K mainGlobals x=some (some (.ref f))) (l:K.lookup f=some ⟨oc,od,.func (PySem.W.fnOf x x (oG st) (jI st) (bA st) .none kV dc pm an (.ref cc) ct),sl⟩) (q:PySem.W.codeIn K (.ref cc) x=true) (k:PySem.W.keepIn K (.ref f)=true) (h:PySem.W.codeHdIn K cc T=true) :
  D8 K x st f (PySem.W.fnOf x x (oG st) (jI st) (bA st) .none kV dc pm an (.ref cc) ct) T:=⟨defAt a l q k,cc,rfl,h⟩
theorem VO {l:PySem.W.OpenLaw} {w:World} {K:PySem.W.Frag} {h:Heap} {mg:Str->Option Value} {fa Jv Jw Jx Jy Jz JB JD JH JJ JK JL JM JN y_ JO JP JQ JR JU JV JX JY JZ J0 J6 J7 J8 J9 J_ Ka Kb Kc D9:Addr} (X:K.In h) (G:h.Ns mainGlobals mg) (VP:mg "law" = some (.ref fa))
  {VQ VR VS VT VU VV VW VX VY VZ V0 V6 V7 D_ V8 V9 V_ Wa Wb Wc Wd We Wf Wg Wh Wi Wj Wk Wl Wm Wn Wo wG:FuncData}
  {Kd:Value}
  {Ke:Value}
  {Kg:Value}
  (Dis_whole:dr K "is_whole" Dy Jv VQ)
  (Dis_within:dr K "is_within" Dz Jw VR)
  (Dis_tuple_of:dr K "is_tuple_of" DA Jx VS)
  (Dare_ends:dr K "are_ends" DB Jy VT)
  (Dis_way:dr K "is_way" DC Jz VU)
  (Dare_ways:dr K "are_ways" DF JB VV)
  (Dis_web:dr K "is_web" DG JD VW)
  (Dneed_web:dr K "need_web" DH JH VX)
  (Drank_of:dr K "rank_of" DI JJ VY)
  (Dneed_ways:dr K "need_ways" DJ JK VZ)
  (Djoined:dr K "joined" DK JL V0)
  (Dfirsts_of:dr K "firsts_of" DL JM V6)
  (Dlots_of:dr K "lots_of" D3 JN V7)
  (Dleast_of:D8 K "least_of" yY y_ D_ 147)
  (Dleads_out:dr K "leads_out" DM JO V8)
  (Dways_out:dr K "ways_out" DN JP V9)
  (Dround_of:dr K "round_of" D4 JQ V_)
  (Drounds_of:dr K "rounds_of" D5 JR Wa)
  (D_law_spread:dr K "_law_spread" DO JU Wb)
  (D_law_open:dr K "_law_open" D6 JV Wc)
  (D_law_anew:dr K "_law_anew" DP JX Wd)
  (D_law_take:dr K "_law_take" DQ JY We)
  (D_law_same:dr K "_law_same" yZ JZ Wf)
  (D_law_pairs_of:dr K "_law_pairs_of" DR J0 Wg)
  (D_law_web:dr K "_law_web" DU J6 Wh)
  (D_law_key:dr K "_law_key" DW J7 Wi)
  (D_law_marks_by:dr K "_law_marks_by" DX J8 Wj)
  (D_law_lots:dr K "_law_lots" DY J9 Wk)
  (D_law_leads_out:dr K "_law_leads_out" DZ J_ Wl)
  (D_law_outs:dr K "_law_outs" D0 Ka Wm)
  (D_law_all:dr K "_law_all" D1 Kb Wn)
  (D_law_due:dr K "_law_due" D2 Kc Wo)
  (Dlaw:dr K "law" wF D9 wG)
  (q3j:PySem.W.nsIn K mainGlobals "MOST_HOUSES" = some (some Kd)) (q23:RelV (.int 12) Kd)
  (q47:PySem.W.nsIn K mainGlobals "MOST_WAYS" = some (some Ke)) (q4R:RelV (.int 30) Ke)
  (q30:PySem.W.nsIn K mainGlobals "MOST_PRICE" = some (some Kg)) (q3P:RelV (.int 1000000000) Kg)
  (zlen:PySem.W.nsIn K mainGlobals "len" = some none)
  (zrange:PySem.W.nsIn K mainGlobals "range" = some none)
  (zlist:PySem.W.nsIn K mainGlobals "list" = some none)
  (ztuple:PySem.W.nsIn K mainGlobals "tuple" = some none)
  (zset:PySem.W.nsIn K mainGlobals "set" = some none)
  (zsorted:PySem.W.nsIn K mainGlobals "sorted" = some none)
  (zmin:PySem.W.nsIn K mainGlobals "min" = some none)
  (zmax:PySem.W.nsIn K mainGlobals "max" = some none)
  (zsum:PySem.W.nsIn K mainGlobals "sum" = some none)
  (zall:PySem.W.nsIn K mainGlobals "all" = some none)
  (zany:PySem.W.nsIn K mainGlobals "any" = some none)
  (zenumerate:PySem.W.nsIn K mainGlobals "enumerate" = some none)
  (zzip:PySem.W.nsIn K mainGlobals "zip" = some none)
  (zisinstance:PySem.W.nsIn K mainGlobals "isinstance" = some none)
  (zint:PySem.W.nsIn K mainGlobals "int" = some none)
  (zbool:PySem.W.nsIn K mainGlobals "bool" = some none)
  (zstr:PySem.W.nsIn K mainGlobals "str" = some none)
  : ∃ fd:FuncData,(∀ (s:Shared) (v:Value),BindsTo s fd ⟨[v],[]⟩ [("script",v)])/\∀ base:Heap,K.In base->base.Ns mainGlobals mg->(∀ t∈kI,base.BuiltinsAt mg t.T)->aM l.prog w K mg base bJ 19 fa fd ["script"] (@yw (rG kI) K):=by
 have e:=VP.symm.trans (Yl X G Dlaw.a)
 cases e
 letI:aD:=rG kI
 have B:BT mg:=⟨YC X G zlen,YC X G zrange,YC X G zlist,YC X G ztuple,YC X G zset,YC X G zsorted,YC X G zmin,YC X G zmax,YC X G zsum,YC X G zall,YC X G zany,YC X G zenumerate,YC X G zzip,YC X G zisinstance,YC X G zint,YC X G zbool,YC X G zstr⟩
 have Wq:=Dis_whole.F.binds (ps:=["thing"]) fun _ _ _ _ _ _ us hl=>by obtain⟨_,rfl⟩:=mL hl;rfl
 have Wr:=Dis_within.F.binds (ps:=["thing", "least", "most"]) fun _ _ _ _ _ _ us hl=>by obtain⟨_,_,_,rfl⟩:=rS hl;rfl
 have Ws:=Dis_tuple_of.F.binds (ps:=["thing", "size"]) fun _ _ _ _ _ _ us hl=>by obtain⟨_,_,rfl⟩:=iL hl;rfl
 have Wt:=Dare_ends.F.binds (ps:=["many", "one", "other"]) fun _ _ _ _ _ _ us hl=>by obtain⟨_,_,_,rfl⟩:=rS hl;rfl
 have Wu:=Dis_way.F.binds (ps:=["many", "thing"]) fun _ _ _ _ _ _ us hl=>by obtain⟨_,_,rfl⟩:=iL hl;rfl
 have Wv:=Dare_ways.F.binds (ps:=["many", "thing"]) fun _ _ _ _ _ _ us hl=>by obtain⟨_,_,rfl⟩:=iL hl;rfl
 have Ww:=Dis_web.F.binds (ps:=["thing"]) fun _ _ _ _ _ _ us hl=>by obtain⟨_,rfl⟩:=mL hl;rfl
 have Wx:=Dneed_web.F.binds (ps:=["web"]) fun _ _ _ _ _ _ us hl=>by obtain⟨_,rfl⟩:=mL hl;rfl
 have Wz:=Drank_of.F.binds (ps:=["way"]) fun _ _ _ _ _ _ us hl=>by obtain⟨_,rfl⟩:=mL hl;rfl
 have WB:=Dneed_ways.F.binds (ps:=["web", "ways"]) fun _ _ _ _ _ _ us hl=>by obtain⟨_,_,rfl⟩:=iL hl;rfl
 have WC:=Djoined.F.binds (ps:=["firsts", "one", "other"]) fun _ _ _ _ _ _ us hl=>by obtain⟨_,_,_,rfl⟩:=rS hl;rfl
 have WD:=Dfirsts_of.F.binds (ps:=["web", "ways"]) fun _ _ _ _ _ _ us hl=>by obtain⟨_,_,rfl⟩:=iL hl;rfl
 have WH:=Dlots_of.F.binds (ps:=["web", "ways"]) fun _ _ _ _ _ _ us hl=>by obtain⟨_,_,rfl⟩:=iL hl;rfl
 have WJ:=Dleast_of.F.binds (ps:=["web", "ways"]) fun _ _ _ _ _ _ us hl=>by obtain⟨_,_,rfl⟩:=iL hl;rfl
 have WK:=Dleads_out.F.binds (ps:=["way", "houses"]) fun _ _ _ _ _ _ us hl=>by obtain⟨_,_,rfl⟩:=iL hl;rfl
 have WL:=Dways_out.F.binds (ps:=["web", "houses"]) fun _ _ _ _ _ _ us hl=>by obtain⟨_,_,rfl⟩:=iL hl;rfl
 have WM:=Dround_of.F.binds (ps:=["web", "ways"]) fun _ _ _ _ _ _ us hl=>by obtain⟨_,_,rfl⟩:=iL hl;rfl
 have WN:=Drounds_of.F.binds (ps:=["web"]) fun _ _ _ _ _ _ us hl=>by obtain⟨_,rfl⟩:=mL hl;rfl
 have WQ:=D_law_spread.F.binds (ps:=["cell", "at"]) fun _ _ _ _ _ _ us hl=>by obtain⟨_,_,rfl⟩:=iL hl;rfl
 have WR:=D_law_open.F.binds (ps:=["script"]) fun _ _ _ _ _ _ us hl=>by obtain⟨_,rfl⟩:=mL hl;rfl
 have WU:=D_law_anew.F.binds (ps:=["pen"]) fun _ _ _ _ _ _ us hl=>by obtain⟨_,rfl⟩:=mL hl;rfl
 have WV:=D_law_take.F.binds (ps:=["pen", "many"]) fun _ _ _ _ _ _ us hl=>by obtain⟨_,_,rfl⟩:=iL hl;rfl
 have Kh:=D_law_same.F.binds (ps:=["found", "due"]) fun _ _ _ _ _ _ us hl=>by obtain⟨_,_,rfl⟩:=iL hl;rfl
 have WW:=D_law_pairs_of.F.binds (ps:=["pen", "kind", "many"]) fun _ _ _ _ _ _ us hl=>by obtain⟨_,_,_,rfl⟩:=rS hl;rfl
 have WX:=D_law_web.F.binds (ps:=["pen", "houses", "most"]) fun _ _ _ _ _ _ us hl=>by obtain⟨_,_,_,rfl⟩:=rS hl;rfl
 have WY:=D_law_key.F.binds (ps:=["web", "number"]) fun _ _ _ _ _ _ us hl=>by obtain⟨_,_,rfl⟩:=iL hl;rfl
 have WZ:=D_law_marks_by.F.binds (ps:=["web", "ways"]) fun _ _ _ _ _ _ us hl=>by obtain⟨_,_,rfl⟩:=iL hl;rfl
 have W0:=D_law_lots.F.binds (ps:=["web", "ways"]) fun _ _ _ _ _ _ us hl=>by obtain⟨_,_,rfl⟩:=iL hl;rfl
 have W5:=D_law_leads_out.F.binds (ps:=["web", "houses", "number"]) fun _ _ _ _ _ _ us hl=>by obtain⟨_,_,_,rfl⟩:=rS hl;rfl
 have W6:=D_law_outs.F.binds (ps:=["web", "houses", "ways"]) fun _ _ _ _ _ _ us hl=>by obtain⟨_,_,_,rfl⟩:=rS hl;rfl
 have W7:=D_law_all.F.binds (ps:=["web"]) fun _ _ _ _ _ _ us hl=>by obtain⟨_,rfl⟩:=mL hl;rfl
 have W8:=D_law_due.F.binds (ps:=["web"]) fun _ _ _ _ _ _ us hl=>by obtain⟨_,rfl⟩:=mL hl;rfl
 refine⟨wG,fun s v=>by obtain⟨_,_,_,_,_,_,_,_,_,rfl,_⟩:=Dlaw.F.ex;exact .of_eq rfl,fun base KB _ hB => ?_⟩
 have W9:Fn l.prog w K mg base 1 "is_whole" ["thing"] (aI vA 1) Jv _:=⟨Uc Dis_whole.F B,Yl X G Dis_whole.a,Dis_whole.k,Wq⟩
 have za:Fn l.prog w K mg base 2 "is_within" ["thing", "least", "most"] (aI kC 3) Jw _:=⟨Ud Dis_within.F B W9,Yl X G Dis_within.a,Dis_within.k,Wr⟩
 have Ki:Fn l.prog w K mg base 1 "is_tuple_of" ["thing", "size"] (aI rC 2) Jx _:=⟨Uh Dis_tuple_of.F B,Yl X G Dis_tuple_of.a,Dis_tuple_of.k,Ws⟩
 have W_:Fn l.prog w K mg base 3 "are_ends" ["many", "one", "other"] (aI vD 3) Jy _:=⟨Ui Dare_ends.F B za,Yl X G Dare_ends.a,Dare_ends.k,Wt⟩
 have Xa:Fn l.prog w K mg base 4 "is_way" ["many", "thing"] (aI vE 2) Jz _:=⟨Uj Dis_way.F B ⟨q3P,Yl X G q30⟩ Ki W_ za,Yl X G Dis_way.a,Dis_way.k,Wu⟩
 have Xb:Fn l.prog w K mg base 5 "are_ways" ["many", "thing"] (aI vF 2) JB _:=⟨Um Dare_ways.F B ⟨q4R,Yl X G q47⟩ Xa,Yl X G Dare_ways.a,Dare_ways.k,Wv⟩
 have Xc:Fn l.prog w K mg base 6 "is_web" ["thing"] (aI vH 1) JD _:=⟨Ur Dis_web.F B ⟨q23,Yl X G q3j⟩ Ki za Xb,Yl X G Dis_web.a,Dis_web.k,Ww⟩
 have Xd:Fn l.prog w K mg base 7 "need_web" ["web"] (aI vZ 1) JH _:=⟨Uu Dneed_web.F B Xc,Yl X G Dneed_web.a,Dneed_web.k,Wx⟩
 have Xe:Fn l.prog w K mg base 1 "rank_of" ["way"] (aI v3 1) JJ _:=⟨Ux Drank_of.F B,Yl X G Drank_of.a,Drank_of.k,Wz⟩
 have Xf:Fn l.prog w K mg base 8 "need_ways" ["web", "ways"] (aI v7 2) JK _:=⟨Uy Dneed_ways.F B Xd za,Yl X G Dneed_ways.a,Dneed_ways.k,WB⟩
 have Xg:Fn l.prog w K mg base 1 "joined" ["firsts", "one", "other"] (aI sW 3) JL _:=⟨UB Djoined.F B,Yl X G Djoined.a,Djoined.k,WC⟩
 have Xh:Fn l.prog w K mg base 2 "firsts_of" ["web", "ways"] (aI sY 2) JM _:=⟨UC Dfirsts_of.F B Xg,Yl X G Dfirsts_of.a,Dfirsts_of.k,WD⟩
 have Xi:Fn l.prog w K mg base 9 "lots_of" ["web", "ways"] (aI yF 2) JN _:=⟨Vf Dlots_of.F B Xf Xh,Yl X G Dlots_of.a,Dlots_of.k,WH⟩
 have Xj:Fn l.prog w K mg base 5 "least_of" ["web", "ways"] (aI wt 2) y_ _:=⟨UG Dleast_of.F B (⟨(let ⟨cc,e1,e2⟩:=Dleast_of.cd; ⟨cc,e1,PySem.W.codeHd_of_K KB e2⟩),by decide,hB ⟨147,⟨70,25,70,63⟩,(("least_of" : Str) ++ ".<locals>.") ++ "<lambda>"⟩ (by unfold kI;simp),RH (ls:=kI) (l:=⟨147,⟨70,25,70,63⟩,(("least_of" : Str) ++ ".<locals>.") ++ "<lambda>"⟩) (by unfold kI;simp) VN⟩) Xe,Yl X G Dleast_of.a,Dleast_of.k,WJ⟩
 have Xk:Fn l.prog w K mg base 1 "leads_out" ["way", "houses"] (aI wo 2) JO _:=⟨UJ Dleads_out.F B,Yl X G Dleads_out.a,Dleads_out.k,WK⟩
 have Xl:Fn l.prog w K mg base 2 "ways_out" ["web", "houses"] (aI wq 2) JP _:=⟨UK Dways_out.F B Xk,Yl X G Dways_out.a,Dways_out.k,WL⟩
 have Xm:Fn l.prog w K mg base 10 "round_of" ["web", "ways"] (aI rM 2) JQ _:=⟨Vi Dround_of.F B Xi Xl Xj,Yl X G Dround_of.a,Dround_of.k,WM⟩
 have Xn:Fn l.prog w K mg base 11 "rounds_of" ["web"] (aI wy 1) JR _:=⟨Vp Drounds_of.F B Xm,Yl X G Drounds_of.a,Drounds_of.k,WN⟩
 have Xo:Fn l.prog w K mg base 1 "_law_spread" ["cell", "at"] (aI vw 2) JU _:=⟨UN D_law_spread.F B,Yl X G D_law_spread.a,D_law_spread.k,WQ⟩
 have Xp:Fn l.prog w K mg base 1 "_law_open" ["script"] (Cp K) JV _:=⟨Vs D_law_open.F B.list B.enumerate,Yl X G D_law_open.a,D_law_open.k,WR⟩
 have Xq:Fn l.prog w K mg base 1 "_law_anew" ["pen"] (aI vx 1) JX _:=⟨UO D_law_anew.F B,Yl X G D_law_anew.a,D_law_anew.k,WU⟩
 have Kj:Fn l.prog w K mg base 2 "_law_take" ["pen", "many"] (aI iH 2) JY _:=⟨UP D_law_take.F B Xo,Yl X G D_law_take.a,D_law_take.k,WV⟩
 have Xr:Fn l.prog w K mg base 4 "_law_same" ["found", "due"] (aI (lI 3) 2) JZ _:=⟨VA D_law_same.F B (Yl X G D_law_same.a) D_law_same.k Kh 3,Yl X G D_law_same.a,D_law_same.k,Kh⟩
 have Xs:Fn l.prog w K mg base 3 "_law_pairs_of" ["pen", "kind", "many"] (aI vy 3) J0 _:=⟨US D_law_pairs_of.F B Kj,Yl X G D_law_pairs_of.a,D_law_pairs_of.k,WW⟩
 have Xt:Fn l.prog w K mg base 4 "_law_web" ["pen", "houses", "most"] (aI vz 3) J6 _:=⟨UT D_law_web.F B Kj Xs,Yl X G D_law_web.a,D_law_web.k,WX⟩
 have Xu:Fn l.prog w K mg base 1 "_law_key" ["web", "number"] (aI v5 2) J7 _:=⟨UX D_law_key.F B,Yl X G D_law_key.a,D_law_key.k,WY⟩
 have Xv:Fn l.prog w K mg base 1 "_law_marks_by" ["web", "ways"] (aI vN 2) J8 _:=⟨UY D_law_marks_by.F B,Yl X G D_law_marks_by.a,D_law_marks_by.k,WZ⟩
 have Xw:Fn l.prog w K mg base 2 "_law_lots" ["web", "ways"] (aI vP 2) J9 _:=⟨UZ D_law_lots.F B Xv,Yl X G D_law_lots.a,D_law_lots.k,W0⟩
 have Xx:Fn l.prog w K mg base 1 "_law_leads_out" ["web", "houses", "number"] (aI wz 3) J_ _:=⟨U2 D_law_leads_out.F B,Yl X G D_law_leads_out.a,D_law_leads_out.k,W5⟩
 have Xy:Fn l.prog w K mg base 2 "_law_outs" ["web", "houses", "ways"] (aI wB 3) Ka _:=⟨U3 D_law_outs.F B Xx Xu,Yl X G D_law_outs.a,D_law_outs.k,W6⟩
 have Xz:Fn l.prog w K mg base 1 "_law_all" ["web"] (aI vO 1) Kb _:=⟨U8 D_law_all.F B,Yl X G D_law_all.a,D_law_all.k,W7⟩
 have XA:Fn l.prog w K mg base 3 "_law_due" ["web"] (aI wC 1) Kc _:=⟨U9 D_law_due.F B Xw Xy Xz,Yl X G D_law_due.a,D_law_due.k,W8⟩
 exact VB Dlaw.F B Xp Xt Xq XA Xn Xr
theorem XB {K:PySem.W.Frag} {h:Heap} {y_:Addr} {D_:FuncData} (X:K.In h) (Dleast_of:D8 K "least_of" yY y_ D_ 147):∀ t∈kI,∃ cc,PySem.W.CodeHd h cc t.T:=by
 unfold kI
 intro t ht
 simp only[Nh,Yx,ZI] at ht
 rcases ht with rfl
 ·exact let ⟨cc,_,e2⟩:=Dleast_of.cd; ⟨cc,PySem.W.codeHd_of_K X e2⟩
end LJ
open PySem PySem.W PyProof.Rows
theorem PySem.W.Fast.tw11199157032624192088:True:=trivial
theorem PySem.W.Fast.tw1472085350018789086:True:=trivial
theorem PySem.W.Fast.tw14212984858740963069:True:=trivial
theorem PySem.W.Fast.tw4738761135442622541:True:=trivial
theorem PySem.W.Fast.tw4915890639688105193:True:=trivial
theorem PySem.W.Fast.tw6342883550738851600:True:=trivial
theorem PySem.W.Fast.tw5413045705367604951:True:=trivial
theorem PySem.W.Fast.tw12968253464472693832:True:=trivial
theorem PySem.W.Fast.tw14577072479708957628:True:=trivial
set_option maxRecDepth 100000 in
set_option maxHeartbeats 0 in
theorem PySem.Challenge.cw_lotjoin_k20_rounds_told_holds : PySem.Challenge.rw_lotjoin_k20_rounds_told.Holds := by
 w_on;o_law;k_head; (case hw=>w_witness2)
 k_fill
 refine LJ.R1 (l:=PySem.Challenge.rw_lotjoin_k20_rounds_told) (kk:=19) LJ.kI rfl rfl rfl ⟨rfl,by decide,by decide⟩ ?C (fun P=>by kernel_rfl) ?F
 case C =>
  intro w h KX
  refine' LJ.XB KX ?Dleast_of
  (case Dleast_of=>(refine' LJ.Ju ?wc0 ?xc0 ?yc0 ?zc0 ?vc0; (case wc0=>k_is); (case xc0=>k_is); (case yc0=>k_is); (case zc0=>k_is); (case vc0=>kernel_rfl)))
 case F =>
  intro w mg fa h KX G nk
  refine' LJ.VO KX G nk ?Dis_whole ?Dis_within ?Dis_tuple_of ?Dare_ends ?Dis_way ?Dare_ways ?Dis_web ?Dneed_web ?Drank_of ?Dneed_ways ?Djoined ?Dfirsts_of ?Dlots_of ?Dleast_of ?Dleads_out ?Dways_out ?Dround_of ?Drounds_of ?D_law_spread ?D_law_open ?D_law_anew ?D_law_take ?D_law_same ?D_law_pairs_of ?D_law_web ?D_law_key ?D_law_marks_by ?D_law_lots ?D_law_leads_out ?D_law_outs ?D_law_all ?D_law_due ?Dlaw ?q3j ?q23 ?q47 ?q4R ?q30 ?q3P ?zlen ?zrange ?zlist ?ztuple ?zset ?zsorted ?zmin ?zmax ?zsum ?zall ?zany ?zenumerate ?zzip ?zisinstance ?zint ?zbool ?zstr
  (case Dis_whole=>(refine' LJ.defAt ?w0 ?x0 ?y0 ?z0; (case w0=>k_is); (case x0=>k_is); (case y0=>k_is); (case z0=>k_is)))
  (case Dis_within=>(refine' LJ.defAt ?w1 ?x1 ?y1 ?z1; (case w1=>k_is); (case x1=>k_is); (case y1=>k_is); (case z1=>k_is)))
  (case Dis_tuple_of=>(refine' LJ.defAt ?w2 ?x2 ?y2 ?z2; (case w2=>k_is); (case x2=>k_is); (case y2=>k_is); (case z2=>k_is)))
  (case Dare_ends=>(refine' LJ.defAt ?w3 ?x3 ?y3 ?z3; (case w3=>k_is); (case x3=>k_is); (case y3=>k_is); (case z3=>k_is)))
  (case Dis_way=>(refine' LJ.defAt ?w4 ?x4 ?y4 ?z4; (case w4=>k_is); (case x4=>k_is); (case y4=>k_is); (case z4=>k_is)))
  (case Dare_ways=>(refine' LJ.defAt ?w5 ?x5 ?y5 ?z5; (case w5=>k_is); (case x5=>k_is); (case y5=>k_is); (case z5=>k_is)))
  (case Dis_web=>(refine' LJ.defAt ?w6 ?x6 ?y6 ?z6; (case w6=>k_is); (case x6=>k_is); (case y6=>k_is); (case z6=>k_is)))
  (case Dneed_web=>(refine' LJ.defAt ?w7 ?x7 ?y7 ?z7; (case w7=>k_is); (case x7=>k_is); (case y7=>k_is); (case z7=>k_is)))
  (case Drank_of=>(refine' LJ.defAt ?w8 ?x8 ?y8 ?z8; (case w8=>k_is); (case x8=>k_is); (case y8=>k_is); (case z8=>k_is)))
  (case Dneed_ways=>(refine' LJ.defAt ?w9 ?x9 ?y9 ?z9; (case w9=>k_is); (case x9=>k_is); (case y9=>k_is); (case z9=>k_is)))
  (case Djoined=>(refine' LJ.defAt ?w10 ?x10 ?y10 ?z10; (case w10=>k_is); (case x10=>k_is); (case y10=>k_is); (case z10=>k_is)))
  (case Dfirsts_of=>(refine' LJ.defAt ?w11 ?x11 ?y11 ?z11; (case w11=>k_is); (case x11=>k_is); (case y11=>k_is); (case z11=>k_is)))
  (case Dlots_of=>(refine' LJ.defAt ?w12 ?x12 ?y12 ?z12; (case w12=>k_is); (case x12=>k_is); (case y12=>k_is); (case z12=>k_is)))
  (case Dleads_out=>(refine' LJ.defAt ?w13 ?x13 ?y13 ?z13; (case w13=>k_is); (case x13=>k_is); (case y13=>k_is); (case z13=>k_is)))
  (case Dways_out=>(refine' LJ.defAt ?w14 ?x14 ?y14 ?z14; (case w14=>k_is); (case x14=>k_is); (case y14=>k_is); (case z14=>k_is)))
  (case Dround_of=>(refine' LJ.defAt ?w15 ?x15 ?y15 ?z15; (case w15=>k_is); (case x15=>k_is); (case y15=>k_is); (case z15=>k_is)))
  (case Drounds_of=>(refine' LJ.defAt ?w16 ?x16 ?y16 ?z16; (case w16=>k_is); (case x16=>k_is); (case y16=>k_is); (case z16=>k_is)))
  (case D_law_spread=>(refine' LJ.defAt ?w17 ?x17 ?y17 ?z17; (case w17=>k_is); (case x17=>k_is); (case y17=>k_is); (case z17=>k_is)))
  (case D_law_open=>(refine' LJ.defAt ?w18 ?x18 ?y18 ?z18; (case w18=>k_is); (case x18=>k_is); (case y18=>k_is); (case z18=>k_is)))
  (case D_law_anew=>(refine' LJ.defAt ?w19 ?x19 ?y19 ?z19; (case w19=>k_is); (case x19=>k_is); (case y19=>k_is); (case z19=>k_is)))
  (case D_law_take=>(refine' LJ.defAt ?w20 ?x20 ?y20 ?z20; (case w20=>k_is); (case x20=>k_is); (case y20=>k_is); (case z20=>k_is)))
  (case D_law_same=>(refine' LJ.defAt ?w21 ?x21 ?y21 ?z21; (case w21=>k_is); (case x21=>k_is); (case y21=>k_is); (case z21=>k_is)))
  (case D_law_pairs_of=>(refine' LJ.defAt ?w22 ?x22 ?y22 ?z22; (case w22=>k_is); (case x22=>k_is); (case y22=>k_is); (case z22=>k_is)))
  (case D_law_web=>(refine' LJ.defAt ?w23 ?x23 ?y23 ?z23; (case w23=>k_is); (case x23=>k_is); (case y23=>k_is); (case z23=>k_is)))
  (case D_law_key=>(refine' LJ.defAt ?w24 ?x24 ?y24 ?z24; (case w24=>k_is); (case x24=>k_is); (case y24=>k_is); (case z24=>k_is)))
  (case D_law_marks_by=>(refine' LJ.defAt ?w25 ?x25 ?y25 ?z25; (case w25=>k_is); (case x25=>k_is); (case y25=>k_is); (case z25=>k_is)))
  (case D_law_lots=>(refine' LJ.defAt ?w26 ?x26 ?y26 ?z26; (case w26=>k_is); (case x26=>k_is); (case y26=>k_is); (case z26=>k_is)))
  (case D_law_leads_out=>(refine' LJ.defAt ?w27 ?x27 ?y27 ?z27; (case w27=>k_is); (case x27=>k_is); (case y27=>k_is); (case z27=>k_is)))
  (case D_law_outs=>(refine' LJ.defAt ?w28 ?x28 ?y28 ?z28; (case w28=>k_is); (case x28=>k_is); (case y28=>k_is); (case z28=>k_is)))
  (case D_law_all=>(refine' LJ.defAt ?w29 ?x29 ?y29 ?z29; (case w29=>k_is); (case x29=>k_is); (case y29=>k_is); (case z29=>k_is)))
  (case D_law_due=>(refine' LJ.defAt ?w30 ?x30 ?y30 ?z30; (case w30=>k_is); (case x30=>k_is); (case y30=>k_is); (case z30=>k_is)))
  (case Dlaw=>(refine' LJ.defAt ?w31 ?x31 ?y31 ?z31; (case w31=>k_is); (case x31=>k_is); (case y31=>k_is); (case z31=>k_is)))
  (case Dleast_of=>(refine' LJ.Ju ?wm0 ?xm0 ?ym0 ?zm0 ?vm0; (case wm0=>k_is); (case xm0=>k_is); (case ym0=>k_is); (case zm0=>k_is); (case vm0=>kernel_rfl)))
  (case q3j | q47 | q30 | zlen | zrange | zlist | ztuple | zset | zsorted | zmin | zmax | zsum | zall | zany | zenumerate | zzip | zisinstance | zint | zbool | zstr=>k_is)
  (case q23=>exact⟨_,rfl⟩)
  (case q4R=>exact⟨_,rfl⟩)
  (case q3P=>exact⟨_,rfl⟩)
