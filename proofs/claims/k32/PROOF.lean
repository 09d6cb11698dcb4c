import PyProof.Rows.All
import Wide.All
import OpenK.AllK
import Wide.FinOn
import Lean
import PyProof.Rows.SetFrom
import PyProof.TupleKey
import PyProof.SetRoads
import PySem.SetOps
import PyProof.EqAt
import PyProof.EqKinds
import PyProof.TupleCall
import KE.KDictList
import KE.KDictLaws
import PyProof.NeKinds
import PyProof.Draws
import KE.KSortTup
import KE.KLam
import PyProof.ListRange
import PyProof.TupleOfSeq
import KE.KNestM
import KE.KMinKey
import PyProof.MinMaxWalk
import PySem.Challenge.RW_lotjoin_k32_whole_any_steps
set_option Elab.async false
set_option linter.all false
set_option maxRecDepth 100000
abbrev aP:=PySem.Value->PySem.Shared->Prop
local macro_rules | `(tactic| trivial) => `(tactic| first|exact Or.inl rfl|exact Or.inr rfl)
abbrev lj:=@PySem.wpAny_bind
abbrev nR:=@List.getElem?_eq_getElem
abbrev nU:=@List.length_map
abbrev nV:=@List.getElem?_eq_some_iff
abbrev ph:=@PySem.Heap.get?_push_of_some
abbrev qV:=@PySem.wpAny_pure
abbrev ua:=@Nat.le_refl
abbrev xM:=@List.size_toArray
abbrev C4:=@List.length_append
abbrev C5:=@List.mem_cons_of_mem
abbrev C6:=@List.getD_eq_getElem?_getD
abbrev C7:=@decide_eq_false
abbrev Lk:=@List.length_cons
abbrev Lm:=@List.mem_map
abbrev Ln:=@decide_eq_true
abbrev Lp:=@List.mem_cons
abbrev Lq:=@List.getElem?_map
abbrev My:=@List.mem_cons_self
abbrev Uj:=@List.mem_append_right
abbrev Uk:=@Array.length_toList
abbrev Ul:=@PySem.Heap.lt_size
abbrev Um:=@List.mem_singleton
abbrev Uo:=@if_neg
abbrev Uq:=@List.mem_iff_getElem?
abbrev Vx:=@Int.toNat_natCast
abbrev Vy:=@PySem.Heap.get?_push_size
abbrev Vz:=@Option.map_eq_some_iff
abbrev VA:=@List.mem_append
abbrev VB:=@if_pos
abbrev VC:=@Bool.false_ne_true
abbrev VD:=@Nat.ne_of_lt
abbrev VE:=@List.getElem?_append_left
abbrev VF:=@List.getElem?_append_right
abbrev VG:=@Nat.lt_of_lt_of_le
abbrev VH:=@List.map_map
abbrev VI:=@List.map_append
abbrev VJ:=@List.mem_filter
abbrev VL:=@List.mem_range
abbrev VM:=@List.map_cons
abbrev VN:=@Array.getElem?_eq_getElem
abbrev VO:=@Classical.byContradiction
abbrev VP:=@List.lookup_cons
abbrev VQ:=@List.mem_append_left
abbrev VR:=@decide_eq_true_eq
abbrev VS:=@of_decide_eq_true
abbrev VT:=@Array.getElem?_toList
abbrev VU:=@List.length_singleton
abbrev VW:=@PySem.Heap.SameBut.update
abbrev VX:=@PySem.wpAny_holding
abbrev VY:=@Option.some.inj
abbrev VZ:=@List.nodup_append
abbrev V0:=@List.mem_of_getElem?
abbrev V6:=@List.set_cons_zero
abbrev V7:=@List.set_cons_succ
abbrev V8:=@Bool.false_eq_true
abbrev V9:=@List.not_mem_nil
abbrev V_:=@Nat.le_trans
abbrev Wa:=@Bool.and_eq_true
abbrev Wb:=@Nat.zero_add
abbrev Wc:=@Array.getD_eq_getD_getElem?
abbrev Wd:=@PySem.Around.under_plainId
abbrev We:=@List.length_take
abbrev Wf:=@List.nodup_cons
abbrev Wg:=@List.length_range
abbrev Wh:=@Nat.lt_succ_of_lt
abbrev Wi:=@List.length_nil
abbrev Wj:=@List.pairwise_cons
abbrev Wk:=@PySem.Heap.get?_update_self
abbrev Wl:=@List.filter_map
abbrev Wm:=@List.pairwise_map
abbrev Wn:=@PySem.wpAny_newObj_type
abbrev Wo:=@List.getElem?_take_of_lt
abbrev Wq:=@PyProof.Rows.slot_tuple_getitem
abbrev Wr:=@Nat.sub_self
abbrev Ws:=@PySem.codeAny_builtin
abbrev Wt:=@Nat.lt_succ_self
abbrev Wu:=@List.getElem_mem
abbrev Wv:=@List.flatten_cons
abbrev Ww:=@Nat.zero_le
abbrev Wx:=@List.getElem?_set_ne
abbrev Wz:=@Int.emod_lt_of_pos
abbrev WB:=@List.take_of_length_le
abbrev WC:=@List.pairwise_lt_range
abbrev WD:=@PySem.F.called_set
abbrev WH:=@PySem.Heap.get?_update_other
abbrev WJ:=@List.getElem?_set_self
abbrev WK:=@PySem.wpAny_loadPart'
abbrev WL:=@List.all_eq_true
abbrev WM:=@PySem.mem_of_lookup
abbrev WN:=@List.replicate_succ
abbrev WQ:=@List.mem_map_of_mem
abbrev WR:=@List.getElem?_eq_none
abbrev WU:=@PySem.sizeLine_eq
abbrev WV:=@List.map_id
abbrev WW:=@PySem.W.kia_one
abbrev WX:=@List.countP_cons
abbrev WY:=@Array.getElem?_eq_none
abbrev WZ:=@Nat.le_of_lt
abbrev W0:=@List.getElem?_range
abbrev W5:=@List.map_congr_left
abbrev W6:=@PySem.wpAny_truthy_bool
abbrev W7:=@LawfulBEq.eq_of_beq
abbrev W8:=@List.length_filter_le
abbrev W9:=@Nat.lt_irrefl
abbrev W_:=@Int.emod_nonneg
abbrev Xa:=@PySem.wpAny_mono
abbrev Xb:=@PyProof.Rows.F.plain_set_update_loop
abbrev Xc:=@PySem.wpAny_callSpecial?_slot
abbrev Xd:=@PySem.wpAny_call_entry
abbrev Xe:=@PyProof.Rows.callWith_type1
abbrev Xf:=@PySem.plainId_quiet
abbrev Xg:=@Array.toList_setIfInBounds
abbrev Xh:=@PySem.wpAny_setState_of
abbrev Xi:=@List.append_assoc
abbrev Xj:=@List.length_set
abbrev Xk:=@List.drop_eq_getElem_cons
abbrev Xl:=@List.Nodup.length_le_of_subset
abbrev Xm:=@decide_eq_true_iff
abbrev Xn:=@Nat.ne_of_gt
abbrev Xo:=@List.map_nil
abbrev Xp:=@if_false
abbrev Xq:=@PySem.Heap.size_push
abbrev Xr:=@PySem.wpAny_pyIter_list
abbrev Xs:=@List.any_eq_false
abbrev Xt:=@PySem.wpAny_pyIter_enum
abbrev Xu:=@List.filter_sublist
abbrev Xv:=@Ne.symm
abbrev Xw:=@List.any_cons
abbrev Xx:=@List.take_length
abbrev Xy:=@List.mem_flatten
abbrev Xz:=@List.nodup_nil
abbrev XA:=@PySem.Obj.data_mapFields
abbrev XB:=@PySem.F.slot_tuple_iterator_next
abbrev XC:=@List.take_succ
abbrev XD:=@List.getElem?_toArray
abbrev XE:=@List.append_nil
abbrev XF:=@PySem.wpAny_passesOwn
abbrev XG:=@List.ext_getElem?
abbrev XH:=@List.mem_iff_getElem
abbrev XI:=@Option.isSome_iff_exists
abbrev XJ:=@List.length_drop
abbrev XM:=@List.length_eq_zero_iff
abbrev XN:=@List.Perm.refl
abbrev XO:=@PyProof.Rows.F.entry_set_update_loop
abbrev XQ:=@List.getElem?_cons_succ
abbrev XR:=@PySem.F.plainAttrs_list
abbrev XS:=@PySem.wpAny_Call_Name_kw
abbrev XT:=@List.zip_cons_cons
abbrev XU:=@PySem.Around.in1_handled
abbrev XW:=@List.filter_append
abbrev XX:=@List.find?_cons
abbrev XY:=@PySem.wpAny_standAt
abbrev XZ:=@if_true
abbrev X0:=@Array.getElem?_eq_some_iff
abbrev X1:=@List.length_eraseIdx_of_lt
abbrev X7:=@or_false
abbrev X8:=@List.perm_ext_iff_of_nodup
abbrev X9:=@PySem.codeAny_mono
abbrev X_:=@PySem.wpAny_askSetting
abbrev Ya:=@List.getElem_map
abbrev Yb:=@List.any_eq_true
abbrev Yc:=@List.pairwise_iff_getElem
abbrev Yd:=@List.eq_of_mem_replicate
abbrev Ye:=@PySem.F.args_tuple_add_2
abbrev Yf:=@List.all_cons
abbrev Yg:=@List.range_succ
abbrev Yh:=@PySem.wpAny_ite_split
abbrev Yi:=@PySem.wpAny_updateSeq
abbrev Yj:=@List.mem_filterMap
abbrev Yk:=@Nat.lt_of_le_of_lt
abbrev Yl:=@PySem.tupleKind_room_in1
abbrev Ym:=@PySem.wpAny_pyIter_tuple
abbrev Yn:=@List.getElem?_replicate
abbrev Yo:=@PySem.F.entry_tuple_add
abbrev Yp:=@PySem.wpAny_field
abbrev Yq:=@List.getElem?_cons_zero
abbrev Yr:=@Nat.le_of_lt_succ
abbrev Ys:=@Array.toList_replicate
abbrev Yt:=@Array.toList_push
abbrev Yu:=@PySem.wpAny_storeSet_of
abbrev Yv:=@Array.size_map
abbrev Yw:=@PySem.wpAny_seqItems
abbrev Yx:=@PySem.wpAny_setField
abbrev Yy:=@PySem.F.plain_list_iadd
abbrev Yz:=@PySem.W.cellsFrom_some
abbrev YA:=@List.zip_nil_left
abbrev YB:=@PySem.F.slot_tuple_add
abbrev YC:=@Bool.not_eq_true'
abbrev YD:=@List.foldl_append
abbrev YE:=@List.filter_eq_nil_iff
abbrev YF:=@List.length_filterMap_eq_countP
abbrev YG:=@PySem.Obj.isFreed_of_fields
abbrev YH:=@List.length_replicate
abbrev YI:=@PySem.F.slot_dict_get
abbrev YJ:=@List.nodup_range
abbrev YK:=@PySem.putSet_of
abbrev YL:=@Nat.le_of_not_lt
abbrev YM:=@Nat.le_add_right
abbrev YN:=@PySem.Walks.list
abbrev YO:=@List.getElem_inj
abbrev YQ:=@List.mem_of_mem_drop
abbrev YR:=@List.reverse_reverse
abbrev YS:=@List.foldl_cons
abbrev YT:=@PySem.wpAny_specialOf
abbrev YU:=@PySem.wpAny_execs_nil
abbrev YV:=@PySem.SeqAt.EqAt.same
abbrev YW:=@PySem.F.args_tuple_iterator_next_1
abbrev YX:=@PyProof.Rows.get?_update_seq
abbrev YY:=@PySem.wpAny_setEntries_of
abbrev YZ:=@List.filterMap_cons
abbrev Y0:=@List.map_eq_nil_iff
abbrev Y1:=@PySem.wpAny_typeOf
abbrev Y3:=@of_decide_eq_false
abbrev Y4:=@PySem.intKind_is
abbrev Y5:=@PySem.wpAny_rule
abbrev Y6:=@Array.forIn_toList
abbrev Y7:=@PySem.wpAny_runValue
abbrev Y8:=@PySem.SeqAt.EqAt.int_str
abbrev Y9:=@PySem.SeqAt.EqAt.str_int
abbrev Za:=@PySem.Calls.spliced_cons
abbrev Zb:=@PySem.SeqAt.EqAt.int_int
abbrev Zc:=@List.zip_nil_right
abbrev Zd:=@PySem.call_meets
abbrev Zf:=@List.take_zero
abbrev Zg:=@Array.perm_iff_toList_perm
abbrev Zh:=@PySem.wpAny_tryCatch
abbrev Zi:=@PySem.boot_len
abbrev Zj:=@List.mem_or_eq_of_mem_set
abbrev Zk:=@List.extract_eq_take_drop
abbrev Zl:=@List.take_sublist
abbrev Zm:=@PySem.Obj.cls_mapFields
abbrev Zn:=@Nat.le_succ
abbrev Zo:=@Option.isSome_map
abbrev Zp:=@List.Sublist.refl
abbrev Zq:=@PySem.wpAny_letGo
abbrev Zr:=@Array.getElem_mem_toList
abbrev Zs:=@Array.size_setIfInBounds
abbrev Zt:=@Bool.or_false
abbrev Zv:=@PySem.wpAny_newList
abbrev Zw:=@List.sublist_append_left
abbrev Zx:=@PyProof.Rows.listUpdate_at
abbrev Zy:=@PySem.W.mg_of
abbrev Zz:=@Option.getD_none
abbrev ZA:=@PySem.wpAny_forIn_list
abbrev ZC:=@PySem.noFill_tuple_add
abbrev ZD:=@Nat.succ_ne_self
abbrev ZE:=@PySem.F.args_dict_get_3
abbrev ZF:=@Int.max_eq_right
abbrev ZG:=@Int.min_eq_right
abbrev ZH:=@List.filter_cons_of_pos
abbrev ZI:=@List.filter_cons_of_neg
abbrev ZJ:=@decide_eq_decide
abbrev ZK:=@Nat.lt_trans
abbrev ZL:=@Array.toList_filterMap
abbrev ZP:=@PySem.F.entry_dict_get
abbrev ZQ:=@Int.zero_add
abbrev ZR:=@List.drop_of_length_le
abbrev ZS:=@Nat.succ.inj
abbrev ZT:=@List.find?_some
abbrev ZU:=@Option.map_some
abbrev ZV:=@Array.size_push
abbrev ZW:=@PySem.codeAny_of_tree
abbrev ZX:=@List.of_mem_zip
abbrev ZY:=@Int.min_eq_left
abbrev ZZ:=@Int.max_eq_left
abbrev Z0:=@PySem.PassesOwn.never
abbrev Z9:=@List.drop_zero
abbrev Z_:=@PySem.wpAny_of_eq
abbrev q0b:=@Bool.false_and
abbrev q0c:=@Bool.and_false
theorem el7{α β γ ε:Type}{A B C:α→β→γ→ε→Prop}{R:Prop}(h:∃F ad δ K, A F ad δ K∧B F ad δ K∧C F ad δ K)(k:∀F ad δ K, A F ad δ K→B F ad δ K→C F ad δ K→R): R:=h.elim fun F h=>h.elim fun a h=>h.elim fun d h=>h.elim fun K h=>k F a d K h.1 h.2.1 h.2.2
theorem el5{α β:Type}{A B C:α→β→Prop}{R:Prop}(h:∃F ad, A F ad∧B F ad∧C F ad)(k:∀F ad, A F ad→B F ad→C F ad→R): R:=h.elim fun F h=>h.elim fun a h=>k F a h.1 h.2.1 h.2.2
theorem el3{α:Type}{A B:α→Prop}{R:Prop}(h:∃F, A F∧B F)(k:∀F, A F→B F→R): R:=h.elim fun F h=>k F h.1 h.2
set_option compiler.extract_closed false
local macro_rules | `(tactic| omega) => `(tactic| first|lia|omega (config:={}))
namespace LJS
open PySem PySem.SetTable
noncomputable def nx(m i:Nat):Nat:=(i*5+1)%(m+1)
noncomputable def kP(m:Nat):Nat->Nat->Nat
 |0,i=>i
 |n+1,i=>kP m n (nx m i)
theorem tL(m:Nat):∀a b i,kP m (a+b) i=kP m b (kP m a i)
 |0,b,i=>by rw[Wb];rfl
 |a+1,b,i=>by rw[Nat.succ_add];exact tL m a b (nx m i)
noncomputable def vI(m:Nat):Nat->Nat->List Nat
 |0,_=>[]
 |n+1,i=>i::vI m n (nx m i)
theorem Bw(m:Nat):∀{n i e:Nat},e∈vI m n i->∃k,k<n/\kP m k i=e
 |0,_,_,h=>nomatch h
 |n+1,i,e,h=>by
  rcases Lp.mp h with rfl|h
  ·exact⟨0,Nat.succ_pos _,rfl⟩
  ·obtain⟨k,hk,e⟩:=Bw m h
   exact⟨k+1,Nat.succ_lt_succ hk,e⟩
def Mk(m:Nat):Prop:=m=7\/m=31\/m=127
noncomputable def qj(m:Nat):Bool:=(List.range (m+1)).all fun e=>(vI m (m+1) 0).contains e
theorem Bx(h:Mk m):qj m=true/\kP m (m+1) 0=0:=by
 rcases h with rfl|rfl|rfl<;>exact⟨by decide +kernel,by decide +kernel⟩
theorem l5(h:Mk m)(he:e<=m):∃k,k<=m/\kP m k 0=e:=by
 have:=WL.mp (Bx h).1 e (VL.mpr (Nat.lt_succ_of_le he));obtain⟨k,hk,q⟩:=Bw m (List.contains_iff_mem.mp this);exact⟨k,Yr hk,q⟩
theorem HP(h:Mk m)(hi:i<=m)(he:e<=m):∃n,n<=m/\kP m n i=e:=by
 obtain⟨a,ha,rfl⟩:=l5 h hi;obtain⟨b,hb,rfl⟩:=l5 h he
 by_cases tM:a<=b
 ·refine⟨b-a,by omega,?_⟩
  rw[<-tL];congr 1;omega
 ·refine⟨m+1-a+b,by omega,?_⟩
  rw[<-tL,show a+(m+1-a+b)=(m+1)+b by omega,tL,(Bx h).2]
noncomputable def lp(m:Nat):Nat->Nat->Nat->Nat×Nat
 |0,i,p=>(i,p)
 |n+1,i,p=>lp m n (leap m i p).1 (leap m i p).2
theorem vJ(m:Nat):∀a b i p,lp m (a+b) i p=lp m b (lp m a i p).1 (lp m a i p).2
 |0,b,i,p=>by rw[Wb];rfl
 |a+1,b,i,p=>by rw[Nat.succ_add];exact vJ m a b _ _
theorem By(m:Nat):∀n i,lp m n i 0=(kP m n i,0)
 |0,i=>rfl
 |n+1,i=>by
  show lp m n (leap m i 0).1 (leap m i 0).2=_;have e:leap m i 0=(nx m i,0):=by unfold leap nx;simp
  rw[e];exact By m n _
theorem HQ(m i p:Nat):(leap m i p).1<=m:=Yr (Nat.mod_lt _ (Nat.succ_pos _))
theorem Bz(m:Nat):∀n i p,(lp m n i p).2=p / 32 ^ n
 |0,i,p=>by simp[lp]
 |n+1,i,p=>by
  show(lp m n (leap m i p).1 (leap m i p).2).2=_;rw[Bz m n];show p / 32 / 32 ^ n=_;rw[Nat.div_div_eq_div_mul,Nat.pow_succ,Nat.mul_comm]
theorem reach(h:Mk m)(hp:p<2 ^ 64)(he:e<=m):∃n,n<=13+m/\(lp m n i p).1=e:=by
 have z:(lp m 13 i p).2=0:=by
  rw[Bz];exact Nat.div_eq_of_lt (ZK hp (by decide))
 have q:(lp m 13 i p).1<=m:=by
  rw[vJ m 12 1];exact HQ _ _ _
 obtain⟨n,hn,en⟩:=HP h q he;refine⟨13+n,by omega,?_⟩;rw[vJ,z,By];exact en
theorem BA(j:Nat):has #[] j=false:=by unfold has;simp
theorem vK{t:SetTable}(hd:t.dummies = #[])(j:Nat):t.slot j=.empty\/∃i,t.slot j=.live i/\i<t.place.size/\j∈t.place.toList:=by
 unfold slot;rw[hd,BA];dsimp only
 by_cases c:(t.place[below t.place j]?==some j)=true
 ·right
  rw[VB c];have e:=W7 c;obtain⟨hl,ev⟩:=X0.mp e;exact⟨_,rfl,hl,by rw[<-ev];exact Zr hl⟩
 ·left
  rw[Uo c];rfl
theorem HR{t:SetTable}(hd:t.dummies = #[])(hj:j∉t.place.toList):t.slot j=.empty:=by
 rcases vK hd j with h|⟨_,_,_,h⟩
 ·exact h
 ·exact absurd h hj
theorem BB:∀{l l':List Nat},l.Nodup->(∀x∈l,x∈l')->l.length<=l'.length
 |[],_,_,_=>Ww _
 |a::l,l',hn,hs=>by
  have ha:a∈l':=hs a (My ..);have kr:=Wf.mp hn;have ih:=BB (l:=l) (l':=l'.erase a) kr.2 fun x hx=>(List.mem_erase_of_ne (fun z=>kr.1 (by rw[<-z];exact hx))).mpr (hs x (C5 _ hx));rw[List.length_erase_of_mem ha] at ih;have:=List.length_pos_of_mem ha;rw[Lk];omega
theorem HU{l:List Nat}(h:l.length<=m):∃e,e<=m/\e∉l:=by
 refine VO fun no=>?_;have all:∀e,e∈List.range (m+1)->e∈l:=fun e he=>VO fun z=>no ⟨e,Yr (VL.mp he),z⟩;have:(List.range (m+1)).length<=l.length:=BB YJ all;rw[Wg] at this;omega
noncomputable def stateOf(t:SetTable)(i p:Nat):Probe:=⟨i,runEnd t.mask i-i,i,p,none⟩
theorem HV(m i:Nat):runEnd m i-i<=9:=by unfold runEnd;split<;>omega
section
variable{t:SetTable}{f:Nat->Int}{h:Int}
theorem tN(F:Nat)(p:Probe):probe.go t f h (F+1) p=(match t.slot p.j with
  |.empty=>some (.empty p.j p.dummy)
  |.dummy=>probe.go t f h F (t.advance {p with dummy:=some p.j})
  |.live i=>if f i==h then some (.candidate p.j i (t.advance p)) else probe.go t f h F (t.advance p)):=rfl
theorem BC(hd:t.dummies = #[])(hf:∀i,i<t.place.size->f i≠h):∀(k F:Nat)(p:Probe),p.more=k->p.dummy=none →
  (∃j,probe.go t f h (F+k+1) p=some (.empty j none))\/probe.go t f h (F+k+1) p=probe.go t f h F (stateOf t (leap t.mask p.i p.perturb).1 (leap t.mask p.i p.perturb).2)
 |0,F,p,hm,qk=>by
  show(∃j,probe.go t f h (F+1) p=_)\/probe.go t f h (F+1) p=_;rw[tN];rcases vK hd p.j with e|⟨i,e,hi,_⟩
  ·left;rw[e];exact⟨p.j,by rw[qk]⟩
  ·right
   rw[e];show(if(f i==h)=true then _ else _)=_;rw[Uo (by intro z;exact hf i hi (W7 z))];unfold advance;rw[hm,Uo (by omega),qk];rfl
 |k+1,F,p,hm,qk=>by
  have ih:=BC hd hf k F {p with j:=p.j+1,more:=p.more-1} (by show p.more-1=k;omega) qk;rw[show F+(k+1)+1=(F+k+1)+1 by omega,tN];rcases vK hd p.j with e|⟨i,e,hi,_⟩
  ·left;rw[e];exact⟨p.j,by rw[qk]⟩
  ·rw[e]
   show(∃j,(if(f i==h)=true then _ else _)=_)\/(if(f i==h)=true then _ else _)=_;rw[Uo (by intro z;exact hf i hi (W7 z))];have ea:t.advance p={p with j:=p.j+1,more:=p.more-1}:=by unfold advance;rw[VB (by omega)]
   rw[ea];exact ih
theorem BE(hd:t.dummies = #[])(hf:∀i,i<t.place.size->f i≠h):∀(n F i p:Nat),10*(n+1)<=F->t.slot (lp t.mask n i p).1=.empty->∃j,probe.go t f h F (stateOf t i p)=some (.empty j none)
 |0,F,i,p,hF,hs=>by
  obtain⟨G,rfl⟩:∃G,F=G+1:=⟨F-1,by omega⟩;rw[tN];have e:t.slot (stateOf t i p).j=.empty:=hs;rw[e];exact⟨i,rfl⟩
 |n+1,F,i,p,hF,hs=>by
  have hr:=HV t.mask i;obtain⟨G,hG⟩:∃G,F=G+(runEnd t.mask i-i)+1:=⟨F-(runEnd t.mask i-i)-1,by omega⟩;have:=BC (f:=f) (h:=h) hd hf (runEnd t.mask i-i) G (stateOf t i p) rfl rfl;rw[<-hG] at this;rcases this with h1|h1
  ·exact h1
  ·rw[h1]
   exact BE hd hf n G _ _ (by omega) hs
theorem vL(h:Int):bits h<2 ^ 64:=by
 unfold bits;have:=Wz h (show(0:Int)<2 ^ 64 by decide);have:=W_ h (show(2 ^ 64:Int)≠0 by decide);omega
theorem BF(hd:t.dummies = #[])(hm:Mk t.mask)(hz:t.place.size<=t.mask)(hf:∀i,i<t.place.size->f i≠h):∃j,t.probe f h (t.probeStart h)=some (.empty j none):=by
 obtain⟨e,he,ne⟩:=HU (l:=t.place.toList) (m:=t.mask) (by rw[Uk];exact hz);obtain⟨n,hn,en⟩:=reach hm (i:=bits h%(t.mask+1)) (vL h) he;exact BE hd hf n _ _ _ (by unfold turns;omega) (by rw[en];exact HR hd ne)
end
section
variable{m:Nat}{owner:Array (Option Nat)}
theorem BG(F i p:Nat):layClean.free m owner (F+1) i p=(match(List.range (runEnd m i+1-i)).find? fun k=>(owner.getD (i+k) (some 0)).isNone with
   |some k=>some (i+k)
   |none=>layClean.free m owner F (leap m i p).1 (leap m i p).2):=rfl
theorem vM:∀(n F i p:Nat),n+1<=F->(owner.getD (lp m n i p).1 (some 0)).isNone=true->∃j,layClean.free m owner F i p=some j/\(owner.getD j (some 0)).isNone=true
 |0,F,i,p,hF,hs=>by
  obtain⟨G,rfl⟩:∃G,F=G+1:=⟨F-1,by omega⟩;rw[BG]
  cases hc:(List.range (runEnd m i+1-i)).find? fun k=>(owner.getD (i+k) (some 0)).isNone with
  |some k =>
   have:=ZT hc;exact⟨i+k,rfl,this⟩
  |none =>
   have:=List.find?_eq_none.mp hc 0 (VL.mpr (by unfold runEnd;split<;>omega));exact absurd hs this
 |n+1,F,i,p,hF,hs=>by
  obtain⟨G,rfl⟩:∃G,F=G+1:=⟨F-1,by omega⟩;rw[BG]
  cases hc:(List.range (runEnd m i+1-i)).find? fun k=>(owner.getD (i+k) (some 0)).isNone with
  |some k =>
   have:=ZT hc;exact⟨i+k,rfl,this⟩
  |none=>exact vM n G _ _ (by omega) hs
end
structure Ow(m:Nat)(owner:Array (Option Nat))(k:Nat):Prop where
 size:owner.size=m+1
 cnt:owner.toList.countP Option.isSome=k
 lt:∀x,some x∈owner.toList->x<k
theorem vN:∀{l:List (Option Nat)}{j k:Nat},l[j]?=some none->(l.set j (some k)).countP Option.isSome=l.countP Option.isSome+1
 |[],j,k,h=>by simp at h
 |x::l,0,k,h=>by
  simp at h;subst h;rw[V6,WX,WX];rfl
 |x::l,j+1,k,h=>by
  simp at h;rw[V7,WX,WX,vN h];omega
theorem getD_none{owner:Array (Option Nat)}(h:(owner.getD j (some 0)).isNone=true):owner.toList[j]?=some none:=by
 rw[Wc] at h;rw[VT]
 cases e:owner[j]? with
 |none=>rw[e] at h;cases h
 |some x =>
  rw[e] at h
  cases x with
  |none=>rfl
  |some y=>cases h
theorem BH{owner:Array (Option Nat)}(O:Ow m owner k)(hk:k<=m):∃e,e<=m/\(owner.getD e (some 0)).isNone=true:=by
 refine VO fun no=>?_
 have all:∀x∈owner.toList,x.isSome=true:=by
  intro x hx;obtain⟨e,he⟩:=Uq.mp hx
  cases x with
  |some y=>rfl
  |none =>
   have hl:=(nV.mp he).1;rw[Uk,O.size] at hl;refine absurd ⟨e,Yr hl,?_⟩ no;rw[Wc,<-VT,he];rfl
 have:=List.countP_eq_length.mpr all;rw[O.cnt,Uk,O.size] at this;omega
theorem HW{owner:Array (Option Nat)}(hm:Mk m)(O:Ow m owner k)(hk:k<=m)(h:Int):∃j,layClean.free m owner (turns m) (bits h%(m+1)) (bits h)=some j/\Ow m (owner.setIfInBounds j (some k)) (k+1):=by
 obtain⟨e,he,hn⟩:=BH O hk;obtain⟨n,kr,en⟩:=reach hm (i:=bits h%(m+1)) (vL h) he;obtain⟨j,ej,hj⟩:=vM (m:=m) (owner:=owner) n (turns m) (bits h%(m+1)) (bits h) (by unfold turns;omega) (by rw[en];exact hn);refine⟨j,ej,by rw[Zs];exact O.size,?_,fun x hx=>?_⟩
 ·rw[Xg,vN (getD_none hj),O.cnt]
 ·rw[Xg] at hx
  rcases Zj hx with h|h
  ·exact Wh (O.lt x h)
  ·cases h;exact Wt _
theorem BI(hm:Mk m):∀(hs:List Int)(owner:Array (Option Nat))(k:Nat),Ow m owner k->k+hs.length<=m+1 →
  ∃dA,(hs.foldl (init:=some (owner,k)) fun acc h=>do
   let(owner,k) <- acc
   let j <- layClean.free m owner (turns m) (bits h%(m+1)) (bits h)
   pure (owner.setIfInBounds j (some k),k+1))=some (dA,k+hs.length)/\Ow m dA (k+hs.length)
 |[],owner,k,O,_=>⟨owner,rfl,O⟩
 |h::hs,owner,k,O,hl=>by
  rw[Lk] at hl ⊢;obtain⟨j,ej,O'⟩:=HW hm O (by omega) h;obtain⟨o2,e2,O2⟩:=BI hm hs _ (k+1) O' (by omega);refine⟨o2,?_,by rw[show k+(hs.length+1)=k+1+hs.length by omega];exact O2⟩;rw[YS,show k+(hs.length+1)=k+1+hs.length by omega,<-e2];congr 1;show(do let j <- layClean.free m owner (turns m) (bits h%(m+1)) (bits h);pure (owner.setIfInBounds j (some k),k+1))=_;rw[ej];rfl
theorem BJ(m:Nat):Ow m (Array.replicate (m+1) none) 0:=by
 refine⟨by simp,?_,fun x hx=>?_⟩
 ·rw[Ys]
  exact List.countP_eq_zero.mpr fun x hx=>by rw[Yd hx];decide
 ·rw[Ys] at hx
  cases Yd hx
theorem HX(hm:Mk m)(hs:Array Int)(hz:hs.size<=m+1):∃owner,layClean m hs=some owner/\Ow m owner hs.size:=by
 obtain⟨o,e,O⟩:=BI hm hs.toList _ 0 (BJ m) (by rw[Uk];omega);rw[Wb,Uk] at O;refine⟨o,?_,O⟩;unfold layClean;rw[<-Array.foldl_toList,e];rfl
noncomputable def ji(m:Nat)(owner:Array (Option Nat)):List (Nat×Nat):=(List.range (m+1)).filterMap fun j=>(owner.getD j none).map (j,·)
theorem vO(O:Ow m owner k):(ji m owner).length=k:=by
 unfold ji;rw[YF,<-O.cnt]
 have e:owner.toList=(List.range (m+1)).map fun j=>owner.getD j none:=by
  refine XG fun i=>?_;rw[VT,Lq]
  by_cases hi:i<m+1
  ·rw[W0 hi,ZU,VN (by rw[O.size];exact hi),Wc,VN (by rw[O.size];exact hi)];rfl
  ·rw[WY (by rw[O.size];omega),WR (by rw[Wg];omega)];rfl
 rw[e,List.countP_map];refine List.countP_congr fun j _=>?_;simp
theorem HY(O:Ow m owner k)(hz:z∈ji m owner):z.2<k:=by
 unfold ji at hz;obtain⟨j,hj,e⟩:=Yj.mp hz;obtain⟨x,ex,rfl⟩:=Vz.mp e;refine O.lt x ?_;rw[Wc] at ex
 cases q:owner[j]? with
 |none=>rw[q] at ex;cases ex
 |some y =>
  rw[q] at ex;cases(show y=some x from ex)
  exact Uq.mpr ⟨j,by rw[VT];exact q⟩
theorem HZ(hm:Mk m)(t:SetTable)(hs:Array Int)(wanted:Nat)(hw:sizeAbove wanted-1=m)(hz:hs.size<=m+1):
  ∃t' order,t.relaid hs wanted=some (t',order)/\t'.mask=m/\t'.dummies = #[]/\t'.place.size=hs.size/\t'.led=t.led/\t'.plain=t.plain/\order.size=hs.size/\∀k∈order.toList,k<hs.size:=by
 obtain⟨owner,e,O⟩:=HX hm hs hz;refine⟨{mask:=m,place:=((ji m owner).map (·.1)).toArray,dummies := #[],finger:=t.finger,led:=t.led,moves:=t.movedTo m,plain:=t.plain},((ji m owner).map (·.2)).toArray,?_,rfl,rfl,?_,rfl,rfl,?_,fun k hk=>?_⟩
 ·unfold relaid laid
  rw[hw,e];rfl
 ·rw[xM,nU,vO O]
 ·rw[xM,nU,vO O]
 ·obtain⟨z,hz,rfl⟩:=Lm.mp hk
  exact HY O hz
theorem BK{α:Type}{es:Array α}{order:Array Nat}(h:∀k∈order.toList,k<es.size):(order.filterMap (es[·]?)).size=order.size/\∀e∈(order.filterMap (es[·]?)).toList,e∈es.toList:=by
 constructor
 ·rw[<-Uk,ZL,YF,List.countP_eq_length.mpr fun k hk=>?_,Uk]
  rw[VN (h k hk)];rfl
 ·intro e he
  rw[ZL] at he;obtain⟨k,_,q⟩:=Yj.mp he;exact Uq.mpr ⟨k,by rw[VT];exact q⟩
theorem vP(t:SetTable)(hd:t.dummies = #[])(j:Nat):(t.put j).1.dummies = #[]/\(t.put j).1.mask=t.mask/\(t.put j).1.place.size=t.place.size+1/\(t.put j).1.led=t.led/\(t.put j).1.plain=t.plain/\(t.put j).1.moves=t.moves/\(t.put j).1.finger=t.finger:=by
 unfold put;dsimp only;rw[hd,BA];refine⟨rfl,rfl,?_,rfl,rfl,rfl,rfl⟩;unfold insertAt;simp only[Array.size_append,ZV,Array.size_extract];omega
theorem H_{α:Type}{xs:Array α}{p:Nat}{x e:α}(h:e∈(insertAt xs p x).toList):e=x\/e∈xs.toList:=by
 unfold insertAt at h;simp only[Array.toList_append,Yt,VA,Um,Array.toList_extract] at h;simp only[Zk] at h;rcases h with(h|h)|h
 ·right;exact YQ (List.mem_of_mem_take h)
 ·exact .inl h
 ·right;exact YQ (List.mem_of_mem_take h)
theorem vQ{α:Type}(xs:Array α)(p:Nat)(x:α):(insertAt xs p x).size=xs.size+1:=by
 unfold insertAt;simp only[Array.size_append,ZV,Array.size_extract];omega
end LJS
namespace LJS
open PySem PySem.SetTable PyProof.Rows
structure eW(t:SetTable)(es:Array (Int×Value))(hs:List Int):Prop where
 l6:t.dummies = #[]
 ku:Mk t.mask
 gX:t.place.size=es.size
 num:es.size=hs.length
 gs:t.tooFull=false
 ins:∀e∈es.toList,e.1∈hs
def eu(h:Heap)(S:Addr)(hs:List Int):Prop:=∃o es ep t,h.get? S=some o/\o.ExactSet/\o.data=.set es ep t/\eW t es hs
section
variable{t:SetTable}{es:Array (Int×Value)}{hs:List Int}
theorem eW.fill(T:eW t es hs):t.fill=es.size:=by
 unfold SetTable.fill;rw[T.gX,T.l6];rfl
theorem eW.lt(T:eW t es hs):es.size*5<t.mask*3:=by
 have:=T.gs;unfold tooFull at this;rw[T.fill] at this;have:=Y3 this;omega
theorem eW.fits(T:eW t es hs):t.fits es.size=true:=by
 have:=T.lt;unfold SetTable.fits;rw[T.fill,T.gX];simp;omega
theorem eW.vR(T:eW t es hs):t.gaveWay=false:=by
 unfold SetTable.gaveWay;rcases T.ku with h|h|h<;>rw[h]<;>rfl
end
theorem BL:sizeAbove (grown 5)-1=31:=by decide +kernel
theorem BM:sizeAbove (grown 19)-1=127:=by decide +kernel
section
variable{prog:Program}{w:World}{A:Around}{E:aP}{s:Shared}
theorem Ia{S:Addr}{x:Value}{h:Int}{hs:List Int}{o:Obj}{es:Array (Int×Value)}{ep:Nat}{t:SetTable}{Q:SetFound->Shared->Prop}(ho:s.heap.get? S=some o)(hd:o.data=.set es ep t)(T:eW t es hs)(hn:h∉hs)
  (k:∀j,Q (.free j false) s):wpAny (model prog w) A (setSearch S x h true) Q E s:=by
 unfold setSearch;show wpAny _ _ (setSearchFrom S x h true (99999+1) none) _ _ _;unfold setSearchFrom;refine lj (Xh ho hd T.fits ?_);dsimp only;rw[T.vR];simp only[V8,↓reduceIte];have hz:t.place.size<=t.mask:=by have:=T.lt;rw[T.gX];omega
 obtain⟨j,ej⟩:=BF (t:=t) (f:=fun i=>(es[i]?.map (·.1)).getD 0) (h:=h) T.l6 T.ku hz (fun i hi z=>by
  rw[T.gX] at hi;rw[VN hi] at z
  exact hn (by rw[<-show es[i].1=h from z];exact T.ins _ (Zr hi)))
 simp only[Zz];generalize hP:t.probe _ h (t.probeStart h)=P;have eP:P=some (.empty j none):=hP.symm.trans ej;rw[eP];exact qV (k j)
theorem Ib{S:Addr}{x:Value}{h:Int}{hs:List Int}{Q:Bool->Shared->Prop}(hx:x.scannable=false)(hS:eu s.heap S hs)(hn:h∉hs)(hl:hs.length<60)
  (hv:∀Q':Bool->Shared->Prop,(∀b,Q' b s)->wpAny (model prog w) A (hashByValue 8 x) Q' E s)
  (k:∀h',Heap.SameBut S s.heap h'->eu h' S (hs++[h])->Q true {s with heap:=h'}):wpAny (model prog w) A (setAddHashed S x h) Q E s:=by
 obtain⟨o,es,ep,t,ho,hex,hd,T⟩:=hS;unfold setAddHashed;refine VX ?_;show wpAny _ _ (setAddHashedIn S x h (99999+1)) _ _ _;unfold setAddHashedIn;refine lj (Xh ho hd T.fits ?_);have hb:byScan x es=false:=by unfold byScan;rw[hx];rfl
 dsimp only;rw[hb];simp only[V8,↓reduceIte];refine lj (Ia ho hd T hn fun j=>?_);dsimp only;refine lj (Xh ho hd T.fits ?_);dsimp only;obtain⟨p1,p2,p3,p4,p5,p6,p7⟩:=vP t T.l6 j
 have fin:∀b:Bool,wpAny (model prog w) A (do
   storeSet S (SetTable.insertAt es (t.put j).2 (h,x)) (if b=true then(t.put j).1 else{(t.put j).1 with plain:=false})
   if(!false&&(if b=true then(t.put j).1 else{(t.put j).1 with plain:=false}:SetTable).tooFull)=true then do
       setRelay S (SetTable.grown (es.size+1))
       pure true
    else pure true) Q E s:=by
  intro b;generalize jz:(if b=true then(t.put j).1 else{(t.put j).1 with plain:=false}:SetTable)=t2;have q1:t2.dummies = #[]:=by rw[<-jz];cases b<;>exact p1
  have q2:t2.mask=t.mask:=by rw[<-jz];cases b<;>exact p2
  have q3:t2.place.size=es.size+1:=by rw[<-jz,<-T.gX];cases b<;>exact p3
  have gh:=vQ es (t.put j).2 (h,x)
  have mV:∀e∈(insertAt es (t.put j).2 (h,x)).toList,e.1∈hs++[h]:=fun e he=>by
   rcases H_ he with rfl|he
   ·exact Uj _ (Um.mpr rfl)
   ·exact VQ _ (T.ins e he)
  generalize insertAt es (t.put j).2 (h,x)=bT at gh mV;have Ic:es.size<60:=by rw[T.num];exact hl
  refine lj (Yu ho hd ?_ (by rw[gh,WU];omega))
  have fK:(s.heap.update S (Obj.putSet bT t2)).get? S=some {o with data:=.set bT (ep+1) t2}:=by
   have:=Wk (Obj.putSet bT t2) ho (by rw[YK bT t2 hd];rfl);rw[YK bT t2 hd] at this;exact this
  have fl:t2.fill=es.size+1:=by unfold SetTable.fill;rw[q1,q3];rfl
  have lt:=T.lt
  have l7:t2.fits bT.size=true:=by
   unfold SetTable.fits;rw[fl,q3,gh,q2];simp;rcases T.ku with e|e|e<;>rw[e] at lt ⊢ <;> omega
  by_cases tf:t2.tooFull=true
  ·rw[VB (by rw[tf];rfl)]
   have mW:t.mask*3<=(es.size+1)*5:=by
    unfold tooFull at tf;rw[fl,q2] at tf;have:=VS tf;omega
   obtain⟨m,hm,hw,hsz⟩:∃m,Mk m/\sizeAbove (grown (es.size+1))-1=m/\(es.size+1)*5<m*3:=by
    rcases T.ku with e|e|e
    ·rw[e] at lt mW
     have:es.size+1=5:=by omega
     rw[this];exact⟨31,.inr (.inl rfl),BL,by omega⟩
    ·rw[e] at lt mW
     have:es.size+1=19:=by omega
     rw[this];exact⟨127,.inr (.inr rfl),BM,by omega⟩
    ·rw[e] at mW;omega
   refine lj ?_;unfold setRelay;refine lj (Xh fK rfl l7 ?_);dsimp only
   have vS:¬ SetTable.sizeAbove (SetTable.grown (es.size+1))>sizeLine:=by
    rw[WU];rcases hm with e|e|e<;>omega
   rw[Uo vS];obtain⟨t3,order,er,r1,r2,r3,_,_,r4,r5⟩:=HZ hm t2 (bT.map (·.1)) (grown (es.size+1)) hw (by rw[Yv,gh];omega);rw[er];rw[Yv,gh] at r3 r4;rw[Yv] at r5;obtain⟨o1,o2⟩:=BK (es:=bT) (order:=order) r5;refine lj ?_
   show wpAny _ _ (do
    if(order.filterMap (bT[·]?)).size != bT.size then
     unsupported "internal:set-table-lost-an-element"
    pure (order.filterMap (bT[·]?),t3)) _ _ _
   rw[Uo (by rw[o1,r4,gh];simp)];refine qV ?_;dsimp only;refine Yu fK rfl ?_ (by rw[o1,r4,WU];omega)
   have eA:((s.heap.update S (Obj.putSet bT t2)).update S (Obj.putSet (order.filterMap (bT[·]?)) t3)).get? S=some {o with data:=.set (order.filterMap (bT[·]?)) (ep+1+1) t3}:=by
    have:=Wk (Obj.putSet (order.filterMap (bT[·]?)) t3) fK (by rw[YK _ t3 rfl];rfl);rw[YK _ t3 rfl] at this;exact this
   refine qV (k _ ?_ ⟨_,_,_,_,eA,hex,rfl,r2,by rw[r1];exact hm,by rw[r3,o1,r4],by rw[o1,r4,T.num,C4];rfl,?_,fun e he=>mV e (o2 e he)⟩)
   ·exact(VW ..).trans (VW ..)
   ·unfold tooFull SetTable.fill
    rw[r2,r3,r1];simp;omega
  ·have qm:t2.tooFull=false:=by cases q:t2.tooFull<;>simp_all
   rw[Uo (by rw[qm];decide)];refine qV (k _ (VW ..) ⟨_,_,_,_,fK,hex,rfl,q1,by rw[q2];exact T.ku,by rw[q3,gh],by rw[gh,T.num,C4];rfl,qm,mV⟩)
 by_cases hp:(t.put j).1.plain=true
 ·rw[VB hp]
  refine lj (hv _ fun b=>?_);exact fin b
 ·rw[Uo hp]
  refine lj (qV ?_);exact fin true
end
end LJS
namespace LJS
open PySem PySem.SetTable
def Up(xs:Array Nat):Prop:=xs.toList.Pairwise (· < ·)
theorem Up.lt{xs:Array Nat}(u:Up xs){i k:Nat}(Ie:i<k)(hk:k<xs.size):xs[i]'(by omega)<xs[k]:=by
 have:=Yc.mp u i k (by rw[Uk];omega) (by rw[Uk];exact hk) Ie;simpa using this
theorem vT{xs:Array Nat}(u:Up xs)(j:Nat):∀(fuel lo hi:Nat),hi<=xs.size->lo<=hi->hi-lo<=fuel->(∀i,(h:i<xs.size)->i<lo->xs[i]<j)->(∀i,(h:i<xs.size)->hi<=i->j<=xs[i]) →
  below.go xs j fuel lo hi<=xs.size/\(∀i,(h:i<xs.size)->i<below.go xs j fuel lo hi->xs[i]<j)/\(∀i,(h:i<xs.size)->below.go xs j fuel lo hi<=i->j<=xs[i])
 |0,lo,hi,h1,h2,h3,a,b=>by
  have:lo=hi:=by omega
  subst this;exact⟨h1,a,b⟩
 |fuel+1,lo,hi,h1,h2,h3,a,b=>by
  unfold below.go
  by_cases c:lo<hi
  ·rw[VB c]
   have hm:(lo+hi) / 2<xs.size:=by omega
   have em:xs.getD ((lo+hi) / 2) j=xs[(lo+hi) / 2]:=by rw[Wc,VN hm];rfl
   simp only[em]
   by_cases d:xs[(lo+hi) / 2]<j
   ·rw[VB d]
    refine vT u j fuel _ hi h1 (by omega) (by omega) (fun i c7 hl=>?_) b
    by_cases e:i<(lo+hi) / 2
    ·exact ZK (u.lt e hm) d
    ·have:i=(lo+hi) / 2:=by omega
     subst this;exact d
   ·rw[Uo d]
    refine vT u j fuel lo _ (by omega) (by omega) (by omega) a fun i c7 hl=>?_
    by_cases e:(lo+hi) / 2<i
    ·exact WZ (Yk (YL d) (u.lt e c7))
    ·have:i=(lo+hi) / 2:=by omega
     subst this;exact YL d
  ·rw[Uo c]
   have:lo=hi:=by omega
   subst this;exact⟨h1,a,b⟩
theorem tO{xs:Array Nat}(u:Up xs)(j:Nat):below xs j<=xs.size/\(∀i,(h:i<xs.size)->i<below xs j->xs[i]<j)/\(∀i,(h:i<xs.size)->below xs j<=i->j<=xs[i]) :=
 vT u j xs.size 0 xs.size (ua _) (Ww _) (by omega) (fun i _ h=>by omega) (fun i h h'=>by omega)
theorem Ig{xs:Array Nat}(u:Up xs){i:Nat}(hi:i<xs.size):below xs (xs[i]+1)=i+1:=by
 obtain⟨h0,h1,h2⟩:=tO u (xs[i]+1)
 have a:i<below xs (xs[i]+1):=by
  refine Nat.lt_of_not_le fun z=>?_;have:=h2 i hi z;omega
 have b:below xs (xs[i]+1)<=i+1:=by
  refine YL fun z=>?_;have hk:i+1<xs.size:=by omega
  have:=h1 (i+1) hk z;have:=u.lt (k:=i+1) (Wt i) hk;omega
 omega
theorem Ih{xs:Array Nat}(u:Up xs):below xs 0=0:=by
 obtain⟨h0,h1,h2⟩:=tO u 0;refine Nat.eq_zero_of_not_pos fun z=>?_;have:=h1 0 (by omega) z;omega
theorem Ii{t:SetTable}(u:Up t.place){j:Nat}(hj:j∉t.place.toList):Up (t.put j).1.place:=by
 obtain⟨h0,h1,h2⟩:=tO u j;show Up (insertAt t.place (below t.place j) j);unfold Up insertAt;generalize below t.place j=p at h0 h1 h2
 have eL:(((t.place.extract 0 p).push j)++t.place.extract p t.place.size).toList=t.place.toList.take p++([j]++t.place.toList.drop p):=by
  simp only[Array.toList_append,Yt,Array.toList_extract,Zk,Z9,Nat.sub_zero,Xi];have e2:List.take (t.place.size-p) (List.drop p t.place.toList)=List.drop p t.place.toList:=WB (by rw[XJ,Uk];exact ua _);rw[e2]
 rw[eL]
 have lo:∀x∈t.place.toList.take p,x<j:=by
  intro x hx;obtain⟨i,hi,e⟩:=XH.mp hx;rw[We,Uk] at hi;rw[List.getElem_take] at e;have:=h1 i (by omega) (by omega);rw[<-e];simpa using this
 have c7:∀x∈t.place.toList.drop p,j<x:=by
  intro x hx;obtain⟨i,hi,e⟩:=XH.mp hx;rw[XJ,Uk] at hi;rw[List.getElem_drop] at e;have:=h2 (p+i) (by omega) (by omega);have Ij:j<=x:=by rw[<-e];simpa using this
  refine Nat.lt_of_le_of_ne Ij fun z=>hj ?_;rw[z];exact YQ hx
 refine List.pairwise_append.mpr ⟨u.sublist (Zl _ _),?_,fun a ha b hb=>?_⟩
 ·exact Wj.mpr ⟨c7,u.sublist (List.drop_sublist _ _)⟩
 ·rcases Lp.mp hb with rfl|hb
  ·exact lo a ha
  ·exact ZK (lo a ha) (c7 b hb)
theorem Ik(n:Nat)(f:Nat->Option Nat):(((List.range n).filterMap fun j=>(f j).map fun x=>(j,x)).map (·.1)).Pairwise (· < ·):=by
 rw[Wm];refine List.Pairwise.filterMap _ (fun a a' cB b hb b' hb'=>?_) (WC (n:=n));obtain⟨x,_,rfl⟩:=Vz.mp hb;obtain⟨y,_,rfl⟩:=Vz.mp hb';exact cB
theorem Il(m:Nat)(owner:Array (Option Nat)):((ji m owner).map (·.1)).Pairwise (· < ·):=Ik (m+1) fun j=>owner.getD j none
theorem BN{α:Type}(next:Nat->Nat):∀(fuel k:Nat)(left:List α)(out:Array α),left.length<=fuel->(pickOrder.go next fuel k left out).toList.Perm (out.toList++left)
 |0,k,left,out,h=>by
  have:left=[]:=XM.mp (by omega);subst this;rw[XE];exact XN _
 |fuel+1,k,left,out,h=>by
  unfold pickOrder.go
  cases left with
  |nil=>simp
  |cons a l =>
   have cB:next k%(a::l).length<(a::l).length:=Nat.mod_lt _ (by rw[Lk];omega);rw[nR cB];refine(BN next fuel (k+1) _ _ ?_).trans ?_
   ·rw[X1 cB];omega
   ·rw[Yt,Xi]
    refine List.Perm.append_left _ ?_;generalize next k%(a::l).length=j at cB;exact(iq cB).symm
where
 iq {α:Type}:∀{l:List α}{j:Nat}(h:j<l.length),List.Perm l (l[j]::l.eraseIdx j)
  |[],_,h=>by simp at h
  |a::l,0,_=>XN _
  |a::l,j+1,h=>(List.Perm.cons a (iq (l:=l) (j:=j) (by simpa using h))).trans (List.Perm.swap _ _ _)
theorem Im{α:Type}(next:Nat->Nat)(xs:Array α):(pickOrder next xs).toList.Perm xs.toList:=by
 have:=BN next xs.size 0 xs.toList #[] (by rw[Uk];exact ua _);unfold pickOrder;simpa using this
theorem vU{t:SetTable}{f:Nat->Int}{h:Int}:∀{fuel:Nat}{p:Probe}{j:Nat}{d:Option Nat},probe.go t f h fuel p=some (.empty j d)->t.slot j=.empty
 |0,_,_,_,e=>nomatch e
 |fuel+1,p,j,d,e=>by
  rw[tN] at e
  cases q:t.slot p.j with
  |empty =>
   rw[q] at e;cases e
   exact q
  |dummy =>
   rw[q] at e;exact vU e
  |live i =>
   rw[q] at e
   by_cases c:(f i==h)=true
   ·simp only[c,XZ] at e;cases e
   ·simp only[c,Xp] at e;exact vU e
theorem Io{t:SetTable}(u:Up t.place){j:Nat}(e:t.slot j=.empty):j∉t.place.toList:=by
 intro hm;obtain⟨i,hi,ei⟩:=XH.mp hm;have c7:i<t.place.size:=by rw[<-Uk];exact hi
 have vV:t.place[i]=j:=by simpa using ei
 obtain⟨h0,h1,h2⟩:=tO u j;have a:¬ i<below t.place j:=fun z=>by have:=h1 i c7 z;omega
 have b:¬ below t.place j<i:=fun z=>by
  have:=h2 (below t.place j) (by omega) (ua _);have:=u.lt z c7;omega
 have eb:below t.place j=i:=by omega
 unfold slot at e;rw[eb] at e;have:(t.place[i]?==some j)=true:=by rw[VN c7,vV];simp
 simp only[this,XZ] at e;cases e
def kz(owner:Array (Option Nat))(k:Nat):Prop:=(owner.toList.filterMap id).Perm (List.range k)
theorem vW:∀{l:List (Option Nat)}{j k:Nat},l[j]?=some none->((l.set j (some k)).filterMap id).Perm (k::l.filterMap id)
 |[],j,k,h=>by simp at h
 |x::l,0,k,h=>by
  simp at h;subst h;rw[V6];show(k::l.filterMap id).Perm (k::l.filterMap id);exact XN _
 |x::l,j+1,k,h=>by
  simp at h;rw[V7]
  cases x with
  |none =>
   show((l.set j (some k)).filterMap id).Perm (k::l.filterMap id);exact vW h
  |some y =>
   show(y::(l.set j (some k)).filterMap id).Perm (k::y::l.filterMap id);exact(List.Perm.cons y (vW h)).trans (List.Perm.swap _ _ _)
theorem Ip{owner:Array (Option Nat)}{j k:Nat}(P:kz owner k)(h:owner.toList[j]?=some none):kz (owner.setIfInBounds j (some k)) (k+1):=by
 unfold kz at P ⊢;rw[Xg,Yg];exact(vW h).trans ((List.Perm.cons k P).trans (List.perm_append_singleton k _).symm)
theorem Iq{m:Nat}{owner:Array (Option Nat)}{k:Nat}(hm:Mk m)(O:Ow m owner k)(Pm:kz owner k)(hk:k<=m)(h:Int):∃j,layClean.free m owner (turns m) (bits h%(m+1)) (bits h)=some j/\Ow m (owner.setIfInBounds j (some k)) (k+1)/\kz (owner.setIfInBounds j (some k)) (k+1):=by
 obtain⟨e,he,hn⟩:=BH O hk;obtain⟨n,kr,en⟩:=reach hm (i:=bits h%(m+1)) (vL h) he;obtain⟨j,ej,hj⟩:=vM (m:=m) (owner:=owner) n (turns m) (bits h%(m+1)) (bits h) (by unfold turns;omega) (by rw[en];exact hn);refine⟨j,ej,⟨by rw[Zs];exact O.size,?_,fun x hx=>?_⟩,Ip Pm (getD_none hj)⟩
 ·rw[Xg,vN (getD_none hj),O.cnt]
 ·rw[Xg] at hx
  rcases Zj hx with h|h
  ·exact Wh (O.lt x h)
  ·cases h;exact Wt _
theorem BO{m:Nat}(hm:Mk m):∀(hs:List Int)(owner:Array (Option Nat))(k:Nat),Ow m owner k->kz owner k->k+hs.length<=m+1 →
  ∃dA,(hs.foldl (init:=some (owner,k)) fun acc h=>do
   let(owner,k) <- acc
   let j <- layClean.free m owner (turns m) (bits h%(m+1)) (bits h)
   pure (owner.setIfInBounds j (some k),k+1))=some (dA,k+hs.length)/\Ow m dA (k+hs.length)/\kz dA (k+hs.length)
 |[],owner,k,O,Pm,_=>⟨owner,rfl,O,Pm⟩
 |h::hs,owner,k,O,Pm,hl=>by
  rw[Lk] at hl ⊢;obtain⟨j,ej,O',P'⟩:=Iq hm O Pm (by omega) h;obtain⟨o2,e2,O2,P2⟩:=BO hm hs _ (k+1) O' P' (by omega);refine⟨o2,?_,by rw[show k+(hs.length+1)=k+1+hs.length by omega];exact⟨O2,P2⟩⟩;rw[YS,show k+(hs.length+1)=k+1+hs.length by omega,<-e2];congr 1;show(do let j <- layClean.free m owner (turns m) (bits h%(m+1)) (bits h);pure (owner.setIfInBounds j (some k),k+1))=_;rw[ej];rfl
theorem Ir(m:Nat):kz (Array.replicate (m+1) none) 0:=by
 unfold kz;rw[Ys,List.filterMap_eq_nil_iff.mpr fun x hx=>by rw[Yd hx];rfl];exact XN _
theorem Iu{m:Nat}(hm:Mk m)(hs:Array Int)(hz:hs.size<=m+1):∃owner,layClean m hs=some owner/\Ow m owner hs.size/\kz owner hs.size:=by
 obtain⟨o,e,O,Pm⟩:=BO hm hs.toList _ 0 (BJ m) (Ir m) (by rw[Uk];omega);rw[Wb,Uk] at O Pm;refine⟨o,?_,O,Pm⟩;unfold layClean;rw[<-Array.foldl_toList,e];rfl
theorem Iv{m:Nat}{owner:Array (Option Nat)}(hs:owner.size=m+1):(ji m owner).map (·.2)=owner.toList.filterMap id:=by
 unfold ji;rw[List.map_filterMap]
 have e:owner.toList=(List.range (m+1)).map fun j=>owner.getD j none:=by
  refine XG fun i=>?_;rw[VT,Lq]
  by_cases hi:i<m+1
  ·rw[W0 hi,ZU,VN (by rw[hs];exact hi),Wc,VN (by rw[hs];exact hi)];rfl
  ·rw[WY (by rw[hs];omega),WR (by rw[Wg];omega)];rfl
 rw[e,List.filterMap_map];congr 1;funext j;show Option.map (fun x:Nat×Nat=>x.2) (Option.map (fun x=>(j,x)) (owner.getD j none))=owner.getD j none;cases owner.getD j none<;>rfl
theorem Iw{m:Nat}(hm:Mk m)(t:SetTable)(hs:Array Int)(wanted:Nat)(hw:sizeAbove wanted-1=m)(hz:hs.size<=m+1):
  ∃t' order,t.relaid hs wanted=some (t',order)/\t'.mask=m/\t'.dummies = #[]/\t'.place.size=hs.size/\t'.led=t.led/\t'.plain=t.plain/\Up t'.place/\order.toList.Perm (List.range hs.size):=by
 obtain⟨owner,e,O,Pm⟩:=Iu hm hs hz;refine⟨{mask:=m,place:=((ji m owner).map (·.1)).toArray,dummies := #[],finger:=t.finger,led:=t.led,moves:=t.movedTo m,plain:=t.plain},((ji m owner).map (·.2)).toArray,?_,rfl,rfl,?_,rfl,rfl,?_,?_⟩
 ·unfold relaid laid
  rw[hw,e];rfl
 ·rw[xM,nU,vO O]
 ·unfold Up
  exact Il m owner
 ·show((ji m owner).map (·.2)).Perm _
  rw[Iv O.size];exact Pm
theorem Iy{order:Array Nat}{n:Nat}(h:order.toList.Perm (List.range n)):coversAll order n=true:=by
 unfold coversAll;exact List.isPerm_iff.mpr h
end LJS
namespace LJS
open PySem PySem.SetTable PyProof.Rows
noncomputable def keyOf(e:Int×Value):Int:=match e.2 with
 |.int k _=>k
 |_=>0
structure bZ(t:SetTable)(es:Array (Int×Value))(led:Bool)(ks:List Int):Prop where
 l6:t.dummies = #[]
 ku:Mk t.mask
 gX:t.place.size=es.size
 gs:t.tooFull=false
 up:Up t.place
 qo:t.plain=true
 vX:t.led=led
 tP:∀e∈es.toList,∃k tk,e=(hashInt k,Value.int k tk)
 keys:(es.toList.map keyOf).Perm ks
 jA:ks.Nodup
def dB(h:Heap)(S:Addr)(led:Bool)(ks:List Int):Prop:=∃o es ep t,h.get? S=some o/\o.ExactSet/\o.data=.set es ep t/\bZ t es led ks
section
variable{t:SetTable}{es:Array (Int×Value)}{led:Bool}{ks:List Int}
theorem bZ.num(T:bZ t es led ks):es.size=ks.length:=by rw[<-T.keys.length_eq,nU,Uk]
theorem bZ.fill(T:bZ t es led ks):t.fill=es.size:=by unfold SetTable.fill;rw[T.gX,T.l6];rfl
theorem bZ.lt(T:bZ t es led ks):es.size*5<t.mask*3:=by
 have:=T.gs;unfold tooFull at this;rw[T.fill] at this;have:=Y3 this;omega
theorem bZ.fits(T:bZ t es led ks):t.fits es.size=true:=by
 have:=T.lt;unfold SetTable.fits;rw[T.fill,T.gX];simp;omega
theorem bZ.elems{prog:Program}{w:World}(T:bZ t es led ks):ElemsOf (intKind prog w) es.toList:=fun e he=>by
 obtain⟨k,tk,rfl⟩:=T.tP e he;exact⟨⟨k,Y4 ..,rfl⟩,rfl⟩
theorem bZ.lay(T:bZ t es led ks)(k:Int)(tk:Tok):∃j,j∉t.place.toList/\layNew t es (hashInt k) (.int k tk)=(insertAt es (t.put j).2 (hashInt k,.int k tk),(t.put j).1,false,false):=by
 have lt:=T.lt;obtain⟨j,ej⟩:=BF (t:=t) (f:=fun _=>hashInt k+1) (h:=hashInt k) T.l6 T.ku (by rw[T.gX];omega) (fun i _ z=>by omega);have hs:t.slot j=.empty:=vU ej;obtain⟨p1,p2,p3,_⟩:=vP t T.l6 j;refine⟨j,Io T.up hs,?_⟩
 have ff:(t.put j).1.fits (insertAt es (t.put j).2 (hashInt k,Value.int k tk)).size=true:=by
  unfold SetTable.fits SetTable.fill;rw[p1,p2,p3,vQ,T.gX];simp;omega
 unfold layNew freeSlot;rw[ej];show(insertAt es (t.put j).2 (hashInt k,Value.int k tk),(t.put j).1.orStandIn (insertAt es (t.put j).2 (hashInt k,Value.int k tk)).size,false,!(t.put j).1.fits (insertAt es (t.put j).2 (hashInt k,Value.int k tk)).size)=_;unfold SetTable.orStandIn;rw[ff,VB rfl];rfl
end
section
variable{prog:Program}{w:World}{A:Around}{E:aP}{s:Shared}
theorem add_int{S:Addr}{k:Int}{tk:Tok}{led:Bool}{ks:List Int}{Q:Bool->Shared->Prop}(hS:dB s.heap S led ks)(hl:ks.length<60)
  (fin:∀(b:Bool) h',Heap.SameBut S s.heap h'->dB h' S led (if k∈ks then ks else ks++[k])->Q b {s with heap:=h'}):wpAny (model prog w) A (setAddHashed S (.int k tk) (hashInt k)) Q E s:=by
 obtain⟨o,es,ep,t,ho,hex,hd,T⟩:=hS;have hb:es.size<scanBound:=by rw[T.num];unfold scanBound;omega
 have el:=T.elems (prog:=prog) (w:=w);unfold setAddHashed;refine VX ?_;show wpAny _ _ (setAddHashedIn S (.int k tk) (hashInt k) (99999+1)) _ _ _;unfold setAddHashedIn;refine lj (Xh ho hd T.fits ?_);dsimp only;rw[byScan_of (knd:=intKind prog w) rfl hb el];simp only[↓reduceIte];unfold setAddByScan;refine lj ?_;refine lj (Y5 ?_);refine lj (wpAny_setScan_of (knd:=intKind prog w) (k:=k) (Y4 ..) ho hd T.fits el ?_)
 have BP:∀e∈es.toList,(intKind prog w).is k e.2=decide (k=keyOf e):=fun e he=>by
  obtain⟨k',kA,rfl⟩:=T.tP e he;exact KeyKind.is_eq_decide (Y4 ..) k
 cases hr:es.toList.findIdx? (fun e=>(intKind prog w).is k e.2) with
 |some j =>
  obtain⟨hj,BQ,_⟩:=List.findIdx?_eq_some_iff_getElem.mp hr;have hm:es.toList[j]∈es.toList:=Wu hj;rw[BP _ hm] at BQ;have hk:k∈ks:=T.keys.mem_iff.mp (by rw[VS BQ];exact Lm.mpr ⟨_,hm,rfl⟩);dsimp only;refine qV (qV ?_);have e:s={s with heap:=s.heap}:=by cases s;rfl
  rw[e];exact fin false s.heap (Heap.SameBut.refl S s.heap) (by rw[VB hk];exact⟨o,es,ep,t,ho,hex,hd,T⟩)
 |none =>
  have hk:k∉ks:=fun z=>by
   obtain⟨e,he,ek⟩:=Lm.mp (T.keys.mem_iff.mpr z);have:=List.findIdx?_eq_none_iff.mp hr e he;rw[BP e he,<-ek,Ln rfl] at this;cases this
  dsimp only;obtain⟨j,nj,ej⟩:=T.lay k tk;rw[ej];rw[Uo hk] at fin;obtain⟨p1,p2,p3,p4,p5,p6,p7⟩:=vP t T.l6 j;have up1:=Ii T.up nj;have gh:=vQ es (t.put j).2 (hashInt k,Value.int k tk)
  have vY:(insertAt es (t.put j).2 (hashInt k,Value.int k tk)).toList.Perm (es.toList++[(hashInt k,Value.int k tk)]):=by
   have:=SetTable.insertAt_perm es (t.put j).2 (hashInt k,Value.int k tk);rw[Yt] at this;exact this
  have lt:=T.lt;have Ic:es.size<60:=by rw[T.num];exact hl
  generalize(t.put j).1=t2 at p1 p2 p3 p4 p5 up1 ⊢;generalize insertAt es (t.put j).2 (hashInt k,Value.int k tk)=bT at gh vY ⊢
  have ints2:∀e∈bT.toList,∃k tk,e=(hashInt k,Value.int k tk):=fun e he=>by
   rcases VA.mp (vY.mem_iff.mp he) with q|q
   ·exact T.tP e q
   ·exact⟨k,tk,Um.mp q⟩
  have l8:(bT.toList.map keyOf).Perm (ks++[k]):=by
   refine(vY.map keyOf).trans ?_;rw[VI];exact List.Perm.append_right _ T.keys
  have qp:(ks++[k]).Nodup:=VZ.mpr ⟨T.jA,by simp,fun a ha b hb z=>hk (by rw[<-Um.mp hb,<-z];exact ha)⟩;have vZ:t2.place.size=bT.size:=by rw[p3,T.gX,gh]
  have fl:t2.fill=es.size+1:=by unfold SetTable.fill;rw[p1,p3,T.gX];rfl
  have l7:t2.fits bT.size=true:=by
   unfold SetTable.fits;rw[fl,p3,gh,p2,T.gX];simp;rcases T.ku with e|e|e<;>rw[e] at lt ⊢ <;> omega
  refine lj (qV ?_);dsimp only;rw[p5,T.qo,VB rfl];refine lj ?_;rw[hashByValue_scannable 8 rfl];refine qV ?_;rw[VB (show plainKind (Value.int k tk)=true from rfl)];refine lj (Yu ho hd ?_ (by rw[gh,WU];omega))
  have fK:(s.heap.update S (Obj.putSet bT t2)).get? S=some {o with data:=.set bT (ep+1) t2}:=by
   have:=Wk (Obj.putSet bT t2) ho (by rw[YK bT t2 hd];rfl);rw[YK bT t2 hd] at this;exact this
  by_cases tf:t2.tooFull=true
  ·rw[VB (by rw[tf];rfl)]
   have mW:t.mask*3<=(es.size+1)*5:=by
    unfold tooFull at tf;rw[fl,p2] at tf;have:=VS tf;omega
   obtain⟨m,hm,hw,hsz⟩:∃m,Mk m/\sizeAbove (grown bT.size)-1=m/\(es.size+1)*5<m*3:=by
    rw[gh];rcases T.ku with e|e|e
    ·rw[e] at lt mW
     have:es.size+1=5:=by omega
     rw[this];exact⟨31,.inr (.inl rfl),BL,by omega⟩
    ·rw[e] at lt mW
     have:es.size+1=19:=by omega
     rw[this];exact⟨127,.inr (.inr rfl),BM,by omega⟩
    ·rw[e] at mW;omega
   obtain⟨t3,order,er,r1,r2,r3,r4,r5,r6,r7⟩:=Iw hm t2 (bT.map (·.1)) (grown bT.size) hw (by rw[Yv,gh];omega);rw[Yv] at r3 r7;have qq:=relayAll_perm t2 bT (grown bT.size)
   have e3:relayAll t2 bT (grown bT.size)=(order.filterMap (bT[·]?),t3,false):=by
    have Iz:(order.filterMap (bT[·]?)).size=bT.size:=by
     have:=BK (es:=bT) (order:=order) fun x hx=>VL.mp (r7.mem_iff.mp hx);rw[this.1,<-Uk,r7.length_eq,Wg]
    have ff:t3.fits (order.filterMap (bT[·]?)).size=true:=by
     unfold SetTable.fits SetTable.fill;rw[Iz,r2,r3,r1,gh];simp;omega
    unfold relayAll;rw[er];show(if(coversAll order bT.size&&t3.fits (order.filterMap (bT[·]?)).size)=true then _ else _)=_;rw[Iy r7,ff];rfl
   rw[e3] at qq ⊢;refine lj (qV ?_);dsimp only;generalize order.filterMap (bT[·]?)=tQ at qq ⊢;have BR:tQ.size=bT.size:=by rw[<-Uk,qq.length_eq,Uk]
   refine lj (Yu fK rfl ?_ (by rw[BR,gh,WU];omega))
   have eA:((s.heap.update S (Obj.putSet bT t2)).update S (Obj.putSet tQ t3)).get? S=some {o with data:=.set tQ (ep+1+1) t3}:=by
    have:=Wk (Obj.putSet tQ t3) fK (by rw[YK _ t3 rfl];rfl);rw[YK _ t3 rfl] at this;exact this
   refine qV (qV (fin true _ ((VW ..).trans (VW ..)) ⟨_,_,_,_,eA,hex,rfl,r2,by rw[r1];exact hm,by rw[r3,BR],?_,r6,by rw[r5,p5];exact T.qo,by rw[r4,p4];exact T.vX,fun e he=>ints2 e (qq.mem_iff.mp he),(qq.map keyOf).trans l8,qp⟩));unfold tooFull SetTable.fill;rw[r2,r3,r1,gh];simp;omega
  ·have qm:t2.tooFull=false:=by cases q:t2.tooFull<;>simp_all
   rw[Uo (by rw[qm];decide)];refine qV (qV (fin true _ (VW ..) ⟨_,_,_,_,fK,hex,rfl,p1,by rw[p2];exact T.ku,vZ,qm,up1,by rw[p5];exact T.qo,by rw[p4];exact T.vX,ints2,l8,qp⟩))
theorem IA{ks:List Int}:∀{vs:List Value},ItemsAre (intKind prog w) ks vs->∀v∈vs,∃i t,v=.int i t:=by
 induction ks with
 |nil=>intro vs h v hv;cases h;cases hv
 |cons k ks ih =>
  intro vs h v hv
  cases h with
  |cons h1 h2 =>
   rcases Lp.mp hv with rfl|hv
   ·obtain⟨t,e⟩:=Value.isInt_shape (k:=k) (v:=v) (by first|exact h1|simpa[intKind] using h1)
    exact⟨_,_,e⟩
   ·exact ih h2 v hv
theorem IB{ks:List Int}{a:Addr}{Q:Bool->Shared->Prop}(hk:IsTupleKey (intKind prog w) s.heap ks a)(h:∀b,Q b s):wpAny (model prog w) A (hashByValue 8 (.ref a)) Q E s:=by
 have hT:=hk.typeIs;obtain⟨o,ar,n,ho,_,hd,hi⟩:=hk;show wpAny _ _ (hashByValue (7+1) (.ref a)) _ _ _;unfold hashByValue;refine lj (YT hT F.slot_tuple_hash.lookup ?_);show wpAny _ _ (seqItems? (.ref a) >>= _) _ _ s;refine lj (Yw ho hd ?_);refine lj ?_;show wpAny _ _ (forIn ar _ _) _ _ s;rw[<-Y6];refine ZA _ (fun rest _ s'=>s'=s/\∀v∈rest,∃i t,v=Value.int i t) _ ?_ ?_ _ _ ⟨rfl,IA hi⟩
 ·rintro v rest r s' ⟨rfl,iP⟩
  obtain⟨i,t,rfl⟩:=iP v My;have e:hashByValue 7 (.int i t)=pure true:=by unfold hashByValue;rfl
  rw[e];refine lj (qV ?_);simp only[Bool.not_true,V8,Xp];exact qV ⟨rfl,fun u hu=>iP u (C5 _ hu)⟩
 ·rintro⟨r1,r2⟩ s' ⟨rfl,_⟩
  cases r1 with
  |none=>exact qV (h _)
  |some b=>exact qV (h _)
theorem v3{h h':Heap}{ks:List Int}{a:Addr}(x:IsTupleKey (intKind prog w) h ks a)(k:∀o,h.get? a=some o->h'.get? a=some o):IsTupleKey (intKind prog w) h' ks a:=by
 obtain⟨o,ar,n,ho,r⟩:=x;exact⟨o,ar,n,k o ho,r⟩
noncomputable abbrev hT(prog:Program)(w:World)(ks:List Int):Int:=tupleKeyHash (intKind prog w) ks
theorem v5{h h':Heap}{S:Addr}{hs:List Int}(x:eu h S hs)(k:∀o,h.get? S=some o->h'.get? S=some o):eu h' S hs:=by
 obtain⟨o,es,ep,t,ho,r⟩:=x;exact⟨o,es,ep,t,k o ho,r⟩
end
section
variable{prog:Program}{w:World}{A:Around}{R:Result->Shared->Prop}{I S:Addr}{fp wr:List Addr}{G:Array GenState->Array GenState->Prop}{n:Nat}{P:Nat->Value->Prop}{St:Nat->Shared->Prop}
theorem IC(W:WalksS prog w A.in1 I fp wr G n P St)(out:S∉fp)(ad:Nat->Addr)(ks:Nat->List Int)(mX:∀i v,P i v->v=.ref (ad i))(apart:∀i,i<n->ad i∉S::wr)(room:A.in1.units<cLine)
  (unlike:∀i j,i<n->j<i->hT prog w (ks j)≠hT prog w (ks i)) (gu:n<=30) :
  ∀(left i:Nat)(s:Shared),i+left=n->St i s->(∀j,j<n->IsTupleKey (intKind prog w) s.heap (ks j) (ad j))->eu s.heap S ((List.range i).map fun j=>hT prog w (ks j)) →
   (∀s',Moved (S::wr) G s s'->eu s'.heap S ((List.range n).map fun j=>hT prog w (ks j))->R (.ok (.ret .none)) s') →
   codeAny (model prog w) A (.builtin "set.update.loop" ⟨[.ref S,.ref I],[]⟩) R s:=by
 have jB:S∉wr:=fun z=>out (W.sub _ z);have more:∀b,b∈wr->b∈S::wr:=fun b hb=>C5 _ hb;intro left
 induction left with
 |zero =>
  intro i s hi st tk se fin;obtain rfl:i=n:=by omega
  refine Ws XO ?_;rw[Wd Xb _];show wpAny _ A.in1 (pyNext (.ref I) >>= _) _ _ s;refine lj (W.done s _ _ st fun s' mv=>?_);show wpAny _ A.in1 (ret Value.none) _ _ s';exact qV (fin s' (mv.mono more) (v5 se fun o e=>mv.heap S o jB e))
 |succ left ih =>
  intro i s hi st tk se fin;have cB:i<n:=by omega
  refine Ws XO ?_;rw[Wd Xb _];show wpAny _ A.in1 (pyNext (.ref I) >>= _) _ _ s;refine lj (W.item i s _ _ cB st fun v s1 hP kQ mv=>?_);obtain rfl:=mX i v hP;have iQ:∀j,j<n->IsTupleKey (intKind prog w) s1.heap (ks j) (ad j):=fun j hj=>v3 (tk j hj) fun o e=>mv.heap _ o (fun z=>apart j hj (more _ z)) e;show wpAny _ A.in1 (holding [Value.ref (ad i)] (setAdd S (.ref (ad i))) >>= _) _ _ s1;refine lj (VX ?_);unfold setAdd;refine VX (lj (wpAny_pyHash_tuple room (iQ i cB) ?_));refine Ib (s:={s1 with toks:=s1.toks+((ks i).length+1)}) (hs:=(List.range i).map fun j=>hT prog w (ks j)) rfl (v5 se fun o e=>mv.heap S o jB e) (fun z=>?_) (by rw[nU,Wg];omega) (fun Q' q=>IB (iQ i cB) q) fun h2 sb v7=>?_
  ·obtain⟨j,hj,e⟩:=Lm.mp z
   exact unlike i j cB (VL.mp hj) e
  ·have nS:∀b,b∈fp->b≠S:=fun b hb z=>out (by rw[<-z];exact hb)
   refine qV ⟨Xf Xb _,ih (i+1) _ (by omega) (W.frame _ s1 _ _ kQ (YM _ _) fun b hb o e=>by rw[sb.2 b (nS b hb)];exact e) (fun j hj=>v3 (iQ j hj) fun o e=>?_) (by rw[Yg,VI];exact v7) fun s3 v8 v9=>?_⟩
   ·rw[sb.2 _ (fun z=>apart j hj (by rw[z];exact My))];exact e
   ·refine fin s3 (Moved.trans W.gtrans ((mv.mono more).then_heap (YM _ _) fun b o hb e=>?_) v8) v9
    rw[sb.2 b (fun z=>hb (by rw[z];exact My))];exact e
end
theorem v_{h h':Heap}{S:Addr}{led:Bool}{ks:List Int}(x:dB h S led ks)(k:∀o,h.get? S=some o->h'.get? S=some o):dB h' S led ks:=by
 obtain⟨o,es,ep,t,ho,r⟩:=x;exact⟨o,es,ep,t,k o ho,r⟩
noncomputable def once(ks:List Int)(n:Int):List Int:=if n∈ks then ks else ks++[n]
noncomputable def gi(ns:List Int):Nat->List Int
 |0=>[]
 |i+1=>once (gi ns i) (ns.getD i 0)
theorem wa(ns:List Int):∀i,(gi ns i).length<=i
 |0=>ua _
 |i+1=>by
  have:=wa ns i;show(once (gi ns i) (ns.getD i 0)).length<=i+1;unfold once;split
  ·omega
  ·rw[C4,VU];omega
theorem wb(ns:List Int)(x:Int):∀i,i<=ns.length->(x∈gi ns i↔x∈ns.take i)
 |0,_=>by simp[gi]
 |i+1,h=>by
  have ih:=wb ns x i (by omega);have hi:i<ns.length:=by omega
  have e:ns.getD i 0=ns[i]:=by rw[C6,nR hi];rfl
  show x∈once (gi ns i) (ns.getD i 0)↔_;rw[List.take_add_one,nR hi,e];unfold once;have ID:=wb ns ns[i] i (by omega)
  by_cases c:ns[i]∈gi ns i
  ·rw[VB c,ih]
   constructor
   ·intro q;exact VQ _ q
   ·intro q
    rcases VA.mp q with q|q
    ·exact q
    ·have:x=ns[i]:=by simpa using q
     rw[this];exact ID.mp c
  ·rw[Uo c,VA,ih,VA]
   simp
section
variable{prog:Program}{w:World}{A:Around}{R:Result->Shared->Prop}{I S:Addr}{fp wr:List Addr}{G:Array GenState->Array GenState->Prop}{n:Nat}{P:Nat->Value->Prop}{St:Nat->Shared->Prop}
theorem IE(W:WalksS prog w A.in1 I fp wr G n P St)(out:S∉fp){led:Bool}(ns:List Int)(isInt:∀i v,P i v->∃t,v=.int (ns.getD i 0) t)(gu:n<=40):
  ∀(left i:Nat)(s:Shared),i+left=n->St i s->dB s.heap S led (gi ns i)->(∀s',Moved (S::wr) G s s'->dB s'.heap S led (gi ns n)->R (.ok (.ret .none)) s') →
   codeAny (model prog w) A (.builtin "set.update.loop" ⟨[.ref S,.ref I],[]⟩) R s:=by
 have jB:S∉wr:=fun z=>out (W.sub _ z);have more:∀b,b∈wr->b∈S::wr:=fun b hb=>C5 _ hb;intro left
 induction left with
 |zero =>
  intro i s hi st se fin;obtain rfl:i=n:=by omega
  refine Ws XO ?_;rw[Wd Xb _];show wpAny _ A.in1 (pyNext (.ref I) >>= _) _ _ s;refine lj (W.done s _ _ st fun s' mv=>?_);show wpAny _ A.in1 (ret Value.none) _ _ s';exact qV (fin s' (mv.mono more) (v_ se fun o e=>mv.heap S o jB e))
 |succ left ih =>
  intro i s hi st se fin;have cB:i<n:=by omega
  refine Ws XO ?_;rw[Wd Xb _];show wpAny _ A.in1 (pyNext (.ref I) >>= _) _ _ s;refine lj (W.item i s _ _ cB st fun v s1 hP kQ mv=>?_);obtain⟨t,rfl⟩:=isInt i v hP;show wpAny _ A.in1 (holding [Value.int (ns.getD i 0) t] (setAdd S (.int (ns.getD i 0) t)) >>= _) _ _ s1;refine lj (VX ?_);unfold setAdd;refine VX (lj ((intKind prog w).pyHash (k:=ns.getD i 0) (Y4 _ _ _ _) ?_));have hlen:=wa ns i;refine add_int (s:={s1 with toks:=s1.toks+1}) (v_ se fun o e=>mv.heap S o jB e) (by omega) fun b h2 sb v7=>?_;have nS:∀b,b∈fp->b≠S:=fun b hb z=>out (by rw[<-z];exact hb);refine qV ⟨Xf Xb _,ih (i+1) _ (by omega) (W.frame _ s1 _ _ kQ (YM _ _) fun b hb o e=>by rw[sb.2 b (nS b hb)];exact e) v7 fun s3 v8 v9=>?_⟩
  refine fin s3 (Moved.trans W.gtrans ((mv.mono more).then_heap (YM _ _) fun b o hb e=>?_) v8) v9;rw[sb.2 b (fun z=>hb (by rw[z];exact My))];exact e
end
noncomputable abbrev b7(led:Bool):Obj:={cls:=.type "set",dict:=none,data:=.set #[] 0 (.fresh 0 0 led)}
theorem IF{h:Heap}{S:Addr}{led:Bool}(e:h.get? S=some (b7 led)):eu h S [] :=
 ⟨_,#[],0,_,e,⟨rfl,rfl,rfl⟩,rfl,rfl,.inl rfl,rfl,rfl,by cases led<;>decide,fun _ h=>nomatch h⟩
section
variable{prog:Program}{w:World}{A:Around}{E:aP}{s:Shared}
set_option maxHeartbeats 3200000 in
theorem IG {l:Addr} {items:Array Value} {Q:aP} (ad:Nat->Addr) (ks:Nat->List Int) (hh:A.handled=none) (room:A.units+8<cLine) (qr:s.heap.IsList l items) (mX:∀(i:Nat)(v:Value),items[i]?=some v->v=.ref (ad i))
  (tk:∀i,i<items.size->IsTupleKey (intKind prog w) s.heap (ks i) (ad i)) (unlike:∀i j,i<items.size->j<i->hT prog w (ks j)≠hT prog w (ks i)) (gu:items.size<=30)
  (fin:∀(h':Heap)(tk:Nat),eu h' s.heap.objs.size ((List.range items.size).map fun j=>hT prog w (ks j))->(∀b o,b<s.heap.objs.size->s.heap.get? b=some o->h'.get? b=some o)->Q (.ref s.heap.objs.size) {s with heap:=h',toks:=tk}) :
  wpAny (model prog w) A (call (.type "set") [.ref l]) Q E s:=by
 obtain⟨c,tl,wc⟩:=WD.mro;have m1:=WD.made;have m2:=WD.sub;have m3:=WD.notType;have m4:=WD.canCreate;have m5:=F.typeCall_set_1 (.ref l);refine wpAny_call (ZW ?_);show wpAny _ _ (callAny (.type "set") _) _ _ _;refine qV ⟨Code.quiet_builtin _ (by decide +kernel),Ws F.entry_type_call ?_⟩;rw[Around.under_plain (weight_type_call_type "set" [.ref l] []) rfl]
 repeat(any_goals (first|assumption|wp_step))
 refine X9 (code_set_new_1 (.ref l) (E:=E) (Q₁:=fun r s1=>∃led:Bool,r=.ref s.heap.objs.size/\s1={s with heap:=s.heap.push (b7 led)}) fun led=>⟨led,rfl,rfl⟩) fun r s1 hr=>?_
 cases r with
 |error e=>exact hr
 |ok fl =>
  cases fl with
  |ret obj =>
   obtain⟨led,rfl,rfl⟩:=hr;have gS:(s.heap.push (b7 led)).get? s.heap.objs.size=some (b7 led):=Vy _ rfl;have tS:Shared.TypeIs {s with heap:=s.heap.push (b7 led)} (.ref s.heap.objs.size) "set" := ⟨_,gS,rfl⟩;have m6:=WD.init.lookup;have m7:=WD.init.bind (.ref s.heap.objs.size)
   repeat(any_goals (first|assumption|wp_step))
   refine X9 (codeAny_call_builtin (R:=wants (fun r s2=>r=.none/\∃h' tk,s2={s with heap:=h',toks:=tk}/\eu h' s.heap.objs.size ((List.range items.size).map fun j=>hT prog w (ks j)) ∧
     ∀b o,b<s.heap.objs.size->s.heap.get? b=some o->h'.get? b=some o) E) WD.init.plain F.entry_set_init (check_set_init_1 tS ?_)) fun r2 s2 jC=>?_
   ·obtain⟨ol,gl,cl,nl,dl⟩:=qr
    obtain⟨c0,d0,IH,we⟩:=ol;simp only at cl dl;subst cl;subst dl;have wg:(s.heap.push (b7 led)).get? l=some {cls:=.type "list",dict:=d0,data:=.seq items nl,slots:=we}:=ph _ gl;have x1:=F.sub_list_set;have x2:=F.sub_list_frozenset;have x3:(Value.type "list" == Value.type "dict")=false:=by decide
    have jD:(s.heap.push (b7 led)).IsList l items:=⟨_,wg,rfl,nl,rfl⟩;have ll:l<s.heap.objs.size:=Ul gl;unfold Builtin.«set.__init__» noKeywords Builtin.Frozenset.updateFrom;generalize wj:pyIter=PI
    wp_walk
    subst wj;refine Xr jD (lj (Y7 ?_));have h3:A.in1.in1.in1.handled=none:=by simp[hh]
    have ez:(s.heap.push (b7 led)).objs.size=s.heap.objs.size+1:=Xq ..;have nI:l≠(s.heap.push (b7 led)).objs.size:=by rw[ez];exact VD (Wh ll)
    have lt:∀i,i<items.size->ad i<s.heap.objs.size:=fun i hi=>by
     obtain⟨o,_,_,e,_⟩:=tk i hi;exact Ul e
    refine IC ((YN h3 _ l nI items).toS) (S:=s.heap.objs.size) ?out ad ks (fun i v hv=>mX i v hv) ?apart ?room unlike gu items.size 0 _ (Wb _)
     ⟨⟨_,Vy _ rfl,rfl,rfl⟩,jD.push _⟩ ?tk ?fresh ?fin
    case out =>
     simp only[Lp,V9,X7,not_or,ez];exact⟨VD (Wt _),Xn ll⟩
    case apart =>
     intro i hi;have:=lt i hi;simp only[Lp,V9,X7,not_or,ez];exact⟨VD this,VD (Wh this)⟩
    case room =>
     show A.units+1+1+1<cLine;exact Yk (Nat.add_le_add_left (by decide:3<=8) _) room
    case tk =>
     intro j hj;exact v3 (tk j hj) fun o e=>ph _ (ph _ e)
    case fresh =>
     exact IF (led:=led) (ph _ gS)
    case fin =>
     intro s' mv se;obtain⟨h',g',d',kA,qt⟩:=s';obtain rfl:g'=s.gens:=mv.gens;obtain rfl:d'=s.drawn:=mv.drawn;obtain rfl:qt=s.os:=mv.os;show wpAny _ _ _ _ _ _;refine qV ?_;show wpAny _ _ (ret Value.none) _ _ _;refine qV ⟨rfl,h',kA,rfl,se,fun b o hb e=>?_⟩;refine mv.heap b o ?_ (ph _ (ph _ e));simp only[Lp,V9,X7,not_or,ez];exact⟨VD hb,VD (Wh hb)⟩
   ·cases r2 with
    |error e=>exact jC
    |ok wk =>
     cases wk with
     |ret r =>
      obtain⟨rfl,h',kA,rfl,se,kp⟩:=jC
      repeat(any_goals (first|assumption|wp_step))
      exact fin _ _ se kp
     |next=>exact jC
     |brk=>exact jC
     |cont=>exact jC
  |next=>exact hr
  |brk=>exact hr
  |cont=>exact hr
end
noncomputable abbrev fL(w:World):Bool := !w.params.followText "set-order"
theorem II{h:Heap}{S:Addr}{led:Bool}(e:h.get? S=some (b7 led)):dB h S led [] :=
 ⟨_,#[],0,_,e,⟨rfl,rfl,rfl⟩,rfl,rfl,.inl rfl,rfl,by cases led<;>decide,List.Pairwise.nil,rfl,rfl,(fun _ h=>nomatch h),XN _,Xz⟩
section
variable{prog:Program}{w:World}{A:Around}{E:aP}{s:Shared}
theorem IJ(a:Value){Q₁:aP}(h:Q₁ (.ref s.heap.objs.size) {s with heap:=s.heap.push (b7 (fL w))}):
  codeAny (model prog w) A (.call (.builtin "set.__new__") ⟨[.type "set",a],[]⟩) (wants Q₁ E) s:=by
 refine ZW ?_;show wpAny _ A.in1 (checkBuiltinCall "set.__new__" ⟨[.type "set",a],[]⟩ >>= fun _=>again (.builtin "set.__new__" ⟨[.type "set",a],[]⟩)) _ _ s;refine lj (Z_ (F.newCall_set_1 a) (qV ⟨Xf F.plain_set_new _,?_⟩));refine Ws F.entry_set_new ?_;rw[Wd F.plain_set_new _];have x1:=sub_set_self;unfold Builtin.«set.__new__» Builtin.Frozenset.newClass newSet setsByText;obtain⟨hp,g,d,tk,os⟩:=s;dsimp only
 wp_walk
 refine X_ (qV ?_);dsimp only;simp only[newObj];exact lj (wpAny_alloc (qV (qV h)))
set_option maxHeartbeats 3200000 in
theorem IK {l:Addr} {items:Array Value} {Q:aP} (ns:List Int) (hh:A.handled=none) (qr:s.heap.IsList l items) (isInt:∀(i:Nat)(v:Value),items[i]?=some v->∃t,v=.int (ns.getD i 0) t) (tR:items.size<=40)
  (fin:∀(h':Heap)(tk:Nat),dB h' s.heap.objs.size (fL w) (gi ns items.size)->(∀b o,b<s.heap.objs.size->s.heap.get? b=some o->h'.get? b=some o)->Q (.ref s.heap.objs.size) {s with heap:=h',toks:=tk}) :
  wpAny (model prog w) A (call (.type "set") [.ref l]) Q E s:=by
 obtain⟨c,tl,wc⟩:=WD.mro;have m1:=WD.made;have m2:=WD.sub;have m3:=WD.notType;have m4:=WD.canCreate;have m5:=F.typeCall_set_1 (.ref l);refine wpAny_call (ZW ?_);show wpAny _ _ (callAny (.type "set") _) _ _ _;refine qV ⟨Code.quiet_builtin _ (by decide +kernel),Ws F.entry_type_call ?_⟩;rw[Around.under_plain (weight_type_call_type "set" [.ref l] []) rfl]
 repeat(any_goals (first|assumption|wp_step))
 refine X9 (IJ (.ref l) (E:=E) (Q₁:=fun r s1=>r=.ref s.heap.objs.size/\s1={s with heap:=s.heap.push (b7 (fL w))}) ⟨rfl,rfl⟩) fun r s1 hr=>?_
 cases r with
 |error e=>exact hr
 |ok fl =>
  cases fl with
  |ret obj =>
   obtain⟨rfl,rfl⟩:=hr;generalize IM:fL w=led at fin ⊢;have gS:(s.heap.push (b7 led)).get? s.heap.objs.size=some (b7 led):=Vy _ rfl;have tS:Shared.TypeIs {s with heap:=s.heap.push (b7 led)} (.ref s.heap.objs.size) "set" := ⟨_,gS,rfl⟩;have m6:=WD.init.lookup;have m7:=WD.init.bind (.ref s.heap.objs.size)
   repeat(any_goals (first|assumption|wp_step))
   refine X9 (codeAny_call_builtin (R:=wants (fun r s2=>r=.none/\∃h' tk,s2={s with heap:=h',toks:=tk}/\dB h' s.heap.objs.size led (gi ns items.size) ∧
     ∀b o,b<s.heap.objs.size->s.heap.get? b=some o->h'.get? b=some o) E) WD.init.plain F.entry_set_init (check_set_init_1 tS ?_)) fun r2 s2 jC=>?_
   ·obtain⟨ol,gl,cl,nl,dl⟩:=qr
    obtain⟨c0,d0,IH,we⟩:=ol;simp only at cl dl;subst cl;subst dl;have wg:(s.heap.push (b7 led)).get? l=some {cls:=.type "list",dict:=d0,data:=.seq items nl,slots:=we}:=ph _ gl;have x1:=F.sub_list_set;have x2:=F.sub_list_frozenset;have x3:(Value.type "list" == Value.type "dict")=false:=by decide
    have jD:(s.heap.push (b7 led)).IsList l items:=⟨_,wg,rfl,nl,rfl⟩;have ll:l<s.heap.objs.size:=Ul gl;unfold Builtin.«set.__init__» noKeywords Builtin.Frozenset.updateFrom;generalize wj:pyIter=PI
    wp_walk
    subst wj;refine Xr jD (lj (Y7 ?_));have h3:A.in1.in1.in1.handled=none:=by simp[hh]
    have ez:(s.heap.push (b7 led)).objs.size=s.heap.objs.size+1:=Xq ..;have nI:l≠(s.heap.push (b7 led)).objs.size:=by rw[ez];exact VD (Wh ll)
    refine IE ((YN h3 _ l nI items).toS) (S:=s.heap.objs.size) ?out (led:=led) ns (fun i v hv=>isInt i v hv) tR items.size 0 _ (Wb _)
     ⟨⟨_,Vy _ rfl,rfl,rfl⟩,jD.push _⟩ ?fresh ?fin
    case out =>
     simp only[Lp,V9,X7,not_or,ez];exact⟨VD (Wt _),Xn ll⟩
    case fresh =>
     exact II (led:=led) (ph _ gS)
    case fin =>
     intro s' mv se;obtain⟨h',g',d',kA,qt⟩:=s';obtain rfl:g'=s.gens:=mv.gens;obtain rfl:d'=s.drawn:=mv.drawn;obtain rfl:qt=s.os:=mv.os;show wpAny _ _ _ _ _ _;refine qV ?_;show wpAny _ _ (ret Value.none) _ _ _;refine qV ⟨rfl,h',kA,rfl,se,fun b o hb e=>?_⟩;refine mv.heap b o ?_ (ph _ (ph _ e));simp only[Lp,V9,X7,not_or,ez];exact⟨VD hb,VD (Wh hb)⟩
   ·cases r2 with
    |error e=>exact jC
    |ok wk =>
     cases wk with
     |ret r =>
      obtain⟨rfl,h',kA,rfl,se,kp⟩:=jC
      repeat(any_goals (first|assumption|wp_step))
      exact fin _ _ se kp
     |next=>exact jC
     |brk=>exact jC
     |cont=>exact jC
  |next=>exact hr
  |brk=>exact hr
  |cont=>exact hr
end
theorem aO:Slot "set_iterator" "__next__" "set_iterator.__next__" :=
 .of (owner:="set_iterator") (n:="__next__") (by rw[typeLookup_type,builtinLookup_eq_fast];kernel_rfl) (by decide +kernel) (by decide +kernel) (by decide +kernel)
  (by first|exact .inl (by decide +kernel)|exact .inr (by decide +kernel)) (by rw[isSubtype_type];kernel_rfl)
theorem BS:Slot "set_iterator" "__iter__" "set_iterator.__iter__" :=
 .of (owner:="set_iterator") (n:="__iter__") (by rw[typeLookup_type,builtinLookup_eq_fast];kernel_rfl) (by decide +kernel) (by decide +kernel) (by decide +kernel)
  (by first|exact .inl (by decide +kernel)|exact .inr (by decide +kernel)) (by rw[isSubtype_type];kernel_rfl)
theorem BU:entryFor table "set_iterator.__next__" = some Builtin.«set_iterator.__next__» := entryFor_of_fast (by kernel_rfl)
theorem IP:entryFor table "set_iterator.__iter__" = some Builtin.«dict_keyiterator.__iter__» :=
 entryFor_alias (id':="dict_keyiterator.__iter__") (by kernel_rfl) rfl (by decide +kernel) (by kernel_rfl)
theorem IQ:entryFor table "set.__iter__" = some Builtin.«frozenset.__iter__» :=
 entryFor_alias (id':="frozenset.__iter__") (by kernel_rfl) rfl (by decide +kernel) (by kernel_rfl)
theorem BV(a:Value):argsOk "set_iterator.__next__" ⟨[a],[]⟩:=by unfold argsOk;kernel_rfl
theorem IS(a:Value):argsOk "set_iterator.__iter__" ⟨[a],[]⟩:=by unfold argsOk;kernel_rfl
def bD(h:Heap)(I S:Addr)(first:Value)(i n ep:Nat):Prop:=∃o,h.get? I=some o/\o.cls=.type "set_iterator" /\ o.data=.fields #[first,.int i 0,.ref S,.int n 0,.int ep 0]
theorem bD.typeIs{s:Shared}{I S:Addr}{f:Value}{i n ep:Nat}(x:bD s.heap I S f i n ep):s.TypeIs (.ref I) "set_iterator" := let⟨o,ho,hc,_⟩:=x;⟨o,ho,hc⟩
theorem bD.at{h h':Heap}{I S:Addr}{f:Value}{i n ep:Nat}(x:bD h I S f i n ep)(e:∀o,h.get? I=some o->h'.get? I=some o):bD h' I S f i n ep:=let⟨o,ho,r⟩:=x;⟨o,e _ ho,r⟩
noncomputable def gj(w:World)(S:Addr)(ep:Nat)(es:Array (Int×Value)):Array (Int×Value):=if w.params.followText "set-order" = true then pickOrder (w.params.setOrder S ep) es else es
theorem wm(w:World)(S:Addr)(ep:Nat)(es:Array (Int×Value)):(gj w S ep es).toList.Perm es.toList:=by
 unfold gj;split
 ·exact Im _ _
 ·exact XN _
theorem tT(w:World)(S:Addr)(ep:Nat)(es:Array (Int×Value)):(gj w S ep es).size=es.size:=by
 have:=(wm w S ep es).length_eq;simpa using this
noncomputable def slotAt(t:SetTable)(i:Nat):Nat:=if i=0 then 0 else t.place.getD (i-1) 0+1
structure wo(w:World)(I S:Addr)(o:Obj)(es:Array (Int×Value))(ep:Nat)(t:SetTable)(i:Nat)(h:Heap):Prop where
 set:h.get? S=some o
 it:∃slot:Nat,bD h I S (.int slot 0) i es.size ep/\(w.params.followText "set-order" = false->slot=slotAt t i)
section
variable{prog:Program}{w:World}{A:Around}{I S:Addr}{o:Obj}{es:Array (Int×Value)}{ep:Nat}{t:SetTable}{ks:List Int}
theorem IT(T:bZ t es (fL w) ks){i:Nat}(hi:i<=es.size):below t.place (slotAt t i)=i:=by
 unfold slotAt;split
 ·rename_i h;subst h;exact Ih T.up
 ·rename_i h
  have hl:i-1<t.place.size:=by rw[T.gX];omega
  have e:t.place.getD (i-1) 0=t.place[i-1]:=by simp[Array.getD,hl]
  rw[e,Ig T.up hl];omega
theorem BW{E:aP}{s:Shared}{Q:Option (Value×Nat)->Shared->Prop}(ho:s.heap.get? S=some o)(hd:o.data=.set es ep t)(T:bZ t es (fL w) ks){slot i:Nat}(hi:i<=es.size)(hs:w.params.followText "set-order" = false->slot=slotAt t i)
  (k:∀mY:Nat,(w.params.followText "set-order" = false->i<es.size->mY=slotAt t (i+1))->Q (((gj w S ep es)[i]?).map fun e=>(e.2,mY)) s):wpAny (model prog w) A (setNext S slot i ep) Q E s:=by
 unfold setNext;refine lj (Xh ho hd T.fits ?_);dsimp only;refine lj ?_;unfold setsByText;refine lj (X_ (qV ?_));dsimp only;have mw:(model prog w).w=w:=rfl
 cases q:w.params.followText "set-order" with
 |true =>
  rw[mw,q];simp only[bne_self_eq_false,V8,Xp,XZ];refine lj ?_;unfold setWalk;refine lj (Xh ho hd T.fits ?_);dsimp only;refine lj ?_;unfold setsByText;refine lj (X_ (qV ?_));dsimp only;rw[mw,q,VB rfl];refine lj (X_ (qV ?_));refine qV ?_;have:=k slot fun z=>by rw[q] at z;cases z
  unfold gj at this;rw[VB q] at this;exact this
 |false =>
  rw[mw,q,Uo (by decide)];have vS:=hs q;subst vS;have hb:=IT T hi;rw[hb];refine Yh (fun h=>absurd (show(!t.plain&&decide (es.size>1))=true from h) (by rw[T.qo];simp)) (fun _=>?_);refine lj ?_;refine Yh (c:=(!t.led && !es.isEmpty)=true) (fun h=>absurd h (by rw[T.vX];unfold fL;rw[q];simp)) (fun _=>?_);refine qV (qV ?_);have hk:=k (slotAt t (i+1)) fun _ _=>rfl;unfold gj at hk;rw[Uo (by rw[q];decide)] at hk
  by_cases hl:i<es.size
  ·have hp:i<t.place.size:=by rw[T.gX];exact hl
   rw[VN hl] at hk;rw[VN hl,VN hp]
   have e:slotAt t (i+1)=t.place[i]+1:=by
    unfold slotAt;rw[Uo (by omega),Nat.add_sub_cancel];simp[Array.getD,hp]
   rw[e] at hk;exact hk
  ·rw[WY (by omega)] at hk
   rw[WY (by omega)];exact hk
theorem BX{E:aP}{s:Shared}{a:Addr}{ob:Obj}{vs:Array Value}{Q:Array Value->Shared->Prop}(ho:s.heap.get? a=some ob)(hd:ob.data=.fields vs)(h:Q vs s):wpAny (model prog w) A (fieldsOf (.ref a)) Q E s:=by
 unfold fieldsOf;refine lj (wpAny_load ho ?_);rw[hd];exact qV h
theorem IU(hh:A.handled=none)(fz:S≠I)(hex:o.ExactSet)(hd:o.data=.set es ep t)(T:bZ t es (fL w) ks):
  Walks prog w A I [I,S] [I] es.size (fun i v=>∃e,(gj w S ep es)[i]?=some e/\v=e.2) (wo w I S o es ep t) where
 sub:=fun b hb=>by simp at hb;simp[hb]
 frame:=fun i h h' st hk=>⟨hk S (by simp) _ st.set,let⟨slot,x,y⟩:=st.it;⟨slot,x.at fun o e=>hk I (by simp) o e,y⟩⟩
 item:=fun i s Q E hi st hQ=>by
  obtain⟨slot,hit,hs⟩:=st.it;obtain⟨oi,oZ,hc,mZ⟩:=id hit;unfold pyNext
  refine lj (wpAny_attempt (Xc (name:=Str.ofString "__next__") hit.typeIs aO
   (Xd aO hit.typeIs BU ?_ (BV _))))
  unfold Builtin.«set_iterator.__next__»;refine lj (m:=slotArgs _ _ _) (qV ?_);refine lj (BX oZ mZ ?_);dsimp only;refine lj (YY st.set hd T.fits ?_);rw[Uo (by simp)];refine lj (BW st.set hd T (slot:=slot) (i:=i) (by omega) hs fun mY hn=>?_);have ei:(gj w S ep es)[i]?=some ((gj w S ep es)[i]'(by rw[tT];exact hi)):=VN _;rw[ei];dsimp only [Option.map];refine lj (Yx oZ mZ (by simp) ?_);have fK:=Wk (Obj.mapFields (·.setIfInBounds 0 (rawInt mY))) oZ (YG (XA mZ _));have wq:=XA mZ (·.setIfInBounds 0 (rawInt (mY:Int)));refine lj (Yx fK wq (by simp) ?_);have eA:=Wk (Obj.mapFields (·.setIfInBounds 1 (rawInt ((i:Int)+1)))) fK (YG (XA wq _))
  have hd2:=XA wq (·.setIfInBounds 1 (rawInt ((i:Int)+1)));refine qV ⟨_,rfl,qV (hQ _ _ s.toks ⟨_,ei,rfl⟩ ⟨?_,mY,⟨_,eA,?_,?_⟩,fun z=>hn z hi⟩ fun b ob hb e=>?_)⟩
  ·rw[WH _ _ (Xv fz),WH _ _ (Xv fz)];exact st.set
  ·exact(Zm ..).trans ((Zm ..).trans hc)
  ·rw[hd2];simp[rawInt]
  ·have hb':I≠b:=fun z=>hb (by simp[z])
   rw[WH _ _ hb',WH _ _ hb'];exact e
 done:=fun s Q E st hQ=>by
  obtain⟨slot,hit,hs⟩:=st.it;obtain⟨oi,oZ,hc,mZ⟩:=id hit;unfold pyNext
  refine lj (wpAny_attempt (Xc (name:=Str.ofString "__next__") hit.typeIs aO
   (Xd aO hit.typeIs BU ?_ (BV _))))
  unfold Builtin.«set_iterator.__next__»;refine lj (m:=slotArgs _ _ _) (qV ?_);refine lj (BX oZ mZ ?_);dsimp only;refine lj (YY st.set hd T.fits ?_);rw[Uo (by simp)];refine lj (BW st.set hd T (slot:=slot) (i:=es.size) (ua _) hs fun mY hn=>?_);rw[WY (by rw[tT];exact ua _)];dsimp only [Option.map];refine lj (Yx oZ mZ (by simp) ?_);show wpAny _ _ (newExc (.type "StopIteration") [] >>= _) _ _ _;refine lj ?_;simp only[newExc,newTuple];refine lj (Wn ?_ (by size_fits));refine lj (m:=firstArgMember _ _) (Z_ (a:=Value.none) (by first|rfl|(simp only[firstArgMember];rfl)) ?_);refine Wn ?_ (by size_fits)
  simp only[raiseNew];refine lj (wpAny_handled ?_);rw[show A.in1.handled=none from hh];refine lj (qV (wpAny_throw ?_));refine lj (wpAny_isInstance (T:="StopIteration") (b:=true) ⟨_,Vy _ rfl,rfl⟩ isSubtype_stop ?_);refine qV (hQ _ s.toks fun b ob hb e=>?_);have hb':b≠I:=fun z=>hb (by simp[z]);exact(((VW ..).extBut.push _).push _) b ob hb' e
 self:=fun i s Q E st hQ=>by
  obtain⟨slot,hit,_⟩:=st.it;refine wpAny_pyIter_slot hit.typeIs BS (Xd BS hit.typeIs IP ?_ (IS _));show wpAny _ _ (ret (.ref I)) _ _ s;exact qV ⟨_,rfl, "set_iterator",_,hit.typeIs,aO.lookup,hQ⟩
theorem IV{E:aP}{s:Shared}{Q:Bool->Shared->Prop}(ho:s.heap.get? S=some o)(hd:o.data=.set es ep t)(T:bZ t es (fL w) ks)(k:Q false s):wpAny (model prog w) A (setDrawn S) Q E s:=by
 unfold setDrawn;refine lj (Xh ho hd T.fits ?_);dsimp only;refine lj ?_;unfold setsByText;refine lj (X_ (qV ?_));refine qV ?_;have e:(!(model prog w).w.params.followText "set-order" && (!t.plain&&decide (es.size>1)))=false:=by rw[T.qo];simp
 exact e▸k
theorem IW{E:aP}{s:Shared}{Q:aP}(ho:s.heap.get? S=some o)(hex:o.ExactSet)(hd:o.data=.set es ep t)(T:bZ t es (fL w) ks)
  (k:∀h',(∀b ob,s.heap.get? b=some ob->h'.get? b=some ob)->wo w s.heap.objs.size S o es ep t 0 h'->Q (.ref s.heap.objs.size) {s with heap:=h'}):wpAny (model prog w) A (pyIter (.ref S)) Q E s:=by
 have tS:s.TypeIs (.ref S) "set" := ⟨o,ho,hex.1⟩;refine wpAny_pyIter_slot tS F.slot_set_iter (Xd F.slot_set_iter tS IQ ?_ (F.args_set_iter_1 _));unfold Builtin.«frozenset.__iter__»;refine lj (m:=Builtin.Frozenset.slot0 _ _) (qV (a:=S) ?_);refine lj (m:=Builtin.Frozenset.sizeOf _) ?_;unfold Builtin.Frozenset.sizeOf;refine lj (YY ho hd T.fits (qV ?_));refine lj (IV ho hd T ?_);simp only[V8,Xp];refine lj (qV ?_);refine lj (wpAny_setEpoch_of ho hd T.fits ?_);refine lj (m:=newFields _ _) (Wn (qV ⟨_,rfl, "set_iterator",_,⟨_,Vy _ rfl,rfl⟩,aO.lookup,?_⟩));refine k _ (fun b ob e=>ph _ e) ⟨ph _ ho,0,⟨_,Vy _ rfl,rfl,rfl⟩,fun _=>rfl⟩
end
section
variable{prog:Program}{w:World}{A:Around}{S:Addr}{o:Obj}{es:Array (Int×Value)}{ep:Nat}{t:SetTable}{ks:List Int}
theorem IX{E:aP}{s:Shared}{Q:Bool->Shared->Prop}(tS:s.TypeIs (.ref S) "set")(k:Q false s):wpAny (model prog w) A (Builtin.List.listLengthHint (.ref S)) Q E s:=by
 unfold Builtin.List.listLengthHint;refine lj (YT tS F.slot_set_len.lookup ?_);generalize wt:("set.__len__" : String)=IY
 wp_delta
 rw[show splitId IY=some ("set", "__len__") from by subst wt;decide +kernel];subst wt;refine lj (wpAny_isInstance (T:="set") (b:=true) tS (by rw[isSubtype_type];kernel_rfl) ?_);refine Yh (fun tM=>absurd tM (by decide)) (fun _=>?_);refine Yh (fun _=>?_) (fun tM=>absurd (by decide +kernel) tM);refine lj (Y1 tS ?_);exact qV k
theorem IZ{E:aP}{s:Shared}{Q:List Value->Shared->Prop}(hh:A.handled=none)(ho:s.heap.get? S=some o)(hex:o.ExactSet)(hd:o.data=.set es ep t)(T:bZ t es (fL w) ks)(hn:es.size<=1000)
  (h:∀(h':Heap)(tk:Nat),(∀b ob,s.heap.get? b=some ob->h'.get? b=some ob)->s.heap.objs.size<=h'.objs.size->Q ((gj w S ep es).toList.map (·.2)) {s with heap:=h',toks:=tk}):wpAny (model prog w) A (collect (.ref S)) Q E s:=by
 have tS:s.TypeIs (.ref S) "set" := ⟨o,ho,hex.1⟩;have lS:S<s.heap.objs.size:=Ul ho;unfold collect;refine lj (Y7 (Ws F.entry_proto_collect ?_));rw[Wd F.plain_proto_collect _];show wpAny _ A.in1 (newList [] >>= fun l=>again (.builtin "list.__iadd__" ⟨[l,.ref S],[]⟩)) _ _ s;refine lj (Wn ?_);refine qV ⟨Xf Yy _,Ws F.entry_list_iadd ?_⟩;rw[Wd Yy _];generalize tU:({s with heap:=s.heap.push {cls:=.type "list",data:=.seq ([]:List Value).toArray}}:Shared)=s1;have fK:s1.heap.get? S=some o:=by rw[<-tU];exact ph _ ho
 have gL:s1.heap.get? s.heap.objs.size=some {cls:=.type "list",data:=.seq ([]:List Value).toArray}:=by rw[<-tU];exact Vy _ rfl
 have z1:s1.heap.objs.size=s.heap.objs.size+1:=by rw[<-tU];exact Xq ..
 show wpAny _ A.in1 (Builtin.List.listExtendWith (.ref s.heap.objs.size) (.ref S) (.ref s.heap.objs.size)) _ _ _;unfold Builtin.List.listExtendWith;refine lj (Y1 (T:="set") ⟨o,fK,hex.1⟩ ?_);have h1:Builtin.List.listSameRef (.ref s.heap.objs.size) (.ref S)=false:=by simp[Builtin.List.listSameRef];exact Xn lS
 have h2:(Value.type "set" == Value.type "list")=false:=by decide
 have h3:(Value.type "set" == Value.type "tuple")=false:=by decide
 simp only[h1,h2,h3,Zt,V8,Xp];refine lj (IW fK hex hd T fun eX m8 jj=>?_);refine lj (VX (IX ⟨o,m8 _ _ fK,hex.1⟩ ?_));have fz:S≠s1.heap.objs.size:=by rw[z1];exact VD (Wh lS)
 have W:=(IU (prog:=prog) (A:=A.in1) (I:=s1.heap.objs.size) (by simp[hh]) fz hex hd T).toS
 have I_:s.heap.objs.size∉[s1.heap.objs.size,S]:=by
  simp only[Lp,V9,X7,not_or,z1];exact⟨VD (Wt _),Xn lS⟩
 have key:∀(qu:Heap)(c:Nat),wo w s1.heap.objs.size S o es ep t 0 qu->qu.get? s.heap.objs.size=some {cls:=.type "list",data:=.seq #[] c}->(∀b ob,b≠s.heap.objs.size->eX.get? b=some ob->qu.get? b=some ob) →
   codeAny (model prog w) A (.builtin "list.extend.loop" ⟨[.ref s.heap.objs.size,.ref s1.heap.objs.size,.ref s.heap.objs.size],[]⟩) (fun r s'=>match r with
    |.ok (.ret v)=>wpAny (model prog w) A (match v with
     |.ref a=>do match(<- load a).data with
      |.seq xs _=>pure xs.toList
      |_=>unsupported "internal:collect"
     |_=>unsupported "internal:collect") Q E s'
    |.ok _=>False
    |.error e=>E e s') {s1 with heap:=qu}:=by
  intro qu c st hL kp;refine codeAny_extend_loopS W (by rw[WU];omega) _ I_ _ es.size 0 _ #[] c rfl (Ww _) st hL (ItemsOf.nil _) fun s' bG c' hm kB gY=>?_;show wpAny _ A (load s.heap.objs.size >>= _) _ _ s';refine lj (wpAny_load kB (qV ?_))
  have ea:bG.toList=(gj w S ep es).toList.map (·.2):=by
   refine XG fun i=>?_;rw[Lq]
   by_cases hi:i<es.size
   ·have BY:i<bG.size:=by rw[gY.1];exact hi
    obtain⟨e,he,hv⟩:=gY.2 i _ (VN BY);rw[VT,VN BY,VT,he,hv];rfl
   ·rw[VT,WY (by rw[gY.1];omega),VT,WY (by rw[tT];omega)];rfl
  rw[ea];obtain⟨Uc,g3,d3,Ud,Ja⟩:=s';obtain rfl:g3=s1.gens:=hm.gens;obtain rfl:d3=s1.drawn:=hm.drawn;obtain rfl:Ja=s1.os:=hm.os;subst tU;refine h _ _ (fun b ob e=>?_) (WZ (Ul kB));have hb:b<s.heap.objs.size:=Ul e;refine hm.heap b ob ?_ (kp b ob (VD hb) (m8 b ob (ph _ e)));simp only[Lp,V9,X7,not_or];exact⟨VD hb,by show b≠(s.heap.push _).objs.size;rw[Xq];exact VD (Wh hb)⟩
 have wu:=m8 _ _ gL;refine Yh (fun _=>?_) (fun _=>qV ⟨Xf F.plain_extend_loop _,key _ _ jj wu (fun b ob _ e=>e)⟩);refine lj (Y5 ?_);refine lj ?_;show wpAny _ _ (updateSeq s.heap.objs.size (·.push .none) >>= fun _=>updateSeq s.heap.objs.size (·.pop)) _ _ _;refine lj (Yi wu rfl ?_);have BZ:=Wk (Obj.mapSeq (·.push Value.none)) wu rfl;refine Yi (hz:=by seq_fits) BZ rfl ?_;have Jb:=Wk (Obj.mapSeq (·.pop)) BZ rfl
 have kC:∀b ob,b≠s.heap.objs.size->eX.get? b=some ob->((eX.update s.heap.objs.size (Obj.mapSeq (·.push Value.none))).update s.heap.objs.size (Obj.mapSeq (·.pop))).get? b=some ob :=
  fun b ob hb e=>(WH _ _ (Xv hb)).trans ((WH _ _ (Xv hb)).trans e)
 refine qV ⟨Xf F.plain_extend_loop _,key _ _ ?_ Jb kC⟩;obtain⟨slot,it,sl⟩:=jj.it;exact⟨kC _ _ (VD lS) jj.set,slot,it.at fun ob e=>kC _ _ (by rw[z1];exact Xn (Wt _)) e,sl⟩
end
end LJS
namespace L2
open PySem PySem.Spec PyProof.Rows
abbrev Key:=Sum Int Str
noncomputable def o7:Key->Value->Bool
 |.inl k,v=>Value.isInt k v
 |.inr x,v=>Value.isStrOf x v
noncomputable def wx(w:World):Key->Int
 |.inl k=>hashInt k
 |.inr x=>hashStr w x
theorem kR:∀{k:Key}{v:Value},o7 k v=true->(∃i t,k=Sum.inl i/\v=Value.int i t)\/(∃x t,k=Sum.inr x/\v=Value.str x t)
 |.inl i,v,h=>by
  obtain⟨t,e⟩:=Value.isInt_shape (k:=i) (v:=v) h;exact .inl ⟨i,t,rfl,e⟩
 |.inr x,v,h=>by
  obtain⟨t,e⟩:=Value.isStrOf_shape (x:=x) (v:=v) h;exact .inr ⟨x,t,rfl,e⟩
theorem Jc(i:Int)(t:Tok):o7 (.inl i) (.int i t)=true:=by simp[o7,Value.isInt]
theorem Jd(x:Str)(t:Tok):o7 (.inr x) (.str x t)=true:=by simp[o7,Value.isStrOf]
theorem Je(a b:Int):decide ((Sum.inl a:Key)=Sum.inl b)=(a==b):=by
 by_cases e:a=b
 ·subst e;simp
 ·have h:¬ (Sum.inl a:Key)=Sum.inl b:=fun q=>e (Sum.inl.inj q)
  rw[C7 h];exact(beq_eq_false_iff_ne.mpr e).symm
theorem Jf(a b:Str):decide ((Sum.inr a:Key)=Sum.inr b)=decide (a=b):=by
 by_cases e:a=b
 ·subst e;simp
 ·have h:¬ (Sum.inr a:Key)=Sum.inr b:=fun q=>e (Sum.inr.inj q)
  rw[C7 h,C7 e]
theorem Jg(a:Int)(b:Str):decide ((Sum.inl a:Key)=Sum.inr b)=false:=C7 (fun q=>nomatch q)
theorem Jh(a:Str)(b:Int):decide ((Sum.inr a:Key)=Sum.inl b)=false:=C7 (fun q=>nomatch q)
noncomputable def gv(prog:Program)(w:World):PySem.KeyKind prog w Key where
 is:=o7
 hash:=wx w
 inj:=fun v a b ha hb=>by
  rcases kR ha with⟨i,t,rfl,rfl⟩|⟨x,t,rfl,rfl⟩
  ·rcases kR hb with⟨j,u,rfl,e⟩|⟨y,u,rfl,e⟩
   ·injection e with e1 _;rw[e1]
   ·exact nomatch e
  ·rcases kR hb with⟨j,u,rfl,e⟩|⟨y,u,rfl,e⟩
   ·exact nomatch e
   ·injection e with e1 _;rw[e1]
 byValue:=fun k v h=>by
  rcases kR h with⟨i,t,rfl,rfl⟩|⟨x,t,rfl,rfl⟩<;>rfl
 pyHash:=fun hv h=>by
  rcases kR hv with⟨i,t,rfl,rfl⟩|⟨x,t,rfl,rfl⟩
  ·exact wpAny_pyHash_int h
  ·exact wpAny_pyHash_str h
 eqBool:=fun hu hv h=>by
  rcases kR hu with⟨i,t,rfl,rfl⟩|⟨x,t,rfl,rfl⟩
  ·rcases kR hv with⟨j,u,rfl,rfl⟩|⟨y,u,rfl,rfl⟩
   ·rw[Je] at h;exact wpAny_eqBool_int h
   ·rw[Jg] at h;exact Y8 i t y u _ _ _ _ h
  ·rcases kR hv with⟨j,u,rfl,rfl⟩|⟨y,u,rfl,rfl⟩
   ·rw[Jh] at h;exact Y9 x t j u _ _ _ _ h
   ·rw[Jf] at h;exact wpAny_eqBool_str h
 «strs» := fun k x t v h=>by
  rcases kR h with⟨i,u,rfl,e⟩|⟨y,u,rfl,e⟩
  ·exact nomatch e
  ·injection e with e1 _
   subst e1;cases v<;>rfl
theorem Ji(prog:Program)(w:World)(i:Int)(t:Tok):(gv prog w).is (.inl i) (.int i t)=true:=Jc i t
theorem Jj(prog:Program)(w:World)(x:Str)(t:Tok):(gv prog w).is (.inr x) (.str x t)=true:=Jd x t
inductive V where
 |non|bl (b:Bool)|int (i:Int)|str (x:Str)|byt (b:Array UInt8)|flt (b:UInt64)|ref (a:Addr)|ty (n:String)
 deriving DecidableEq
def RelV:V->Value->Prop
 |.non,u=>u=Value.none
 |.bl b,u=>u=Value.bool b
 |.int i,u=>∃t,u=Value.int i t
 |.str x,u=>∃t,u=Value.str x t
 |.byt b,u=>∃t,u=Value.bytes b t
 |.flt b,u=>∃t,u=Value.float b t
 |.ref a,u=>u=Value.ref a
 |.ty n,u=>u=Value.type n
abbrev Vals:List V->List Value->Prop:=Paired RelV
theorem Vals.length{xs:List V}{us:List Value}(r:Vals xs us):xs.length=us.length:=Paired.length r
theorem Vals.get:∀{xs:List V}{us:List Value}{i:Nat}{x:V},Vals xs us->xs[i]?=some x->∃u,us[i]?=some u/\RelV x u
 |_,_,_,_,.nil,e=>by simp at e
 |_,_,0,_,.cons r _,e=>by simp at e;subst e;exact⟨_,rfl,r⟩
 |_,_,i+1,x,.cons _ t,e=>by
  obtain⟨u,h1,h2⟩:=Vals.get (i:=i) (x:=x) t (by simpa using e);exact⟨u,by simpa using h1,h2⟩
theorem Vals.set{x:V}{u:Value}(r:RelV x u):∀{xs:List V}{us:List Value}(i:Nat),Vals xs us->Vals (xs.set i x) (us.set i u)
 |_,_,_,.nil=>.nil
 |_,_,0,.cons _ t=>.cons r t
 |_,_,i+1,.cons q t=>.cons q (Vals.set r i t)
theorem Vals.append:∀{xs ys:List V}{us ws:List Value},Vals xs us->Vals ys ws->Vals (xs++ys) (us++ws)
 |_,_,_,_,.nil,s=>s
 |_,_,_,_,.cons r t,s=>.cons r (Vals.append t s)
theorem Vals.take:∀{xs:List V}{us:List Value}(n:Nat),Vals xs us->Vals (xs.take n) (us.take n)
 |_,_,0,_=>.nil
 |_,_,_+1,.nil=>.nil
 |_,_,n+1,.cons r t=>.cons r (Vals.take n t)
theorem Vals.drop:∀{xs:List V}{us:List Value}(n:Nat),Vals xs us->Vals (xs.drop n) (us.drop n)
 |_,_,0,r=>r
 |_,_,_+1,.nil=>.nil
 |_,_,n+1,.cons _ t=>Vals.drop n t
def dE:Option V->Option Value->Prop
 |some v,some u=>RelV v u
 |none,none=>True
 |_,_=>False
def KV{κ:Type}:List (κ×V)->List (κ×Value)->Prop:=Paired fun(p:κ×V) (q:κ×Value)=>p.1=q.1/\RelV p.2 q.2
noncomputable def kV:Key->V
 |.inl i=>.int i
 |.inr x=>.str x
inductive HO where
 |lst (xs:List V)
 |tup (xs:List V)
 |dK (ah:List (Key×V))|dT (ah:List (List Key×V))
 |set (S:Int->Bool) (n:Nat)
 |ins (C dx:Addr) (fs:List (Str×V))
 |own (x:Addr)
 |xd (fs:List (Str×V))
 |met (f x:Addr)
 |rng (lo hi:Int)
 |frz (o:Obj) (u:HO)
 |tbl (ps:Array Value)
 |ext (φ:Heap->Prop)
abbrev Hp:=Addr->Option HO
noncomputable def upd(H:Hp)(a:Addr)(o:HO):Hp:=fun b=>if b=a then some o else H b
theorem bE{H:Hp}{a:Addr}{o:HO}:upd H a o a=some o:=by unfold upd;rw[VB rfl]
theorem aU{H:Hp}{a b:Addr}{o:HO}(h:b≠a):upd H a o b=H b:=by unfold upd;rw[Uo h]
theorem Jk{H:Hp}{a b:Addr}{o u:HO}(h:H a=some o)(h':H b=some u)(d:o≠u):a≠b:=by
 intro e;subst e;rw[h] at h';exact d (VY h')
theorem cL{H:Hp}{a b:Addr}{o:HO}(h:H a=some o)(h':H b=none):a≠b:=by
 intro e;subst e;rw[h] at h';cases h'
section
variable(P:Program)(w:World)
def aL(H:Hp)(h:Heap)(a:Addr):HO->Prop
 |.lst xs=>xs.length<=sizeLine/\∃(ar:List Value)(n:Nat),Vals xs ar/\h.get? a=some {cls:=.type "list",data:=.seq ar.toArray n}
 |.tup xs=>xs.length<=sizeLine/\∃ar:List Value,Vals xs ar/\IsTup h a ar.toArray
 |.dK ah=>ah.length<=sizeLine/\(a==sysModules)=false/\∃vs,KV ah vs/\h.DictOf (gv P w) a vs
 |.dT ah=>ah.length<=sizeLine/\(a==sysModules)=false/\∃xs:List (List Key×Addr×Value),
   Paired (fun(p:List Key×V) (q:List Key×Addr×Value)=>p.1=q.1/\H q.2.1=some (.tup (p.1.map kV))/\RelV p.2 q.2.2) ah xs ∧
   ∃o es ep,h.get? a=some o/\o.ExactDict/\o.data=.dict es ep/\es.toList=xs.map (entryOfKey (tupleKind (gv P w)))/\(xs.map (·.1)).Nodup
 |.set S n=>h.SetOf (intKind P w) a S n
 |.ins C dx fs=>H dx=some (.own a)/\fs.length<=1000/\dx≠a/\h.get? a=some (PySem.W.instObj C dx) ∧
   ∃mA,h.Ns1 dx mA/\(∀f,dE (fs.lookup f) (mA f))/\PySem.Within mA (fs.map (·.1))
 |.own _=>∃o,h.get? a=some o
 |.xd fs=>∃mA,h.Ns1 a mA/\∀f,dE (fs.lookup f) (mA f)
 |.rng lo hi=>∃t u v,h.get? a=some {cls:=.type "range",data:=.fields #[.int lo t,.int hi u,.int 1 v]}
 |.frz o u=>h.get? a=some o/\aL H h a u
 |.tbl ps=>h.get? a=some {cls:=.none,data:=.fields ps}
 |.met f x=>h.get? a=some (PySem.W.methodObj (.ref f) (.ref x))
 |.ext φ=>φ h/\(∃o,h.get? a=some o)/\∀h1 h2:Heap,φ h1->(∀o,h1.get? a=some o->h2.get? a=some o)->φ h2
def c8(H:Hp)(h:Heap):Prop:=∀a o,H a=some o->aL P w H h a o
end
section
variable{P:Program}{w:World}{H H':Hp}{h h':Heap}{a:Addr}{o:HO}
theorem aL.lt(x:aL P w H h a o):a<h.objs.size:=by
 cases o with
 |lst xs=>obtain⟨_,_,_,_,e⟩:=x;exact Ul e
 |tup xs=>obtain⟨_,_,_,p⟩:=x;exact p.lt
 |dK ah=>obtain⟨_,_,_,_,o,_,_,e,_⟩:=x;exact Ul e
 |dT ah=>obtain⟨_,_,_,_,o,_,_,e,_⟩:=x;exact Ul e
 |set S n=>obtain⟨o,_,_,_,e,_⟩:=x;exact Ul e
 |ins C dx fs=>obtain⟨_,_,_,e,_⟩:=x;exact Ul e
 |own y=>obtain⟨_,e⟩:=x;exact Ul e
 |xd fs=>obtain⟨_,⟨_,_,_,e,_⟩,_⟩:=x;exact Ul e
 |rng lo hi=>obtain⟨_,_,_,e⟩:=x;exact Ul e
 |frz ob u=>obtain⟨e,_⟩:=x;exact Ul e
 |tbl ps=>exact Ul (show h.get? a=some _ from x)
 |met f y=>exact Ul (show h.get? a=some _ from x)
 |ext φ=>obtain⟨_,⟨_,e⟩,_⟩:=x;exact Ul e
theorem Paired.m9{α β:Type}{F G:α->β->Prop}:∀{l₁:List α}{l₂:List β},Paired F l₁ l₂->(∀a b,F a b->G a b)->Paired G l₁ l₂
 |_,_,.nil,_=>.nil
 |_,_,.cons r t,f=>.cons (f _ _ r) (Paired.m9 t f)
theorem aL.eY(x:aL P w H h a o)(k:∀b u,(b=a\/H b=some (.own a))->h.get? b=some u->h'.get? b=some u)
  (ho:∀b,H b=some (.own a)->H' b=some (.own a)) (ht:∀b xs,H b=some (.tup xs)->H' b=some (.tup xs)):aL P w H' h' a o:=by
 induction o with
 |lst xs=>obtain⟨z,ar,n,r,e⟩:=x;exact⟨z,ar,n,r,k _ _ (.inl rfl) e⟩
 |tup xs=>obtain⟨z,ar,r,ob,e,c⟩:=x;exact⟨z,ar,r,ob,k _ _ (.inl rfl) e,c⟩
 |dK ah=>obtain⟨z,y,vs,r,ob,es,ep,e,c⟩:=x;exact⟨z,y,vs,r,ob,es,ep,k _ _ (.inl rfl) e,c⟩
 |dT ah =>
  obtain⟨z,y,xs,r,ob,es,ep,e,c⟩:=x;exact⟨z,y,xs,Paired.m9 r fun p q z=>⟨z.1,ht _ _ z.2.1,z.2.2⟩,ob,es,ep,k _ _ (.inl rfl) e,c⟩
 |set S n=>obtain⟨ob,es,ep,t,e,c⟩:=x;exact⟨ob,es,ep,t,k _ _ (.inl rfl) e,c⟩
 |ins C dx fs =>
  obtain⟨d,z,ne,e,mA,⟨od,es,ep,e2,c⟩,r⟩:=x;exact⟨ho _ d,z,ne,k _ _ (.inl rfl) e,mA,⟨od,es,ep,k _ _ (.inr d) e2,c⟩,r⟩
 |own y=>obtain⟨ob,e⟩:=x;exact⟨ob,k _ _ (.inl rfl) e⟩
 |xd fs=>obtain⟨mA,⟨od,es,ep,e,c⟩,r⟩:=x;exact⟨mA,⟨od,es,ep,k _ _ (.inl rfl) e,c⟩,r⟩
 |rng lo hi=>obtain⟨t,u,v,e⟩:=x;exact⟨t,u,v,k _ _ (.inl rfl) e⟩
 |frz ob u ih=>obtain⟨e,q⟩:=x;exact⟨k _ _ (.inl rfl) e,ih q⟩
 |tbl ps =>
  have e:h.get? a=some {cls:=.none,data:=.fields ps}:=x;show h'.get? a=some {cls:=.none,data:=.fields ps};exact k a _ (.inl rfl) e
 |met f y =>
  have e:h.get? a=some (PySem.W.methodObj (.ref f) (.ref y)):=x;show h'.get? a=some (PySem.W.methodObj (.ref f) (.ref y));exact k a _ (.inl rfl) e
 |ext φ=>obtain⟨p,⟨o,e⟩,st⟩:=x;exact⟨st _ _ p fun o q=>k _ _ (.inl rfl) q,⟨o,k _ _ (.inl rfl) e⟩,st⟩
theorem c8.lt(x:c8 P w H h)(e:H a=some o):a<h.objs.size:=(x a o e).lt
theorem c8.fresh(x:c8 P w H h)(e:h.objs.size<=a):H a=none:=by
 cases q:H a with
 |none=>rfl
 |some u=>exact absurd (VG (x.lt q) e) (W9 _)
theorem c8.kept(x:c8 P w H h)(k:∀b u,h.get? b=some u->h'.get? b=some u):c8 P w H h':=fun a o e =>
 (x a o e).eY (fun b u _ q=>k b u q) (fun _ q=>q) fun _ _ q=>q
theorem c8.laid(x:c8 P w H h)(k:∀b u,h.get? b=some u->h'.get? b=some u)(hp:h.objs.size<=a)(new:aL P w (upd H a o) h' a o):c8 P w (upd H a o) h':=fun b u e=>by
 have hn:=x.fresh hp
 by_cases hb:b=a
 ·subst hb;rw[bE] at e;cases e;exact new
 ·rw[aU hb] at e
  exact(x b u e).eY (fun c v _ q=>k c v q) (fun c q=>by rw[aU (cL q hn)];exact q) fun c xs q=>by rw[aU (cL q hn)];exact q
end
def Rd(H:Hp)(a:Addr)(u:HO):Prop:=H a=some u\/∃o,H a=some (.frz o u)
theorem Rd.ok{P:Program}{w:World}{H:Hp}{h:Heap}{a:Addr}{u:HO}(r:Rd H a u)(x:c8 P w H h):aL P w H h a u:=by
 rcases r with r|⟨o,r⟩
 ·exact x a u r
 ·obtain⟨_,q⟩:=x a _ r
  exact q
def qv:Option HO->Prop
 |some (.lst _)=>True
 |some (.dK _)=>True
 |some (.dT _)=>True
 |some (.set _ _)=>True
 |some (.ins _ _ _)=>True
 |some (.ext _)=>True
 |_=>False
section
variable{P:Program}{w:World}{H:Hp}{h h':Heap}{x e:Addr}{o':HO}
theorem c8.write(ok:c8 P w H h)(mu:qv (H x))(he:e=x\/H e=some (.own x))(k:∀b u,b≠e->h.get? b=some u->h'.get? b=some u)(kD:∃u,h'.get? e=some u)
  (new:aL P w (upd H x o') h' x o'):c8 P w (upd H x o') h':=fun b u q=>by
 have qw:∀c y,H c=some (.own y)->c≠x:=fun c y r z=>by subst z;rw[r] at mu;exact mu
 have wy:∀c xs,H c=some (.tup xs)->c≠x:=fun c xs r z=>by subst z;rw[r] at mu;exact mu
 by_cases hb:b=x
 ·subst hb;rw[bE] at q;cases q;exact new
 ·rw[aU hb] at q
  by_cases m_:b=e
  ·have q':H b=some (.own x):=by
    rcases he with z|z
    ·exact absurd (m_.trans z) hb
    ·rw[m_];exact z
   rw[q] at q';cases q';obtain⟨v,hv⟩:=kD;exact⟨v,by rw[m_];exact hv⟩
  ·refine(ok b u q).eY (fun c v hc r=>k c v ?_ r) (fun c r=>by rw[aU (qw c b r)];exact r) fun c xs r=>by rw[aU (wy c xs r)];exact r
   rcases hc with rfl|hc
   ·exact m_
   ·rintro rfl
    rcases he with z|z
    ·exact qw c b hc z
    ·rw[hc] at z;cases z;exact hb rfl
end
structure Un(fs ex:List Addr)(H H':Hp)(h h':Heap):Prop where
 keep:∀b o,h.get? b=some o->H b=none->b∉fs->b∉ex->h'.get? b=some o
 slot:∀b o,h.get? b=some o->H b=none->b∈fs->b∉ex->∃sl,h'.get? b=some {o with slots:=sl}
 free:∀b o,h.get? b=some o->H b=none->b∉ex->H' b=none
 there:∀b o,h.get? b=some o->b∉ex->∃o',h'.get? b=some o'
 eB:∀b xs,H b=some (.tup xs)->H' b=some (.tup xs)
 eZ:∀b o u,H b=some (.frz o u)->H' b=some (.frz o u)
 e7:∀b ps,H b=some (.tbl ps)->∃more,H' b=some (.tbl (ps++more))
section
variable{fs Jl ex Ue:List Addr}{H H1 H2:Hp}{h h1 h2 h':Heap}{a x e:Addr}{o:HO}
theorem Un.any(u:Un fs ex H H1 h h1){b:Addr}{ob:Obj}(q:h.get? b=some ob)(n:H b=none)(hx:b∉ex):∃sl,h1.get? b=some {ob with slots:=sl}:=by
 by_cases hb:b∈fs
 ·exact u.slot b ob q n hb hx
 ·exact⟨ob.slots,u.keep b ob q n hb hx⟩
theorem Un.kept(k:∀b u,h.get? b=some u->h'.get? b=some u):Un fs ex H H h h' :=
 ⟨fun b ob q _ _ _=>k b ob q,fun b ob q _ _ _=>⟨ob.slots,k b ob q⟩,fun _ _ _ n _=>n,fun b ob q _=>⟨ob,k b ob q⟩,fun _ _ q=>q,fun _ _ _ q=>q,fun _ ps q=>⟨#[],by rw[q];simp⟩⟩
theorem Un.refl:Un fs ex H H h h:=Un.kept fun _ _ q=>q
theorem Un.laid(k:∀b u,h.get? b=some u->h'.get? b=some u)(hp:h.objs.size<=a)(hn:H a=none):Un fs ex H (upd H a o) h h' where
 keep:=fun b u q _ _ _=>k b u q
 slot:=fun b u q _ _ _=>⟨u.slots,k b u q⟩
 free:=fun b u q n _=>by rw[aU (VD (VG (Ul q) hp))];exact n
 there:=fun b u q _=>⟨u,k b u q⟩
 eB:=fun b xs q=>by rw[aU (cL q hn)];exact q
 eZ:=fun b u xs q=>by rw[aU (cL q hn)];exact q
 e7:=fun b ps q=>⟨#[],by rw[aU (cL q hn),q];simp⟩
theorem Un.write(mu:qv (H x))(he:e=x\/H e=some (.own x))(k:∀b u,b≠e->h.get? b=some u->h'.get? b=some u)(kD:∃u,h'.get? e=some u):Un fs ex H (upd H x o) h h':=by
 have hx:∀b,H b=none->b≠x:=fun b n z=>by subst z;rw[n] at mu;exact mu
 have hb:∀b,H b=none->b≠e:=fun b n z=>by
  subst z;rcases he with r|r
  ·exact hx b n r
  ·rw[n] at r;cases r
 have hm:∀b u,H b=some u->¬ qv (some u)->b≠x:=fun b u q nm z=>by subst z;rw[q] at mu;exact nm mu
 refine⟨fun b u q n _ _=>k b u (hb b n) q,fun b u q n _ _=>⟨u.slots,k b u (hb b n) q⟩,fun b u q n _=>by rw[aU (hx b n)];exact n,fun b u q _=>?_,
  fun b xs q=>by rw[aU (hm b _ q fun z=>z)];exact q,fun b u xs q=>by rw[aU (hm b _ q fun z=>z)];exact q,fun b ps q=>⟨#[],by rw[aU (hm b _ q fun z=>z),q];simp⟩⟩
 by_cases m_:b=e
 ·subst m_;exact kD
 ·exact⟨u,k b u m_ q⟩
end
noncomputable def tV(h:Heap)(H:Hp):List Addr:=(List.range h.objs.size).filter fun a=>(H a).isSome
noncomputable def e8(h:Heap)(H:Hp):Heap:=PySem.W.hideAll h (tV h H)
theorem Jo(h:Heap)(H:Hp):(e8 h H).objs.size=h.objs.size:=PySem.W.hideAll_size _ _
theorem Jp{h:Heap}{H:Hp}{b:Addr}{o:Obj}(e:h.get? b=some o)(n:H b=none):(e8 h H).get? b=some o :=
 PySem.W.hideAll_get _ e fun hm=>by
  have q:(H b).isSome=true:=(VJ.mp hm).2;rw[n] at q;simp at q
theorem Jq{h:Heap}{H:Hp}{b:Addr}{o:Obj}(e:(e8 h H).get? b=some o):h.get? b=some o/\H b=none:=by
 have e':h.get? b=some o:=PySem.W.of_hideAll (tV h H) e;refine⟨e',?_⟩
 cases q:H b with
 |none=>rfl
 |some x =>
  have hm:b∈tV h H:=VJ.mpr ⟨VL.mpr (Ul e'),by simp[q]⟩;have z:(e8 h H).get? b=none:=PySem.W.hideAll_none (tV h H) hm;rw[z] at e;cases e
structure Mod(K:PySem.W.Frag)(mg:Str->Option Value)(base:Heap):Prop where
 l9:K.In base
 glob:base.Ns mainGlobals mg
 blt:∃mb,base.Ns builtinsNs mb/\∀x:Str,x≠"__name__" -> mb x=bootBuiltins x
 nolimit:base.NoLimit
structure Cx where
 prog:Program
 w:World
 K:PySem.W.Frag
 mg:Str->Option Value
 base:Heap
 A:Around
 N:List Str
 s₀:Shared
 H₀:Hp
 env:Env
 outer:List Env
 stack:List Env
 ex:List Addr
 fn:Str->Bool
 calm:Bool
 pn:List (Addr×Obj)
 xe:Value->Shared->Prop
noncomputable def jk(l:List Env):List Addr:=l.filterMap (·.frame)
noncomputable abbrev Cx.fs(X:Cx):List Addr:=jk X.outer
def qx(sc:Scope)(x:Str):Prop:=sc.names.lookup x=some .local\/sc.names.lookup x=some .cell\/sc.names.lookup x=some .free
def Loc(sc:Scope)(x:Str):Prop:=sc.names.lookup x=some .local\/sc.names.lookup x=some .cell
abbrev bV(x:Str):Prop:=(x==("__debug__" : Str))=false
abbrev eC(X:Cx)(x:Str):Prop:=X.fn x=true\/X.env.scope.names.lookup x=some .local
abbrev dF(X:Cx)(e:Expr)(es:List Expr):Prop:=starEach (e::es) X.env=(false,eval e X.env)::starEach es X.env
abbrev eD(X:Cx)(p:Pos)(es:List Expr):Prop:=(backTo p (starEach es X.env)).any (·.1)=false
abbrev av:=List (Addr×Obj)
def Look(env:Env)(h:Heap)(m:Str->Option Value)(x:Str)(u:Value):Prop :=
 (env.kindOf x=some .local/\m x=some u)\/((env.kindOf x=some .cell\/env.kindOf x=some .free)/\∃c,env.cells.lookup x=some c/\h.IsCell c (some u))
structure Cx.Ok(X:Cx):Prop where
 mod:Mod X.K X.mg X.base
 kind:X.env.scope.kind=.function
 glob:X.env.globals=mainGlobals
 blt:X.env.builtins=builtinsNs
 above:X.s₀.heap.objs.size<=X.env.locals
 inj:∀x y c,X.env.cells.lookup x=some c->X.env.cells.lookup y=some c->x=y
 has:∀x,(X.env.kindOf x=some .cell\/X.env.kindOf x=some .free)->∃c,X.env.cells.lookup x=some c
 qy:∀x c,X.fn x=true->X.env.cells.lookup x=some c->X.s₀.heap.objs.size<=c
 hd:X.calm=true->X.A.handled=none
 frames:X.A.frames=some X.stack
 tW:X.stack=X.outer\/(X.stack=X.env::X.outer/\X.env.frame=some X.env.locals)
 B0:∀b∈X.ex,b≠X.env.locals/\∀x c,X.env.cells.lookup x=some c->c≠b
 bs:∀b o,X.base.get? b=some o->X.s₀.heap.get? b=some o/\X.H₀ b=none
 l_:X.base.objs.size<=X.s₀.heap.objs.size
 jE:∀b o,X.base.get? b=some o->b∉X.ex
 kU:∀b∈X.ex,b∉X.fs
 dW:X.s₀.heap.FunFrames X.base X.outer
 nh:∀b∈X.fs,X.H₀ b=none
structure Inv(X:Cx)(pins:av)(σ:List (Option V))(H:Hp)(s:Shared):Prop where
 ok:X.Ok
 os:s.os=X.s₀.os
 bare:AllBare s.gens
 base:Un X.fs X.ex X.H₀ H X.s₀.heap s.heap
 loc:∃m,s.heap.Ns X.env.locals m/\∀(i:Nat)(x:Str)(v:V),X.N[i]?=some x->σ[i]?=some (some v)->qx X.env.scope x->∃u,RelV v u/\Look X.env s.heap m x u
 cell:∀x c,X.env.cells.lookup x=some c->∃v,s.heap.IsCell c v
 free:H X.env.locals=none
 b_:∀x c,X.env.cells.lookup x=some c->H c=none
 pin:∀p∈X.pn++pins,s.heap.get? p.1=some p.2/\H p.1=none/\p.1≠X.env.locals/\p.1∉X.fs/\∀v,p.2.data≠.cell v
 aM:c8 X.prog X.w H s.heap
 len:σ.length=X.N.length
section
variable{X:Cx}{pins:av}{σ:List (Option V)}{H H':Hp}{s:Shared}{h':Heap}
theorem Cx.Ok.wz(ok:X.Ok){b:Addr}{o:Obj}(e:X.base.get? b=some o):b∉X.fs:=fun hb=>by
 have:=(ok.dW.mem hb).1;rw[e] at this;cases this
theorem Inv.bs(I:Inv X pins σ H s):∀b o,X.base.get? b=some o->s.heap.get? b=some o/\H b=none:=fun b o e =>
 ⟨I.base.keep b o (I.ok.bs b o e).1 (I.ok.bs b o e).2 (I.ok.wz e) (I.ok.jE b o e),I.base.free b o (I.ok.bs b o e).1 (I.ok.bs b o e).2 (I.ok.jE b o e)⟩
theorem Inv.bk(I:Inv X pins σ H s):∀b o,X.base.get? b=some o->s.heap.get? b=some o:=fun b o e=>(I.bs b o e).1
theorem Inv.mod(I:Inv X pins σ H s):Mod X.K X.mg X.base:=I.ok.mod
theorem Inv.gw(I:Inv X pins σ H s):X.K.In s.heap:=I.ok.mod.l9.keeps I.bk
theorem Inv.nolimit(I:Inv X pins σ H s):s.heap.NoLimit:=I.ok.mod.nolimit.keeps I.bk
theorem Inv.lt(I:Inv X pins σ H s):X.env.locals<s.heap.objs.size:=let⟨_,hn,_⟩:=I.loc;hn.lt
theorem Inv.sz(I:Inv X pins σ H s):X.s₀.heap.objs.size<=s.heap.objs.size:=V_ I.ok.above (WZ I.lt)
theorem Inv.wA(I:Inv X pins σ H s){a:Addr}(h:s.heap.objs.size<=a):a∉X.fs:=fun hb=>by
 obtain⟨_,o,ho,_⟩:=I.ok.dW.mem hb;exact absurd (VG (Ul ho) (V_ I.sz h)) (W9 _)
theorem Inv.ni(I:Inv X pins σ H s):∀x c,X.env.cells.lookup x=some c->c≠X.env.locals:=fun x c e z=>by
 obtain⟨v,o,ho,hd⟩:=I.cell x c e;obtain⟨m,⟨o',es,ep,jF,Jr,_⟩,_⟩:=I.loc;rw[z,jF] at ho;cases ho;rw[Jr] at hd;cases hd
theorem Inv.dW(I:Inv X pins σ H s):s.heap.FunFrames X.base X.outer:=by
 have all:∀(l:List Env),(∀b∈jk l,b∈X.fs)->X.s₀.heap.FunFrames X.base l->s.heap.FunFrames X.base l:=by
  intro l
  induction l with
  |nil=>intro _ _;trivial
  |cons env r ih =>
   intro hs hl;obtain⟨hk,⟨L,o,hf,hn,ho,hd⟩,hr⟩:=hl;have hL:L∈X.fs:=hs L (by unfold jk;rw[YZ,hf];exact My);obtain⟨sl,e⟩:=I.base.slot L o ho (I.ok.nh L hL) hL fun z=>I.ok.kU L z hL;exact⟨hk,⟨L,_,hf,hn,e,hd⟩,ih (fun b hb=>hs b (by unfold jk;rw[YZ,hf];exact C5 _ hb)) hr⟩
 exact all X.outer (fun _ hb=>hb) I.ok.dW
theorem Inv.stack(I:Inv X pins σ H s):s.heap.FunFrames X.base X.stack:=by
 rcases I.ok.tW with e|⟨e,hf⟩
 ·rw[e];exact I.dW
 ·rw[e]
  obtain⟨m,hn,_⟩:=I.loc;refine .cons (by rw[I.ok.kind];decide) hf hn ?_ I.dW;exact Heap.get?_none_of_le (V_ I.ok.l_ I.ok.above)
theorem Inv.fM(I:Inv X pins σ H s):∀b∈jk X.stack,b∈X.env.locals::X.fs:=fun b hb=>by
 rcases I.ok.tW with e|⟨e,hf⟩
 ·rw[e] at hb;exact C5 _ hb
 ·rw[e] at hb
  unfold jk at hb;rw[YZ,hf] at hb;exact hb
theorem Inv.ir(I:Inv X pins σ H s):∀b∈jk X.stack,H b=none:=fun b hb=>by
 rcases Lp.mp (I.fM b hb) with e|hb
 ·rw[e];exact I.free
 ·obtain⟨_,o,ho,_⟩:=I.ok.dW.mem hb
  exact I.base.free b o ho (I.ok.nh b hb) fun z=>I.ok.kU b z hb
theorem Inv.step{g':Array GenState}{t':Nat}{d':Drawn}{ch:List Addr}(I:Inv X pins σ H s)
  (kE:∀b∈ch,(b∈X.ex\/X.s₀.heap.objs.size<=b)/\b≠X.env.locals/\(∀x c,X.env.cells.lookup x=some c->c≠b)/\∀p∈X.pn++pins,p.1≠b)
  (keep:∀b o,b≠X.env.locals->b∉X.fs->b∉ch->s.heap.get? b=some o->H b=none->h'.get? b=some o)
  (slot:∀b o,b≠X.env.locals->b∈X.fs->b∉ch->s.heap.get? b=some o->H b=none->∃sl,h'.get? b=some {o with slots:=sl}) (free:∀b o,b∉ch->s.heap.get? b=some o->H b=none->H' b=none)
  (there:∀b o,b∉ch->s.heap.get? b=some o->∃o',h'.get? b=some o')
  (eB:∀b xs,H b=some (.tup xs)->H' b=some (.tup xs)) (eZ:∀b o u,H b=some (.frz o u)->H' b=some (.frz o u)) (e7:∀b ps,H b=some (.tbl ps)->∃more,H' b=some (.tbl (ps++more)))
  (ns:∀m,s.heap.Ns X.env.locals m->h'.Ns X.env.locals m) (aM:c8 X.prog X.w H' h') (hg:AllBare g') :
  Inv X pins σ H' {s with heap:=h',gens:=g',drawn:=d',toks:=t'}:=by
 have B2:∀b o,X.s₀.heap.get? b=some o->b≠X.env.locals:=fun b o e=>VD (VG (Ul e) I.ok.above)
 have tX:∀b o,X.s₀.heap.get? b=some o->b∉X.ex->b∉ch:=fun b o e hx hb=>by
  rcases(kE b hb).1 with z|z
  ·exact hx z
  ·exact absurd (VG (Ul e) z) (W9 _)
 have cellK:∀x c,X.env.cells.lookup x=some c->∀v,s.heap.IsCell c v->h'.IsCell c v:=fun x c e v ⟨o,ho,hd⟩=>by
  have ma:c∉ch:=fun z=>(kE c z).2.2.1 x c e rfl
  by_cases hc:c∈X.fs
  ·obtain⟨sl,q⟩:=slot c o (I.ni x c e) hc ma ho (I.b_ x c e)
   exact⟨_,q,hd⟩
  ·exact⟨o,keep c o (I.ni x c e) hc ma ho (I.b_ x c e),hd⟩
 refine⟨I.ok,I.os,hg,⟨fun b o e n hb hx=>?_,fun b o e n hb hx=>?_,fun b o e n hx=>?_,fun b o e hx=>?_,fun b xs e=>eB b xs (I.base.eB b xs e),fun b o xs e=>eZ b o xs (I.base.eZ b o xs e),fun b ps e=>?_⟩,?_,fun x c e=>?_,?_,fun x c e=>?_,fun p hp=>?_,aM,I.len⟩
 ·exact keep b o (B2 b o e) hb (tX b o e hx) (I.base.keep b o e n hb hx) (I.base.free b o e n hx)
 ·obtain⟨sl,e1⟩:=I.base.slot b o e n hb hx
  obtain⟨qz,e2⟩:=slot b _ (B2 b o e) hb (tX b o e hx) e1 (I.base.free b o e n hx);exact⟨qz,e2⟩
 ·obtain⟨o',e1⟩:=I.base.there b o e hx
  exact free b o' (tX b o e hx) e1 (I.base.free b o e n hx)
 ·obtain⟨o',e1⟩:=I.base.there b o e hx
  exact there b o' (tX b o e hx) e1
 ·obtain⟨m1,e1⟩:=I.base.e7 b ps e
  obtain⟨m2,e2⟩:=e7 b _ e1;exact⟨m1++m2,by rw[e2,Array.append_assoc]⟩
 ·obtain⟨m,hn,hl⟩:=I.loc
  refine⟨m,ns m hn,fun i x v e1 e2 e3=>?_⟩;obtain⟨u,r,l⟩:=hl i x v e1 e2 e3;refine⟨u,r,?_⟩;rcases l with l|⟨k,c,e,z⟩
  ·exact .inl l
  ·exact .inr ⟨k,c,e,cellK x c e _ z⟩
 ·obtain⟨v,z⟩:=I.cell x c e
  exact⟨v,cellK x c e v z⟩
 ·obtain⟨m,⟨o,_,_,ho,_⟩,_⟩:=I.loc
  exact free _ o (fun z=>(kE _ z).2.1 rfl) ho I.free
 ·obtain⟨v,o,ho,hd⟩:=I.cell x c e
  exact free c o (fun z=>(kE c z).2.2.1 x c e rfl) ho (I.b_ x c e)
 ·obtain⟨e,n,ne,nf,d⟩:=I.pin p hp
  have ma:p.1∉ch:=fun z=>(kE p.1 z).2.2.2 p hp rfl;exact⟨keep p.1 p.2 ne nf ma e n,free p.1 p.2 ma e n,ne,nf,d⟩
theorem Inv.un{t':Nat}(I:Inv X pins σ H s)(u:Un X.fs [] H H' s.heap h')(aM:c8 X.prog X.w H' h'):Inv X pins σ H' {s with heap:=h',toks:=t'}:=by
 obtain⟨m,⟨o,es,ep,ho,r⟩,_⟩:=id I.loc;obtain⟨sl,hL⟩:=u.any ho I.free (by simp)
 exact I.step (g':=s.gens) (d':=s.drawn) (ch:=[]) (fun _ z=>nomatch z) (fun b o _ hb _ e n=>u.keep b o e n hb (by simp)) (fun b o _ hb _ e n=>u.slot b o e n hb (by simp)) (fun b o _ e n=>u.free b o e n (by simp)) (fun b o _ e=>u.there b o e (by simp)) u.eB u.eZ u.e7 (fun m' hm=>by
  obtain⟨o',wB,wC,jF,r'⟩:=hm;rw[ho] at jF;cases jF
  exact⟨_,wB,wC,hL,r'⟩) aM I.bare
theorem Inv.call{g':Array GenState}{t':Nat}{d':Drawn}{ch:List Addr}(I:Inv X pins σ H s)(u:Un (jk X.stack) ch H H' s.heap h')(aM:c8 X.prog X.w H' h')(hg:AllBare g')
  (kE:∀b∈ch,(b∈X.ex\/X.s₀.heap.objs.size<=b)/\b≠X.env.locals/\(∀x c,X.env.cells.lookup x=some c->c≠b)/\∀p∈X.pn++pins,p.1≠b) :
  Inv X pins σ H' {s with heap:=h',gens:=g',drawn:=d',toks:=t'}:=by
 obtain⟨m,⟨o,es,ep,ho,r⟩,_⟩:=id I.loc;obtain⟨sl,hL⟩:=u.any ho I.free fun z=>(kE _ z).2.1 rfl
 exact I.step (ch:=ch) kE (fun b o hL hb hc e n=>u.keep b o e n (fun z=>(Lp.mp (I.fM b z)).elim hL hb) hc) (fun b o _ _ hc e n=>u.any e n hc) (fun b o hc e n=>u.free b o e n hc) (fun b o hc e=>u.there b o e hc) u.eB u.eZ u.e7 (fun m' hm=>by
  obtain⟨o',wB,wC,jF,r'⟩:=hm;rw[ho] at jF;cases jF
  exact⟨_,wB,wC,hL,r'⟩) aM hg
theorem Inv.turned{t':Nat}{it:Addr}(I:Inv X pins σ H s)(k:∀b o,b≠it->s.heap.get? b=some o->h'.get? b=some o)(hn:H it=none)(hL:it≠X.env.locals)
  (h1:it∈X.ex\/X.s₀.heap.objs.size<=it) (h2:∀x c,X.env.cells.lookup x=some c->c≠it) (h3:∀p∈X.pn++pins,p.1≠it):Inv X pins σ H {s with heap:=h',toks:=t'}:=by
 have B3:∀b u,H b=some u->b≠it:=fun b u e z=>by rw[z,hn] at e;cases e
 refine I.step (g':=s.gens) (d':=s.drawn) (ch:=[it]) (fun b hb=>?_) (fun b o _ _ hc e _=>k b o (fun z=>hc (by simp[z])) e) (fun b o _ _ hc e _=>⟨o.slots,k b o (fun z=>hc (by simp[z])) e⟩) (fun _ _ _ _ n=>n)
  (fun b o hc e=>⟨o,k b o (fun z=>hc (by simp[z])) e⟩) (fun _ _ e=>e) (fun _ _ _ e=>e) (fun b ps e=>⟨#[],by rw[e];simp⟩) (fun m hm=>?_) (fun b u e=>?_) I.bare
 ·have e:b=it:=by simpa using hb
  subst e;exact⟨h1,hL,h2,h3⟩
 ·obtain⟨o,es,ep,ho,r⟩:=hm
  exact⟨o,es,ep,k _ o (Xv hL) ho,r⟩
 ·refine(I.aM b u e).eY (fun c v hc q=>k c v ?_ q) (fun _ q=>q) fun _ _ q=>q
  rcases hc with z|z
  ·rw[z];exact B3 b u e
  ·exact B3 c _ z
theorem Inv.tok(I:Inv X pins σ H s)(t:Nat):Inv X pins σ H {s with toks:=t}:=I.un (h':=s.heap) (t':=t) Un.refl I.aM
theorem Inv.kept{t':Nat}(I:Inv X pins σ H s)(k:∀b u,s.heap.get? b=some u->h'.get? b=some u):Inv X pins σ H {s with heap:=h',toks:=t'}:=I.un (Un.kept k) (I.aM.kept k)
theorem Inv.laid{a:Addr}{o:HO}{t':Nat}(I:Inv X pins σ H s)(k:∀b u,s.heap.get? b=some u->h'.get? b=some u)(hp:s.heap.objs.size<=a)(new:aL X.prog X.w (upd H a o) h' a o):
  Inv X pins σ (upd H a o) {s with heap:=h',toks:=t'}:=I.un (Un.laid k hp (I.aM.fresh hp)) (I.aM.laid k hp new)
theorem Inv.write{x e:Addr}{o:HO}{t':Nat}(I:Inv X pins σ H s)(mu:qv (H x))(he:e=x\/H e=some (.own x))(k:∀b u,b≠e->s.heap.get? b=some u->h'.get? b=some u)(kD:∃u,h'.get? e=some u)
  (new:aL X.prog X.w (upd H x o) h' x o):Inv X pins σ (upd H x o) {s with heap:=h',toks:=t'}:=I.un (Un.write mu he k kD) (I.aM.write mu he k kD new)
theorem Inv.d6{bh:av}(I:Inv X pins σ H s)(h:∀p∈bh,s.heap.get? p.1=some p.2/\H p.1=none/\p.1≠X.env.locals/\p.1∉X.fs/\∀v,p.2.data≠.cell v):Inv X bh σ H s :=
 ⟨I.ok,I.os,I.bare,I.base,I.loc,I.cell,I.free,I.b_,fun p hp=>(VA.mp hp).elim (fun z=>I.pin p (VQ _ z)) (h p),I.aM,I.len⟩
theorem B4{N:List Str}(hN:N.Nodup){i j:Nat}{x:Str}(a:N[i]?=some x)(b:N[j]?=some x):i=j:=by
 obtain⟨h1,e1⟩:=nV.mp a;obtain⟨h2,e2⟩:=nV.mp b;exact(YO hN).mp (e1.trans e2.symm)
theorem B5{M:Model}{A:Around}{E:aP}{i:Nat}{x:Str}{v:V}{u:Value}{Q:Unit->Shared->Prop}(I:Inv X pins σ H s)(hN:X.N.Nodup)(hi:X.N[i]?=some x)(hx:Loc X.env.scope x)(r:RelV v u)
  (h:∀s',Inv X pins (σ.set i (some v)) H s'->(∃a,Heap.SameBut a s.heap s'.heap/\(a=X.env.locals\/X.env.cells.lookup x=some a))->Q () s') (hf:eC X x:=by first|exact .inl rfl|exact .inr rfl|assumption):wpAny M A (storeName X.env x u) Q E s:=by
 obtain⟨m,hn,hl⟩:=id I.loc;have wD:(X.env.scope.kind==.class||(X.env.scope.kind==.module&&X.env.locals != X.env.globals))=false:=by rw[I.ok.kind];rfl
 have B6:i<σ.length:=by rw[I.len];exact(nV.mp hi).1
 have ni:=I.ni
 have tracked:∀{a:Addr}{h':Heap},(∃o,s.heap.get? a=some o/\H a=none)->Heap.SameBut a s.heap h'->c8 X.prog X.w H h':=fun{a h'} ha hs b ob e=>by
  obtain⟨_,_,me⟩:=ha;refine(I.aM b ob e).eY (fun c w' hc q=>(hs.2 c ?_).trans q) (fun _ q=>q) fun _ _ q=>q;rintro rfl;rcases hc with rfl|hc
  ·rw[me] at e;cases e
  ·rw[me] at hc;cases hc
 rcases hx with hk|hk
 ·refine wpAny_storeName_local hk hn (fun h' kr hs=>?_) wD
  obtain⟨oL,_,_,mf,_⟩:=id hn;refine h _ ⟨I.ok,I.os,I.bare,⟨fun b o e n hb hx=>?_,fun b o e n hb hx=>?_,I.base.free,fun b o e hx=>?_,I.base.eB,I.base.eZ,I.base.e7⟩,⟨_,kr,fun j y v' e1 e2 e3=>?_⟩,fun y c e=>?_,I.free,I.b_,fun p hp=>?_,tracked ⟨oL,mf,I.free⟩ hs,by simpa using I.len⟩ ⟨_,hs,.inl rfl⟩
  ·exact(hs.2 b (VD (VG (Ul e) I.ok.above))).trans (I.base.keep b o e n hb hx)
  ·obtain⟨sl,e1⟩:=I.base.slot b o e n hb hx
   exact⟨sl,(hs.2 b (VD (VG (Ul e) I.ok.above))).trans e1⟩
  ·obtain⟨o',e1⟩:=I.base.there b o e hx
   exact⟨o',(hs.2 b (VD (VG (Ul e) I.ok.above))).trans e1⟩
  ·by_cases hj:j=i
   ·subst hj
    rw[hi] at e1;cases e1;rw[WJ B6] at e2;cases e2
    exact⟨u,r,.inl ⟨hk,by simp⟩⟩
   ·rw[Wx (Xv hj)] at e2
    obtain⟨u',r',q⟩:=hl j y v' e1 e2 e3;refine⟨u',r',?_⟩;rcases q with⟨k,e⟩|⟨k,c,e,z⟩
    ·refine .inl ⟨k,?_⟩
     have:y≠x:=fun e=>hj (B4 hN e1 (e▸hi));simp[this,e]
    ·exact .inr ⟨k,c,e,z.sameBut hs (ni y c e)⟩
  ·obtain⟨w',z⟩:=I.cell y c e
   exact⟨w',z.sameBut hs (ni y c e)⟩
  ·obtain⟨e,n,ne,nf,d⟩:=I.pin p hp
   exact⟨(hs.2 p.1 ne).trans e,n,ne,nf,d⟩
 ·have iR:X.fn x=true:=by
   rcases hf with z|z
   ·exact z
   ·rw[z] at hk;cases hk
  obtain⟨c,hc⟩:=I.ok.has x (.inl hk);obtain⟨w',z⟩:=I.cell x c hc;refine wpAny_storeName_cell I.ok.kind hk hc z (fun h' gx hs=>?_);obtain⟨oc,o8,wF⟩:=id z;refine h {s with heap:=h'} ⟨I.ok,I.os,I.bare,⟨fun b o e n hb hx=>?_,fun b o e n hb hx=>?_,I.base.free,fun b o e hx=>?_,I.base.eB,I.base.eZ,I.base.e7⟩,⟨m,hn.sameBut hs (Xv (ni x c hc)),fun j y v' e1 e2 e3=>?_⟩,fun y c' e=>?_,I.free,I.b_,fun p hp=>?_,tracked ⟨oc,o8,I.b_ x c hc⟩ hs,by simpa using I.len⟩ ⟨c,hs,.inr hc⟩
  ·exact(hs.2 b (VD (VG (Ul e) (I.ok.qy x c iR hc)))).trans (I.base.keep b o e n hb hx)
  ·obtain⟨sl,e1⟩:=I.base.slot b o e n hb hx
   exact⟨sl,(hs.2 b (VD (VG (Ul e) (I.ok.qy x c iR hc)))).trans e1⟩
  ·obtain⟨o',e1⟩:=I.base.there b o e hx
   exact⟨o',(hs.2 b (VD (VG (Ul e) (I.ok.qy x c iR hc)))).trans e1⟩
  ·by_cases hj:j=i
   ·subst hj
    rw[hi] at e1;cases e1;rw[WJ B6] at e2;cases e2
    exact⟨u,r,.inr ⟨.inl hk,c,hc,gx⟩⟩
   ·rw[Wx (Xv hj)] at e2
    obtain⟨u',r',q⟩:=hl j y v' e1 e2 e3;refine⟨u',r',?_⟩;rcases q with q|⟨k,c',e,z'⟩
    ·exact .inl q
    ·refine .inr ⟨k,c',e,z'.sameBut hs ?_⟩
     rintro rfl;exact hj (B4 hN e1 (I.ok.inj _ _ _ e hc▸hi))
  ·by_cases hcc:c'=c
   ·subst hcc;exact⟨_,gx⟩
   ·obtain⟨w2,z2⟩:=I.cell y c' e
    exact⟨w2,z2.sameBut hs hcc⟩
  ·obtain⟨e,n,ne,nf,d⟩:=I.pin p hp
   refine⟨(hs.2 p.1 ?_).trans e,n,ne,nf,d⟩;intro q;rw[q,o8] at e;have q':oc=p.2:=VY e;exact d w' (by rw[<-q'];exact wF)
theorem B7{M:Model}{A:Around}{E:aP}{i:Nat}{x:Str}{v:V}{u:Value}{Q:Unit->Shared->Prop}(I:Inv X pins σ H s)(hN:X.N.Nodup)(hi:X.N[i]?=some x)(hx:Loc X.env.scope x)(r:RelV v u)
  (h:∀s',Inv X pins (σ.set i (some v)) H s'->Q () s') (hf:eC X x:=by first|exact .inl rfl|exact .inr rfl|assumption):wpAny M A (storeName X.env x u) Q E s :=
 B5 I hN hi hx r (fun s' I' _=>h s' I') hf
theorem Inv.qA{s':Shared}{ch:List Addr}(I:Inv X pins σ H s)(ho:s'.os=s.os)(u:Un (jk X.stack) ch H H' s.heap s'.heap)(aM:c8 X.prog X.w H' s'.heap)(hg:AllBare s'.gens)
  (kE:∀b∈ch,(b∈X.ex\/X.s₀.heap.objs.size<=b)/\b≠X.env.locals/\(∀x c,X.env.cells.lookup x=some c->c≠b)/\∀p∈X.pn++pins,p.1≠b):Inv X pins σ H' s':=by
 obtain⟨h',g',d',t',o'⟩:=s';have e:o'=s.os:=ho;subst e;exact I.call (g':=g') (t':=t') (d':=d') u aM hg kE
end
abbrev XK:=Value->Option Addr->Hp->Prop
abbrev St:=List (Option V)
abbrev VK:=V->Hp->Prop
abbrev TE:=St->Hp->VK->Prop
abbrev TT:=St->Hp->(Bool->Hp->Prop)->Prop
abbrev TA:=St->Hp->(List V->Hp->Prop)->Prop
structure Ends where
 nx:St->Hp->Prop
 rt:VK
 bk:St->Hp->Prop:=fun _ _=>False
 ct:St->Hp->Prop:=fun _ _=>False
abbrev TS:=Ends->St->Hp->Prop
def EP(X:Cx)(pins:av)(σ:St)(Q:VK)(u:Value)(s':Shared):Prop:=∃v H',Inv X pins σ H' s'/\RelV v u/\Q v H'
def TP(X:Cx)(pins:av)(σ:St)(Q:Bool->Hp->Prop)(b:Bool)(s':Shared):Prop:=∃H',Inv X pins σ H' s'/\Q b H'
def AP(X:Cx)(pins:av)(σ:St)(Q:List V->Hp->Prop)(us:List Value)(s':Shared):Prop:=∃vs H',Inv X pins σ H' s'/\Vals vs us/\Q vs H'
def SP(X:Cx)(pins:av)(D:Ends)(f:Flow)(s':Shared):Prop :=
 match f with
 |.next=>∃σ' H',Inv X pins σ' H' s'/\D.nx σ' H'
 |.brk=>∃σ' H',Inv X pins σ' H' s'/\D.bk σ' H'
 |.cont=>∃σ' H',Inv X pins σ' H' s'/\D.ct σ' H'
 |.ret u=>∃v σ' H',Inv X pins σ' H' s'/\RelV v u/\D.rt v H'
structure JE(X:Cx)(e:Expr)(t:TE):Prop where
 out:∀(pins:av)(s:Shared)(σ:St)(H:Hp)(Q:VK),Inv X pins σ H s->t σ H Q->wpAny (model X.prog X.w) X.A (eval e X.env) (EP X pins σ Q) X.xe s
instance {X:Cx} {e:Expr} {t:TE}:CoeFun (JE X e t) (fun _=>∀(pins:av)(s:Shared)(σ:St)(H:Hp)(Q:VK),Inv X pins σ H s->t σ H Q->wpAny (model X.prog X.w) X.A (eval e X.env) (EP X pins σ Q) X.xe s):=⟨JE.out⟩
structure JT(X:Cx)(e:Expr)(t:TT):Prop where
 out:∀(pins:av)(s:Shared)(σ:St)(H:Hp)(Q:Bool->Hp->Prop),Inv X pins σ H s->t σ H Q->wpAny (model X.prog X.w) X.A (isTrue e X.env (eval e X.env)) (TP X pins σ Q) X.xe s
instance {X:Cx} {e:Expr} {t:TT}:CoeFun (JT X e t) (fun _=>∀(pins:av)(s:Shared)(σ:St)(H:Hp)(Q:Bool->Hp->Prop),Inv X pins σ H s->t σ H Q->wpAny (model X.prog X.w) X.A (isTrue e X.env (eval e X.env)) (TP X pins σ Q) X.xe s):=⟨JT.out⟩
structure JW(X:Cx)(e:Expr)(t:TT):Prop where
 out:∀(whole:Sem Value)(pins:av)(s:Shared)(σ:St)(H:Hp)(Q:Bool->Hp->Prop),Inv X pins σ H s->t σ H Q->wpAny (model X.prog X.w) X.A (isTrue e X.env whole) (TP X pins σ Q) X.xe s
instance {X:Cx} {e:Expr} {t:TT}:CoeFun (JW X e t) (fun _=>∀(whole:Sem Value)(pins:av)(s:Shared)(σ:St)(H:Hp)(Q:Bool->Hp->Prop),Inv X pins σ H s->t σ H Q->wpAny (model X.prog X.w) X.A (isTrue e X.env whole) (TP X pins σ Q) X.xe s):=⟨JW.out⟩
theorem JW.jt{X:Cx}{e:Expr}{t:TT}(h:JW X e t):JT X e t:=⟨h.out _⟩
structure JA(X:Cx)(es:List Expr)(t:TA):Prop where
 out:∀(pos:Pos)(pins:av)(s:Shared)(σ:St)(H:Hp)(Q:List V->Hp->Prop),Inv X pins σ H s->t σ H Q->wpAny (model X.prog X.w) X.A (spliced (backTo pos (starEach es X.env))) (AP X pins σ Q) X.xe s
instance {X:Cx} {es:List Expr} {t:TA}:CoeFun (JA X es t) (fun _=>∀(pos:Pos)(pins:av)(s:Shared)(σ:St)(H:Hp)(Q:List V->Hp->Prop),Inv X pins σ H s->t σ H Q->wpAny (model X.prog X.w) X.A (spliced (backTo pos (starEach es X.env))) (AP X pins σ Q) X.xe s):=⟨JA.out⟩
structure JS(X:Cx)(st:Stmt)(t:TS):Prop where
 out:∀(pins:av)(s:Shared)(σ:St)(H:Hp)(D:Ends),Inv X pins σ H s->t D σ H->wpAny (model X.prog X.w) X.A (exec st X.env) (SP X pins D) X.xe s
instance {X:Cx} {st:Stmt} {t:TS}:CoeFun (JS X st t) (fun _=>∀(pins:av)(s:Shared)(σ:St)(H:Hp)(D:Ends),Inv X pins σ H s->t D σ H->wpAny (model X.prog X.w) X.A (exec st X.env) (SP X pins D) X.xe s):=⟨JS.out⟩
structure cM(X:Cx)(st:List Stmt)(t:TS):Prop where
 out:∀(pins:av)(s:Shared)(σ:St)(H:Hp)(D:Ends),Inv X pins σ H s->t D σ H->wpAny (model X.prog X.w) X.A (execs st X.env) (SP X pins D) X.xe s
instance {X:Cx} {st:List Stmt} {t:TS}:CoeFun (cM X st t) (fun _=>∀(pins:av)(s:Shared)(σ:St)(H:Hp)(D:Ends),Inv X pins σ H s->t D σ H->wpAny (model X.prog X.w) X.A (execs st X.env) (SP X pins D) X.xe s):=⟨cM.out⟩
theorem aY{α:Type}{t:Sem α}{Q Q':α->Shared->Prop}{M:Model}{A:Around}{E:aP}{s:Shared}(h:wpAny M A t Q E s)(hQ:∀a s,Q a s->Q' a s):wpAny M A t Q' E s:=Xa h hQ fun _ _ x=>x
section
variable{X:Cx}
def qB(i:Nat):TE:=fun σ H Q=>∃v,σ[i]?=some (some v)/\Q v H
def tC(v:V):TE:=fun _ H Q=>Q v H
theorem B8{i:Nat}{x:Str}{pos:Pos}(hN:X.N[i]?=some x)(hv:qx X.env.scope x)(hd:bV x:=by decide)(fN:(x==("__classdict__" : Str))=false:=by decide):JE X (.Name x pos) (qB i):=by
 refine⟨?_⟩;intro pins s σ H Q I h;obtain⟨v,e,h⟩:=h;obtain⟨m,hn,hl⟩:=I.loc;obtain⟨u,r,l⟩:=hl i x v hN e hv;have fin:EP X pins σ Q u s:=⟨v,H,I,r,h⟩;rcases l with⟨hk,hm⟩|⟨hk,c,hc,mi⟩
 ·exact wpAny_Name (wpAny_loadName_local I.ok.kind hk hn hm fin) hd
 ·rcases hk with hk|hk
  ·exact wpAny_Name (wpAny_loadName_cell I.ok.kind hk hc mi fin) hd
  ·exact wpAny_Name (wpAny_loadName_free I.ok.kind hk hc mi fin fN) hd
theorem mj{i j pos}:JE X (.Constant (.int i) j pos) (tC (.int i)):=⟨fun _ _ _ H _ I h=>wpAny_Constant_int ⟨.int i,H,I.tok _,⟨_,rfl⟩,h⟩⟩
theorem Js{b j pos}:JE X (.Constant (.bool b) j pos) (tC (.bl b)):=⟨fun _ _ _ H _ I h=>Constant_bool ⟨.bl b,H,I,rfl,h⟩⟩
theorem Jt{j pos}:JE X (.Constant .none j pos) (tC .non):=⟨fun _ _ _ H _ I h=>Constant_none ⟨.non,H,I,rfl,h⟩⟩
theorem Ju{x j pos}:JE X (.Constant (.str x) j pos) (tC (.str x)):=⟨fun _ _ _ H _ I h=>Calls.Constant_str ⟨.str x,H,I.tok _,⟨_,rfl⟩,h⟩
⟩
def Gl(X:Cx)(x:Str):Prop:=X.env.kindOf x=some .globalImplicit
theorem B9{E:aP}{pins:av}{s:Shared}{σ:St}{H:Hp}{x:Str}{u:Value}{pos:Pos}{Q:aP}(I:Inv X pins σ H s)(hg:Gl X x)(hm:X.mg x=some u)(h:Q u s)
  (hd:bV x:=by decide):wpAny (model X.prog X.w) X.A (eval (.Name x pos) X.env) Q E s :=
 Calls.Name_function_global I.ok.kind hg (Calls.loadGlobal_global (by rw[I.ok.glob];exact I.mod.glob.keeps I.bk) hm h) hd
theorem kW{E:aP}{pins:av}{s:Shared}{σ:St}{H:Hp}{x:Str}{u:Value}{pos:Pos}{Q:aP}(I:Inv X pins σ H s)(hg:Gl X x)(hm:X.mg x=none)(hv:bootBuiltins x=some u)(h:Q u s)
  (hn:x≠"__name__" := by decide) (hd:bV x:=by decide):wpAny (model X.prog X.w) X.A (eval (.Name x pos) X.env) Q E s:=by
 obtain⟨mb,h1,h2⟩:=I.mod.blt;exact Calls.Name_function_global I.ok.kind hg (Calls.loadGlobal_builtin (by rw[I.ok.glob];exact I.mod.glob.keeps I.bk) hm (by rw[I.ok.blt];exact h1.keeps I.bk) ((h2 x hn).trans hv) h) hd
theorem Jv{x:Str}{v:V}{u:Value}{pos:Pos}(hg:Gl X x)(hm:X.mg x=some u)(r:RelV v u)(hd:bV x:=by decide):JE X (.Name x pos) (tC v):=⟨fun _ _ _ H _ I h=>B9 I hg hm ⟨v,H,I,r,h⟩ hd⟩
theorem Jw{x:Str}{v:V}{u:Value}{pos:Pos}(hg:Gl X x)(hm:X.mg x=none)(hv:bootBuiltins x=some u)(r:RelV v u)(hn:x≠"__name__" := by decide)(hd:bV x:=by decide):JE X (.Name x pos) (tC v):=⟨fun _ _ _ H _ I h=>kW I hg hm hv ⟨v,H,I,r,h⟩ hn hd
⟩
variable{a b:Expr}{ta tb:TE}{pos:Pos}
structure JC(X:Cx)(op:CmpOp)(a b:Expr)(t:TE):Prop where
 out:∀(pins:av)(s:Shared)(σ:St)(H:Hp)(Q:VK),Inv X pins σ H s->t σ H Q →
  wpAny (model X.prog X.w) X.A (eval a X.env) (fun v s₁=>wpAny (model X.prog X.w) X.A (eval b X.env) (fun u s₂=>wpAny (model X.prog X.w) X.A (compareOp op v u) (EP X pins σ Q) X.xe s₂) X.xe s₁) X.xe s
instance {X:Cx} {op:CmpOp} {a b:Expr} {t:TE}:CoeFun (JC X op a b t) (fun _=>∀(pins:av)(s:Shared)(σ:St)(H:Hp)(Q:VK),Inv X pins σ H s->t σ H Q->wpAny (model X.prog X.w) X.A (eval a X.env) (fun v s₁=>wpAny (model X.prog X.w) X.A (eval b X.env) (fun u s₂=>wpAny (model X.prog X.w) X.A (compareOp op v u) (EP X pins σ Q) X.xe s₂) X.xe s₁) X.xe s):=⟨JC.out⟩
def tB(t:TE):TT:=fun σ H Q=>t σ H fun x H1=>∃c,x=.bl c/\Q c H1
theorem Jx{op:CmpOp}{t:TE}(h:JC X op a b t)(h1:behindInMarks op b=false:=by first|exact Ug _ (by decide) (by decide)|rfl):JT X (.Compare a [op] [b] pos) (tB t):=by
 refine⟨?_⟩;intro pins s σ H Q I hw;refine wpAny_isTrue_Compare1 (aY (h pins s σ H _ I hw) fun v s1 h1=>aY h1 fun u s2 h2=>aY h2 fun c s3 h0_=>el5 h0_ fun x H1 I1 r1 q1=>?_) h1;obtain⟨d,rfl,q⟩:=q1;cases r1
 exact W6 ⟨H1,I1,q⟩
theorem Jy{e:Expr}{t:TE}(h:JE X e t)(he:∀whole,isTrue e X.env whole=(do let v <- whole;standAt e.pos;holding [v] (truthy v)):=by intro _;rfl):JT X e (tB t):=by
 refine⟨?_⟩;intro pins s σ H Q I hw;refine isTrue_plain (aY (h pins s σ H _ I hw) fun v s1 h0_=>el5 h0_ fun x H1 I1 r1 q1=>?_) (he _);obtain⟨d,rfl,q⟩:=q1;cases r1
 exact W6 ⟨H1,I1,q⟩
variable{tA tY:TT}{rest:List Expr}
def qC(t u:TT):TT:=fun σ H Q=>t σ H fun c H1=>if c=true then u σ H1 Q else Q false H1
def B_(t u:TT):TT:=fun σ H Q=>t σ H fun c H1=>if c=true then Q true H1 else u σ H1 Q
def wG(t:TT):TT:=fun σ H Q=>t σ H fun c H1=>Q (!c) H1
theorem Jz(ha:JT X a tA):JW X (.BoolOp .And [a] pos) tA:=by
 refine⟨?_⟩;intro wh pins s σ H Q I h;refine isTrue_and (aY (ha pins s σ H Q I h) fun c s1 e=>?_)
 cases c with
 |true=>exact isTrue_and_nil e
 |false=>exact e
theorem JB(ha:JT X a tA):JW X (.BoolOp .Or [a] pos) tA:=by
 refine⟨?_⟩;intro wh pins s σ H Q I h;refine isTrue_or (aY (ha pins s σ H Q I h) fun c s1 e=>?_)
 cases c with
 |false=>exact isTrue_or_nil e
 |true=>exact e
theorem JD(ha:JT X a tA)(hb:JW X (.BoolOp .And (b::rest) pos) tY):JW X (.BoolOp .And (a::b::rest) pos) (qC tA tY):=by
 refine⟨?_⟩;intro wh pins s σ H Q I h;refine isTrue_and (aY (ha pins s σ H _ I h) fun c s1 h0_=>el3 h0_ fun H1 I1 q1=>?_)
 cases c with
 |true=>exact hb wh pins s1 σ H1 Q I1 q1
 |false=>exact⟨H1,I1,q1⟩
theorem JH(ha:JT X a tA)(hb:JW X (.BoolOp .Or (b::rest) pos) tY):JW X (.BoolOp .Or (a::b::rest) pos) (B_ tA tY):=by
 refine⟨?_⟩;intro wh pins s σ H Q I h;refine isTrue_or (aY (ha pins s σ H _ I h) fun c s1 h0_=>el3 h0_ fun H1 I1 q1=>?_)
 cases c with
 |true=>exact⟨H1,I1,q1⟩
 |false=>exact hb wh pins s1 σ H1 Q I1 q1
theorem JJ(ha:JT X a tA):JT X (.UnaryOp .Not a pos) (wG tA):=by
 refine⟨?_⟩;intro pins s σ H Q I h;exact isTrue_not (ha pins s σ H (fun c H1=>Q (!c) H1) I h)
def JK(ta tb:TE):TE:=fun σ H Q=>ta σ H fun x H1=>∃c,x=.bl c/\if c=true then tb σ H1 Q else Q (.bl false) H1
def JL(ta:TE):TE:=fun σ H Q=>ta σ H fun x H1=>∃c,x=.bl c/\Q (.bl (!c)) H1
theorem JM{op}{t:TE}(h:JE X a t):JE X (.BoolOp op [a] pos) t:=⟨fun pins s σ H Q I hw=>BoolOp_one (h pins s σ H Q I hw)⟩
theorem JN(ha:JE X a ta)(hb:JE X (.BoolOp .And (b::rest) pos) tb):JE X (.BoolOp .And (a::b::rest) pos) (JK ta tb):=by
 refine⟨?_⟩;intro pins s σ H Q I h;refine BoolOp_and (aY (ha pins s σ H _ I h) fun v s1 h0_=>el5 h0_ fun x H1 I1 r1 q1=>?_);obtain⟨c,rfl,q1⟩:=q1;cases r1
 refine W6 ?_
 cases c with
 |true=>exact hb pins s1 σ H1 Q I1 q1
 |false=>exact⟨.bl false,H1,I1,rfl,q1⟩
theorem JO(ha:JE X a ta):JE X (.UnaryOp .Not a pos) (JL ta):=by
 refine⟨?_⟩;intro pins s σ H Q I h;refine UnaryOp_ (aY (ha pins s σ H _ I h) fun v s1 h0_=>el5 h0_ fun x H1 I1 r1 q1=>?_);obtain⟨c,rfl,q1⟩:=q1;cases r1
 exact not_of (W6 ⟨.bl (!c),H1,I1,rfl,q1⟩)
def JP(t:TT)(ta tb:TE):TE:=fun σ H Q=>t σ H fun c H1=>if c=true then ta σ H1 Q else tb σ H1 Q
theorem JQ{c:Expr}(hc:JT X c tA)(ha:JE X a ta)(hb:JE X b tb):JE X (.IfExp c a b pos) (JP tA ta tb):=by
 refine⟨?_⟩;intro pins s σ H Q I h;refine wpAny_IfExp (aY (hc pins s σ H _ I h) fun d s1 h0_=>el3 h0_ fun H1 I1 q1=>?_)
 cases d with
 |true=>exact ha pins s1 σ H1 Q I1 q1
 |false=>exact hb pins s1 σ H1 Q I1 q1
end
def a8(K:PySem.W.Frag)(H:Hp)(a:Addr)(xs:List V):Prop :=
 Rd H a (.lst xs) ∨
  ∃(o:Obj)(ar:Array Value)(n:Nat),K.lookup a=some o/\o.cls=.type "list" /\ o.dict=none/\o.data=.seq ar n/\ar.size<=sizeLine/\Vals xs ar.toList
def bw(K:PySem.W.Frag)(H:Hp)(a:Addr)(xs:List V):Prop :=
 Rd H a (.tup xs) ∨
  ∃(o:Obj)(ar:Array Value)(n:Nat),K.lookup a=some o/\o.cls=.type "tuple" /\ o.data=.seq ar n/\ar.size<=sizeLine/\Vals xs ar.toList
noncomputable def wH:Value->Option V
 |.none=>some .non
 |.bool b=>some (.bl b)
 |.int i _=>some (.int i)
 |.str x _=>some (.str x)
 |.bytes b _=>some (.byt b)
 |.float b _=>some (.flt b)
 |.ref a=>some (.ref a)
 |.type n=>some (.ty n)
 |_=>none
theorem RelV.abs{x:V}{u:Value}(r:RelV x u):wH u=some x:=by
 cases x with
 |non=>cases r;rfl
 |bl _=>cases r;rfl
 |int _=>obtain⟨t,rfl⟩:=r;rfl
 |str _=>obtain⟨t,rfl⟩:=r;rfl
 |byt _=>obtain⟨t,rfl⟩:=r;rfl
 |flt _=>obtain⟨t,rfl⟩:=r;rfl
 |ref _=>cases r;rfl
 |ty _=>cases r;rfl
theorem RelV.inj{x y:V}{u:Value}(r:RelV x u)(q:RelV y u):x=y:=VY (r.abs.symm.trans q.abs)
theorem Vals.inj:∀{xs ys:List V}{us:List Value},Vals xs us->Vals ys us->xs=ys
 |_,_,_,.nil,.nil=>rfl
 |_,_,_,.cons r t,.cons r' t'=>by rw[r.inj r',Vals.inj t t']
section
variable{X:Cx}{pins:av}{σ:St}{H:Hp}{s:Shared}{a:Addr}{xs ys:List V}
theorem a8.of{K:PySem.W.Frag}(h:H a=some (.lst xs)):a8 K H a xs:=.inl (.inl h)
theorem bw.of{K:PySem.W.Frag}(h:H a=some (.tup xs)):bw K H a xs:=.inl (.inl h)
theorem Inv.list(I:Inv X pins σ H s)(h:a8 X.K H a xs):∃ar:List Value,Vals xs ar/\PlainL s.heap a ar.toArray/\xs.length<=sizeLine:=by
 rcases h with h|⟨o,ar,n,hk,hc,hd,hs,hz,r⟩
 ·obtain⟨z,ar,n,r,e⟩:=h.ok I.aM
  exact⟨ar,r,⟨_,n,e,rfl,rfl,rfl⟩,z⟩
 ·refine⟨ar.toList,r,⟨o,n,I.gw a o hk,hc,hd,by simpa using hs⟩,?_⟩
  have e:=r.length;simp only[Uk] at e;omega
theorem Inv.tuple(I:Inv X pins σ H s)(h:bw X.K H a xs):∃ar:List Value,Vals xs ar/\IsTup s.heap a ar.toArray/\xs.length<=sizeLine:=by
 rcases h with h|⟨o,ar,n,hk,hc,hs,hz,r⟩
 ·obtain⟨z,ar,r,p⟩:=h.ok I.aM
  exact⟨ar,r,p,z⟩
 ·refine⟨ar.toList,r,⟨o,I.gw a o hk,hc,n,by simpa using hs⟩,?_⟩
  have e:=r.length;simp only[Uk] at e;omega
theorem Inv.gy(I:Inv X pins σ H s)(h:a8 X.K H a xs)(h':a8 X.K H a ys):xs=ys:=by
 obtain⟨ar,r,⟨o,n,e,_,_,d⟩,_⟩:=I.list h;obtain⟨its',r',⟨o',n',e',_,_,d'⟩,_⟩:=I.list h';rw[e] at e';cases e';rw[d] at d';injection d' with d1 _;have:ar=its':=by simpa using congrArg Array.toList d1
 subst this;exact r.inj r'
theorem Inv.fA(I:Inv X pins σ H s)(h:bw X.K H a xs)(h':bw X.K H a ys):xs=ys:=by
 obtain⟨ar,r,⟨o,e,_,n,d⟩,_⟩:=I.tuple h;obtain⟨its',r',⟨o',e',_,n',d'⟩,_⟩:=I.tuple h';rw[e] at e';cases e';rw[d] at d';injection d' with d1 _;have:ar=its':=by simpa using congrArg Array.toList d1
 subst this;exact r.inj r'
end
noncomputable abbrev Cx.e_(X:Cx)(E:aP):Cx:={X with xe:=E}
noncomputable abbrev Cx.kF(X:Cx):Cx:=X.e_ fun _ _=>False
theorem Cx.Ok.e_{X:Cx}(ok:X.Ok)(E:aP):(X.e_ E).Ok :=
 ⟨ok.mod,ok.kind,ok.glob,ok.blt,ok.above,ok.inj,ok.has,ok.qy,ok.hd,ok.frames,ok.tW,ok.B0,ok.bs,ok.l_,ok.jE,ok.kU,ok.dW,ok.nh⟩
theorem Cx.Ok.cC{X:Cx}{E:aP}(ok:(X.e_ E).Ok):X.Ok :=
 ⟨ok.mod,ok.kind,ok.glob,ok.blt,ok.above,ok.inj,ok.has,ok.qy,ok.hd,ok.frames,ok.tW,ok.B0,ok.bs,ok.l_,ok.jE,ok.kU,ok.dW,ok.nh⟩
section
variable{X:Cx}{pins:av}{σ:St}{H:Hp}{s:Shared}{E:aP}
theorem Inv.e_(I:Inv X pins σ H s)(E:aP):Inv (X.e_ E) pins σ H s:=⟨I.ok.e_ E,I.os,I.bare,I.base,I.loc,I.cell,I.free,I.b_,I.pin,I.aM,I.len⟩
theorem Inv.cC(I:Inv (X.e_ E) pins σ H s):Inv X pins σ H s:=⟨I.ok.cC,I.os,I.bare,I.base,I.loc,I.cell,I.free,I.b_,I.pin,I.aM,I.len⟩
theorem SP.cC{D:Ends}{f:Flow}{s':Shared}(h:SP (X.e_ E) pins D f s'):SP X pins D f s':=by
 cases f with
 |next=>obtain⟨σ',H',I,q⟩:=h;exact⟨σ',H',I.cC,q⟩
 |brk=>obtain⟨σ',H',I,q⟩:=h;exact⟨σ',H',I.cC,q⟩
 |cont=>obtain⟨σ',H',I,q⟩:=h;exact⟨σ',H',I.cC,q⟩
 |ret u=>obtain⟨v,σ',H',I,r,q⟩:=h;exact⟨v,σ',H',I.cC,r,q⟩
theorem cM.kF{st:List Stmt}{t:TS}(h:cM X.kF st t):cM X st t:=⟨fun pins s σ H D I hw =>
 Xa (h pins s σ H D (I.e_ _) hw) (fun _ _ q=>q.cC) fun _ _ z=>False.elim z⟩
end
section
variable{X:Cx}{st:Stmt}{rest:List Stmt}{t u:TS}{e:Expr}{te:TE}{pos:Pos}
def JR:TS:=fun D σ H=>D.nx σ H
def wI(t u:TS):TS:=fun D σ H=>t {D with nx:=u D} σ H
theorem kX:cM X [] JR:=⟨fun _ _ σ H _ I h=>YU ⟨σ,H,I,h⟩⟩
theorem tZ(h1:JS X st t)(h2:cM X rest u):cM X (st::rest) (wI t u):=by
 refine⟨?_⟩;intro pins s σ H D I h;refine wpAny_execs_cons (aY (h1 pins s σ H {D with nx:=u D} I h) fun f s1 q=>?_)
 cases f with
 |next =>
  obtain⟨σ',H',I',q⟩:=q;exact h2 pins s1 σ' H' D I' q
 |ret v=>exact q
 |brk=>exact q
 |cont=>exact q
theorem wJ(h1:JS X st t):cM X [st] t:=by
 refine⟨?_⟩;intro pins s σ H D I h;refine wpAny_execs_cons (aY (h1 pins s σ H D I h) fun f s1 q=>?_)
 cases f with
 |next=>exact YU q
 |ret v=>exact q
 |brk=>exact q
 |cont=>exact q
theorem Inv.quiet{pins:av}{σ:St}{H:Hp}{s:Shared}(I:Inv X pins σ H s):interactive X.env=false:=by simp[interactive,I.ok.kind]
def JU(te:TE):TS:=fun D σ H=>te σ H fun _ H1=>D.nx σ H1
theorem JV(he:JE X e te)(hs:swapsWith e none pos.line X.env=pure false:=by rfl):JS X (.Expr e pos) (JU te):=by
 refine⟨?_⟩;intro pins s σ H D I h;exact wpAny_Expr_any (aY (he pins s σ H _ I h) fun v s1 h0_=>el5 h0_ fun x H1 I1 r1 q1 =>⟨σ,H1,I1,q1⟩) I.quiet hs
def wK(te:TE):TS:=fun D σ H=>te σ H D.rt
theorem Ca(he:JE X e te):JS X (.Return (some e) pos) (wK te):=by
 refine⟨?_⟩;intro pins s σ H D I h;exact wpAny_Return_some (aY (he pins s σ H _ I h) fun v s1 h0_=>el5 h0_ fun x H1 I1 r1 q1 =>⟨x,σ,H1,I1,r1,q1⟩)
def wL(c:TT)(t u:TS):TS:=fun D σ H=>c σ H fun b H1=>if b=true then t D σ H1 else u D σ H1
theorem JX{c:Expr}{a b:List Stmt}{tc:TT}(hc:JT X c tc)(ha:cM X a t)(hb:cM X b u):JS X (.If c a b pos) (wL tc t u):=by
 refine⟨?_⟩;intro pins s σ H D I h;refine wpAny_If (aY (hc pins s σ H _ I h) fun d s1 h0_=>el3 h0_ fun H1 I1 q1=>?_)
 cases d with
 |true=>exact ha pins s1 σ H1 D I1 q1
 |false=>exact hb pins s1 σ H1 D I1 q1
end
abbrev TG:=V->St->Hp->(St->Hp->Prop)->Prop
abbrev jl:=List V->St->Hp->(St->Hp->Prop)->Prop
structure JG(X:Cx)(target:Expr)(t:TG):Prop where
 out:∀(pins:av)(s:Shared)(σ:St)(H:Hp)(v:V)(u:Value)(Q:St->Hp->Prop),Inv X pins σ H s->RelV v u->t v σ H Q →
  wpAny (model X.prog X.w) X.A (assign target X.env u) (fun _ s'=>∃σ' H',Inv X pins σ' H' s'/\Q σ' H') X.xe s
instance {X:Cx} {target:Expr} {t:TG}:CoeFun (JG X target t) (fun _=>∀(pins:av)(s:Shared)(σ:St)(H:Hp)(v:V)(u:Value)(Q:St->Hp->Prop),Inv X pins σ H s->RelV v u->t v σ H Q->wpAny (model X.prog X.w) X.A (assign target X.env u) (fun _ s'=>∃σ' H',Inv X pins σ' H' s'/\Q σ' H') X.xe s):=⟨JG.out⟩
structure iu(X:Cx)(ts:List Expr)(t:jl):Prop where
 out:∀(pins:av)(s:Shared)(σ:St)(H:Hp)(vs:List V)(us:List Value)(Q:St->Hp->Prop),Inv X pins σ H s->Vals vs us->t vs σ H Q →
  wpAny (model X.prog X.w) X.A (assignInOrder ((assignEach ts X.env).map (·.2)) us) (fun _ s'=>∃σ' H',Inv X pins σ' H' s'/\Q σ' H') X.xe s
instance {X:Cx} {ts:List Expr} {t:jl}:CoeFun (iu X ts t) (fun _=>∀(pins:av)(s:Shared)(σ:St)(H:Hp)(vs:List V)(us:List Value)(Q:St->Hp->Prop),Inv X pins σ H s->Vals vs us->t vs σ H Q->wpAny (model X.prog X.w) X.A (assignInOrder ((assignEach ts X.env).map (·.2)) us) (fun _ s'=>∃σ' H',Inv X pins σ' H' s'/\Q σ' H') X.xe s):=⟨iu.out⟩
abbrev nv:=V->V->V->Hp->(Hp->Prop)->Prop
def qD(X:Cx)(t:nv):Prop :=
 ∀(pins:av)(s:Shared)(σ:St)(H:Hp)(o i v:V)(ov iv u:Value)(Q:Hp->Prop),Inv X pins σ H s->RelV o ov->RelV i iv->RelV v u->t o i v H Q →
  wpAny (model X.prog X.w) X.A (setItem ov iv u) (fun _ s'=>∃H',Inv X pins σ H' s'/\Q H') X.xe s
section
variable{X:Cx}{pos:Pos}
def t4(i:Nat):TG:=fun v σ H Q=>Q (σ.set i (some v)) H
theorem wM{i:Nat}{x:Str}(hN:X.N.Nodup)(hi:X.N[i]?=some x)(hx:Loc X.env.scope x)(hf:eC X x:=by first|exact .inl rfl|exact .inr rfl|assumption):JG X (.Name x pos) (t4 i):=by
 refine⟨?_⟩;intro pins s σ H v u Q I r h;exact wpAny_assign_Name (B7 I hN hi hx r (fun s' I'=>⟨_,H,I',h⟩) hf)
def wN:jl:=fun vs σ H Q=>vs=[]/\Q σ H
def JY(t:TG)(u:jl):jl:=fun vs σ H Q=>∃v r,vs=v::r/\t v σ H fun σ' H'=>u r σ' H' Q
theorem iw:iu X [] wN:=by
 refine⟨?_⟩;intro pins s σ H vs us Q I r h;obtain⟨e,h⟩:=h;subst e;cases r
 exact assignInOrder_nil ⟨σ,H,I,h⟩
theorem wO{e:Expr}{es:List Expr}{t:TG}{u:jl}(h1:JG X e t)(h2:iu X es u)
  (hs:(assignEach (e::es) X.env).map (·.2)=assign e X.env::(assignEach es X.env).map (·.2):=by rfl):iu X (e::es) (JY t u):=by
 refine⟨?_⟩;intro pins s σ H vs us Q I r h;obtain⟨v,vr,e1,h⟩:=h;subst e1
 cases r with
 |cons r rr =>
  rw[hs];refine assignInOrder_cons (aY (h1 pins s σ H _ _ _ I r h) fun _ s1 ⟨σ1,H1,I1,q1⟩=>?_);exact h2 pins s1 σ1 H1 _ _ Q I1 rr q1
def wQ(K:PySem.W.Frag)(n:Nat)(t:jl):TG:=fun v σ H Q=>∃a xs,v=.ref a/\bw K H a xs/\xs.length=n/\t xs σ H Q
theorem Cb{es:List Expr}{k:Nat}{t:jl}{n:Nat}(hc:X.calm=true)(h:iu X es t)
  (hn:(assignEach es X.env).length=n:=by rfl) (kY:(assignEach es X.env).findIdx? (·.1)=none:=by rfl):JG X (.Tuple es k pos) (wQ X.K n t):=by
 refine⟨?_⟩;intro pins s σ H v u Q I r hw;obtain⟨a,xs,e1,hq,hl,hw⟩:=hw;subst e1;cases r
 obtain⟨ar,rv,ht,hz⟩:=I.tuple hq;refine assign_Tuple_tuple (I.ok.hd hc) ht (by simp[hn,<-hl,rv.length]) kY fun h' hx=>?_;have I1:Inv X pins σ H {s with heap:=h'}:=I.kept (t':=s.toks) fun b o e=>hx b o (VD (Ul e)) e;exact h pins _ σ H xs _ Q I1 (by simpa using rv) hw
def qE(to ti:TE)(t:nv):TG:=fun v σ H Q=>to σ H fun o H1=>ti σ H1 fun i H2=>t o i v H2 fun H3=>Q σ H3
theorem Cc{o i:Expr}{to ti:TE}{t:nv}(ho:JE X o to)(hi:JE X i ti)(hs:qD X t)
  (ha:∀v,assign (.Subscript o i pos) X.env v=(do
   let ov <- holding [v] (eval o X.env)
   let iv <- holding [v,ov] (eval i X.env)
   standAt pos
   holding [v,ov,iv] (setItem ov iv v)
   release [v,ov,iv] []):=by intro _;rfl):JG X (.Subscript o i pos) (qE to ti t):=by
 refine⟨?_⟩;intro pins s σ H v u Q I r h;rw[ha];refine lj (VX (aY (ho pins s σ H _ I h) fun ov s1 h0_=>el5 h0_ fun x H1 I1 r1 q1=>?_));refine lj (VX (aY (hi pins s1 σ H1 _ I1 q1) fun iv s2 h0_=>el5 h0_ fun y H2 I2 r2 q2=>?_));refine lj (XY (lj (VX (aY (hs pins s2 σ H2 x y v ov iv u _ I2 r1 r2 r q2) fun _ s3 h0_=>el3 h0_ fun H3 I3 q3=>?_))));exact wpAny_release ⟨σ,H3,I3,q3⟩
def jG(te:TE)(g:TG):TS:=fun D σ H=>te σ H fun x H1=>g x σ H1 D.nx
theorem wR{tg e:Expr}{te:TE}{g:TG}(he:JE X e te)(hg:JG X tg g)(hs:swapsWithSole [tg] e pos.line X.env=pure false:=by rfl)(hw:swappedStores [tg] e X.env=pure none:=by rfl)
  (h1:(assignEach [tg] X.env).map (·.2)=[assign tg X.env]:=by rfl):JS X (.Assign [tg] e pos) (jG te g):=by
 refine⟨?_⟩;intro pins s σ H D I h;refine wpAny_Assign_stores (aY (he pins s σ H _ I h) fun v s1 h0_=>el5 h0_ fun x H1 I1 r1 q1=>?_) hs hw;rw[h1];exact aY (hg pins s1 σ H1 x v _ I1 r1 q1) fun _ s2 q=>q
theorem wU{i:Nat}{x:Str}{e:Expr}{te:TE}{pos':Pos}(hN:X.N.Nodup)(hi:X.N[i]?=some x)(hx:Loc X.env.scope x)(he:JE X e te)(hs:swapsWith e (some (.Name x pos')) pos.line X.env=pure false:=by rfl)(hf:eC X x:=by first|exact .inl rfl|exact .inr rfl|assumption):
  JS X (.Assign [.Name x pos'] e pos) (jG te (t4 i)):=by
 refine⟨?_⟩;intro pins s σ H D I h;refine wpAny_Assign_Name (aY (he pins s σ H _ I h) fun v s1 h0_=>el5 h0_ fun y H1 I1 r1 q1=>?_) hs;exact B7 I1 hN hi hx r1 (fun s2 I2=>⟨_,H1,I2,q1⟩) hf
def JZ(c:TT)(tb:TS):TS:=fun D σ H=>∃W:Nat->St->Hp->Prop,(∃m,W m σ H)/\∀m σ H,W m σ H →
 c σ H fun b H1=>if b=true then ∃N:St->Hp->Prop,(∀σ' H',N σ' H'->∃m',m'<m/\W m' σ' H')/\tb {D with nx:=N,ct:=N,bk:=D.nx} σ H1 else D.nx σ H1
theorem J0{c:Expr}{body:List Stmt}{tc:TT}{tb:TS}(hp:PassesOwn (model X.prog X.w) X.A X.env X.xe)(hc:JT X c tc)(hb:cM X body tb):JS X (.While c body [] pos) (JZ tc tb):=by
 refine⟨?_⟩;intro pins s σ H D I h;obtain⟨W,⟨m0,w0⟩,turn⟩:=h;refine wpAny_While (codeAny_whileLoop (fun n s'=>∃σ' H',Inv X pins σ' H' s'/\W n σ' H') ?_ m0 ⟨σ,H,I,w0⟩);rintro n s1 ⟨σ1,H1,I1,w1⟩;refine XF hp (aY (hc pins s1 σ1 H1 _ I1 (turn n σ1 H1 w1)) fun b s2 h0_=>el3 h0_ fun H2 I2 q2=>?_)
 cases b with
 |true =>
  obtain⟨N,hN,q2⟩:=q2;rw[VB rfl];refine XF hp (aY (hb pins s2 σ1 H2 _ I2 q2) fun f s3 q3=>?_)
  cases f with
  |next =>
   obtain⟨σ3,H3,I3,n3⟩:=q3;obtain⟨m',hm,w3⟩:=hN σ3 H3 n3;exact⟨m',hm,σ3,H3,I3,w3⟩
  |cont =>
   obtain⟨σ3,H3,I3,n3⟩:=q3;obtain⟨m',hm,w3⟩:=hN σ3 H3 n3;exact⟨m',hm,σ3,H3,I3,w3⟩
  |brk=>exact q3
  |ret v=>exact q3
 |false =>
  rw[Uo VC];exact YU ⟨σ1,H2,I2,q2⟩
end
structure It where
 go:Nat->Hp->Prop
 o9:Nat->Hp->V->Hp->Prop
 stop:Nat->Hp->Prop
def a9(X:Cx)(pins:av)(H:Hp)(b:Addr):Prop :=
 H b=none/\b≠X.env.locals/\b∉X.fs/\(b∈X.ex\/X.s₀.heap.objs.size<=b)/\(∀x c,X.env.cells.lookup x=some c->c≠b)/\∀p∈X.pn++pins,p.1≠b
theorem Inv.fO{X:Cx}{pins:av}{σ:St}{H H':Hp}{s:Shared}{b:Addr}(I:Inv X pins σ H s)(hb:s.heap.objs.size<=b)(hn:H' b=none):a9 X pins H' b:=by
 refine⟨hn,Xn (VG I.lt hb),I.wA hb,.inr (V_ I.sz hb),fun x c e z=>?_,fun p hp z=>?_⟩
 ·obtain⟨v,q⟩:=I.cell x c e
  exact absurd (VG q.lt (by rw[z];exact hb)) (W9 _)
 ·exact absurd (VG (Ul (I.pin p hp).1) (by rw[z];exact hb)) (W9 _)
structure Turn(P:Program)(w:World)(K:PySem.W.Frag)(tg:Expr)(J:It)(fp:List Addr)(it:Addr)(tn:Nat->Heap->Prop):Prop where
 mem:it∈fp
 obj:∀i h,tn i h->∀b∈fp,∃o,h.get? b=some o/\∀v,o.data≠.cell v
 keep:∀i h h',tn i h->(∀b∈fp,∀o,h.get? b=some o->h'.get? b=some o)->tn i h'
 item:∀(X:Cx),X.prog=P->X.w=w->X.K=K->X.calm=true->∀(i:Nat)(pins:av)(s:Shared)(σ:St)(H:Hp)(E:aP),Inv X pins σ H s->(∀b∈fp,a9 X pins H b)->tn i s.heap->J.go i H →
  wpAny (model P w) X.A (pyNext (.ref it)) (fun r s1=>∃u,r=some u ∧
   wpAny (model P w) X.A (letOwnedTupleGo tg (.ref it) u) (fun _ s2=>∃x H',Inv X pins σ H' s2/\RelV x u/\J.o9 i H x H'/\tn (i+1) s2.heap/\∀b∈fp,H' b=none) E s1) E s
 done:∀(X:Cx),X.prog=P->X.w=w->X.K=K->X.calm=true->∀(i:Nat)(pins:av)(s:Shared)(σ:St)(H:Hp)(E:aP),Inv X pins σ H s->(∀b∈fp,a9 X pins H b)->tn i s.heap->J.stop i H →
  wpAny (model P w) X.A (pyNext (.ref it)) (fun r s1=>r=none/\Inv X pins σ H s1) E s
 self:∀(A:Around)(i:Nat)(s:Shared)(Q:aP)(E:aP),tn i s.heap->Q (.ref it) s->wpAny (model P w) A (pyIter (.ref it)) Q E s
abbrev TI:=St->Hp->(It->Hp->Prop)->Prop
def wV(X:Cx)(pins:av)(σ:St)(tg:Expr)(R:It->Hp->Prop)(wW:Value)(s2:Shared):Prop :=
 ∃(it:Addr)(fp:List Addr)(tn:Nat->Heap->Prop)(J:It)(H':Hp),wW=.ref it/\Inv X pins σ H' s2/\Turn X.prog X.w X.K tg J fp it tn/\tn 0 s2.heap/\(∀b∈fp,a9 X pins H' b)/\R J H'
structure JI(X:Cx)(tg iter:Expr)(wi:TI):Prop where
 out:∀(pins:av)(s:Shared)(σ:St)(H:Hp)(R:It->Hp->Prop),Inv X pins σ H s->wi σ H R →
  wpAny (model X.prog X.w) X.A (eval iter X.env) (fun v s1=>wpAny (model X.prog X.w) X.A (pyIter v) (wV X pins σ tg R) X.xe s1) X.xe s
instance {X:Cx} {tg iter:Expr} {wi:TI}:CoeFun (JI X tg iter wi) (fun _=>∀(pins:av)(s:Shared)(σ:St)(H:Hp)(R:It->Hp->Prop),Inv X pins σ H s->wi σ H R->wpAny (model X.prog X.w) X.A (eval iter X.env) (fun v s1=>wpAny (model X.prog X.w) X.A (pyIter v) (wV X pins σ tg R) X.xe s1) X.xe s):=⟨JI.out⟩
theorem wX {M:Model} {A:Around} {E:aP} {s:Shared} {tg:Expr} {it:Addr} {u:Value} {o:Obj} {n:String} {vs:Array Value} {Q:Unit->Shared->Prop} (ho:s.heap.get? it=some o) (hc:o.cls = .type n) (hd:o.data = .fields vs)
  (hn:["enumerate", "zip", "dict_itemiterator", "dict_reverseitemiterator", "odict_iterator", "itertools.zip_longest", "itertools.pairwise"].contains n=false) (hQ:Q () s):wpAny M A (letOwnedTupleGo tg (.ref it) u) Q E s:=by
 unfold letOwnedTupleGo
 cases tg<;>first
  | exact qV hQ
  | (cases u<;>first
    | exact qV hQ
    | (refine lj (wpAny_load ho ?_)
       rw[hc,hd];show wpAny M A (if (["enumerate", "zip", "dict_itemiterator", "dict_reverseitemiterator", "odict_iterator", "itertools.zip_longest", "itertools.pairwise"].contains n && vs[0]? == some (rawInt _))=true then _ else _) Q E s;rw[Uo (by intro h;rw[hn,q0b] at h;cases h)]
       exact qV hQ))
noncomputable def Cd(K:PySem.W.Frag)(a:Addr):It :=
 ⟨fun i H=>∃xs x,a8 K H a xs/\xs[i]?=some x,fun i H x H'=>H'=H/\∀xs,a8 K H a xs->xs[i]?=some x,fun i H=>∃xs,a8 K H a xs/\xs.length<=i⟩
noncomputable def Ce(K:PySem.W.Frag)(a:Addr):It :=
 ⟨fun i H=>∃xs x,bw K H a xs/\xs[i]?=some x,fun i H x H'=>H'=H/\∀xs,bw K H a xs->xs[i]?=some x,fun i H=>∃xs,bw K H a xs/\xs.length<=i⟩
noncomputable def qF(lo:Int)(n:Nat):It:=⟨fun i _=>i<n,fun i H x H'=>H'=H/\x=.int (lo+i),fun i _=>n<=i⟩
theorem J6{P:Program}{w:World}{K:PySem.W.Frag}{tg:Expr}(a it:Addr):Turn P w K tg (Cd K a) [it] it (fun i h=>h.IsListIter it a i) where
 mem:=by simp
 obj:=fun i h st b hb=>by
  have e:b=it:=by simpa using hb
  subst e;obtain⟨o,e,c,d⟩:=st;exact⟨o,e,fun v z=>by rw[d] at z;cases z⟩
 keep:=fun i h h' st k=>st.at fun o e=>k it (by simp) o e
 item:=by
  intro X hP hw hK hc i pins s σ H E I hf st hg;subst hP hw hK;obtain⟨xs,x,hq,hx⟩:=hg;obtain⟨ar,rv,p,hz⟩:=I.list hq;obtain⟨u,hu,ru⟩:=rv.get hx;obtain⟨f0,f1,f2,f3,f4,f5⟩:=hf it (by simp);refine wpAny_pyNext_list_item st p.isList (x:=u) (by simpa using hu) fun h' iy sb=>?_;have I1:Inv X pins σ H {s with heap:=h'}:=I.turned (t':=s.toks) (fun b o hb e=>(sb.2 b hb).trans e) f0 f1 f3 f4 f5;obtain⟨o,e,c,d⟩:=id iy;exact⟨u,rfl,wX (s:={s with heap:=h'}) e c d (by decide) ⟨x,H,I1,ru,⟨rfl,fun ys hy=>by rw[I.gy hy hq];exact hx⟩,iy,fun b hb=>(hf b hb).1⟩⟩
 done:=by
  intro X hP hw hK hc i pins s σ H E I hf st hg;subst hP hw hK;obtain⟨xs,hq,hx⟩:=hg;obtain⟨ar,rv,p,hz⟩:=I.list hq;obtain⟨f0,f1,f2,f3,f4,f5⟩:=hf it (by simp);have hl:=rv.length;exact wpAny_pyNext_list_end (I.ok.hd hc) st p.isList (by simp;omega) fun h' eb=>⟨rfl,I.turned (t':=s.toks) (fun b o hb e=>eb b o hb e) f0 f1 f3 f4 f5⟩
 self:=fun _ _ _ _ _ st h=>wpAny_pyIter_listiter st h
theorem J7{P:Program}{w:World}{K:PySem.W.Frag}{tg:Expr}(a it:Addr):Turn P w K tg (Ce K a) [it] it (fun i h=>h.IsTupleIter it a i) where
 mem:=by simp
 obj:=fun i h st b hb=>by
  have e:b=it:=by simpa using hb
  subst e;obtain⟨o,e,c,d⟩:=st;exact⟨o,e,fun v z=>by rw[d] at z;cases z⟩
 keep:=fun i h h' st k=>st.at fun o e=>k it (by simp) o e
 item:=by
  intro X hP hw hK hc i pins s σ H E I hf st hg;subst hP hw hK;obtain⟨xs,x,hq,hx⟩:=hg;obtain⟨ar,rv,p,hz⟩:=I.tuple hq;obtain⟨u,hu,ru⟩:=rv.get hx;obtain⟨f0,f1,f2,f3,f4,f5⟩:=hf it (by simp);refine wpAny_pyNext_tuple_item st (show s.heap.IsTuple a ar.toArray from p) (x:=u) (by simpa using hu) fun h' iy sb=>?_;have I1:Inv X pins σ H {s with heap:=h'}:=I.turned (t':=s.toks) (fun b o hb e=>(sb.2 b hb).trans e) f0 f1 f3 f4 f5;obtain⟨o,e,c,d⟩:=id iy;exact⟨u,rfl,wX (s:={s with heap:=h'}) e c d (by decide) ⟨x,H,I1,ru,⟨rfl,fun ys hy=>by rw[I.fA hy hq];exact hx⟩,iy,fun b hb=>(hf b hb).1⟩⟩
 done:=by
  intro X hP hw hK hc i pins s σ H E I hf st hg;subst hP hw hK;obtain⟨xs,hq,hx⟩:=hg;obtain⟨ar,rv,p,hz⟩:=I.tuple hq;obtain⟨f0,f1,f2,f3,f4,f5⟩:=hf it (by simp);have hl:=rv.length;exact wpAny_pyNext_tuple_end (I.ok.hd hc) st (show s.heap.IsTuple a ar.toArray from p) (by simp;omega) fun h' eb=>⟨rfl,I.turned (t':=s.toks) (fun b o hb e=>eb b o hb e) f0 f1 f3 f4 f5⟩
 self:=fun _ _ _ _ _ st h=>wpAny_pyIter_tupleiter st h
theorem J8{P:Program}{w:World}{K:PySem.W.Frag}{tg:Expr}(it:Addr)(lo:Int)(n:Nat):Turn P w K tg (qF lo n) [it] it (fun i h=>IsRangeIter h it (lo+(i:Nat)*1) ((n:Int)-(i:Nat)) 1) where
 mem:=by simp
 obj:=fun i h st b hb=>by
  have e:b=it:=by simpa using hb
  subst e
  exact⟨_,st,fun v z=>by
   have z':Data.fields _=Data.cell v:=z
   cases z'⟩
 keep:=fun i h h' st k=>k it (by simp) _ st
 item:=by
  intro X hP hw hK hc i pins s σ H E I hf st hg;subst hP hw hK;obtain⟨f0,f1,f2,f3,f4,f5⟩:=hf it (by simp);have W:=Walks.range (prog:=X.prog) (w:=X.w) (I.ok.hd hc) it lo 1 n;refine W.item i s _ _ hg st fun v h' tk hv iy kk=>?_;obtain⟨t,rfl⟩:=hv;have I1:Inv X pins σ H {s with heap:=h',toks:=tk}:=I.turned (fun b o hb e=>kk b o (by simpa using hb) e) f0 f1 f3 f4 f5;refine⟨_,rfl,wX (s:={s with heap:=h',toks:=tk}) (n:="range_iterator") iy rfl rfl (by decide) ⟨.int (lo+i),H,I1,⟨t,?_⟩,⟨rfl,rfl⟩,iy,fun b hb=>(hf b hb).1⟩⟩;rw[Int.mul_one]
 done:=by
  intro X hP hw hK hc i pins s σ H E I hf st hg;subst hP hw hK;obtain⟨f0,f1,f2,f3,f4,f5⟩:=hf it (by simp);exact wpAny_pyNext_range_end (I.ok.hd hc) st (by have:n<=i:=hg;omega) fun h' eb=>⟨rfl,I.turned (t':=s.toks) (fun b o hb e=>eb b o hb e) f0 f1 f3 f4 f5⟩
 self:=fun _ _ _ _ _ st h=>wpAny_pyIter_rangeiter st h
section
variable{X:Cx}{tg:Expr}
theorem Cf{pins:av}{σ:St}{H:Hp}{s:Shared}{R:It->Hp->Prop}{E:aP}{lo hi:Int}{t u v:Tok}{tk:Nat}(I:Inv X pins σ H s)(h1 : -(2 ^ 62)<=lo)(h2:lo<2 ^ 62)(h3 : -(2 ^ 62)<=hi)(h4:hi<2 ^ 62)
  (q:R (qF lo (hi-lo).toNat) H):wpAny (model X.prog X.w) X.A (pyIter (.ref s.heap.objs.size)) (wV X pins σ tg R) E {s with heap:=s.heap.push {cls:=.type "range",data:=.fields #[.int lo t,.int hi u,.int 1 v]},toks:=tk}:=by
 refine wpAny_pyIter_range (IsRange.new ..) (small_one h1 h2 h3 h4) ?_;have I1:Inv X pins σ H {s with heap:=s.heap.push {cls:=.type "range",data:=.fields #[.int lo t,.int hi u,.int 1 v]},toks:=tk}:=I.kept fun b o e=>ph _ e
 refine⟨(s.heap.push {cls:=.type "range",data:=.fields #[.int lo t,.int hi u,.int 1 v]}).objs.size,[(s.heap.push {cls:=.type "range",data:=.fields #[.int lo t,.int hi u,.int 1 v]}).objs.size],_,_,H,rfl,
  I1.kept (t':=tk) fun b o e=>ph _ e,J8 _ lo (hi-lo).toNat,?_,fun b hb=>?_,q⟩
 ·have e1:lo+((0:Nat):Int)*1=lo:=by simp
  have e2:(((hi-lo).toNat:Nat):Int)-((0:Nat):Int)=Builtin.Range.rangeSize lo hi 1:=by rw[rangeSize_one];split<;>omega
  show IsRangeIter _ _ (lo+((0:Nat):Int)*1) ((((hi-lo).toNat:Nat):Int)-((0:Nat):Int)) 1;rw[e1,e2];exact Vy _ rfl
 ·have e:b=(s.heap.push {cls:=.type "range",data:=.fields #[.int lo t,.int hi u,.int 1 v]}).objs.size:=by simpa using hb
  subst e;exact I1.fO (ua _) (I1.aM.fresh (ua _))
def J9(ta:TA):TI:=fun σ H R=>ta σ H fun vs H1=>∃j:Int,vs=[.int j] /\ -(2 ^ 62)<=j/\j<2 ^ 62/\R (qF 0 j.toNat) H1
def J_(ta:TA):TI:=fun σ H R=>ta σ H fun vs H1=>∃i j:Int,vs=[.int i,.int j]/\(-(2 ^ 62)<=i/\i<2 ^ 62 /\ -(2 ^ 62)<=j/\j<2 ^ 62)/\R (qF i (j-i).toNat) H1
theorem Ka{a:Expr}{ta:TA}{p pos:Pos}(hg:Gl X "range")(hm:X.mg "range" = none)(ha:JA X [a] ta)(hs:starEach [a] X.env=[(false,eval a X.env)]:=by rfl):JI X tg (.Call (.Name "range" p) [a] [] pos) (J9 ta):=by
 refine⟨?_⟩;intro pins s σ H R I h;refine Call_ (kW I hg hm boot_range (Xe (aY (ha pos pins s σ H _ I h) fun us s1 h0_=>el5 h0_ fun vs H1 I1 r1 q1=>?_) hs rfl));obtain⟨j,e,q1,q2,q⟩:=q1;subst e
 cases r1 with
 |cons r rr =>
  cases rr
  obtain⟨t,rfl⟩:=r;exact call_range_1 (Cf I1 (by omega) (by omega) q1 q2 (by simpa using q))
theorem Kb{a b:Expr}{ta:TA}{p pos:Pos}(hg:Gl X "range")(hm:X.mg "range" = none)(ha:JA X [a,b] ta)(hs:starEach [a,b] X.env=[(false,eval a X.env),(false,eval b X.env)]:=by rfl)(jm:starEach [b] X.env=[(false,eval b X.env)]:=by rfl):
  JI X tg (.Call (.Name "range" p) [a,b] [] pos) (J_ ta):=by
 refine⟨?_⟩;intro pins s σ H R I h;refine Call_ (kW I hg hm boot_range (Xe (aY (ha pos pins s σ H _ I h) fun us s1 h0_=>el5 h0_ fun vs H1 I1 r1 q1=>?_) (by rw[hs,jm]) (by rw[jm];rfl)));obtain⟨i,j,e,⟨q1,q2,q3,q4⟩,q⟩:=q1;subst e
 cases r1 with
 |cons r rr =>
  cases rr with
  |cons r' rr =>
   cases rr
   obtain⟨t,rfl⟩:=r;obtain⟨t',rfl⟩:=r';exact call_range_2 (Cf I1 q1 q2 q3 q4 q)
def wY(wi:TI)(g:TG)(tb:TS):TS:=fun D σ H=>wi σ H fun J H1=>∃W:Nat->Nat->St->Hp->Prop,(∃m,W 0 m σ H1)/\∀i m σ H,W i m σ H →
 (J.stop i H/\D.nx σ H)\/(J.go i H/\∃N:St->Hp->Prop,(∀σ' H',N σ' H'->∃m',m'<m/\W (i+1) m' σ' H')/\∀x H',J.o9 i H x H'->g x σ H' fun σ2 H2=>tb {D with nx:=N,ct:=N,bk:=D.nx} σ2 H2)
noncomputable def qG(fp:List Addr)(h:Heap):List (Addr×Obj):=fp.filterMap fun b=>(h.get? b).map fun o=>(b,o)
theorem t5{fp:List Addr}{h:Heap}{b:Addr}{o:Obj}(hb:b∈fp)(e:h.get? b=some o):(b,o)∈qG fp h:=Yj.mpr ⟨b,hb,by rw[e];rfl⟩
theorem Kc{fp:List Addr}{h:Heap}{p:Addr×Obj}(hp:p∈qG fp h):p.1∈fp/\h.get? p.1=some p.2:=by
 obtain⟨b,hb,e⟩:=Yj.mp hp
 cases q:h.get? b with
 |none=>rw[q] at e;cases e
 |some o =>
  rw[q] at e;have e':(b,o)=p:=VY e;subst e';exact⟨hb,q⟩
theorem Inv.pinned{pins:av}{σ:St}{H:Hp}{s:Shared}{fp:List Addr}(I:Inv X pins σ H s)(hf:∀b∈fp,a9 X pins H b)(ho:∀b∈fp,∃o,s.heap.get? b=some o/\∀v,o.data≠.cell v):Inv X (pins++qG fp s.heap) σ H s :=
 I.d6 fun p hp=>(VA.mp hp).elim (fun z=>I.pin p (Uj _ z)) fun z=>by
  obtain⟨hb,e⟩:=Kc z;obtain⟨f0,f1,f2,_⟩:=hf p.1 hb;obtain⟨o,e',d⟩:=ho p.1 hb;rw[e] at e';cases e';exact⟨e,f0,f1,f2,d⟩
theorem Inv.de{pins pl:av}{σ:St}{H:Hp}{s:Shared}(I:Inv X (pins++pl) σ H s):Inv X pins σ H s:=I.d6 fun p hp=>I.pin p (Uj _ (VQ _ hp))
theorem Cg{iter:Expr}{body:List Stmt}{wi:TI}{g:TG}{tb:TS}{pos:Pos}(hp:PassesOwn (model X.prog X.w) X.A X.env X.xe)(hc:X.calm=true)(hi:JI X tg iter wi)(hg:JG X tg g)(hb:cM X body tb)
  (hs:∀x,foldedSetIterable iter X.env x=pure x:=by intro _;rfl):JS X (.For tg iter body [] pos) (wY wi g tb):=by
 refine⟨?_⟩;intro pins s σ H D I h;refine wpAny_For (aY (hi pins s σ H _ I h) fun v s1 h1=>aY h1 fun wW s2 h2=>?_) hs;obtain⟨it,fp,tn,J,H2,e,I2,T,jj,f2,W,⟨m0,w0⟩,turn⟩:=h2;subst e;have gZ:∀{H':Hp},(∀b∈fp,H' b=none)->∀b∈fp,a9 X pins H' b:=fun hn b hb=>⟨hn b hb,(f2 b hb).2⟩;refine codeAny_forLoop_any (fun n s'=>∃i σ' H',Inv X pins σ' H' s'/\tn i s'.heap/\(∀b∈fp,H' b=none)/\W i n σ' H') ?_ m0 ⟨0,σ,H2,I2,jj,fun b hb=>(f2 b hb).1,w0⟩;rintro n s3 ⟨i,σ3,H3,I3,o_,qH,w3⟩;rcases turn i n σ3 H3 w3 with⟨stop,qn⟩|⟨go,N,hN,step⟩
 ·refine XF hp (aY (T.done X rfl rfl rfl hc i pins s3 σ3 H3 X.xe I3 (gZ qH) o_ stop) fun r s4 ⟨hr,I4⟩=>?_)
  subst hr;exact YU ⟨σ3,H3,I4,qn⟩
 ·refine XF hp (aY (T.item X rfl rfl rfl hc i pins s3 σ3 H3 X.xe I3 (gZ qH) o_ go) fun r s4 ⟨u,hr,h4⟩=>?_)
  subst hr;refine XF hp (aY h4 fun _ s5 ⟨x,H5,I5,r5,y5,nA,wZ⟩=>?_);have w4:=I5.pinned (gZ wZ) (T.obj _ _ nA);refine XF hp (aY (hg _ s5 σ3 H5 x u _ w4 r5 (step x H5 y5)) fun _ s6 ⟨σ6,H6,I6,q6⟩=>?_);refine XF hp (aY (hb _ s6 σ6 H6 _ I6 q6) fun f s7 q7=>?_)
  have again:∀{σ7:St}{H7:Hp},Inv X (pins++qG fp s5.heap) σ7 H7 s7->N σ7 H7->∃m,m<n/\∃i σ' H',Inv X pins σ' H' s7/\tn i s7.heap/\(∀b∈fp,H' b=none)/\W i m σ' H':=fun{σ7 H7} I7 n7=>by
   obtain⟨m',hm,w7⟩:=hN σ7 H7 n7;refine⟨m',hm,i+1,σ7,H7,I7.de,T.keep _ _ _ nA fun b hb o e=>(I7.pin (b,o) (Uj _ (Uj _ (t5 hb e)))).1,fun b hb=>?_,w7⟩;obtain⟨o,e,d⟩:=T.obj _ _ nA b hb;exact(I7.pin (b,o) (Uj _ (Uj _ (t5 hb e)))).2.1
  cases f with
  |next=>obtain⟨σ7,H7,I7,n7⟩:=q7;exact again I7 n7
  |cont=>obtain⟨σ7,H7,I7,n7⟩:=q7;exact again I7 n7
  |brk=>obtain⟨σ7,H7,I7,q7⟩:=q7;exact⟨σ7,H7,I7.de,q7⟩
  |ret v=>obtain⟨x7,σ7,H7,I7,r7,q7⟩:=q7;exact⟨x7,σ7,H7,I7.de,r7,q7⟩
end
abbrev R2:=V->V->Hp->VK->Prop
def cU(X:Cx)(f:Value->Value->Sem Value)(r:R2):Prop :=
 ∀(pins:av)(s:Shared)(σ:St)(H:Hp)(x y:V)(v u:Value)(Q:VK),Inv X pins σ H s->RelV x v->RelV y u->r x y H Q →
  wpAny (model X.prog X.w) X.A (f v u) (EP X pins σ Q) X.xe s
def fc(X:Cx)(f:Value)(r:List V->Hp->VK->Prop):Prop :=
 ∀(pins:av)(s:Shared)(σ:St)(H:Hp)(xs:List V)(us:List Value)(Q:VK),Inv X pins σ H s->Vals xs us->r xs H Q →
  wpAny (model X.prog X.w) X.A (call f us) (EP X pins σ Q) X.xe s
def qJ(r:R2)(ta tb:TE):TE:=fun σ H Q=>ta σ H fun x H1=>tb σ H1 fun y H2=>r x y H2 Q
def rI(C:Int->Int->Prop)(g:Int->Int->V):R2:=fun x y H Q=>∃i j,x=.int i/\y=.int j/\C i j/\Q (g i j) H
def kZ(g:Int->Int->V):R2:=fun x y H Q=>∃i j,x=.int i/\y=.int j/\Q (g i j) H
section
variable{X:Cx}{a b c:Expr}{ta tb tc:TE}{pos:Pos}
theorem nB(ha:JE X a ta)(hb:JE X b tb){pins:av}{s:Shared}{σ:St}{H:Hp}{R:V->V->Hp->Prop}(I:Inv X pins σ H s)
  (h:ta σ H fun x H1=>tb σ H1 fun y H2=>R x y H2) {Q:aP} {f:Value->Value->Sem Value}
  (hf:∀v u s2 x y H2,Inv X pins σ H2 s2->RelV x v->RelV y u->R x y H2->wpAny (model X.prog X.w) X.A (f v u) Q X.xe s2) :
  wpAny (model X.prog X.w) X.A (eval a X.env) (fun v s₁=>wpAny (model X.prog X.w) X.A (eval b X.env) (fun u s₂=>wpAny (model X.prog X.w) X.A (f v u) Q X.xe s₂) X.xe s₁) X.xe s:=by
 refine aY (ha pins s σ H _ I h) fun v s1 h0_=>el5 h0_ fun x H1 I1 r1 q1=>?_;refine aY (hb pins s1 σ H1 _ I1 q1) fun u s2 h0_=>el5 h0_ fun y H2 I2 r2 q2=>?_;exact hf v u s2 x y H2 I2 r1 r2 q2
theorem qK{op:Operator}{r:R2}(ho:cU X (binaryOp op) r)(ha:JE X a ta)(hb:JE X b tb):JE X (.BinOp a op b pos) (qJ r ta tb):=by
 refine⟨?_⟩;intro pins s σ H Q I h;exact wpAny_BinOp (nB ha hb I h fun v u s2 x y H2 I2 rx ry q=>ho pins s2 σ H2 x y v u Q I2 rx ry q)
theorem t6{f:Value->Value->Sem Value}{C:Int->Int->Prop}{g:Int->Int->Int}
  (rule:∀(i j:Int)(t u:Tok)(s:Shared)(Q:aP)(E:aP),C i j->Q (.int (g i j) s.toks) {s with toks:=s.toks+1}->wpAny (model X.prog X.w) X.A (f (.int i t) (.int j u)) Q E s) :
  cU X f (rI C fun i j=>.int (g i j)):=by
 intro pins s σ H x y v u Q I rx ry h;obtain⟨i,j,rfl,rfl,hc,q⟩:=h;obtain⟨t,rfl⟩:=rx;obtain⟨t',rfl⟩:=ry;exact rule i j t t' s _ _ hc ⟨.int (g i j),H,I.tok _,⟨_,rfl⟩,q⟩
theorem qL{f:Value->Value->Sem Value}{g:Int->Int->Int}
  (rule:∀(i j:Int)(t u:Tok)(s:Shared)(Q:aP)(E:aP),Q (.int (g i j) s.toks) {s with toks:=s.toks+1}->wpAny (model X.prog X.w) X.A (f (.int i t) (.int j u)) Q E s) :
  cU X f (kZ fun i j=>.int (g i j)):=by
 intro pins s σ H x y v u Q I rx ry h;obtain⟨i,j,rfl,rfl,q⟩:=h;obtain⟨t,rfl⟩:=rx;obtain⟨t',rfl⟩:=ry;exact rule i j t t' s _ _ ⟨.int (g i j),H,I.tok _,⟨_,rfl⟩,q⟩
theorem k6{f:Value->Value->Sem Value}{g:Int->Int->Bool}
  (rule:∀(i j:Int)(t u:Tok)(s:Shared)(Q:aP)(E:aP),Q (.bool (g i j)) s->wpAny (model X.prog X.w) X.A (f (.int i t) (.int j u)) Q E s) :
  cU X f (kZ fun i j=>.bl (g i j)):=by
 intro pins s σ H x y v u Q I rx ry h;obtain⟨i,j,rfl,rfl,q⟩:=h;obtain⟨t,rfl⟩:=rx;obtain⟨t',rfl⟩:=ry;exact rule i j t t' s _ _ ⟨.bl (g i j),H,I,rfl,q⟩
def qM(i j:Int):Prop:=j≠0/\j.natAbs<1073741824
def fP(i j:Int):Prop:=0<=j/\j<=1000000/\i.natAbs<2 ^ 64
def k7(i j:Int):Prop:=(-(2 ^ 64)<i/\i<2 ^ 64)\/(-(2 ^ 64)<j/\j<2 ^ 64)
theorem k7.ok{i j:Int}(h:k7 i j):IntMulOk i j:=by
 rcases h with⟨h1,h2⟩|⟨h1,h2⟩
 ·exact .of_left (intBits_le_64 h1 h2)
 ·exact .of_right (intBits_le_64 h1 h2)
theorem Ci:cU X (binaryOp .Add) (kZ fun i j=>.int (i+j)):=qL fun _ _ _ _ _ _ _ q=>add_int q
theorem Kd:cU X (binaryOp .Sub) (kZ fun i j=>.int (i-j)):=qL fun _ _ _ _ _ _ _ q=>sub_int q
theorem Ke:cU X (binaryOp .Mult) (rI k7 fun i j=>.int (i*j)):=t6 fun _ _ _ _ _ _ _ hc q=>mul_int q hc.ok
theorem Kf:cU X (binaryOp .FloorDiv) (rI qM fun i j=>.int (i.fdiv j)):=t6 fun _ _ _ _ _ _ _ hc q=>floordiv_int hc.1 q (.inl (PyProof.noPylong_small hc.2))
theorem w5:cU X (binaryOp .Mod) (rI (fun _ j=>0<j) fun i j=>.int (i%j)):=t6 fun i j _ _ _ _ _ hc q=>by
 have h1:(0:Int)<j:=hc;exact mod_int' (by omega) (by rw[Int.fmod_eq_emod_of_nonneg i (by omega)];exact q)
theorem Kg:cU X (binaryOp .Pow) (rI fP fun i j=>.int (i ^ j.toNat)):=t6 fun _ _ _ _ _ _ _ hc q=>pow_int_small hc.1 hc.2.1 hc.2.2 q
theorem Cj{pins:av}{σ:St}{H:Hp}{s:Shared}{Q:VK}{k k':Bool}(I:Inv X pins σ H s)(q:Q (.bl k) H)(e:k=k'):EP X pins σ Q (.bool k') s:=by
 subst e;exact⟨.bl k,H,I,rfl,q⟩
theorem Kh:cU X (compareOp .Lt) (kZ fun i j=>.bl (decide (i<j))):=k6 fun _ _ _ _ _ _ _ q=>lt_int q
theorem Ki:cU X (compareOp .LtE) (kZ fun i j=>.bl (decide (i<=j))):=k6 fun _ _ _ _ _ _ _ q=>le_int q
theorem Kj:cU X (compareOp .Gt) (kZ fun i j=>.bl (decide (j<i))):=k6 fun _ _ _ _ _ _ _ q=>gt_int q
theorem Kk:cU X (compareOp .GtE) (kZ fun i j=>.bl (decide (j<=i))):=k6 fun _ _ _ _ _ _ _ q=>ge_int q
theorem Kl:cU X (compareOp .Is) (fun x y H Q=>y=.non/\Q (.bl (decide (x=.non))) H):=by
 intro pins s σ H x y v u Q I rx ry h;obtain⟨rfl,q⟩:=h;cases ry
 refine is_none_gen (Cj I q ?_)
 cases x<;>first
  |(cases rx;rfl)
  |(obtain⟨t,rfl⟩:=rx;rfl)
theorem Km:cU X (compareOp .IsNot) (fun x y H Q=>y=.non/\Q (.bl (!decide (x=.non))) H):=by
 intro pins s σ H x y v u Q I rx ry h;obtain⟨rfl,q⟩:=h;cases ry
 refine isnot_none_gen (Cj I q ?_)
 cases x<;>first
  |(cases rx;rfl)
  |(obtain⟨t,rfl⟩:=rx;rfl)
theorem w6(b:Expr){op:CmpOp}(h:op≠.In:=by decide)(h2:op≠.NotIn:=by decide):behindInMarks op b=false:=by
 have e1:(op==CmpOp.In)=false:=by cases op<;>first|rfl|exact absurd rfl h
 have e2:(op==CmpOp.NotIn)=false:=by cases op<;>first|rfl|exact absurd rfl h2
 cases b<;>simp[behindInMarks,e1,e2]
theorem Kn{op:CmpOp}{r:R2}(ho:cU X (compareOp op) r)(ha:JE X a ta)(hb:JE X b tb)(hm:behindInMarks op b=false):JE X (.Compare a [op] [b] pos) (qJ r ta tb):=by
 refine⟨?_⟩;intro pins s σ H Q I h;exact wpAny_Compare1 (nB ha hb I h fun v u s2 x y H2 I2 rx ry q=>ho pins s2 σ H2 x y v u Q I2 rx ry q) hm
def Ko(t:TE):TT:=fun σ H Q=>t σ H fun x H'=>∃k,x=.bl k/\Q k H'
theorem Kp{op:CmpOp}{r:R2}(ho:cU X (compareOp op) r)(ha:JE X a ta)(hb:JE X b tb)(hm:behindInMarks op b=false):JT X (.Compare a [op] [b] pos) (Ko (qJ r ta tb)):=by
 refine⟨?_⟩;intro pins s σ H Q I h
 refine wpAny_isTrue_Compare1 (aY (ha pins s σ H _ I h) fun v s1 h0_=>el5 h0_ fun x H1 I1 r1 q1 =>aY (hb pins s1 σ H1 _ I1 q1) fun u s2 h0_=>el5 h0_ fun y H2 I2 r2 q2 =>
  aY (ho pins s2 σ H2 x y v u _ I2 r1 r2 q2) fun c s3 ⟨z,H3,I3,r3,k,e,q3⟩=>?_) hm
 subst e;cases r3
 exact W6 ⟨H3,I3,q3⟩
def Kq(r r':R2)(ta tb tc:TE):TE:=fun σ H Q=>ta σ H fun x H1=>tb σ H1 fun y H2=>r x y H2 fun z H3=>∃k,z=.bl k ∧
 (if k=true then tc σ H3 fun w' H4=>r' y w' H4 Q else Q (.bl false) H3)
theorem Kr{op nD:CmpOp}{r r':R2}(ho:cU X (compareOp op) r)(jF:cU X (compareOp nD) r')(ha:JE X a ta)(hb:JE X b tb)(hc:JE X c tc)
  (hm:lastMarks [op,nD] [b,c]=false:=by with_unfolding_all rfl):JE X (.Compare a [op,nD] [b,c] pos) (Kq r r' ta tb tc):=by
 refine⟨?_⟩;intro pins s σ H Q I h
 refine Compare_chain (aY (ha pins s σ H _ I h) fun v s1 h0_=>el5 h0_ fun x H1 I1 r1 q1 =>chain_link (aY (hb pins s1 σ H1 _ I1 q1) fun u s2 h0_=>el5 h0_ fun y H2 I2 r2 q2 =>
  aY (ho pins s2 σ H2 x y v u _ I2 r1 r2 q2) fun d s3 ⟨z,H3,I3,r3,k,e,q3⟩=>?_)) hm
 subst e;cases r3
 refine W6 ?_
 cases k with
 |false=>exact ite_ff ⟨.bl false,H3,I3,rfl,q3⟩
 |true=>exact ite_tt (chain_last (aY (hc pins s3 σ H3 _ I3 q3) fun w' s4 ⟨z',H4,I4,r4,q4⟩=>jF pins s4 σ H4 y z' u w' Q I4 r2 r4 q4))
theorem pb:(sizeLine:Nat)<2 ^ 63:=by rw[WU];decide
theorem Ks:cU X (binaryOp .Add) (fun x y H Q=>∃i j,x=.str i/\y=.str j/\i.length+j.length<=sizeLine/\Q (.str (i++j)) H):=by
 intro pins s σ H x y v u Q I rx ry h;obtain⟨i,j,rfl,rfl,hz,q⟩:=h;obtain⟨t,rfl⟩:=rx;obtain⟨t',rfl⟩:=ry;exact add_str (fun t' tk=>⟨.str (i++j),H,I.tok _,⟨_,rfl⟩,q⟩) hz
theorem vals1{x:V}{us:List Value}(r:Vals [x] us):∃u,us=[u]/\RelV x u:=by
 cases r with
 |cons r1 r2=>cases r2;exact⟨_,rfl,r1⟩
theorem vals2{x y:V}{us:List Value}(r:Vals [x,y] us):∃u w',us=[u,w']/\RelV x u/\RelV y w':=by
 cases r with
 |cons r1 r2 =>
  cases r2 with
  |cons r3 r4=>cases r4;exact⟨_,_,rfl,r1,r3⟩
theorem Kt(hc:X.calm=true):fc X (.builtin "max") (fun xs H Q=>∃i j,xs=[.int i,.int j]/\Q (.int (if j>i then j else i)) H):=by
 intro pins s σ H xs us Q I r h;obtain⟨i,j,rfl,q⟩:=h;obtain⟨u,w',rfl,⟨t,rfl⟩,⟨t',rfl⟩⟩:=vals2 r;refine max_two_ints (I.ok.hd hc) fun h' tk k=>⟨_,H,I.kept k,?_,q⟩
 by_cases hj:j>i
 ·rw[VB hj,VB hj];exact⟨_,rfl⟩
 ·rw[Uo hj,Uo hj];exact⟨_,rfl⟩
theorem Ku(hc:X.calm=true):fc X (.builtin "min") (fun xs H Q=>∃i j,xs=[.int i,.int j]/\Q (.int (if j<i then j else i)) H):=by
 intro pins s σ H xs us Q I r h;obtain⟨i,j,rfl,q⟩:=h;obtain⟨u,w',rfl,⟨t,rfl⟩,⟨t',rfl⟩⟩:=vals2 r;refine min_two_ints (I.ok.hd hc) fun h' tk k=>⟨_,H,I.kept k,?_,q⟩
 by_cases hj:j<i
 ·rw[VB hj,VB hj];exact⟨_,rfl⟩
 ·rw[Uo hj,Uo hj];exact⟨_,rfl⟩
end
structure nE(h:Heap)(x dx C:Addr)(mA:Str->Option Value):Prop where
 obj:h.get? x=some (PySem.W.instObj C dx)
 ns:h.Ns1 dx mA
 ne:dx≠x
theorem Kv{h:Heap}{dx:Addr}{mA:Str->Option Value}(n:h.Ns1 dx mA):∃od,h.get? dx=some od/\∀name,PySem.W.lookIn name od=some (mA name):=by
 obtain⟨o,es,ep,ho,hd,hk,_,hm⟩:=n;refine⟨o,ho,fun name=>?_⟩;have e:=hm name;unfold nsFind findBy at e;rw[<-Array.find?_toList] at e;unfold PySem.W.lookIn;rw[hd];dsimp only;split
 ·rename_i y q
  rw[q] at e;exact congrArg some e
 ·rename_i q
  rw[q] at e
  have a:es.toList.any (·.refKey)=false:=by
   rw[Xs];intro y hy;obtain⟨z,t,w9⟩:=hk y (Array.mem_toList_iff.mp hy);simp[DictEntry.refKey,w9]
  have a':¬ es.toList.any (·.refKey)=true:=by rw[a];exact VC
  rw[Uo a'];exact congrArg some e
theorem nE.look{h:Heap}{x dx C:Addr}{mA:Str->Option Value}(I:nE h x dx C mA):∃od,PySem.W.InstAt h x (PySem.W.instObj C dx) C (some od)/\∀name,PySem.W.lookIn name od=some (mA name) :=
 let⟨od,ho,hl⟩:=Kv I.ns
 ⟨od,⟨I.obj,rfl,rfl,ho⟩,hl⟩
section
variable{prog:Program}{w:World}{A:Around}{E:aP}{s:Shared}{K:PySem.W.Frag}{x dx C f:Addr}{mA:Str->Option Value}{name:Str}{v:Value}
end
theorem dE.some_of{v:V}{o:Option Value}(r:dE (some v) o):∃u,o=some u/\RelV v u:=by
 cases o with
 |none=>exact(show False from r).elim
 |some u=>exact⟨u,rfl,r⟩
section
variable{P:Program}{w:World}{H H':Hp}{h h':Heap}{a C dx:Addr}{fs Jl:List (Str×V)}
theorem Kw(aM:c8 P w H h)(e:H a=some (.ins C dx fs)):∃mA,nE h a dx C mA/\(∀f,dE (fs.lookup f) (mA f))/\PySem.Within mA (fs.map (·.1))/\fs.length<=1000/\H dx=some (.own a):=by
 obtain⟨d,z,ne,ob,mA,n,r,q⟩:=(show aL P w H h a (.ins C dx fs) from aM a _ e);exact⟨mA,⟨ob,n,ne⟩,r,q,z,d⟩
end
structure w_(K:PySem.W.Frag)(C:Addr):Prop where
 pg:PySem.W.plainGet K C Str.empty=true
 hd:PySem.W.hasDictIn K C=true
 po:PySem.W.plainOver K C=true
 sa:PySem.W.findIn K (.ref C) "__setattr__" = some (some (.builtin "object.__setattr__"))
theorem w_.get{K:PySem.W.Frag}{C:Addr}(c:w_ K C)(f:Str):PySem.W.plainGet K C f=true:=c.pg
section
variable{X:Cx}{pins:av}{σ:St}{H:Hp}{s:Shared}{a C dx:Addr}{fs:List (Str×V)}{f:Str}{v:V}{A:Around}{E:aP}
end
section
variable{X:Cx}{o e value:Expr}{f:Str}{pos pos' xa:Pos}{ta tv:TE}
end
section
variable{X:Cx}{pins:av}{σ:St}{H:Hp}{s:Shared}{A:Around}{E:aP}{Q:aP}{c:Value}{b:Bool}
inductive df (K:PySem.W.Frag) (H:Hp):V->Value->Prop where
 |non:df K H .non (.type "NoneType")
 |bl (x:Bool):df K H (.bl x) (.type "bool")
 |int (i:Int):df K H (.int i) (.type "int")
 |str (x:Str):df K H (.str x) (.type "str")
 |flt (x:UInt64):df K H (.flt x) (.type "float")
 |lst {a:Addr} {xs:List V} (e:H a=some (.lst xs)):df K H (.ref a) (.type "list")
 |frz {a:Addr} {o:Obj} {xs:List V} (e:H a=some (.frz o (.lst xs))):df K H (.ref a) (.type "list")
 |tup {a:Addr} {xs:List V} (e:H a=some (.tup xs)):df K H (.ref a) (.type "tuple")
 |dK {a:Addr} {ah:List (Key×V)} (e:H a=some (.dK ah)):df K H (.ref a) (.type "dict")
 |dT {a:Addr} {ah:List (List Key×V)} (e:H a=some (.dT ah)):df K H (.ref a) (.type "dict")
 |ins {a C dx:Addr} {fs:List (Str×V)} (e:H a=some (.ins C dx fs)) (cl:w_ K C) (ha:PySem.W.findIn K (.ref C) "__class__" = some (some (.builtin "object.__class__")))
   (hn:PySem.W.specialIn K (.builtin "object.__class__") "__get__" = some (some (.builtin "getset_descriptor.__get__"))) (Cm:PySem.W.takesIn K (.builtin "object.__class__")=some true)
   (hm:PySem.W.mroIn K C (.type "object")=some true):df K H (.ref a) (.ref C)
theorem Kx{x:V}{u t:Value}(I:Inv X pins σ H s)(rx:RelV x u)(ty:df X.K H x t)(e:PySem.W.kitOne X.K t c=some b)(h:∀tk,Q (.bool b) {s with toks:=tk}):
  wpAny (model X.prog X.w) A (call (.builtin "isinstance") [u,c]) Q E s:=by
 cases ty with
 |non=>cases(show u=Value.none from rx);exact WW PySem.W.kitx_none I.gw True.intro e (fun z=>nomatch z) h
 |bl y=>cases(show u=Value.bool y from rx);exact WW PySem.W.kitx_bool I.gw True.intro e (fun z=>nomatch z) h
 |int i=>obtain⟨t,q⟩:=(show ∃t,u=Value.int i t from rx);cases q;exact WW PySem.W.kitx_int I.gw True.intro e (fun z=>nomatch z) h
 |str y=>obtain⟨t,q⟩:=(show ∃t,u=Value.str y t from rx);cases q;exact WW PySem.W.kitx_str I.gw True.intro e (fun z=>nomatch z) h
 |flt y=>obtain⟨t,q⟩:=(show ∃t,u=Value.float y t from rx);cases q;exact WW PySem.W.kitx_float I.gw True.intro e (fun z=>nomatch z) h
 | @lst a xs ea =>
  cases(show u=Value.ref a from rx)
  obtain⟨_,_,n,_,h1⟩:=(show aL X.prog X.w H s.heap a (.lst xs) from I.aM a _ ea);exact WW PySem.W.kitx_list I.gw ⟨_,h1,rfl⟩ e (fun z=>nomatch z) h
 | @frz a ob xs ea =>
  cases(show u=Value.ref a from rx)
  obtain⟨_,_,_,n,_,h1⟩:=(show aL X.prog X.w H s.heap a (.frz ob (.lst xs)) from I.aM a _ ea);exact WW PySem.W.kitx_list I.gw ⟨_,h1,rfl⟩ e (fun z=>nomatch z) h
 | @tup a xs ea =>
  cases(show u=Value.ref a from rx)
  obtain⟨_,_,_,p⟩:=(show aL X.prog X.w H s.heap a (.tup xs) from I.aM a _ ea);obtain⟨o,h1,h2,_⟩:=p;exact WW PySem.W.kitx_tuple I.gw ⟨o,h1,h2⟩ e (fun z=>nomatch z) h
 | @dK a ah ea =>
  cases(show u=Value.ref a from rx)
  obtain⟨_,_,vs,_,p⟩:=(show aL X.prog X.w H s.heap a (.dK ah) from I.aM a _ ea);obtain⟨o,es,ep,h1,h2,_⟩:=p;exact WW PySem.W.kitx_dict I.gw ⟨o,h1,h2.1⟩ e (fun z=>nomatch z) h
 | @dT a ah ea =>
  cases(show u=Value.ref a from rx)
  obtain⟨_,_,xs,_,o,es,ep,h1,h2,_⟩:=(show aL X.prog X.w H s.heap a (.dT ah) from I.aM a _ ea);exact WW PySem.W.kitx_dict I.gw ⟨o,h1,h2.1⟩ e (fun z=>nomatch z) h
 | @ins a C dx fs ea cl ha hn Cm hm =>
  cases(show u=Value.ref a from rx)
  obtain⟨mA,O,_⟩:=Kw I.aM ea;obtain⟨od,J,_⟩:=O.look;exact WW (PySem.W.kitx_own (cl.get _) cl.hd ha hn Cm hm) I.gw J e (fun z=>nomatch z) h
end
structure a7(k:Nat)(A:Around):Prop where
 hd:A.handled=none
 dp:A.depth+3*k+5<recursionLimit
 un:A.units+16*k+200<cLine
theorem a7.mono{j k:Nat}{A:Around}(r:a7 k A)(h:j<=k):a7 j A:=⟨r.hd,by have:=r.dp;omega,by have:=r.un;omega⟩
theorem a7.deeper{k:Nat}{A:Around}(r:a7 (k+1) A)(env:Env):a7 k (A.deeper env) :=
 ⟨r.hd,by have:=r.dp;show A.depth+1+3*k+5<_;omega,by have:=r.un;show A.units+3+16*k+200<_;omega⟩
theorem a7.in1{k:Nat}{A:Around}(r:a7 (k+1) A):a7 k A.in1 :=
 ⟨r.hd,by have:=r.dp;show A.depth+3*k+5<_;omega,by have:=r.un;show A.units+1+16*k+200<_;omega⟩
theorem a7.depth{k:Nat}{A:Around}(r:a7 k A):A.depth<recursionLimit:=by have:=r.dp;omega
theorem a7.units{k:Nat}{A:Around}(r:a7 k A):A.units+64<cLine:=by have:=r.un;omega
def xb:TA:=fun _ H Q=>Q [] H
def mn(ta:TE)(tr:TA):TA:=fun σ H Q=>ta σ H fun x H1=>tr σ H1 fun xs H2=>Q (x::xs) H2
section
variable{X:Cx}{e:Expr}{es:List Expr}{te:TE}{t:TA}{pos:Pos}
theorem bx:JA X [] xb:=⟨fun _ _ _ _ H Q I h=>Calls.spliced_nil ⟨[],H,I,.nil,h⟩⟩
theorem iS(ha:JE X e te)(hr:JA X es t)(hs:dF X e es:=by rfl):JA X (e::es) (mn te t):=by
 refine⟨?_⟩;intro pos pins s σ H Q I h;rw[hs];show wpAny _ _ (spliced ((false,eval e X.env)::backTo pos (starEach es X.env))) _ _ s;refine Za (aY (ha pins s σ H _ I h) fun u s1 h0_=>el5 h0_ fun x H1 I1 r1 q1=>?_);exact aY (hr pos pins s1 σ H1 _ I1 q1) fun us s2 h0_=>el5 h0_ fun xs H2 I2 r2 q2 =>⟨x::xs,H2,I2,.cons r1 r2,q2⟩
def xc(t:TA):TE:=fun σ H Q=>t σ H fun xs H1=>xs.length<=sizeLine/\∀p,H1 p=none->Q (.ref p) (upd H1 p (.tup xs))
def xf(t:TA):TE:=fun σ H Q=>t σ H fun xs H1=>xs.length<=sizeLine/\∀p,H1 p=none->Q (.ref p) (upd H1 p (.lst xs))
theorem Ky{x1}(h:JA X es t):JE X (.Tuple es x1 pos) (xc t):=by
 refine⟨?_⟩;intro pins s σ H Q I hq;refine wpAny_Tuple_spliced (aY (h pos pins s σ H _ I hq) fun us s1 ⟨xs,H1,I1,r,z,q⟩=>⟨by rw[<-r.length];exact z,?_⟩);have hf:H1 s1.heap.objs.size=none:=I1.aM.fresh (ua _);refine⟨.ref s1.heap.objs.size,upd H1 s1.heap.objs.size (.tup xs),I1.laid (t':=s1.toks) (fun b u e=>ph _ e) (ua _) ?_,rfl,q _ hf⟩;exact⟨z,us,r,⟨_,Vy _ rfl,rfl,_,rfl⟩⟩
theorem xg(h:JA X es t):JE X (.List es pos) (xf t):=by
 refine⟨?_⟩;intro pins s σ H Q I hq;refine wpAny_List_spliced (aY (h pos pins s σ H _ I hq) fun us s1 ⟨xs,H1,I1,r,z,q⟩=>⟨by rw[<-r.length];exact z,?_⟩);have hf:H1 s1.heap.objs.size=none:=I1.aM.fresh (ua _);refine⟨.ref s1.heap.objs.size,upd H1 s1.heap.objs.size (.lst xs),I1.laid (t':=s1.toks) (fun b u e=>ph _ e) (ua _) ?_,rfl,q _ hf⟩;exact⟨z,us,0,r,Vy _ rfl⟩
end
abbrev Sp:=List V->Hp->VK->XK->Prop
abbrev jn:=List Env->Hp->Shared->XK->Value->Shared->Prop
structure k8(P:Program)(w:World)(K:PySem.W.Frag)(mg:Str->Option Value)(base:Heap)(A:Around)(outer:List Env)(s:Shared)(H:Hp):Prop where
 frames:A.frames=some outer
 mod:Mod K mg base
 bs:∀b o,base.get? b=some o->s.heap.get? b=some o/\H b=none
 l_:base.objs.size<=s.heap.objs.size
 dW:s.heap.FunFrames base outer
 nh:∀b∈jk outer,H b=none
 aM:c8 P w H s.heap
 bare:AllBare s.gens
def CE(outer:List Env)(P:Program)(w:World)(H:Hp)(s:Shared)(Q:VK)(u:Value)(s':Shared):Prop :=
 ∃v H',s'.os=s.os/\AllBare s'.gens/\Un (jk outer) [] H H' s.heap s'.heap/\c8 P w H' s'.heap/\RelV v u/\Q v H'
def CR(CX:jn)(outer:List Env)(P:Program)(w:World)(H:Hp)(s:Shared)(Q:VK)(E:XK)(r:Result)(s':Shared):Prop :=
 match r with
 |.ok (.ret u)=>CE outer P w H s Q u s'
 |.ok _=>False
 |.error e=>CX outer H s E e s'
structure cV(P:Program)(w:World)(K:PySem.W.Frag)(mg:Str->Option Value)(base:Heap)(CX:jn)(k:Nat)(f:Addr)(fd:FuncData)(ps:List Str)(sp:Sp):Prop where
 len:∀vs H Q E,sp vs H Q E->vs.length=ps.length
 run:∀(A:Around)(outer:List Env)(s:Shared)(H:Hp)(args:Args)(us:List Value)(vs:List V)(Q:VK)(E:XK),a7 k A->k8 P w K mg base A outer s H->BindsTo s fd args (ps.zip us)->Vals vs us->sp vs H Q E →
  codeAny (model P w) A (.call (.ref f) args) (CR CX outer P w H s Q E) s
section
variable{X:Cx}{pins:av}{σ:St}{H:Hp}{s s':Shared}
theorem Inv.qN(I:Inv X pins σ H s):k8 X.prog X.w X.K X.mg X.base X.A X.stack s H :=
 ⟨I.ok.frames,I.ok.mod,I.bs,V_ I.ok.l_ I.sz,I.stack,I.ir,I.aM,I.bare⟩
theorem Inv.after{Q:VK}{u:Value}(I:Inv X pins σ H s)(h:CE X.stack X.prog X.w H s Q u s'):EP X pins σ Q u s':=by
 obtain⟨v,H',os,bare,un,aM,r,q⟩:=h;obtain⟨hh,g,d,t,qt⟩:=s';obtain rfl:qt=s.os:=os;exact⟨v,H',I.call (h':=hh) (g':=g) (d':=d) (t':=t) (ch:=[]) un aM bare (fun b z=>absurd z (by simp)),r,q⟩
end
def xh(sp:Sp)(mq:List V)(E:XK)(t:TA):TE:=fun σ H Q=>t σ H fun vs H1=>sp (vs++mq) H1 Q E
def Binds(K:PySem.W.Frag)(fd:FuncData)(ps:List Str)(ds:List Value):Prop :=
 ∀(s:Shared)(us:List Value),K.In s.heap->(us++ds).length=ps.length->BindsTo s fd ⟨us,[]⟩ (ps.zip (us++ds))
theorem Binds.all{K:PySem.W.Frag}{fd:FuncData}{ps:List Str}(h:∀us:List Value,us.length=ps.length->bindArgs fd ⟨us,[]⟩=pure (ps.zip us)):Binds K fd ps []:=fun s us _ hl=>by
 rw[XE] at hl ⊢;exact .of_eq (h us hl)
def xi(CX:jn)(X:Cx)(E:XK):Prop:=∀(pins:av)(σ:St)(H:Hp)(s:Shared)(e:Value)(s':Shared),Inv X pins σ H s->CX X.stack H s E e s'->X.xe e s'
section
variable{X:Cx}{CX:jn}{k:Nat}{f C:Addr}{fd:FuncData}{ps:List Str}{sp:Sp}{mq:List V}{ds:List Value}{E:XK}{x m:Str}{p pos apos:Pos}{e o:Expr}{es:List Expr}{ta:TE}{t:TA}
theorem Kz{pins:av}{σ:St}{H:Hp}{s:Shared}{Q:VK}{us:List Value}{vs:List V}(F:cV X.prog X.w X.K X.mg X.base CX k f fd ps sp)(hr:a7 k X.A)(hb:Binds X.K fd ps ds)(hd:Vals mq ds)(hx:xi CX X E)
  (I:Inv X pins σ H s) (r:Vals vs us) (h:sp (vs++mq) H Q E):wpAny (model X.prog X.w) X.A (call (.ref f) us) (EP X pins σ Q) X.xe s:=by
 have r2:Vals (vs++mq) (us++ds):=r.append hd;have hl:(us++ds).length=ps.length:=by rw[<-r2.length];exact F.len _ _ _ _ h
 refine wpAny_call (X9 (F.run X.A X.stack s H ⟨us,[]⟩ (us++ds) (vs++mq) Q E hr I.qN (hb s us I.gw hl) r2 h) fun r s' hq=>?_)
 cases r with
 |error e=>exact hx pins σ H s e s' I hq
 |ok fl =>
  cases fl with
  |ret u=>exact I.after hq
  |next=>exact False.elim hq
  |brk=>exact False.elim hq
  |cont=>exact False.elim hq
theorem xj(F:cV X.prog X.w X.K X.mg X.base CX k f fd ps sp)(hr:a7 k X.A)(hg:Gl X x)(hm:X.mg x=some (.ref f))(hk:PySem.W.keepIn X.K (.ref f)=true)(hb:Binds X.K fd ps ds)(hd:Vals mq ds)(hx:xi CX X E)
  (ha:JA X (e::es) t) (fQ:bV x:=by decide) (he:dF X e es:=by rfl) (fB:eD X pos es:=by rfl) :
  JE X (.Call (.Name x p) (e::es) [] pos) (xh sp mq E t):=by
 refine⟨?_⟩;intro pins s σ H Q I h;refine XS (B9 I hg hm ?_ fQ);refine PySem.W.callWith_K (h₀:=X.base) I.ok.mod.l9 hk (aY (ha pos pins s σ H _ I h) fun us s1 h0_=>el5 h0_ fun vs H1 I1 r q =>⟨I1.gw,?_⟩) he fB;exact Kz F hr hb hd hx I1 r q
end
section
variable{X:Cx}{CX:jn}{k:Nat}{f C:Addr}{fd:FuncData}{ps ks:List Str}{sp:Sp}{E:XK}{x m:Str}{p pos apos eE:Pos}{e o:Expr}{es:List Expr}{Uh:List Keyword}{te ta:TE}{t tk:TA}{nm:Option Str}
variable{g:List Value->List Value->List Value}{gV:List V->List V->List V}
end
structure my(N P:List Str)(sc:Scope):Prop where
 kind:sc.kind=.function
 co:sc.isCoroutine=false
 gen:sc.isGenerator=false
 nd:N.Nodup
 pre:N.take P.length=P
 par:∀x∈P,sc.names.lookup x=some .local\/sc.names.lookup x=some .cell
 nG:∀y∈sc.names,y.2≠.free
theorem Co{kindOf:Str->Option NameKind}{x:Str}:∀{binds:List (Str×Value)}{m:Str->Option Value},(∀v,(x,v)∉binds)->bindL kindOf binds m x=m x
 |[],_,_=>rfl
 |(n,v)::r,m,h=>by
  unfold bindL;rw[Co fun w hw=>h w (C5 _ hw)];split
  ·have:x≠n:=by rintro rfl;exact h v My
   simp[this]
  ·rfl
theorem Cp{kindOf:Str->Option NameKind}{x:Str}:∀{binds:List (Str×Value)}{m:Str->Option Value},(∀v,(x,v)∉binds)->bindC kindOf binds m x=m x
 |[],_,_=>rfl
 |(n,v)::r,m,h=>by
  unfold bindC;rw[Cp fun w hw=>h w (C5 _ hw)];split
  ·rfl
  ·have:x≠n:=by rintro rfl;exact h v My
   simp[this]
theorem Cq{kindOf:Str->Option NameKind}{x:Str}{v:Value}:∀{P:List Str}{vs:List Value}{i:Nat}{m:Str->Option Value},P.Nodup->P[i]?=some x->vs[i]?=some v->kindOf x=some .local →
  bindL kindOf (P.zip vs) m x=some v
 |[],_,_,_,_,h,_,_=>by simp at h
 |_::_,[],_,_,_,_,h,_=>by simp at h
 |p::P,w::vs,0,m,nd,h1,h2,hk=>by
  simp at h1 h2;subst h1;subst h2;show bindL kindOf ((p,w)::P.zip vs) m p=_;unfold bindL;rw[Co fun v hv=>(Wf.mp nd).1 (ZX hv).1,VB hk];simp
 |p::P,w::vs,i+1,m,nd,h1,h2,hk=>by
  show bindL kindOf ((p,w)::P.zip vs) m x=_;unfold bindL;exact Cq (i:=i) (Wf.mp nd).2 (by simpa using h1) (by simpa using h2) hk
theorem Cr{kindOf:Str->Option NameKind}{x:Str}{v:Value}:∀{P:List Str}{vs:List Value}{i:Nat}{m:Str->Option Value},P.Nodup->P[i]?=some x->vs[i]?=some v->kindOf x≠some .local →
  bindC kindOf (P.zip vs) m x=some v
 |[],_,_,_,_,h,_,_=>by simp at h
 |_::_,[],_,_,_,_,h,_=>by simp at h
 |p::P,w::vs,0,m,nd,h1,h2,hk=>by
  simp at h1 h2;subst h1;subst h2;show bindC kindOf ((p,w)::P.zip vs) m p=_;unfold bindC;rw[Cp fun v hv=>(Wf.mp nd).1 (ZX hv).1,Uo hk];simp
 |p::P,w::vs,i+1,m,nd,h1,h2,hk=>by
  show bindC kindOf ((p,w)::P.zip vs) m x=_;unfold bindC;exact Cr (i:=i) (Wf.mp nd).2 (by simpa using h1) (by simpa using h2) hk
noncomputable def start(N:List Str)(vs:List V):St:=vs.map some++List.replicate (N.length-vs.length) none
noncomputable def eF(CX:jn)(P:Program)(w:World)(K:PySem.W.Frag)(mg:Str->Option Value)(base:Heap)(N:List Str)(qual:Str)(scope:Scope)(f:Addr)(cd:Value)(A:Around)(outer:List Env)(s:Shared)(H:Hp)(E:XK):Cx where
 prog:=P
 w:=w
 K:=K
 mg:=mg
 base:=base
 A:=A.deeper (envOfC qual scope s.heap.objs.size f cd)
 N:=N
 s₀:=s
 H₀:=H
 env:=envOfC qual scope s.heap.objs.size f cd
 outer:=outer
 stack:=envOfC qual scope s.heap.objs.size f cd::outer
 ex:=[]
 calm:=true
 fn:=fun _=>true
 pn:=[]
 xe:=fun e s'=>wpAny (model P w) (A.deeper (envOfC qual scope s.heap.objs.size f cd)) (leaving (envOfC qual scope s.heap.objs.size f cd) e) (fun _ g5=>CX outer H s E e g5) (fun e' g5=>CX outer H s E e' g5) s'
theorem Cs{sc:Scope}{n:Nat}{x:Str}(h:sc.names.lookup x=some .cell):∃c,(cellsFrom n sc.names []).lookup x=some c:=by
 have q:=Yz sc.names n [] (.inl h);exact XI.mp q
theorem KC{CX:jn}{P:Program}{w:World}{K:PySem.W.Frag}{mg:Str->Option Value}{base:Heap}{N ps:List Str}{qual:Str}{scope:Scope}{f:Addr}{cd:Value}{A:Around}{outer:List Env}{s s1:Shared}{H:Hp}{E:XK}{us:List Value}{vs:List V}
  (S:my N ps scope) (hd:A.handled=none) (e0:k8 P w K mg base A outer s H) (hl:vs.length=ps.length) (r:Vals vs us)
  (x:InCallC s s.heap.objs.size (bindL (envOfC qual scope s.heap.objs.size f cd).kindOf (ps.zip us) fun _=>none) (cellsFrom (s.heap.objs.size+1) scope.names []) (bindC (envOfC qual scope s.heap.objs.size f cd).kindOf (ps.zip us) fun _=>none) s1) :
  Inv (eF CX P w K mg base N qual scope f cd A outer s H E) [] (start N vs) H s1:=by
 have fB:ps.length<=N.length:=by have:=congrArg List.length S.pre;rw[We] at this;omega
 obtain⟨h1,tk,rfl,hk⟩:=x.done;have k9:∀b:Addr,b∉(eF CX P w K mg base N qual scope f cd A outer s H E).ex:=fun b z=>absurd (show b∈([]:List Addr) from z) (by simp)
 refine⟨⟨e0.mod,S.kind,rfl,rfl,ua _,fun y z c h1 h2=>?_,fun y hy=>?_,fun y c _ h=>?_,fun _=>hd,Around.frames_deeper e0.frames,.inr ⟨rfl,rfl⟩,fun b z=>absurd z (k9 b),e0.bs,e0.l_,fun b _ _=>k9 b,fun b z=>absurd z (k9 b),e0.dW,e0.nh⟩,
  rfl,e0.bare,Un.kept hk,⟨_,x.toInCall.ns,fun i y v h1 h2 h3=>?_⟩,fun y c h=>⟨_,x.cell y c h⟩,e0.aM.fresh (ua _),fun y c h=>?_,fun p hp=>absurd (show p∈([]:av) from hp) (by simp),e0.aM.kept hk,?_⟩
 ·exact name_of_addr x.apart (WM h1) (WM h2)
 ·have hy:scope.names.lookup y=some .cell\/scope.names.lookup y=some .free:=hy
  rcases hy with hy|hy
  ·exact Cs hy
  ·exact absurd rfl (S.nG _ (WM hy))
 ·exact WZ (x.above y c (WM h))
 ·have hi:i<vs.length:=by
   unfold start at h2
   by_cases hi:i<vs.length
   ·exact hi
   ·rw[VF (by simpa using hi)] at h2
    rw[Yn] at h2;split at h2<;>cases h2
  have ha:vs[i]?=some v:=by
   unfold start at h2;rw[VE (by simpa using hi),Lq] at h2
   cases e:vs[i]? with
   |none=>rw[e] at h2;cases h2
   |some a=>rw[e] at h2;cases h2;rfl
  obtain⟨u,hu,rv⟩:=r.get ha
  have hp:ps[i]?=some y:=by
   rw[<-S.pre,Wo (by omega)];exact h1
  have Cu:ps.Nodup:=by rw[<-S.pre];exact S.nd.sublist (Zl _ _)
  refine⟨u,rv,?_⟩;rcases S.par y (V0 hp) with k|k
  ·exact .inl ⟨k,Cq Cu hp hu k⟩
  ·obtain⟨c,e⟩:=Cs (n:=s.heap.objs.size+1) k
   refine .inr ⟨.inl k,c,e,?_⟩;have q:=x.cell y c e;rw[Cr Cu hp hu (by show scope.names.lookup y≠_;rw[k];decide)] at q;exact q
 ·exact e0.aM.fresh (WZ (x.above y c (WM h)))
 ·unfold start
  show _=N.length;rw[C4,nU,YH];omega
theorem Cv{CX:jn}{P:Program}{w:World}{K:PySem.W.Frag}{mg:Str->Option Value}{base:Heap}{k:Nat}{f:Addr}{name qual:Str}{params:Arguments}{body:List Stmt}{scope:Scope}{dV kV doc pm a6 ct oc:Value}{an od:Option Addr}
  {k_:Array (Option Value)} {N ps:List Str} {sp:Sp} (lk:K.lookup f=some ⟨oc,od,.func (PySem.W.fnOf name qual params body scope dV kV doc pm an a6 ct),k_⟩) (fN:PySem.W.codeIn K a6 qual=true) (S:my N ps scope)
  (len:∀vs H Q E,sp vs H Q E->vs.length=ps.length)
  (eG:∀(A:Around)(outer:List Env)(s:Shared)(H:Hp)(vs:List V)(Q:VK)(E:XK),a7 k (A.deeper (envOfC qual scope s.heap.objs.size f a6))->sp vs H Q E →
   ∃t,cM (eF CX P w K mg base N qual scope f a6 A outer s H E) body t/\t {nx:=fun _ H'=>Q .non H',rt:=Q} (start N vs) H) :
  cV P w K mg base CX (k+1) f (PySem.W.fnOf name qual params body scope dV kV doc pm an a6 ct) ps sp:=by
 refine⟨len,fun A outer s H args us vs Q E hr e0 hb r mz=>?_⟩;have hl:=len _ _ _ _ mz;have KX:K.In s.heap:=e0.mod.l9.keeps fun b o e=>(e0.bs b o e).1;have lim:s.heap.NoLimit:=e0.mod.nolimit.keeps fun b o e=>(e0.bs b o e).1
 have qO:∀y∈ps.zip us,scope.names.lookup y.1=some .local\/(scope.names.lookup y.1=some .cell/\((cellsFrom (s.heap.objs.size+1) scope.names []).lookup y.1).isSome=true):=fun⟨n,v⟩ hy=>by
  rcases S.par n (ZX hy).1 with q|q
  ·exact .inl q
  ·exact .inr ⟨q,Yz _ _ _ (.inl q)⟩
 refine codeAny_call_function hr.depth (KX _ _ lk) rfl S.co S.gen rfl (PySem.W.codeRec_of KX fN) (hb _ _ _ _ ?_);refine wpAny_newFunctionEnv_cells S.kind qO fun env he s1 x=>?_;subst he;refine⟨lim.keeps x.toInCall.keep,codeAny_func ?_⟩;obtain⟨t,ht,hq⟩:=eG A outer s H vs Q E (hr.deeper _) mz;have I:Inv (eF CX P w K mg base N qual scope f a6 A outer s H E) [] (start N vs) H s1:=KC S hr.hd e0 hl r x;refine Xa (ht [] s1 (start N vs) H _ I hq) (fun fl s' hs=>?_) fun e s' hs=>hs
 have fin:∀{σ':St}{H':Hp}{v:V}{u:Value},Inv (eF CX P w K mg base N qual scope f a6 A outer s H E) [] σ' H' s'->RelV v u->Q v H'->CE outer P w H s Q u s' :=
  fun{σ' H' v u} J rv q=>⟨v,H',J.os,J.bare,J.base,J.aM,rv,q⟩
 cases fl with
 |ret u =>
  obtain⟨v,σ',H',J,rv,q⟩:=hs;exact fin J rv q
 |next =>
  obtain⟨σ',H',J,q⟩:=hs;exact fin (v:=V.non) (u:=Value.none) J rfl q
 |brk =>
  obtain⟨_,_,_,q⟩:=hs;exact False.elim q
 |cont =>
  obtain⟨_,_,_,q⟩:=hs;exact False.elim q
section
variable{X:Cx}{x:Str}{p pos:Pos}{e:Expr}{es:List Expr}{t:TA}{id T:String}{r:List V->Hp->VK->Prop}
def t7(r:List V->Hp->VK->Prop)(t:TA):TE:=fun σ H Q=>t σ H fun vs H1=>r vs H1 Q
theorem pd(hc:fc X (.builtin id) r)(hg:Gl X x)(hm:X.mg x=none)(hv:bootBuiltins x=some (.builtin id))(ha:JA X (e::es) t)(hn:x≠"__name__" := by decide)(fQ:bV x:=by decide)
  (he:dF X e es:=by rfl) (fB:eD X pos es:=by rfl):JE X (.Call (.Name x p) (e::es) [] pos) (t7 r t):=by
 refine⟨?_⟩;intro pins s σ H Q I h;refine XS (kW I hg hm hv ?_ hn fQ);exact PyProof.Rows.callWith_builtin1 (aY (ha pos pins s σ H _ I h) fun us s1 h0_=>el5 h0_ fun vs H1 I1 r1 q1 =>hc pins s1 σ H1 vs us Q I1 r1 q1) he fB
theorem kG(hc:fc X (.type T) r)(hg:Gl X x)(hm:X.mg x=none)(hv:bootBuiltins x=some (.type T))(ha:JA X (e::es) t)(hn:x≠"__name__" := by decide)(fQ:bV x:=by decide)
  (he:dF X e es:=by rfl) (fB:eD X pos es:=by rfl):JE X (.Call (.Name x p) (e::es) [] pos) (t7 r t):=by
 refine⟨?_⟩;intro pins s σ H Q I h;refine XS (kW I hg hm hv ?_ hn fQ);exact Xe (aY (ha pos pins s σ H _ I h) fun us s1 h0_=>el5 h0_ fun vs H1 I1 r1 q1 =>hc pins s1 σ H1 vs us Q I1 r1 q1) he fB
end
end L2
namespace HT
open PySem PyProof.Rows
noncomputable def lexLt:List Int->List Int->Bool
 |[],[]=>false
 |[],_::_=>true
 |_::_,[]=>false
 |x::xs,y::ys=>if x=y then lexLt xs ys else decide (x<y)
theorem mB(x y:Int)(xs ys:List Int):lexLt (x::xs) (y::ys)=if x=y then lexLt xs ys else decide (x<y):=rfl
theorem Cw:lexLt [] []=false:=rfl
theorem Cy(y:Int)(ys:List Int):lexLt [] (y::ys)=true:=rfl
theorem Cz(x:Int)(xs:List Int):lexLt (x::xs) []=false:=rfl
theorem CA(A:Around)(s:Shared)(a:Int)(t:Tok)(c:Int)(u:Tok):∃e,SeqAt.EqAt A s (.int a t) (.int c u) e/\(e=true↔a=c) :=
 ⟨(a==c),Zb a t c u,by simp⟩
theorem KD(A:Around)(s:Shared)(a:Int)(t:Tok)(c:Int)(u:Tok)(prog:Program)(w:World)(E:aP)(Q:aP)(h:Q (.bool (decide (a<c))) s):
  wpAny (model prog w) A (richCompare .Lt (.int a t) (.int c u)) Q E s :=
 (PyProof.Rows.lt_int h:wpAny (model prog w) A (compareOp .Lt (.int a t) (.int c u)) Q E s)
section
open PySem.SeqAt
open PySem.AutoSeq1 (wpAny_loadPart')
open PySem.MeetsSeq PySem.MeetsSeq2 PySem.MeetsSeq3
theorem KG(l b:Addr)(items aQ:Array Value)(n n2:Nat)(dd jo:Option Addr)(sl jq:Array (Option Value))(ns ms:List Int)(hi:IntsAre items.toList ns)(hj:IntsAre aQ.toList ms):
  Meets (Builtin.«tuple.__lt__» ⟨[.ref l,.ref b],[]⟩)
   (fun _ R s=>s.heap.get? l=some {cls:=.type "tuple",dict:=dd,data:=.seq items n,slots:=sl}/\s.heap.get? b=some {cls:=.type "tuple",dict:=jo,data:=.seq aQ n2,slots:=jq} ∧
    R (.ok (.ret (.bool (lexLt ns ms)))) s) :=
 .of_wp fun prog w A R s h=>by
  obtain⟨hp,g,d,tk,os⟩:=s;obtain⟨hl,hb,h⟩:=h;have f2:=AutoSeq1.sub_tuple_tuple;have z1:items.size=ns.length:=by rw[<-hi.length];simp
  have z2:aQ.size=ms.length:=by rw[<-hj.length];simp
  wp_walk using WK hl,WK hb,ZA _ (fun rest b s'=>b.1=none/\s'=⟨hp,g,d,tk,os⟩/\∃(vs ws:List Value)(cb iT:List Int),rest=vs.zip ws ∧
   IntsAre vs cb/\IntsAre ws iT/\cb.length+aQ.size=iT.length+items.size/\R (.ok (.ret (.bool (lexLt cb iT)))) ⟨hp,g,d,tk,os⟩) _
  case turn =>
   rintro⟨y,x⟩ rest b s' ⟨hb',rfl,vs,ws,cb,iT,hz,nH,la,hlen,hR⟩
   cases nH with
   |nil=>rw[YA] at hz;cases hz
   |cons a t nJ =>
    cases la with
    |nil=>rw[Zc] at hz;cases hz
    |cons c u nK =>
     rw[XT] at hz;injection hz with xk jH;injection xk with hy hx;subst hy hx;rw[mB] at hR;simp only[Lk] at hlen;obtain⟨e,he,jI⟩:=CA A.in1 ⟨hp,g,d,tk,os⟩ a t c u;refine lj (he prog w _ _ ?_)
     cases e with
     |true =>
      rw[VB (jI.mp rfl)] at hR
      wp_walk
      exact⟨rfl,rfl,_,_,_,_,jH,nJ,nK,by omega,hR⟩
     |false =>
      rw[Uo (fun q=>absurd (jI.mpr q) VC)] at hR;have xm:=KD A.in1 ⟨hp,g,d,tk,os⟩ a t c u prog w
      wp_walk using xm
      exact⟨_,rfl,by simpa using hR⟩
  case fin =>
   rintro⟨b1,b2⟩ s' ⟨hb',rfl,vs,ws,cb,iT,hz,nH,la,hlen,hR⟩;simp only at hb';subst hb'
   have hv:lexLt cb iT=decide (items.size<aQ.size):=by
    cases nH with
    |nil =>
     cases la with
     |nil =>
      simp only[Wi] at hlen;rw[Cw];exact(C7 (by omega)).symm
     |cons c u hw =>
      simp only[Wi,Lk] at hlen;rw[Cy];exact(Ln (by omega)).symm
    |cons a t hv =>
     cases la with
     |nil =>
      simp only[Wi,Lk] at hlen;rw[Cz];exact(C7 (by omega)).symm
     |cons c u hw =>
      rw[XT] at hz;cases hz
   rw[hv] at hR
   wp_walk
   exact⟨_,rfl,by simpa[Builtin.Tuple.tupleCompareSizes] using hR⟩
  case h =>
   exact⟨rfl,rfl,items.toList,aQ.toList,ns,ms,rfl,hi,hj,by omega,h⟩
end
section
variable{prog:Program}{w:World}{A:Around}{E:aP}{s:Shared}
theorem CB{l b:Addr}{items aQ:Array Value}{ns ms:List Int}{Q:aP}(hl:IsTup s.heap l items)(hb:IsTup s.heap b aQ)(hi:IntsAre items.toList ns)(hj:IntsAre aQ.toList ms)
  (hu:A.units<cLine) (h:Q (.bool (lexLt ns ms)) s):wpAny (model prog w) A (compareOp .Lt (.ref l) (.ref b)) Q E s:=by
 obtain⟨⟨cls,dd,data,sl⟩,ho,hc,n,hd⟩:=id hl;obtain⟨⟨nL,jo,data2,jq⟩,eA,gz,n2,hd2⟩:=id hb;simp only at hc hd gz hd2;subst hc hd gz hd2
 exact richCompare_meets_room (op:=.Lt) ⟨_,ho,rfl⟩ ⟨_,eA,rfl⟩ PySem.F.slot_tuple_lt PySem.F.entry_tuple_lt (PySem.F.args_tuple_lt_2 _ _) (KG l b items aQ n n2 dd jo sl jq ns ms hi hj)
  ⟨ho,eA,show Value.bool (lexLt ns ms)≠Value.notImplemented/\Q (.bool (lexLt ns ms)) s from⟨(fun x=>nomatch x),h⟩⟩ hu
theorem KH{t b:Addr}{vs ws:List Value}{Q:aP}(ht:IsTup s.heap t vs.toArray)(hb:IsTup s.heap b ws.toArray)(hv:vs≠[])
  (h1:ws=[]->Q (.ref t) s) (h2:ws≠[]->Q (.ref s.heap.objs.size) {s with heap:=s.heap.push {cls:=.type "tuple",data:=.seq (vs++ws).toArray}})
  (hsz:vs.length+ws.length<=sizeLine):wpAny (model prog w) A (binaryOp .Add (.ref t) (.ref b)) Q E s:=by
 obtain⟨⟨cls,dd,data,sl⟩,ho,hc,n,hd⟩:=id ht;obtain⟨⟨nL,jo,data2,jq⟩,eA,gz,n2,hd2⟩:=id hb;simp only at hc hd gz hd2;subst hc hd gz hd2;have e:vs.toArray++ws.toArray=(vs++ws).toArray:=by simp
 by_cases hw:ws=[]
 ·exact concat_meets ⟨_,ho,rfl⟩ ⟨_,eA,rfl⟩ ZC seq_tuple_add YB Yo (Ye _ _)
   (tuple_addW1 t b vs.toArray ws.toArray n n2 dd jo sl jq (by simpa using hv) (by simp[hw])) ⟨ho,eA,h1 hw⟩
 ·refine concat_meets ⟨_,ho,rfl⟩ ⟨_,eA,rfl⟩ ZC seq_tuple_add YB Yo (Ye _ _)
   (tuple_addW2 t b vs.toArray ws.toArray n n2 dd jo sl jq (by simpa using hv) (by simpa using hw) (by rw[xM,xM];exact hsz)) ⟨ho,eA,?_⟩
  rw[e];exact h2 hw
noncomputable def a0(n d:Nat):Option Int->Nat
 |none=>d
 |some v=>if v<0 then(v+(n:Int)).toNat else min v.toNat n
theorem KI(n d:Nat):a0 n d none=d:=rfl
theorem xn(n d k:Nat):a0 n d (some (k:Int))=min k n:=by
 show(if(k:Int)<0 then((k:Int)+(n:Int)).toNat else min (k:Int).toNat n)=min k n;rw[Uo (by omega),Vx]
theorem KJ(n d:Nat)(hd:d<=n)(o:Option Int):a0 n d o<=n:=by
 cases o with
 |none=>exact hd
 |some v =>
  show(if v<0 then(v+(n:Int)).toNat else min v.toNat n)<=n
  by_cases hv:v<0
  ·rw[VB hv];omega
  ·rw[Uo hv];exact Nat.min_le_right _ _
theorem CC(v:Int)(n d:Nat):(if v<0 then max (v+(n:Int)) 0 else min v (n:Int))=((a0 n d (some v):Nat):Int):=by
 show(if v<0 then max (v+(n:Int)) 0 else min v (n:Int))=(((if v<0 then(v+(n:Int)).toNat else min v.toNat n):Nat):Int)
 by_cases hv:v<0
 ·simp only[VB hv];omega
 ·simp only[Uo hv];omega
theorem KN(lo hi:Option Int)(n:Nat):Builtin.Slice.sliceAdjust lo hi 1 (n:Int)=(((a0 n 0 lo:Nat):Int),((a0 n n hi:Nat):Int)):=by
 have h1:¬ ((1:Int)<0):=by omega
 unfold Builtin.Slice.sliceAdjust;simp only[h1,Xp];refine Prod.ext ?_ ?_
 ·cases lo with
  |none=>rfl
  |some v=>exact CC v n 0
 ·cases hi with
  |none=>rfl
  |some v=>exact CC v n n
theorem KO(i j:Nat):Builtin.Slice.slicePlaces (i:Int) (j:Int) 1=j-i:=by
 unfold Builtin.Slice.slicePlaces;have h1:(1:Int)>0:=by omega
 simp only[h1,XZ,Int.ediv_one];split<;>omega
theorem CD{v:Value}{o:Option Int}{Q:Option Int->Shared->Prop}(p:IsPart v o)(h:Q o s):wpAny (model prog w) A (Builtin.Slice.slicePartIndex v) Q E s:=by
 cases p with
 |none=>exact slicePart_none h
 |int i t=>exact slicePart_int h
theorem CF{sl:Addr}{vl vu:Value}{lo hi:Option Int}{n:Nat}{Q:Int×Int×Nat->Shared->Prop}(hs:s.heap.IsSliceOf sl vl vu .none)(pl:IsPart vl lo)(pu:IsPart vu hi)
  (h:Q (((a0 n 0 lo:Nat):Int),1,a0 n n hi-a0 n 0 lo) s):wpAny (model prog w) A (Builtin.Slice.sliceApplied (.ref sl) (pure (n:Int))) Q E s:=by
 obtain⟨os,nM,pe,qP⟩:=id hs;unfold Builtin.Slice.sliceApplied Builtin.Slice.sliceFields;refine lj (lj (Yp nM qP (x:=vl) rfl (lj (Yp nM qP (x:=vu) rfl (lj (Yp nM qP (x:=.none) rfl (qV ?_)))))));refine lj (slicePart_none ?_);show wpAny _ _ (if((1:Int)==0)=true then _ else _) _ _ s;rw[Uo (by decide)];refine lj (CD pl (lj (CD pu (lj (qV ?_)))))
 show wpAny _ _ (match Builtin.Slice.sliceAdjust lo hi 1 (n:Int) with|(lo,hi)=>pure (lo,(1:Int),Builtin.Slice.slicePlaces lo hi 1)) _ _ s;rw[KN lo hi n];show wpAny _ _ (pure (((a0 n 0 lo:Nat):Int),(1:Int),Builtin.Slice.slicePlaces ((a0 n 0 lo:Nat):Int) ((a0 n n hi:Nat):Int) 1)) _ _ s;rw[KO];exact qV h
theorem KP(xs:Array Value)(i k:Nat):((List.range k).filterMap fun(m:Nat)=>xs[((i:Int)+(m:Int)*1).toNat]?).toArray=((xs.toList.drop i).take k).toArray:=by
 have e:(fun(m:Nat)=>xs[((i:Int)+(m:Int)*1).toNat]?)=fun m=>xs[i+m]?:=by
  funext m;have:((i:Int)+(m:Int)*1).toNat=i+m:=by omega
  rw[this]
 rw[e];have:=pick_run xs i k;rw[List.filterMap_map] at this;have e2:((fun x=>xs[x]?)∘fun x=>i+x)=fun m=>xs[i+m]?:=rfl;rw[e2] at this;rw[this]
theorem KQ{t sl:Addr}{items:Array Value}{vl vu:Value}{lo hi:Option Int}{Q:aP}(ht:IsTup s.heap t items)(hs:s.heap.IsSliceOf sl vl vu .none)(pl:IsPart vl lo)(pu:IsPart vu hi)
  (hw:¬ (a0 items.size 0 lo=0/\a0 items.size items.size hi=items.size))
  (h:Q (.ref s.heap.objs.size) {s with heap:=s.heap.push {cls:=.type "tuple",data:=.seq ((items.toList.drop (a0 items.size 0 lo)).take (a0 items.size items.size hi-a0 items.size 0 lo)).toArray}})
  (hsz:items.size<=sizeLine):wpAny (model prog w) A (getItem (.ref t) (.ref sl)) Q E s:=by
 have iz:sizeOk (.seq ((items.toList.drop (a0 items.size 0 lo)).take (a0 items.size items.size hi-a0 items.size 0 lo)).toArray):=by
  show((items.toList.drop (a0 items.size 0 lo)).take (a0 items.size items.size hi-a0 items.size 0 lo)).toArray.size<=sizeLine;rw[xM,We,XJ,Uk];omega
 have hj:a0 items.size items.size hi<=items.size:=KJ _ _ (ua _) hi;obtain⟨os,nM,pe,qP⟩:=id hs;have xr:s.TypeIs (.ref sl) "slice" := ⟨os,nM,pe⟩;unfold getItem
 try with_reducible refine VX ?_
 first|refine lj (qV ?_)|skip
 refine lj (wpAny_sequenceKey ht.typeIs (by decide) ?_)
 refine lj (Xc (name:=Str.ofString "__getitem__") ht.typeIs Wq
  (Xd Wq ht.typeIs entry_tuple_getitem ?_ (args_tuple_getitem _ _)))
 show wpAny _ _ (Builtin.Tuple.tupleItemsOf (.ref t) >>= _) _ _ s;refine lj (tupleItemsOf_ ht ?_);refine lj (Y1 xr ?_);rw[VB (by decide)];refine lj (CF hs pl pu ?_)
 have KR:¬ ((((a0 items.size 0 lo:Nat):Int)==0&&(1:Int)==1&&(a0 items.size items.size hi-a0 items.size 0 lo)==items.size)=true):=by
  intro q;rw[Wa,Wa] at q;have q1:((a0 items.size 0 lo:Nat):Int)=0:=W7 q.1.1;have q2:a0 items.size items.size hi-a0 items.size 0 lo=items.size:=W7 q.2;exact hw ⟨by omega,by omega⟩
 show wpAny _ _ (if(((a0 items.size 0 lo:Nat):Int)==0&&(1:Int)==1&&(a0 items.size items.size hi-a0 items.size 0 lo)==items.size)=true then _ else _) _ _ s;rw[Uo KR,KP]
 first
  |exact lj (m:=Builtin.Tuple.tupleExact _) (Wn (qV ⟨_,rfl,qV h⟩) iz)
  |exact lj (m:=Builtin.Tuple.tupleExact _) (Wn (lj (qV (qV ⟨_,rfl,qV h⟩))) iz)
  |exact lj (lj (m:=Builtin.Tuple.tupleExact _) (Wn (qV (qV ⟨_,rfl,qV h⟩)) iz))
  |exact lj (lj (m:=Builtin.Tuple.tupleExact _) (Wn (qV ⟨_,rfl,qV h⟩) iz))
end
end HT
namespace L2
open PySem PySem.Spec PyProof.Rows
abbrev TO:=St->Hp->(Option Int->Hp->Prop)->Prop
def PO(X:Cx)(e:Option Expr)(t:TO):Prop :=
 ∀(pins:av)(s:Shared)(σ:St)(H:Hp)(Q:Option Int->Hp->Prop),Inv X pins σ H s->t σ H Q →
  wpAny (model X.prog X.w) X.A (evalPart e X.env) (fun u s'=>∃o H',Inv X pins σ H' s'/\IsPart u o/\Q o H') X.xe s
def KU:TO:=fun _ H Q=>Q none H
def KW(t:TE):TO:=fun σ H Q=>t σ H fun x H1=>∃i,x=.int i/\Q (some i) H1
theorem intsAre_of{ns:List Int}:∀{us:List Value},Vals (ns.map V.int) us->IntsAre us ns:=by
 induction ns with
 |nil=>intro us r;rw[Xo] at r;cases r;exact .nil
 |cons n ns ih =>
  intro us r;rw[VM] at r
  cases r with
  |cons r1 r2 =>
   obtain⟨t,e⟩:=r1;subst e;exact .cons n t (ih r2)
section
variable{X:Cx}{e:Expr}{te:TE}{lo hi:Option Expr}{tl th:TO}{pos p2:Pos}
theorem CG:PO X none KU:=by
 intro pins s σ H Q I h;rw[evalPart_none];exact qV ⟨none,H,I,.none,h⟩
theorem t8(h:JE X e te):PO X (some e) (KW te):=by
 intro pins s σ H Q I hw;rw[evalPart_some];refine aY (h pins s σ H _ I hw) fun u s1 h0_=>el5 h0_ fun x H1 I1 r1 q1=>?_;obtain⟨i,rfl,q⟩:=q1;obtain⟨t,rfl⟩:=r1;exact⟨some i,H1,I1,.int i t,q⟩
def mC(X:Cx)(r:V->Option Int->Option Int->Hp->VK->Prop):Prop :=
 ∀(pins:av)(s:Shared)(σ:St)(H:Hp)(x:V)(v vl vu:Value)(lo hi:Option Int)(sl:Addr)(Q:VK),Inv X pins σ H s->RelV x v->s.heap.IsSliceOf sl vl vu .none->IsPart vl lo->IsPart vu hi->r x lo hi H Q →
  ∃T id,typeLookup (.type T) "__getitem__" = pure (some (.builtin id))/\s.TypeIs v T/\wpAny (model X.prog X.w) X.A (getItem v (.ref sl)) (EP X pins σ Q) X.xe s
theorem mC.or{r r':V->Option Int->Option Int->Hp->VK->Prop}(h:mC X r)(h':mC X r'):mC X (fun x lo hi H Q=>r x lo hi H Q\/r' x lo hi H Q):=by
 intro pins s σ H x v vl vu lo hi sl Q I rx hs pl pu q;rcases q with q|q
 ·exact h pins s σ H x v vl vu lo hi sl Q I rx hs pl pu q
 ·exact h' pins s σ H x v vl vu lo hi sl Q I rx hs pl pu q
def KY(r:V->Option Int->Option Int->Hp->VK->Prop)(te:TE)(tl th:TO):TE:=fun σ H Q=>te σ H fun x H1=>tl σ H1 fun l H2=>th σ H2 fun u H3=>r x l u H3 Q
theorem xt{r:V->Option Int->Option Int->Hp->VK->Prop}(hr:mC X r)(he:JE X e te)(hl:PO X lo tl)(hu:PO X hi th):JE X (.Subscript e (.Slice lo hi none p2) pos) (KY r te tl th):=by
 refine⟨?_⟩;intro pins s σ H Q I h;refine Subscript_ (aY (he pins s σ H _ I h) fun v s1 h0_=>el5 h0_ fun x H1 I1 r1 q1=>?_);refine wpAny_Slice (aY (hl pins s1 σ H1 _ I1 q1) fun vl s2 h0_=>el5 h0_ fun l H2 I2 pl q2 =>aY (hu pins s2 σ H2 _ I2 q2) fun vu s3 h0_=>el5 h0_ fun u H3 I3 pu q3=>?_);rw[evalPart_none];refine qV ?_;have I4:Inv X pins σ H3 {s3 with heap:=s3.heap.push {cls:=.type "slice",data:=.fields #[vl,vu,.none]}}:=I3.kept (t':=s3.toks) fun b ob q=>ph _ q;obtain⟨T,id,hT,ht,hg⟩:=hr pins {s3 with heap:=s3.heap.push {cls:=.type "slice",data:=.fields #[vl,vu,.none]}} σ H3 x v vl vu l u s3.heap.objs.size Q I4 r1 (Heap.IsSliceOf.new ..) pl pu q3
 show wpAny (model X.prog X.w) X.A (subscriptTail e (.Slice lo hi none p2) v (.ref s3.heap.objs.size)) (EP X pins σ Q) X.xe {s3 with heap:=s3.heap.push {cls:=.type "slice",data:=.fields #[vl,vu,.none]}};exact tail_any (ops:=[.ref s3.heap.objs.size,v]) ht hT hg (by with_unfolding_all rfl)
noncomputable def cD(xs:List V)(lo hi:Option Int):List V:=(xs.drop (HT.a0 xs.length 0 lo)).take (HT.a0 xs.length xs.length hi-HT.a0 xs.length 0 lo)
theorem CH(xs:List V)(lo hi:Option Int):(cD xs lo hi).length<=xs.length:=by
 unfold cD;rw[We,XJ];omega
def xu(K:PySem.W.Frag):V->Option Int->Option Int->Hp->VK->Prop:=fun x lo hi H Q=>∃a xs,x=.ref a/\bw K H a xs ∧
 ¬ (HT.a0 xs.length 0 lo=0/\HT.a0 xs.length xs.length hi=xs.length)/\∀p,H p=none->Q (.ref p) (upd H p (.tup (cD xs lo hi)))
theorem KZ:mC X (xu X.K):=by
 intro pins s σ H x v vl vu lo hi sl Q I rx hs pl pu h;obtain⟨a,xs,rfl,hx,hw,q⟩:=h;cases rx
 obtain⟨ar,r,ht,hz⟩:=I.tuple hx;have hlen:ar.toArray.size=xs.length:=by rw[xM];exact r.length.symm
 refine⟨"tuple",_,Wq.lookup,ht.typeIs,?_⟩;refine HT.KQ ht hs pl pu (by rw[hlen];exact hw) ?_ (by rw[hlen];exact hz);rw[hlen];refine⟨.ref s.heap.objs.size,_,I.laid (t':=s.toks) (o:=.tup (cD xs lo hi)) (fun b ob q=>ph _ q) (ua _) ?_,rfl,q _ (I.aM.fresh (ua _))⟩;exact⟨V_ (CH xs lo hi) hz,_,(r.drop (HT.a0 xs.length 0 lo)).take (HT.a0 xs.length xs.length hi-HT.a0 xs.length 0 lo),IsTup.new _ _⟩
def xv(K:PySem.W.Frag):R2:=fun x y H Q=>∃a b ns ms,x=.ref a/\y=.ref b/\bw K H a (ns.map V.int)/\bw K H b (ms.map V.int)/\Q (.bl (HT.lexLt ns ms)) H
theorem K1(hu:X.A.units<cLine):cU X (compareOp .Lt) (xv X.K):=by
 intro pins s σ H x y v u Q I rx ry h;obtain⟨a,b,ns,ms,rfl,rfl,ha,hb,q⟩:=h;cases rx
 cases ry
 obtain⟨ar,r1,p1,_⟩:=I.tuple ha;obtain⟨a_,r2,p2,_⟩:=I.tuple hb;have i1:IntsAre ar.toArray.toList ns:=intsAre_of r1;have i2:IntsAre a_.toArray.toList ms:=intsAre_of r2;exact HT.CB p1 p2 i1 i2 hu ⟨.bl (HT.lexLt ns ms),H,I,rfl,q⟩
def K4(K:PySem.W.Frag):R2:=fun x y H Q=>∃a b xs ys,x=.ref a/\y=.ref b/\bw K H a xs/\bw K H b ys/\xs≠[]/\xs.length+ys.length<=sizeLine ∧
 (ys=[]->Q (.ref a) H)/\(ys≠[]->∀p,H p=none->Q (.ref p) (upd H p (.tup (xs++ys))))
theorem Vals.d7{xs:List V}{us:List Value}(r:Vals xs us):us=[]↔xs=[]:=by
 cases r with
 |nil=>simp
 |cons _ _=>simp
theorem K5:cU X (binaryOp .Add) (K4 X.K):=by
 intro pins s σ H x y v u Q I rx ry h;obtain⟨a,b,xs,ys,rfl,rfl,ha,hb,hx,hz,q1,q2⟩:=h;cases rx
 cases ry
 obtain⟨ar,r1,p1,_⟩:=I.tuple ha;obtain⟨a_,r2,p2,_⟩:=I.tuple hb;refine HT.KH p1 p2 (fun z=>hx (r1.d7.mp z)) (fun z=>⟨.ref a,H,I,rfl,q1 (r2.d7.mp z)⟩) (fun z=>?_) (by rw[<-r1.length,<-r2.length];exact hz);refine⟨.ref s.heap.objs.size,_,I.laid (t':=s.toks) (o:=.tup (xs++ys)) (fun b ob q=>ph _ q) (ua _) ?_,rfl,q2 (fun w=>z (r2.d7.mpr w)) _ (I.aM.fresh (ua _))⟩;exact⟨by rw[C4];exact hz,_,r1.append r2,IsTup.new _ _⟩
end
noncomputable def iU(n:Nat)(i:Int):Option Nat:=if 0<=i then(if i<n then some i.toNat else none) else if -(n:Int)<=i then some (i+n).toNat else none
noncomputable def d8{α:Type}(xs:List α)(i:Int):Option α:=(iU xs.length i).bind fun j=>xs[j]?
theorem CI{n:Nat}{i:Int}{j:Nat}(h:iU n i=some j):seqIndex? i n=some j/\j<n /\ -(n:Int)<=i/\i<n:=by
 unfold iU at h
 by_cases h0:0<=i
 ·rw[VB h0] at h
  by_cases h1:i<n
  ·rw[VB h1] at h
   have e:i.toNat=j:=VY h;exact⟨by rw[seqIndex_of h0 h1,e],by omega,by omega,h1⟩
  ·rw[Uo h1] at h;cases h
 ·rw[Uo h0] at h
  by_cases h1 : -(n:Int)<=i
  ·rw[VB h1] at h
   have e:(i+n).toNat=j:=VY h;exact⟨by rw[seqIndex_neg (by omega) h1,e],by omega,h1,by omega⟩
  ·rw[Uo h1] at h;cases h
theorem xw{α:Type}{xs:List α}{i:Int}{v:α}(h:d8 xs i=some v):∃j,seqIndex? i xs.length=some j/\xs[j]?=some v/\j<xs.length /\ -(xs.length:Int)<=i/\i<xs.length:=by
 unfold d8 at h
 cases e:iU xs.length i with
 |none=>rw[e] at h;cases h
 |some j =>
  rw[e] at h;obtain⟨h1,h2,h3,h4⟩:=CI e;exact⟨j,h1,h,h2,h3,h4⟩
theorem lb{α:Type}{xs:List α}{j:Nat}{v:α}(h:xs[j]?=some v):d8 xs (j:Int)=some v:=by
 have hj:j<xs.length:=(nV.mp h).1
 have e:iU xs.length (j:Int)=some j:=by
  unfold iU;rw[VB (by omega),VB (by omega)];simp
 unfold d8;rw[e];exact h
def CJ(b:Expr):Prop:=∀o i,subscripted b false o i=operate [o,i] (getItem o i)
def qQ(X:Cx)(r:R2):Prop :=
 ∀(value slice:Expr)(pins:av)(s:Shared)(σ:St)(H:Hp)(x y:V)(v u:Value)(Q:VK),Inv X pins σ H s->RelV x v->RelV y u->r x y H Q →
  subscripted slice false v u=operate [v,u] (getItem v u)->wpAny (model X.prog X.w) X.A (subscriptTail value slice v u) (EP X pins σ Q) X.xe s
def CK(X:Cx)(id:String)(r:V->List V->Hp->VK->Prop):Prop :=
 ∀(pins:av)(s:Shared)(σ:St)(H:Hp)(x:V)(xs:List V)(v:Value)(us:List Value)(Q:VK),Inv X pins σ H s->RelV x v->Vals xs us->r x xs H Q →
  wpAny (model X.prog X.w) X.A (call (.builtin id) (v::us)) (EP X pins σ Q) X.xe s
section
variable{X:Cx}{a b:Expr}{ta tb:TE}{pos:Pos}
theorem CL{r:R2}(hr:qQ X r)(ha:JE X a ta)(hb:JE X b tb)(hs:CJ b):JE X (.Subscript a b pos) (qJ r ta tb):=by
 refine⟨?_⟩;intro pins s σ H Q I h;exact Subscript_ (nB ha hb I h fun v u s2 x y H2 I2 rx ry q=>hr a b pins s2 σ H2 x y v u Q I2 rx ry q (hs _ _))
def xx(K:PySem.W.Frag):R2:=fun x y H Q=>∃p xs i v,x=.ref p/\y=.int i/\a8 K H p xs/\d8 xs i=some v/\Q v H
def xy(K:PySem.W.Frag):R2:=fun x y H Q=>∃p xs i v,x=.ref p/\y=.int i/\bw K H p xs/\d8 xs i=some v/\Q v H
def xA:R2:=fun x y H Q=>∃z i c,x=.str z/\y=.int i/\z.length<=sizeLine/\d8 z.cps.toList i=some c/\Q (.str ⟨#[c]⟩) H
theorem CM:qQ X (xx X.K):=by
 intro value slice pins s σ H x y v u Q I rx ry h hs;obtain⟨p,xs,i,z,rfl,rfl,hq,he,q⟩:=h;cases rx
 obtain⟨t,rfl⟩:=ry;obtain⟨ar,r,pl,hz⟩:=I.list hq;obtain⟨j,h1,h2,h3,h4,h5⟩:=xw he;obtain⟨w,ew,iV⟩:=r.get h2;have hl:=r.length;have hn:=pb;have fin:EP X pins σ Q w s:=⟨z,H,I,iV,q⟩
 by_cases h0:0<=i
 ·have hj:i.toNat=j:=by
   rw[seqIndex_of h0 h5] at h1;exact VY h1
  exact item_listR pl.isList h0 (by omega) (by rw[hj];simpa using ew) fin hs
 ·have hj:(i+(ar.toArray.size:Int)).toNat=j:=by
   rw[seqIndex_neg (by omega) h4] at h1;rw[xM,<-hl];exact VY h1
  exact subscriptTail_builtinR (x:=w) pl.isList.typeIs slot_list_getitem.lookup
   (wpAny_getItem_list_neg (Q:=fun r s'=>r=w/\EP X pins σ Q r s') pl.isList (by omega) (by rw[xM]<;>omega) (by omega) (by rw[hj];simpa using ew) ⟨rfl,fin⟩) hs
theorem K6:qQ X (xy X.K):=by
 intro value slice pins s σ H x y v u Q I rx ry h hs;obtain⟨p,xs,i,z,rfl,rfl,hq,he,q⟩:=h;cases rx
 obtain⟨t,rfl⟩:=ry;obtain⟨ar,r,pl,hz⟩:=I.tuple hq;obtain⟨j,h1,h2,h3,h4,h5⟩:=xw he;obtain⟨w,ew,iV⟩:=r.get h2;have hl:=r.length;have hn:=pb;have fin:EP X pins σ Q w s:=⟨z,H,I,iV,q⟩
 exact subscriptTail_builtinR (x:=w) pl.typeIs slot_tuple_getitem.lookup
  (getItem_tuple (j:=j) (Q:=fun r s'=>r=w/\EP X pins σ Q r s') pl (by omega) (by omega) (by rw[xM,<-hl];exact h1) (by simpa using ew) ⟨rfl,fin⟩) hs
theorem K7:qQ X xA:=by
 intro value slice pins s σ H x y v u Q I rx ry h hs;obtain⟨z,i,c,rfl,rfl,hz,he,q⟩:=h;obtain⟨t,rfl⟩:=rx;obtain⟨t',rfl⟩:=ry;obtain⟨j,h1,h2,h3,h4,h5⟩:=xw he;have hl:z.cps.toList.length=z.length:=by simp[Str.length]
 rw[hl] at h1 h4 h5;have hn:=pb
 exact tail_any (typeIs_str s z t) slot_str_getitem.lookup (getItem_str (c:=c) (by
  have e1:decide (i < -(2 ^ 63:Int))=false:=C7 (by omega);have e2:decide (i ≥ 2 ^ 63)=false:=C7 (by omega)
  rw[e1,e2,Zt]) (by rw[h1];simpa using h2) ⟨.str ⟨#[c]⟩,H,I.tok _,⟨_,rfl⟩,q⟩) hs
theorem K8(ar:List Value)(n j:Nat)(u:Value):Obj.mapSeq (·.setIfInBounds j u) {cls:=.type "list",data:=.seq ar.toArray n}={cls:=.type "list",data:=.seq (ar.set j u).toArray n}:=by
 simp[Obj.mapSeq]
theorem Inv.lst{pins:av}{σ:St}{H:Hp}{s:Shared}{p:Addr}{xs:List V}(I:Inv X pins σ H s)(h:H p=some (.lst xs)):
  ∃(ar:List Value)(n:Nat),Vals xs ar/\s.heap.get? p=some {cls:=.type "list",data:=.seq ar.toArray n}/\xs.length<=sizeLine:=by
 obtain⟨z,ar,n,r,e⟩:=I.aM p _ h;exact⟨ar,n,r,e,z⟩
theorem Inv.nN{pins:av}{σ:St}{H:Hp}{s:Shared}{p:Addr}{xs ys:List V}{ar its':List Value}{n n':Nat}{f:Obj->Obj}(I:Inv X pins σ H s)(h:H p=some (.lst xs))
  (ho:s.heap.get? p=some {cls:=.type "list",data:=.seq ar.toArray n}) (hf:f {cls:=.type "list",data:=.seq ar.toArray n}={cls:=.type "list",data:=.seq its'.toArray n'}) (r:Vals ys its') (hz:ys.length<=sizeLine) (t:Nat) :
  Inv X pins σ (upd H p (.lst ys)) {s with heap:=s.heap.update p f,toks:=t}:=by
 have e:(s.heap.update p f).get? p=some {cls:=.type "list",data:=.seq its'.toArray n'}:=by
  rw[Wk f ho (by rw[hf]<;>rfl),hf]
 refine I.write (x:=p) (e:=p) (by rw[h];trivial) (.inl rfl) (fun b u hb q=>(WH _ _ (Xv hb)).trans q) ⟨_,e⟩ ?_;exact⟨hz,its',n',r,e⟩
def CN:V->V->V->Hp->(Hp->Prop)->Prop:=fun o i v H Q=>∃p xs k j,o=.ref p/\i=.int k/\H p=some (.lst xs)/\iU xs.length k=some j/\Q (upd H p (.lst (xs.set j v)))
theorem set_list:qD X CN:=by
 intro pins s σ H o i v ov iv u Q I ro ri rv h;obtain⟨p,xs,k,j,rfl,rfl,hp,hj,q⟩:=h;cases ro
 obtain⟨t,rfl⟩:=ri;obtain⟨ar,n,r,ho,hz⟩:=I.lst hp;obtain⟨h1,h2,h3,h4⟩:=CI hj;have hl:=r.length;have hn:=pb
 have I':Inv X pins σ (upd H p (.lst (xs.set j v))) {s with heap:=s.heap.update p (Obj.mapSeq (·.setIfInBounds j u))} :=
  I.nN hp ho (K8 ar n j u) (r.set rv j) (by rw[Xj];exact hz) s.toks
 by_cases h0:0<=k
 ·have hk:k.toNat=j:=by
   rw[seqIndex_of h0 h4] at h1;exact VY h1
  exact PySem.W.ki_setAt ho h0 (by omega) (by rw[xM,<-hl];exact h4) (by rw[hk];exact⟨_,I',q⟩)
 ·have hk:(k+(ar.toArray.size:Int)).toNat=j:=by
   rw[seqIndex_neg (by omega) h3] at h1;rw[xM,<-hl];exact VY h1
  exact PySem.W.ki_setBack ho (by omega) (by rw[xM,<-hl];exact h3) (by omega) (by rw[hk];exact⟨_,I',q⟩)
theorem K9(lo hi:Option Int)(n:Nat):(sliceBounds lo hi none n).1=((HT.a0 n 0 lo:Nat):Int)/\(sliceBounds lo hi none n).2.1=((HT.a0 n n hi:Nat):Int)/\(sliceBounds lo hi none n).2.2=1:=by
 refine⟨?_,?_,rfl⟩
 ·cases lo with
  |none=>simp[sliceBounds,HT.a0]
  |some i =>
   simp only[sliceBounds,HT.a0,Zz,show(1:Int)>0 by decide,XZ]
   by_cases h:i<0
   ·simp only[h,XZ]<;>omega
   ·simp only[h,Xp]<;>omega
 ·cases hi with
  |none=>simp[sliceBounds,HT.a0]
  |some i =>
   simp only[sliceBounds,HT.a0,Zz,show(1:Int)>0 by decide,XZ]
   by_cases h:i<0
   ·simp only[h,XZ]<;>omega
   ·simp only[h,Xp]<;>omega
theorem K_(ar:List Value)(lo hi:Option Int):slicePick ar.toArray lo hi none=((ar.drop (HT.a0 ar.length 0 lo)).take (HT.a0 ar.length ar.length hi-HT.a0 ar.length 0 lo)).toArray:=by
 obtain⟨h1,h2,h3⟩:=K9 lo hi ar.toArray.size;unfold slicePick;rw[h1,h2,h3];simp only[sliceRange_one,pick_run,xM]<;>rfl
def xB(K:PySem.W.Frag):V->Option Int->Option Int->Hp->VK->Prop:=fun x lo hi H Q=>∃a xs,x=.ref a/\a8 K H a xs/\∀p,H p=none->Q (.ref p) (upd H p (.lst (cD xs lo hi)))
theorem fR:mC X (xB X.K):=by
 intro pins s σ H x v vl vu lo hi sl Q I rx hs pl pu h;obtain⟨a,xs,rfl,hx,q⟩:=h;cases rx
 obtain⟨ar,r,ht,hz⟩:=I.list hx;have hlen:=r.length;refine⟨"list",_,slot_list_getitem.lookup,ht.isList.typeIs,?_⟩;refine wpAny_getItem_list_slice ht.isList hs pl pu .none (by simp) ?_ (by rw[xM]<;>omega);rw[K_,<-hlen];refine⟨.ref s.heap.objs.size,_,I.laid (t':=s.toks) (o:=.lst (cD xs lo hi)) (fun b ob q=>ph _ q) (ua _) ?_,rfl,q _ (I.aM.fresh (ua _))⟩;exact⟨V_ (CH xs lo hi) hz,_,0,(r.drop (HT.a0 xs.length 0 lo)).take (HT.a0 xs.length xs.length hi-HT.a0 xs.length 0 lo),Vy _ rfl⟩
noncomputable def kH:V->Bool
 |.non=>true
 |.bl _=>true
 |.int _=>true
 |.str _=>true
 |_=>false
noncomputable def jr:V->V->Bool
 |.non,.non=>true
 |.bl a,.bl b=>a==b
 |.bl a,.int b=>(if a then 1 else 0)==b
 |.int a,.bl b=>a==(if b then 1 else 0)
 |.int a,.int b=>a==b
 |.str a,.str b=>a==b
 |_,_=>false
theorem La{A:Around}{s:Shared}{y x:V}{u v:Value}(ry:RelV y u)(rx:RelV x v)(fy:kH y=true)(fx:kH x=true):SeqAt.EqAt A s u v (jr y x):=by
 cases y with
 |non =>
  cases ry
  cases x with
  |non=>cases rx;exact YV _
  |bl b=>cases rx;exact SeqAt.EqAt.none_bool b
  |int b=>obtain⟨t,rfl⟩:=rx;exact SeqAt.EqAt.none_int b t
  |str b=>obtain⟨t,rfl⟩:=rx;exact SeqAt.EqAt.none_str b t
  |_=>exact absurd (show false=true from fx) VC
 |bl a =>
  cases ry
  cases x with
  |non=>cases rx;exact SeqAt.EqAt.bool_none a
  |bl b=>cases rx;exact SeqAt.EqAt.bool_bool a b
  |int b=>obtain⟨t,rfl⟩:=rx;exact SeqAt.EqAt.bool_int a b t
  |str b=>obtain⟨t,rfl⟩:=rx;exact SeqAt.EqAt.bool_str a b t
  |_=>exact absurd (show false=true from fx) VC
 |int a =>
  obtain⟨t',rfl⟩:=ry
  cases x with
  |non=>cases rx;exact SeqAt.EqAt.int_none a t'
  |bl b=>cases rx;exact SeqAt.EqAt.int_bool a t' b
  |int b=>obtain⟨t,rfl⟩:=rx;exact Zb a t' b t
  |str b=>obtain⟨t,rfl⟩:=rx;exact Y8 a t' b t
  |_=>exact absurd (show false=true from fx) VC
 |str a =>
  obtain⟨t',rfl⟩:=ry
  cases x with
  |non=>cases rx;exact SeqAt.EqAt.str_none a t'
  |bl b=>cases rx;exact SeqAt.EqAt.str_bool a t' b
  |int b=>obtain⟨t,rfl⟩:=rx;exact Y9 a t' b t
  |str b=>obtain⟨t,rfl⟩:=rx;exact SeqAt.EqAt.str_str a t' b t
  |_=>exact absurd (show false=true from fx) VC
 |_=>exact absurd (show false=true from fy) VC
noncomputable def qR(x:V)(u:Value):Bool:=match u with
 |.none=>jr .non x
 |.bool b=>jr (.bl b) x
 |.int i _=>jr (.int i) x
 |.str z _=>jr (.str z) x
 |_=>false
theorem CO{x y:V}{u:Value}(r:RelV y u)(f:kH y=true):qR x u=jr y x:=by
 cases y with
 |non=>cases r;rfl
 |bl b=>cases r;rfl
 |int i=>obtain⟨t,rfl⟩:=r;rfl
 |str z=>obtain⟨t,rfl⟩:=r;rfl
 |_=>exact absurd (show false=true from f) VC
theorem CP{A:Around}{s:Shared}{x:V}{v:Value}(rx:RelV x v)(fx:kH x=true):∀{xs:List V}{us:List Value},Vals xs us->xs.all kH=true->∀u∈us,SeqAt.EqAt A s u v (qR x u)
 |_,_,.nil,_=>fun u hu=>by cases hu
 |y::xs,u::us,.cons r t,f=>fun u' hu=>by
  rw[Yf,Wa] at f;rcases Lp.mp hu with rfl|hu
  ·rw[CO r f.1];exact La r rx f.1 fx
  ·exact CP rx fx t f.2 u' hu
theorem CQ:fc X (.builtin "len") (fun xs H Q=>∃p ys,xs=[.ref p]/\(a8 X.K H p ys\/bw X.K H p ys)/\Q (.int ys.length) H):=by
 intro pins s σ H xs us Q I r h;obtain⟨p,ys,rfl,hq,q⟩:=h;obtain⟨u,rfl,rx⟩:=vals1 r;cases rx
 have hn:=pb;rcases hq with hq|hq
 ·obtain⟨ar,r',pl,hz⟩:=I.list hq
  have hlen:=r'.length;exact Calls.call_len_list pl.isList (by simp only[xM]<;>omega) ⟨.int ys.length,H,I.tok _,⟨s.toks+1,by rw[xM,hlen]⟩,q⟩
 ·obtain⟨ar,r',pl,hz⟩:=I.tuple hq
  have hlen:=r'.length;exact len_tuple pl (by simp only[xM]<;>omega) ⟨.int ys.length,H,I.tok _,⟨s.toks+1,by rw[xM,hlen]⟩,q⟩
theorem Lb:fc X (.builtin "len") (fun xs H Q=>∃z,xs=[.str z]/\z.length<=sizeLine/\Q (.int z.length) H):=by
 intro pins s σ H xs us Q I r h;obtain⟨z,rfl,hz,q⟩:=h;obtain⟨u,rfl,t,rfl⟩:=vals1 r;have hn:=pb;exact len_str (by omega) ⟨.int z.length,H,I.tok _,⟨_,rfl⟩,q⟩
theorem xC:fc X (.type "list") (fun xs H Q=>∃p ys,xs=[.ref p]/\(a8 X.K H p ys\/bw X.K H p ys)/\∀l,H l=none->Q (.ref l) (upd H l (.lst ys))):=by
 intro pins s σ H xs us Q I r h;obtain⟨p,ys,rfl,hq,q⟩:=h;obtain⟨u,rfl,rx⟩:=vals1 r;cases rx
 have fin:∀(ar:List Value),Vals ys ar->ys.length<=sizeLine->∀(h':Heap)(c':Nat),(∀b o',s.heap.get? b=some o'->h'.get? b=some o') →
   h'.get? s.heap.objs.size=some {cls:=.type "list",dict:=none,data:=.seq ar.toArray c',slots := #[]}->EP X pins σ Q (.ref s.heap.objs.size) {s with heap:=h'}:=fun ar r' hz h' c' kp e =>
  ⟨.ref s.heap.objs.size,_,I.laid (t':=s.toks) kp (ua _) (show aL X.prog X.w _ h' _ (.lst ys) from⟨hz,ar,c',r',e⟩),rfl,q _ (I.aM.fresh (ua _))⟩
 rcases hq with hq|hq
 ·obtain⟨ar,r',pl,hz⟩:=I.list hq
  have hlen:=r'.length;obtain⟨o,ho,hc,n,hd⟩:=pl.isList;exact call_list_seq p (.inl rfl) ho hc hd (fun h' c' kp e=>fin ar r' hz h' c' kp e) (by simp only[xM]<;>omega)
 ·obtain⟨ar,r',pl,hz⟩:=I.tuple hq
  have hlen:=r'.length;obtain⟨o,ho,hc,n,hd⟩:=pl;exact call_list_seq p (.inr rfl) ho hc hd (fun h' c' kp e=>fin ar r' hz h' c' kp e) (by simp only[xM]<;>omega)
theorem CT:fc X (.type "tuple") (fun xs H Q=>∃p ys,xs=[.ref p]/\((a8 X.K H p ys/\∀l,H l=none->Q (.ref l) (upd H l (.tup ys)))\/(bw X.K H p ys/\Q (.ref p) H))):=by
 intro pins s σ H xs us Q I r h;obtain⟨p,ys,rfl,h⟩:=h;obtain⟨u,rfl,rx⟩:=vals1 r;cases rx
 rcases h with⟨hq,q⟩|⟨hq,q⟩
 ·obtain⟨ar,r',pl,hz⟩:=I.list hq
  have hlen:=r'.length;refine call_tuple_list pl.isList (fun h' kp=>?_) (by simp only[xM]<;>omega);have I1:Inv X pins σ H {s with heap:=h'}:=I.kept (t':=s.toks) kp
  have I2:Inv X pins σ (upd H h'.objs.size (.tup ys)) {s with heap:=h'.push {cls:=.type "tuple",data:=.seq ar.toArray}} :=
   I1.laid (t':=s.toks) (fun b o e=>ph _ e) (ua _) (show aL X.prog X.w _ _ _ (.tup ys) from⟨hz,ar,r',IsTup.new _ _⟩)
  exact⟨.ref h'.objs.size,_,I2,rfl,q _ (I1.aM.fresh (ua _))⟩
 ·obtain⟨ar,r',pl,hz⟩:=I.tuple hq
  exact call_tuple_same pl ⟨.ref p,H,I,rfl,q⟩
def xD(K:PySem.W.Frag)(T:String)(x:V)(H:Hp):Prop:=match x with
 |.str _=>T="str"
 |.int _=>T="int"
 |.ref p=>(T="list" /\ ∃xs,a8 K H p xs)\/(T="tuple" /\ ∃o,K.lookup p=some o/\o.cls=.type "tuple" /\ o.dict=none) ∨
   (T="dict" /\ ((∃ah,H p=some (.dK ah))\/∃ah,H p=some (.dT ah)))\/(T="set" /\ ∃S n,H p=some (.set S n))
 |_=>False
theorem Lc{pins:av}{σ:St}{H:Hp}{s:Shared}{T:String}{x:V}{v:Value}(I:Inv X pins σ H s)(r:RelV x v)(ty:xD X.K T x H):
  s.TypeIs v T/\∀a,v=.ref a->∃ob,s.heap.get? a=some ob/\ob.dict=none:=by
 cases x with
 |str z =>
  obtain⟨t,rfl⟩:=r;cases(show T="str" from ty)
  exact⟨typeIs_str s z t,fun _ e=>nomatch e⟩
 |int i =>
  obtain⟨t,rfl⟩:=r;cases(show T="int" from ty)
  exact⟨typeIs_int s i t,fun _ e=>nomatch e⟩
 |ref p =>
  cases r
  rcases ty with⟨rfl,xs,hq⟩|⟨rfl,o,hk,hc,hd⟩|⟨rfl,hk⟩|⟨rfl,S,n,hk⟩
  ·obtain⟨ar,_,pl,_⟩:=I.list hq
   refine⟨pl.isList.typeIs,fun a e=>?_⟩;cases e
   obtain⟨o,n,e,c,hd,_⟩:=pl;exact⟨o,e,hd⟩
  ·refine⟨⟨o,I.gw p o hk,hc⟩,fun a e=>?_⟩
   cases e
   exact⟨o,I.gw _ o hk,hd⟩
  ·have z:∃o,s.heap.get? p=some o/\o.ExactDict:=by
    rcases hk with⟨ah,hk⟩|⟨ah,hk⟩
    ·obtain⟨_,_,_,_,o,_,_,e,ex,_⟩:=I.aM p _ hk
     exact⟨o,e,ex⟩
    ·obtain⟨_,_,_,_,o,_,_,e,ex,_⟩:=I.aM p _ hk
     exact⟨o,e,ex⟩
   obtain⟨o,e,ex⟩:=z;refine⟨⟨o,e,ex.1⟩,fun a e2=>?_⟩;cases e2
   exact⟨o,e,ex.2.1⟩
  ·obtain⟨o,_,_,_,e,ex,_⟩:=I.aM p _ hk
   refine⟨⟨o,e,ex.1⟩,fun a e2=>?_⟩;cases e2
   exact⟨o,e,ex.2.1⟩
 |_=>exact False.elim ty
def pf(K:PySem.W.Frag)(T:String)(r:V->List V->Hp->VK->Prop)(to:TE)(t:TA):TE:=fun σ H Q=>to σ H fun x H1=>xD K T x H1/\t σ H1 fun xs H2=>r x xs H2 Q
variable{o e:Expr}{es:List Expr}{to:TE}{t:TA}{name:Str}{apos cW:Pos}{T id:String}{r:V->List V->Hp->VK->Prop}
theorem t9(pa:PlainAttrs T)(slot:Slot T name id)(Ld:typeOf (.builtin id)=pure (.type "method_descriptor"))(hm:CK X id r)(ho:JE X o to)(ha:JA X (e::es) t)
  (qT:attributeBase o name X.env (eval o X.env)=eval o X.env:=by rfl)
  (xE:((backTo cW (starEach (e::es) X.env)).all (fun x => !x.1)&&(backToKw cW (keywordEach [] X.env)).all (fun x=>x.1.isSome)
   && decide ((e::es).length+([]:List Keyword).length+(if([]:List Keyword).isEmpty then 0 else 1)<30))=true:=by rfl)
  (qU:(apos.endLine==cW.line)=true:=by rfl) (hs:dF X e es:=by rfl) (hplain:eD X cW es:=by rfl) :
  JE X (.Call (.Attribute o name apos) (e::es) [] cW) (pf X.K T r to t):=by
 refine⟨?_⟩;intro pins s σ H Q I h;refine wpAny_Call_method_late qT xE qU rfl (aY (ho pins s σ H _ I h) fun v s1 ⟨x,H1,I1,r1,ty,q1⟩=>?_);obtain⟨h1,h2⟩:=Lc I1 r1 ty;refine⟨T,id,pa,slot,Ld,h1,h2,?_⟩;have hA:=ha cW pins s1 σ H1 _ I1 q1;rw[hs] at hA ⊢;refine Calls.callWith_builtin (by show(false||(backTo cW (starEach es X.env)).any (·.1))=false;rw[hplain]<;>rfl) (Calls.evalArgs_plain ?_);exact aY hA fun us s2 h0_=>el5 h0_ fun vs H2 I2 r2 q2 =>hm pins s2 σ H2 x vs v us Q I2 r1 r2 q2
end
def t_(X:Cx)(id:String)(r:V->List V->Hp->VK->Prop):Prop :=
 ∀(pins:av)(s:Shared)(σ:St)(H:Hp)(x:V)(xs:List V)(v:Value)(us:List Value)(Q:VK),Inv X pins σ H s->RelV x v->Vals xs us->r x xs H Q →
  wpAny (model X.prog X.w) X.A (call (.builtin id) (v::us)) (EP X pins σ Q) X.xe s
theorem Vals.one:∀{x:V}{us:List Value},Vals [x] us->∃u,us=[u]/\RelV x u:=by
 intro x us h
 cases h with
 |cons r h=>cases h;exact⟨_,rfl,r⟩
theorem Vals.two:∀{x y:V}{us:List Value},Vals [x,y] us->∃u v,us=[u,v]/\RelV x u/\RelV y v:=by
 intro x y us h
 cases h with
 |cons r h =>
  obtain⟨v,rfl,q⟩:=Vals.one h;exact⟨_,_,rfl,r,q⟩
theorem Vals.eraseIdx:∀{xs:List V}{us:List Value}(i:Nat),Vals xs us->Vals (xs.eraseIdx i) (us.eraseIdx i)
 |_,_,_,.nil=>.nil
 |_,_,0,.cons _ t=>t
 |_,_,i+1,.cons r t=>.cons r (Vals.eraseIdx i t)
theorem Vals.rep{xs:List V}{us:List Value}(h:Vals xs us):∀k:Nat,Vals (List.replicate k xs).flatten (List.replicate k us).flatten
 |0=>.nil
 |k+1=>by
  rw[WN,WN,Wv,Wv];exact Vals.append h (Vals.rep h k)
theorem CU{α:Type}:∀(l:List α)(i:Nat),(l.eraseIdx i).length<=l.length
 |[],_=>ua _
 |_::_,0=>Zn _
 |_::r,i+1=>Nat.succ_le_succ (CU r i)
theorem foldl_rep(ar:List Value):∀(k:Nat)(acc:List Value),
  List.foldl (fun x1 x2=>x1++x2) acc.toArray (List.replicate k ar.toArray)=(acc++(List.replicate k ar).flatten).toArray
 |0,acc=>by simp
 |k+1,acc=>by
  have e:acc.toArray++ar.toArray=(acc++ar).toArray:=by simp
  have e2:(acc++ar)++(List.replicate k ar).flatten=acc++(List.replicate (k+1) ar).flatten:=by
   rw[WN,Wv,Xi]
  rw[<-e2,<-foldl_rep ar k (acc++ar),<-e,WN,YS]
section
variable{X:Cx}{pins:av}{σ:St}{H:Hp}{s:Shared}{l b:Addr}{xs ys zs:List V}
theorem Inv.nP{ar its':List Value}{n:Nat}{f:Array Value->Array Value}{t':Nat}(I:Inv X pins σ H s)(hH:H l=some (.lst xs))
  (e:s.heap.get? l=some {cls:=.type "list",data:=.seq ar.toArray n}) (hf:f ar.toArray=its'.toArray) (hv:Vals ys its') (hz:ys.length<=sizeLine) :
  Inv X pins σ (upd H l (.lst ys)) {s with heap:=s.heap.update l (Obj.mapSeq f),toks:=t'}:=by
 have q:=PySem.IsL.update e f;rw[hf] at q;refine I.write (x:=l) (e:=l) (by rw[hH];exact trivial) (.inl rfl) (fun b' u hb hu=>(WH s.heap (Obj.mapSeq f) (Xv hb)).trans hu) ⟨_,q⟩ ?_;exact⟨hz,its',_,hv,q⟩
theorem Inv.bW{ar:List Value}{t':Nat}(I:Inv X pins σ H s)(hv:Vals ys ar)(hz:ys.length<=sizeLine):
  Inv X pins σ (upd H s.heap.objs.size (.lst ys)) {s with heap:=s.heap.push {cls:=.type "list",data:=.seq ar.toArray},toks:=t'} :=
 I.laid (fun _ _ q=>ph _ q) (ua _) ⟨hz,ar,0,hv,Vy _ rfl⟩
theorem Inv.fresh(I:Inv X pins σ H s):H s.heap.objs.size=none:=I.aM.fresh (ua _)
theorem Inv.g6(I:Inv X pins σ H s)(hH:H l=some (.lst xs)):xs.length<=sizeLine/\∃(ar:List Value)(n:Nat),Vals xs ar/\xs.length=ar.length/\s.heap.get? l=some {cls:=.type "list",data:=.seq ar.toArray n}:=by
 obtain⟨z,ar,n,r,e⟩:=I.aM l _ hH;exact⟨z,ar,n,r,r.length,e⟩
theorem CV{n:Nat}(h:n<=sizeLine):Builtin.List.listTooLong n=false:=by
 unfold Builtin.List.listTooLong;exact C7 (by omega)
end
section
variable{X:Cx}
def CW:V->List V->Hp->VK->Prop:=fun x vs H Q=>∃l xs y,x=.ref l/\vs=[y]/\H l=some (.lst xs)/\xs.length<sizeLine/\Q .non (upd H l (.lst (xs++[y])))
theorem CY:t_ X "list.append" CW:=by
 intro pins s σ H x vs v us Q I rx rv h;obtain⟨l,xs,y,rfl,rfl,hH,hz,q⟩:=h;cases rx
 obtain⟨u,rfl,ru⟩:=rv.one;obtain⟨z,ar,n,r,hl,e⟩:=I.g6 hH;refine Zd F.slot_list_append ⟨_,e,rfl⟩ F.entry_list_append (F.args_list_append_2 _ _) (PySem.list_append l ar.toArray n u (by rw[xM];omega)) ⟨e,?_⟩;refine⟨.non,_,I.nP (its':=ar++[u]) hH e (by simp) (r.append (.cons ru .nil)) ?_,rfl,q⟩;rw[C4,VU];omega
def CZ:V->List V->Hp->VK->Prop:=fun x vs H Q=>∃l b xs zs,x=.ref l/\vs=[.ref b]/\H l=some (.lst xs)/\H b=some (.lst zs)/\xs.length+zs.length<=sizeLine/\Q .non (upd H l (.lst (xs++zs)))
theorem Le:t_ X "list.extend" CZ:=by
 intro pins s σ H x vs v us Q I rx rv h;obtain⟨l,b,xs,zs,rfl,rfl,hH,hB,hz,q⟩:=h;cases rx
 obtain⟨u,rfl,ru⟩:=rv.one;cases ru
 obtain⟨z,ar,n,r,hl,e⟩:=I.g6 hH;obtain⟨z2,a_,n2,r2,qW,e2⟩:=I.g6 hB;have hsz:ar.toArray.size+a_.toArray.size<=sizeLine:=by rw[xM,xM];omega
 have jJ:¬ (!ar.toArray.isEmpty&&Builtin.List.listTooLong (ar.toArray.size+a_.toArray.size))=true:=by
  rw[CV hsz,q0c];exact VC
 refine Zd F.slot_list_extend ⟨_,e,rfl⟩ F.entry_list_extend (F.args_list_extend_2 _ _)
  (AutoSeq1.list_extend_list_list_0 l ar.toArray n b a_.toArray n2 jJ (by rw[xM];omega) (by omega)) ⟨e,e2,?_⟩
 refine⟨.non,_,I.nP (its':=ar++a_) hH e (by simp) (r.append r2) ?_,rfl,q⟩;rw[C4];omega
def C0:V->List V->Hp->VK->Prop:=fun x vs H Q=>∃l xs i k y,x=.ref l/\vs=[.int i]/\H l=some (.lst xs) /\ -(2 ^ 63)<=i/\i<2 ^ 63/\seqIndex? i xs.length=some k/\xs[k]?=some y/\Q y (upd H l (.lst (xs.eraseIdx k)))
theorem Lg:t_ X "list.pop" C0:=by
 intro pins s σ H x vs v us Q I rx rv h;obtain⟨l,xs,i,k,y,rfl,rfl,hH,h1,h2,hk,hy,q⟩:=h;cases rx
 obtain⟨u,rfl,ru⟩:=rv.one;obtain⟨t,rfl⟩:=ru;obtain⟨z,ar,n,r,hl,e⟩:=I.g6 hH;obtain⟨w,hw,iV⟩:=r.get hy
 refine Zd F.slot_list_pop ⟨_,e,rfl⟩ F.entry_list_pop (F.args_list_pop_2 _ _)
  (MeetsSeq.list_pop_at l ar.toArray n i t k w (fitsIndex_both h1 h2) (by rw[xM,<-hl];exact hk) (by rw[<-VT];exact hw) (by rw[xM];omega)) ⟨e,?_⟩
 refine⟨y,_,I.nP (its':=ar.eraseIdx k) hH e ?_ (r.eraseIdx k) ?_,iV,q⟩
 ·show ar.toArray.eraseIdxIfInBounds k=(ar.eraseIdx k).toArray
  rw[List.eraseIdxIfInBounds_toArray]
 ·have:=CU xs k
  omega
def xF:R2:=fun x y H Q=>∃l b xs zs,x=.ref l/\y=.ref b/\H l=some (.lst xs)/\H b=some (.lst zs)/\xs.length+zs.length<=sizeLine/\∀p,H p=none->Q (.ref p) (upd H p (.lst (xs++zs)))
theorem C1:cU X (binaryOp .Add) xF:=by
 intro pins s σ H x y v u Q I rx ry h;obtain⟨l,b,xs,zs,rfl,rfl,hH,hB,hz,q⟩:=h;cases rx
 cases ry
 obtain⟨z,ar,n,r,hl,e⟩:=I.g6 hH;obtain⟨z2,a_,n2,r2,qW,e2⟩:=I.g6 hB;refine PySem.P.add_list e e2 ?_ (by rw[xM,xM];omega);have ea:ar.toArray++a_.toArray=(ar++a_).toArray:=by simp
 rw[ea];exact⟨.ref _,_,I.bW (t':=s.toks) (r.append r2) (by rw[C4];omega),rfl,q _ I.fresh⟩
def xG:R2:=fun x y H Q=>∃l k xs,x=.ref l/\y=.int k/\H l=some (.lst xs) /\ -(2 ^ 63)<=k/\k<2 ^ 63/\xs.length*k.toNat<=sizeLine ∧
 ∀p,H p=none->Q (.ref p) (upd H p (.lst (List.replicate k.toNat xs).flatten))
theorem len_rep{α:Type}(xs:List α)(k:Nat):(List.replicate k xs).flatten.length=k*xs.length:=by
 induction k with
 |zero=>simp
 |succ k ih=>rw[WN,Wv,C4,ih,Nat.succ_mul,Nat.add_comm]
theorem Lh:cU X (binaryOp .Mult) xG:=by
 intro pins s σ H x y v u Q I rx ry h;obtain⟨l,k,xs,rfl,rfl,hH,h1,h2,hz,q⟩:=h;cases rx
 obtain⟨t,rfl⟩:=ry;obtain⟨z,ar,n,r,hl,e⟩:=I.g6 hH;have hlen:ar.toArray.size*k.toNat<=sizeLine:=by rw[xM,<-hl];exact hz
 have xH:¬ ar.toArray.size*k.toNat>(2 ^ 63-1) / 8:=by
  have:(sizeLine:Nat)<=(2 ^ 63-1) / 8:=by decide
  omega
 have xI:¬ (!Builtin.List.listFitsIndex k)=true:=by
  rw[fitsIndex_both h1 h2];exact VC
 have jJ:¬ Builtin.List.listTooLong (ar.toArray.size*k.toNat)=true:=by
  rw[CV hlen];exact VC
 have xJ:List.foldl (fun x1 x2=>x1++x2) #[] (List.replicate (if ar.toArray.isEmpty=true then 0 else k.toNat) ar.toArray)=(List.replicate k.toNat ar).flatten.toArray:=by
  have f0:∀m:Nat,List.foldl (fun x1 x2=>x1++x2) #[] (List.replicate m ar.toArray)=(List.replicate m ar).flatten.toArray:=fun m=>by
   have:=foldl_rep ar m [];rw[List.nil_append] at this;exact this
  rw[f0]
  cases ar with
  |nil=>simp
  |cons a r'=>rw[Uo (by simp)]
 refine wpAny_binaryOp_repeat_ref (T:="list") (U:="int") (by decide) ⟨_,e,rfl⟩ (fun s'=>typeIs_int s' k t) noFill_list_mul F.fills_int_mul F.slot_int_rmul repeat_list F.slot_int_index.lookup
  (Zd F.slot_int_rmul (typeIs_int s k t) F.entry_int_rmul (F.args_int_rmul_2 _ _) (int___rmul___int_list k t l ar.toArray n)
   ⟨e,rfl,⟨_,e,rfl⟩,Zd F.slot_list_mul ⟨_,e,rfl⟩ F.entry_list_mul (F.args_list_mul_2 _ _) (AutoListH.list___mul___list_int_3 l ar.toArray n k t xI xH jJ) ⟨e,?_⟩⟩)
 rw[xJ];exact⟨.ref _,_,I.bW (t':=s.toks) (r.rep k.toNat) (by rw[len_rep,Nat.mul_comm];exact hz),rfl,q _ I.fresh⟩
end
section
variable{prog:Program}{w:World}{A:Around}{E:aP}{s:Shared}
end
section
variable{X:Cx}
end
end L2
namespace Att
open PySem PySem.W PySem.Calls PyProof.Rows
theorem dX{P:Params}{h:Heap}:∀(ns:List Int)(vs:List Value),WellAll P h vs (ns.map WData.int)->IntsAre vs ns:=by
 intro ns
 induction ns with
 |nil =>
  intro vs w;rw[Xo] at w;cases w
  exact .nil
 |cons n ns ih =>
  intro vs w;rw[VM] at w
  cases w with
  |cons a b =>
   cases a
   exact .cons _ _ (ih _ b)
theorem iW{l:OpenLaw}{n:Nat}(hn:l.most=some n){P:Params}{h:Heap}{args:List WData}{vals:List Value}
  (lg:l.row.toRowW.claim.pre args=true) (xK:WellAll P h vals args) :
  ∃a vs ns,vals=[Value.ref a]/\args=[WData.list (ns.map WData.int)]/\h.get? a=some {cls:=.type "list",data:=.seq vs.toArray}/\IntsAre vs ns/\ns.length<=n:=by
 have Li:WShape.hasAll [] args [.list .int]=true:=(pre_splitW lg).1;have hc:l.pre.holds [] {args:=args}=true:=(pre_splitW lg).2;obtain⟨d,r,rfl,h1,h2⟩:=hasAllW_cons Li;obtain rfl:=hasAllW_nil h2;obtain⟨xs,rfl,h3⟩:=hasW_list h1;obtain⟨ns,rfl⟩:=items_int h3
 have hlen:ns.length<=n:=by
  unfold OpenLaw.pre at hc
  have h4:(WTm.not (.lt (.lit (.int (n:Int))) (.len (.arg 0)))).holds [] {args:=[.list (ns.map .int)]}=true:=by
   have h4:=(holds_andW hc).1;rw[hn] at h4;exact h4
  have h5:=condW_of h4 (w_not (w_lt w_lit (w_len_list (w_arg rfl))));rw[nU] at h5;refine YL fun q=>?_;have q':(n:Int)<((ns.length:Nat):Int):=by omega
  first
   |(rw[Ln q'] at h5;exact absurd h5 (by decide))
   |(simp at h5;omega)
 cases xK with
 |cons w1 w2 =>
  cases w2
  cases w1 with
  |list ho iP=>exact⟨_,_,ns,rfl,rfl,ho,dX ns _ iP,hlen⟩
theorem iX(l:OpenLaw)(args:List WData):l.row.toRowW.claim.post args (.bool true) args=true :=
 postW_of (r:=l.row.toRowW) (X:=(true==true))
  (show WShape.has [] (.bool true) .bool=true by first|rfl|decide|simp[WShape.has,WShape.arms,WShape.armsAll])
  (show(WTm.eq .res (.lit (.bool true))).value [] {args:=args,res:=some (.bool true),after:=args}=some (.bool (true==true)) from w_eq_bool (w_res rfl) w_lit) rfl
theorem gA{l:OpenLaw}{n:Nat}{q:Program}{loose:List Str}{XP:(Str->Option Value)->Heap->Prop}{YP:World->Heap->Prop}{d:DefRec}
  (hn:l.most=some n) (qX:d.params.defaults=[])
  (call:∀(w:World)(s₀ s₁:Shared)(mg mb:Str->Option Value)(fa:Addr)(o:Obj)(pm cd doc:Value)(a:Addr)(vs:List Value)(ns:List Int),
   Ground q loose [] XP w s₀ mg mb s₁.heap->YP w s₁.heap →
   s₁.heap.get? fa=some o->o.data=.func (docDef d.name d.params d.body d.scope pm cd doc)->s₁.heap.CodeRec cd d.name->mg d.name=some (.ref fa) →
   s₁.heap.get? a=some {cls:=.type "list",data:=.seq vs.toArray}->IntsAre vs ns->ns.length<=n->s₁.gens = #[] →
   codeAny (model l.prog w) callerA (.call (.ref fa) ⟨[.ref a],[]⟩) (fun r s'=>r=.ok (.ret (.bool true))/\OldK s₁.heap s'.heap/\s'.os=s₁.os/\AllBare s'.gens) s₁) :
  WalkO q loose XP YP l.row.toRowW d [] (fun f vs=>PySem.call f vs):=by
 intro w s₀ s₁ mg mb G Y fa o pm cd doc dV kV ho hd fN hD lh hg args vals as lg Lj C2 xK Ui;obtain rfl:dV=.none:=Dflts.none hD qX;obtain rfl:kV=.none:=Dflts.noKw hD;obtain⟨a,vs,ns,rfl,rfl,nQ,hints,hlen⟩:=iW hn lg xK;refine enter_call (X9 (call w s₀ s₁ mg mb fa o pm cd doc a vs ns G Y ho (fd_plain hd) fN lh nQ hints hlen hg) fun r s' hq=>?_);obtain⟨rfl,h2,h3,h4⟩:=hq;exact⟨.inl ⟨.bool true,.bool true,[],rfl,fun _=>rfl,.bool true,iX l _,fun _=>⟨List.Pairwise.nil,fun _ hm=>(nomatch hm)⟩⟩,h2,h3,h4⟩
section
variable{prog:Program}{w:World}{A:Around}{E:aP}{s:Shared}{K:Frag}
end
end Att
namespace L2
open PySem PySem.Spec PyProof.Rows
theorem C3:∀{vs:List Value}{ns:List Int},IntsAre vs ns->Vals (ns.map V.int) vs
 |_,_,.nil=>.nil
 |_,_,.cons n t h=>.cons ⟨t,rfl⟩ (C3 h)
noncomputable def ju(s:Stmt):Arguments:=match s with
 |.FunctionDef _ a _ _ _ _ _ _ _ _=>a
 |_=>{posonlyargs:=[],args:=[],vararg:=none,kwonlyargs:=[],kw_defaults:=[],kwarg:=none,defaults:=[]}
noncomputable def gm(s:Stmt):List Stmt:=match s with
 |.FunctionDef _ _ b _ _ _ _ _ _ _=>b
 |_=>[]
noncomputable def cN(s:Stmt):Scope:=match s with
 |.FunctionDef _ _ _ _ _ _ sc _ _ _=>sc
 |_=>{kind:=.function,names:=[],isGenerator:=false,isCoroutine:=false}
abbrev gn:jn:=fun _ _ _ _ _ _=>False
abbrev E0:XK:=fun _ _ _=>False
theorem xN{X:Cx}:xi gn X E0:=fun _ _ _ _ _ _ _ h=>h.elim
structure g7(K:PySem.W.Frag)(x qual:Str)(st:Stmt)(f:Addr)(fd:FuncData):Prop where
 ex:∃(oc:Value)(od:Option Addr)(kV doc pm:Value)(an:Option Addr)(a6 ct:Value)(k_:Array (Option Value)),
  fd=PySem.W.fnOf x qual (ju st) (gm st) (cN st) .none kV doc pm an a6 ct/\K.lookup f=some ⟨oc,od,.func fd,k_⟩/\PySem.W.codeIn K a6 qual=true
 kp:PySem.W.keepIn K (.ref f)=true
section
variable{P:Program}{w:World}{K:PySem.W.Frag}{mg:Str->Option Value}{base:Heap}
theorem g7.xO{x qual:Str}{st:Stmt}{f:Addr}{fd:FuncData}{N ps:List Str}{k:Nat}{sp:Sp}(F:g7 K x qual st f fd)(S:my N ps (cN st))(len:∀vs H Q E,sp vs H Q E->vs.length=ps.length)
  (eG:∀(a6:Value)(A:Around)(outer:List Env)(s:Shared)(H:Hp)(vs:List V)(Q:VK)(E:XK),a7 k (A.deeper (envOfC qual (cN st) s.heap.objs.size f a6))->sp vs H Q E →
   ∃t,cM (eF gn P w K mg base N qual (cN st) f a6 A outer s H E).kF (gm st) t/\t {nx:=fun _ H'=>Q .non H',rt:=Q} (start N vs) H):cV P w K mg base gn (k+1) f fd ps sp:=by
 obtain⟨oc,od,kV,doc,pm,an,a6,ct,k_,rfl,lk,fN⟩:=F.ex;refine Cv lk fN S len fun A outer s H vs Q E hr mz=>?_;obtain⟨t,h,q⟩:=eG a6 A outer s H vs Q E hr mz;exact⟨t,h.kF,q⟩
theorem g7.binds{x qual:Str}{st:Stmt}{f:Addr}{fd:FuncData}{ps:List Str}(F:g7 K x qual st f fd)
  (h:∀(kV doc pm:Value)(an:Option Addr)(a6 ct:Value)(us:List Value),us.length=ps.length->bindArgs (PySem.W.fnOf x qual (ju st) (gm st) (cN st) .none kV doc pm an a6 ct) ⟨us,[]⟩=pure (ps.zip us)):Binds K fd ps []:=by
 obtain⟨oc,od,kV,doc,pm,an,a6,ct,k_,rfl,lk,fN⟩:=F.ex;exact .all (h kV doc pm an a6 ct)
theorem C8{x qual:Str}{st:Stmt}{f:Addr}{oc:Value}{od an:Option Addr}{k_:Array (Option Value)}{kV doc pm a6 ct:Value}(l:K.lookup f=some ⟨oc,od,.func (PySem.W.fnOf x qual (ju st) (gm st) (cN st) .none kV doc pm an a6 ct),k_⟩)
  (c:PySem.W.codeIn K a6 qual=true) (k:PySem.W.keepIn K (.ref f)=true):g7 K x qual st f (PySem.W.fnOf x qual (ju st) (gm st) (cN st) .none kV doc pm an a6 ct):=⟨⟨oc,od,kV,doc,pm,an,a6,ct,k_,rfl,l,c⟩,k⟩
end
theorem nW{n:Nat}(h:n<=1000):n<sizeLine:=Yk h (by decide)
section
variable{X:Cx}
theorem jv(i:Nat){x:Str}{pos:Pos}(hN:X.N[i]?=some x:=by rfl)(hv:qx X.env.scope x:=by first|exact Or.inl rfl|exact Or.inr (Or.inl rfl)|exact Or.inr (Or.inr rfl))(hd:bV x:=by decide)
  (fN:(x==("__classdict__" : Str))=false:=by decide):JE X (.Name x pos) (qB i):=B8 hN hv hd fN
end
def aE(H H':Hp):Prop:=∀b o,H b=some o->H' b=some o
theorem aE.trans{H H1 H2:Hp}(a:aE H H1)(b:aE H1 H2):aE H H2:=fun c o h=>b c o (a c o h)
theorem aE.free{H H':Hp}(e:aE H H'){l:Addr}(h:H' l=Option.none):H l=Option.none:=by
 cases q:H l with
 |none=>rfl
 |some o =>
  rw[e l o q] at h;cases h
theorem aE.seq{K:PySem.W.Frag}{H H':Hp}{a:Addr}{xs:List V}(e:aE H H')(h:a8 K H a xs):a8 K H' a xs:=by
 rcases h with(h|⟨o,h⟩)|h
 ·exact .inl (.inl (e _ _ h))
 ·exact .inl (.inr ⟨o,e _ _ h⟩)
 ·exact .inr h
theorem Lr{prog:Program}{w:World}{A:Around}{R:Result->Shared->Prop}{s:Shared}{elt target iter:Expr}{ifs:List Expr}{scope:Scope}{pos:Pos}{it acc:Value}{env:Env}(I:Nat->Shared->Prop)
  (turn:∀n s,I n s->wpAny (model prog w) A (pyNext it) (fun r s₁=>match r with
   |none=>R (.ok .next) s₁
   |some v=>wpAny (model prog w) A (letOwnedTupleGo target it v) (fun _ s₂=>wpAny (model prog w) A (assign target env v) (fun _ s₃ =>
     wpAny (model prog w) A (forIn ifs true fun c r=>if r=true then do let ok <- isTrue c env (eval c env);pure (ForInStep.yield ok) else pure (ForInStep.yield r)) (fun ok s₄ =>
      if ok=true then wpAny (model prog w) A (eval elt env) (fun x s₅ =>
       wpAny (model prog w) A (call (.builtin "list.append") [acc,x]) (fun _ s₆=>∃m,m<n/\I m s₆) (fun _ _=>False) s₅) (fun _ _=>False) s₄
      else ∃m,m<n/\I m s₄) (fun _ _=>False) s₃) (fun _ _=>False) s₂) (fun _ _=>False) s₁) (fun _ _=>False) s)
  (n:Nat) (h:I n s) :
  codeAny (model prog w) A (.compLoop (.ListComp elt [⟨target,iter,ifs,0⟩] scope pos) 0 it acc env) R s:=by
 refine codeAny_loop rfl I (fun n s hI=>?_) n h;show wpAny _ A ((compTurn (.ListComp elt [⟨target,iter,ifs,0⟩] scope pos) 0 it acc env).onRaise (fun x=>do noteFrame x env;theTreesLotGoes x)) _ _ s;refine wpAny_noted ?_;rw[compTurn_list];refine lj (XY (lj (Xa (turn n s hI) (fun r s₁ h₁=>?_) fun _ _ h'=>False.elim h')))
 cases r with
 |none=>exact qV h₁
 |some v =>
  refine lj (Xa h₁ (fun _ s₂ h₂=>?_) fun _ _ h'=>False.elim h');refine lj (Xa h₂ (fun _ s₃ h₃=>lj (Xa h₃ (fun ok s₄ h₄=>?_) fun _ _ h'=>False.elim h')) fun _ _ h'=>False.elim h')
  cases ok with
  |false=>exact qV ⟨rfl,h₄⟩
  |true =>
   exact lj (lj (Xa h₄ (fun x s₄ h₄=>lj (Xa h₄ (fun _ s₅ h₅=>qV (qV ⟨rfl,h₅⟩)) fun _ _ h'=>False.elim h')) fun _ _ h'=>False.elim h'))
theorem xP{env:Env}:∀(names:List (Str×NameKind))(acc:List (Str×Addr)),(∀y∈names,y.2=.free->∃c,env.cells.lookup y.1=some c)->(∀x c,acc.lookup x=some c->env.cells.lookup x=some c) →
  ∃cl,(forIn names acc (fun(x:Str×NameKind) (cs:List (Str×Addr))=>if x.2==NameKind.free then cellOf env x.1 >>= fun a=>pure (ForInStep.yield ((x.1,a)::cs)) else pure (ForInStep.yield cs)):Sem (List (Str×Addr)))=pure cl ∧
   (∀x c,cl.lookup x=some c->env.cells.lookup x=some c)/\(∀y∈names,y.2=.free->∃c,cl.lookup y.1=some c)/\(∀x c,acc.lookup x=some c->∃c,cl.lookup x=some c)
 |[],acc,_,h2=>⟨acc,rfl,h2,fun _ hy=>absurd hy (by simp),fun x c e=>⟨c,e⟩⟩
 |(n,k)::r,acc,h1,h2=>by
  rw[List.forIn_cons]
  by_cases hk:k=.free
  ·subst hk
   obtain⟨c,hc⟩:=h1 (n,.free) My rfl;have gx:env.cells.lookup n=some c:=hc;have ec:cellOf env n=pure c:=by unfold cellOf;rw[gx]
   have eX:∀x d,((n,c)::acc).lookup x=some d->env.cells.lookup x=some d:=fun x d e=>by
    rw[VP] at e
    cases q:x==n with
    |true =>
     rw[q] at e;cases e
     rw[W7 q];exact gx
    |false =>
     rw[q] at e;exact h2 x d e
   obtain⟨cl,e,p1,p2,p3⟩:=xP r ((n,c)::acc) (fun y hy=>h1 y (C5 _ hy)) eX;refine⟨cl,?_,p1,fun y hy hf=>?_,fun x d e=>?_⟩
   ·dsimp only
    rw[VB (by decide),ec];exact e
   ·rcases Lp.mp hy with rfl|hy
    ·exact p3 n c (by simp)
    ·exact p2 y hy hf
   ·cases q:x==n with
    |true=>exact p3 x c (by rw[VP,q])
    |false=>exact p3 x d (by rw[VP,q];exact e)
  ·obtain⟨cl,e,p1,p2,p3⟩:=xP r acc (fun y hy=>h1 y (C5 _ hy)) h2
   refine⟨cl,?_,p1,fun y hy hf=>?_,p3⟩
   ·dsimp only
    rw[Uo (by simpa using hk)];exact e
   ·rcases Lp.mp hy with rfl|hy
    ·exact absurd hf hk
    ·exact p2 y hy hf
theorem xQ{scope:Scope}{env:Env}(h:∀y∈scope.names,y.2=.free->∃c,env.cells.lookup y.1=some c):
  ∃cl,closureFor scope env=pure cl/\(∀x c,cl.lookup x=some c->env.cells.lookup x=some c)/\∀y∈scope.names,y.2=.free->∃c,cl.lookup y.1=some c:=by
 obtain⟨cl,e,p1,p2,_⟩:=xP scope.names [] h (fun x c e=>by simp at e);refine⟨cl,?_,p1,p2⟩;have e':closureFor scope env=(forIn scope.names ([]:List (Str×Addr)) (fun(x:Str×NameKind) (cs:List (Str×Addr))=>if x.2==NameKind.free then cellOf env x.1 >>= fun a=>pure (ForInStep.yield ((x.1,a)::cs)) else pure (ForInStep.yield cs)):Sem (List (Str×Addr))) >>= pure:=rfl;rw[e',e];rfl
structure BD where
 cl:List (Str×Addr)
 C:Addr
 s:Shared
 H:Hp
 fp:List Addr
@[reducible] noncomputable def bF (X:Cx) (scope:Scope) (Nb:List Str) (d:BD):Cx where
 prog:=X.prog
 w:=X.w
 K:=X.K
 mg:=X.mg
 base:=X.base
 A:=X.A
 N:=Nb
 s₀:=d.s
 H₀:=d.H
 env:=compEnvC scope d.cl d.C X.env
 outer:=X.stack
 stack:=X.stack
 ex:=d.fp
 fn:=fun x=>decide (scope.names.lookup x=some .cell)
 calm:=X.calm
 pn:=[]
 xe:=fun _ _=>False
noncomputable def gQ(cp:List (Option Nat))(σ:St):St:=cp.map fun o=>match o with
 |some i=>(σ[i]?).join
 |none=>none
noncomputable def iY(N:List Str)(ub scope:Scope)(Nb:List Str)(cp:List (Option Nat)):Bool :=
 (scope.names.all fun y=>(decide (y.2≠.cell)||decide (scope.names.lookup y.1=some .cell))&&(decide (y.2≠.local)||decide (scope.names.lookup y.1=some .local))&&(decide (y.2≠.free)||decide (ub.names.lookup y.1=some .cell)||decide (ub.names.lookup y.1=some .free))) &&
 decide (cp.length=Nb.length)&&(cp.zip Nb).all fun z=>match z.1 with
  |none=>true
  |some i=>decide (N[i]?=some z.2)&&decide (scope.names.lookup z.2=some .free)
structure uc(X:Cx)(scope:Scope)(Nb:List Str)(cp:List (Option Nat)):Prop where
 kind:scope.kind=.function
 cell:∀y∈scope.names,y.2=.cell->scope.names.lookup y.1=some .cell
 names:∀y∈scope.names,y.2=.local->scope.names.lookup y.1=some .local
 free:∀y∈scope.names,y.2=.free->(X.env.kindOf y.1=some .cell\/X.env.kindOf y.1=some .free)
 len:cp.length=Nb.length
 qY:∀(j i:Nat)(x:Str),cp[j]?=some (some i)->Nb[j]?=some x->X.N[i]?=some x/\scope.names.lookup x=some .free
theorem q8M{X:Cx}{scope:Scope}{Nb:List Str}{cp:List (Option Nat)}(hk:scope.kind=.function)(h:iY X.N X.env.scope scope Nb cp=true):uc X scope Nb cp:=by
 unfold iY at h;simp only[Wa,WL,Bool.or_eq_true,VR] at h;obtain⟨⟨h1,h2⟩,h3⟩:=h;refine⟨hk,fun y hy e=>(h1 y hy).1.1.resolve_left (fun z=>z e),fun y hy e=>?_,fun y hy e=>?_,h2,fun j i x e1 e2=>?_⟩
 ·rcases(h1 y hy).1.2 with z|z
  ·exact absurd e z
  ·exact z
 ·rcases(h1 y hy).2 with(z|z)|z
  ·exact absurd e z
  ·exact .inl z
  ·exact .inr z
 ·have hm:(some i,x)∈cp.zip Nb:=by
   have:(cp.zip Nb)[j]?=some (some i,x):=by
    rw[List.getElem?_zip_eq_some];exact⟨e1,e2⟩
   exact V0 this
  have:=h3 _ hm;simpa using this
theorem xR{env:Env}{x:Str}:∀{names:List (Str×NameKind)}{k:NameKind},names.lookup x=some k →
  (names.map fun(n,k)=>if(k==NameKind.free&&env.scope.kind==.function&&env.kindOf n==some .cell) then(n,NameKind.cell) else(n,k)).lookup x =
   some (if(k==NameKind.free&&env.scope.kind==.function&&env.kindOf x==some .cell) then NameKind.cell else k)
 |[],k,h=>by simp at h
 |(n,k')::r,k,h=>by
  have ih:=@xR env x r k;show List.lookup x ((if(k'==NameKind.free&&env.scope.kind==.function&&env.kindOf n==some .cell)=true then(n,NameKind.cell) else(n,k'))::_)=_
  cases hx:x==n with
  |true =>
   simp only[VP,hx] at h;cases h
   have e:x=n:=W7 hx;subst e
   by_cases hc:(k'==NameKind.free&&env.scope.kind==.function&&env.kindOf x==some .cell)=true
   ·rw[VB hc,VB hc];simp[VP]
   ·rw[Uo hc,Uo hc];simp[VP]
  |false =>
   simp only[VP,hx] at h
   by_cases hc:(k'==NameKind.free&&env.scope.kind==.function&&env.kindOf n==some .cell)=true
   ·rw[VB hc];simp only[VP,hx];exact ih h
   ·rw[Uo hc];simp only[VP,hx];exact ih h
theorem C9{env:Env}{x:Str}:∀{names:List (Str×NameKind)},names.lookup x=none →
  (names.map fun(n,k)=>if(k==NameKind.free&&env.scope.kind==.function&&env.kindOf n==some .cell) then(n,NameKind.cell) else(n,k)).lookup x=none
 |[],h=>by simp
 |(n,k')::r,h=>by
  have ih:=@C9 env x r;show List.lookup x ((if(k'==NameKind.free&&env.scope.kind==.function&&env.kindOf n==some .cell)=true then(n,NameKind.cell) else(n,k'))::_)=_
  cases hx:x==n with
  |true=>simp only[VP,hx] at h;cases h
  |false =>
   simp only[VP,hx] at h
   by_cases hc:(k'==NameKind.free&&env.scope.kind==.function&&env.kindOf n==some .cell)=true
   ·rw[VB hc];simp only[VP,hx];exact ih h
   ·rw[Uo hc];simp only[VP,hx];exact ih h
structure JF(X:Cx)(ifs:List Expr)(t:TT):Prop where
 out:∀(pins:av)(s:Shared)(σ:St)(H:Hp)(Q:Bool->Hp->Prop),Inv X pins σ H s->t σ H Q →
  wpAny (model X.prog X.w) X.A (forIn ifs true fun c r=>if r=true then do let ok <- isTrue c X.env (eval c X.env);pure (ForInStep.yield ok) else pure (ForInStep.yield r)) (TP X pins σ Q) X.xe s
instance {X:Cx} {ifs:List Expr} {t:TT}:CoeFun (JF X ifs t) (fun _=>∀(pins:av)(s:Shared)(σ:St)(H:Hp)(Q:Bool->Hp->Prop),Inv X pins σ H s->t σ H Q->wpAny (model X.prog X.w) X.A (forIn ifs true fun c r=>if r=true then do let ok <- isTrue c X.env (eval c X.env);pure (ForInStep.yield ok) else pure (ForInStep.yield r)) (TP X pins σ Q) X.xe s):=⟨JF.out⟩
def xS:TT:=fun _ H Q=>Q true H
theorem nX{X:Cx}:JF X [] xS:=⟨fun _ _ _ H _ I h=>wpAny_tests_nil ⟨H,I,h⟩⟩
theorem Ls{X:Cx}{c:Expr}{t:TT}(h:JT X c t):JF X [c] t:=⟨fun pins s σ H Q I hw=>wpAny_tests_one (h pins s σ H Q I hw)
⟩
def Lu(g:TG)(tf:TT)(te:TE)(l:Addr)(x:V)(τ:St)(H:Hp)(N:St->Hp->Prop):Prop :=
 g x τ H fun τ2 H2=>tf τ2 H2 fun b H3=>if b=true then te τ2 H3 fun y H4=>∃ys,H4 l=some (.lst ys)/\ys.length<sizeLine/\N τ2 (upd H4 l (.lst (ys++[y]))) else N τ2 H3
def C_(J:It)(g:TG)(tf:TT)(te:TE)(l:Addr)(τ0:St)(H0:Hp)(Q:VK):Prop :=
 ∃W:Nat->Nat->St->Hp->Prop,(∃m,W 0 m τ0 H0)/\∀i m τ H,W i m τ H →
  (J.stop i H/\Q (.ref l) H)\/(J.go i H/\∃N:St->Hp->Prop,(∀τ' H',N τ' H'->∃m',m'<m/\W (i+1) m' τ' H')/\∀x H',J.o9 i H x H'->Lu g tf te l x τ H' N)
def qZ(wi:TI)(cp:List (Option Nat))(g:BD->TG)(tf:BD->TT)(te:BD->TE):TE:=fun σ H Q=>wi σ H fun J H1=>∀(d:BD)(l:Addr),H1 l=none->C_ J (g d) (tf d) (te d) l (gQ cp σ) (upd H1 l (.lst [])) Q
theorem pv:∀{names:List (Str×NameKind)}{n:Nat}{acc:List (Str×Addr)}{x:Str}{c:Addr},(cellsFrom n names acc).lookup x=some c->acc.lookup x=some c\/(n<=c/\(x,NameKind.cell)∈names)
 |[],n,acc,x,c,h=>.inl h
 |(y,k)::r,n,acc,x,c,h=>by
  unfold cellsFrom at h;split at h
  ·rename_i hk
   have ek:k=.cell:=W7 hk;subst ek;rcases pv h with h|⟨h,m⟩
   ·rw[VP] at h
    cases q:x==y with
    |true=>rw[q] at h;cases h;rw[W7 q];exact .inr ⟨ua _,My ..⟩
    |false=>rw[q] at h;exact .inl h
   ·exact .inr ⟨by omega,C5 _ m⟩
  ·rcases pv h with h|⟨h,m⟩
   ·exact .inl h
   ·exact .inr ⟨h,C5 _ m⟩
theorem xT:∀{names:List (Str×NameKind)}{n:Nat}{acc:List (Str×Addr)}{x:Str}{c:Addr},(x,NameKind.cell)∈names->(cellsFrom n names acc).lookup x=some c->n<=c
 |[],n,acc,x,c,m,h=>by cases m
 |(y,k)::r,n,acc,x,c,m,h=>by
  unfold cellsFrom at h
  by_cases mr:(x,NameKind.cell)∈r
  ·split at h
   ·have:=xT mr h;omega
   ·exact xT mr h
  ·have e:(x,NameKind.cell)=(y,k):=by
    rcases Lp.mp m with e|e
    ·exact e
    ·exact absurd e mr
   cases e
   rw[VB (by decide)] at h;rcases pv h with h|⟨h,_⟩
   ·rw[VP,beq_self_eq_true] at h
    cases h;exact ua _
   ·omega
theorem xU:∀{names:List (Str×NameKind)}{n:Nat}{acc:List (Str×Addr)}{x y:Str}{c:Addr},(∀u v c,acc.lookup u=some c->acc.lookup v=some c->u=v)->(∀u c,acc.lookup u=some c->c<n)->(cellsFrom n names acc).lookup x=some c->(cellsFrom n names acc).lookup y=some c->x=y
 |[],n,acc,x,y,c,hi,_,h1,h2=>hi x y c h1 h2
 |(z,k)::r,n,acc,x,y,c,hi,hb,h1,h2=>by
  unfold cellsFrom at h1 h2;split at h1
  ·rename_i hk
   rw[VB hk] at h2;refine xU (fun u v c q1 q2=>?_) (fun u c q=>?_) h1 h2
   ·rw[VP] at q1 q2
    cases e1:u==z with
    |true =>
     rw[e1] at q1;cases q1
     cases e2:v==z with
     |true=>rw[W7 e1,W7 e2]
     |false=>rw[e2] at q2;exact absurd (hb v _ q2) (W9 _)
    |false =>
     rw[e1] at q1
     cases e2:v==z with
     |true=>rw[e2] at q2;cases q2;exact absurd (hb u _ q1) (W9 _)
     |false=>rw[e2] at q2;exact hi u v c q1 q2
   ·rw[VP] at q
    cases e1:u==z with
    |true=>rw[e1] at q;cases q;exact Wt _
    |false=>rw[e1] at q;exact Wh (hb u c q)
  ·rename_i hk
   rw[Uo hk] at h2;exact xU hi hb h1 h2
theorem xV:∀{names:List (Str×NameKind)}{n:Nat}{acc:List (Str×Addr)}{x:Str},(x,NameKind.cell)∉names->(cellsFrom n names acc).lookup x=acc.lookup x
 |[],n,acc,x,_=>rfl
 |(y,k)::r,n,acc,x,m=>by
  unfold cellsFrom;split
  ·rename_i hk
   have ek:k=.cell:=W7 hk;subst ek;rw[xV fun z=>m (C5 _ z),VP]
   cases q:x==y with
   |true=>exact absurd (by rw[W7 q];exact My ..) m
   |false=>rfl
  ·exact xV fun z=>m (C5 _ z)
theorem xW:∀{names:List (Str×NameKind)}{h:Heap}{acc:List (Str×Addr)}{x:Str}{c:Addr},(∀u c,acc.lookup u=some c->∃v,h.IsCell c v)->(cellsFrom h.objs.size names acc).lookup x=some c->∃v,(pushCells h names).IsCell c v
 |[],h,acc,x,c,hc,e=>hc x c e
 |(y,k)::r,h,acc,x,c,hc,e=>by
  unfold cellsFrom at e;unfold pushCells;split at e
  ·rename_i hk
   rw[VB hk];have hz:(h.push {cls:=.type "cell",data:=.cell none}).objs.size=h.objs.size+1:=Xq ..;rw[<-hz] at e;refine xW (fun u c q=>?_) e;rw[VP] at q
   cases e1:u==y with
   |true=>rw[e1] at q;cases q;exact⟨none,_,Vy _ rfl,rfl⟩
   |false =>
    rw[e1] at q;obtain⟨v,o,g1,g2⟩:=hc u c q;exact⟨v,o,ph _ g1,g2⟩
  ·rename_i hk
   rw[Uo hk];exact xW hc e
theorem Lw{M:Model}{A:Around}{E:aP}{s:Shared}{scope:Scope}{g:Addr}{cl:List (Str×Addr)}{qual:Str}{env:Env}{Q:Env->Shared->Prop}
  (h:Q (newEnv scope s.heap.objs.size g (cellsFrom (s.heap.objs.size+1) scope.names cl) qual none .none (some env) builtinsNs) {s with heap:=pushCells (s.heap.push {cls:=.type "dict",data:=.dict #[]}) scope.names}) :
  wpAny M A (newFunctionEnv scope g cl [] qual none .none (some env)) Q E s:=by
 simp only[newFunctionEnv,Option.isSome_some,XZ];refine lj (wpAny_alloc ?_);refine lj (wpAny_layCells _ (fun name kind cells=>by cases Lx:kind==NameKind.cell<;>simp[Lx]) _ _ _ _ ?_);rw[show({s with heap:=s.heap.push {cls:=.type "dict",data:=.dict #[]}}:Shared).heap.objs.size=s.heap.objs.size+1 from Xq ..];refine lj ?_;rw[List.forIn_nil];exact qV (qV h)
section
variable{X:Cx}{elt tg iter:Expr}{ifs:List Expr}{scope:Scope}{pos:Pos}{Nb:List Str}{cp:List (Option Nat)}{wi:TI}{g:BD->TG}{tf:BD->TT}{te:BD->TE}
variable{pins:av}{σ:St}{H:Hp}{s:Shared}
noncomputable abbrev q9(scope:Scope)(s:Shared)(cl:List (Str×Addr)):List (Str×Addr):=cellsFrom (s.heap.objs.size+1) scope.names cl
theorem Ly{fp:List Addr}{cl:List (Str×Addr)}(S:uc X scope Nb cp)(I:Inv X pins σ H s)(hf:∀b∈fp,a9 X pins H b)(ho:∀b∈fp,∃o,s.heap.get? b=some o)
  (c1:∀x c,cl.lookup x=some c->X.env.cells.lookup x=some c) (c2:∀y∈scope.names,y.2=.free->∃c,cl.lookup y.1=some c):(bF X scope Nb ⟨q9 scope s cl,s.heap.objs.size,s,H,fp⟩).Ok:=by
 have Lz:∀b∈fp,b∉jk X.stack:=fun b hb z=>by
  obtain⟨_,f1,f2,_⟩:=hf b hb;rcases Lp.mp (I.fM b z) with e|e
  ·exact f1 e
  ·exact f2 e
 have lt:∀u c,cl.lookup u=some c->c<s.heap.objs.size:=fun u c e=>by
  obtain⟨v,q⟩:=I.cell u c (c1 _ _ e);exact q.lt
 refine⟨I.ok.mod,?_,I.ok.glob,I.ok.blt,ua _,fun x y c h1 h2=>?_,fun x hx=>?_,fun x c h hc=>?_,I.ok.hd,I.ok.frames,.inl rfl,fun b hb=>⟨?_,fun x c e=>?_⟩,I.bs,V_ I.ok.l_ I.sz,fun b o e hb=>?_,Lz,I.stack,I.ir⟩
 ·exact S.kind
 ·exact xU (fun u v c q1 q2=>I.ok.inj u v c (c1 _ _ q1) (c1 _ _ q2)) (fun u c e=>Wh (lt u c e)) h1 h2
 ·cases q:scope.names.lookup x with
  |none =>
   have z:(relabel scope X.env).names.lookup x=none:=C9 q;have fD:(relabel scope X.env).names.lookup x=some .cell\/(relabel scope X.env).names.lookup x=some .free:=hx;rw[z] at fD;rcases fD with h|h<;>cases h
  |some k =>
   have hm:=WM q;have z:(relabel scope X.env).names.lookup x=_:=xR (env:=X.env) q;have fD:(relabel scope X.env).names.lookup x=some .cell\/(relabel scope X.env).names.lookup x=some .free:=hx;rw[z] at fD
   have kf:k=.free\/k=.cell:=by
    by_cases hk:k=.free
    ·exact .inl hk
    ·have:(k==NameKind.free)=false:=by simpa using hk
     simp only[this,q0b,V8,Xp] at fD;rcases fD with h|h
     ·exact .inr (VY h)
     ·exact absurd (VY h) hk
   refine XI.mp (Yz scope.names _ cl ?_);rcases kf with rfl|rfl
   ·obtain⟨c,e⟩:=c2 (x,.free) hm rfl
    exact .inr (by rw[show cl.lookup x=some c from e];rfl)
   ·exact .inl q
 ·have hl:scope.names.lookup x=some .cell:=VS h
  have:=xT (WM hl) hc;exact Nat.le_of_succ_le this
 ·obtain⟨o,e⟩:=ho b hb
  exact VD (Ul e)
 ·rcases pv e with e|⟨e,_⟩
  ·exact(hf b hb).2.2.2.2.1 x c (c1 _ _ e)
  ·obtain⟨o,eo⟩:=ho b hb
   have xX:=Ul eo;intro z;subst z;exact absurd (Nat.lt_of_succ_le e) (Nat.not_lt.mpr (WZ xX))
 ·rcases(hf b hb).2.2.2.1 with z|z
  ·exact I.ok.jE b o e z
  ·exact absurd (VG (Ul (I.ok.bs b o e).1) z) (W9 _)
theorem LA{cp:List (Option Nat)}{σ:St}{j:Nat}{v:V}(h:(gQ cp σ)[j]?=some (some v)):∃i,cp[j]?=some (some i)/\σ[i]?=some (some v):=by
 unfold gQ at h;rw[Lq] at h
 cases e:cp[j]? with
 |none=>rw[e] at h;cases h
 |some o =>
  rw[e] at h
  cases o with
  |none=>cases h
  |some i =>
   refine⟨i,rfl,?_⟩;have h':(σ[i]?).join=some v:=VY h
   cases q:σ[i]? with
   |none=>rw[q] at h';cases h'
   |some z =>
    rw[q] at h';have:z=some v:=h';rw[this]
theorem LB{fp:List Addr}{cl:List (Str×Addr)}{h1:Heap}{tk:Nat}(S:uc X scope Nb cp)(I:Inv X pins σ H s)(hf:∀b∈fp,a9 X pins H b)(ho:∀b∈fp,∃o,s.heap.get? b=some o)
  (c1:∀x c,cl.lookup x=some c->X.env.cells.lookup x=some c) (c2:∀y∈scope.names,y.2=.free->∃c,cl.lookup y.1=some c)
  (hn:h1.Ns s.heap.objs.size (fun x=>([]:List (Str×Value)).reverse.lookup x)) (hk:∀b o,s.heap.get? b=some o->h1.get? b=some o) (pe:∀x c,(q9 scope s cl).lookup x=some c->∃v,h1.IsCell c v) :
  Inv (bF X scope Nb ⟨q9 scope s cl,s.heap.objs.size,s,H,fp⟩) [] (gQ cp σ) H {s with heap:=h1,toks:=tk}:=by
 refine⟨Ly S I hf ho c1 c2,rfl,I.bare,Un.kept hk,⟨_,hn,fun j x v e1 e2 e3=>?_⟩,pe,I.aM.fresh (ua _),fun x c e=>?_,fun p hp=>absurd (show p∈([]:av) from hp) (by simp),I.aM.kept hk,?_⟩
 ·obtain⟨i,q1,q2⟩:=LA e2
  obtain⟨q3,q4⟩:=S.qY j i x q1 e1;have hm:=WM q4;have mD:=S.free _ hm rfl;obtain⟨m,_,hl⟩:=I.loc
  have LC:qx X.env.scope x:=by
   rcases mD with h|h
   ·exact .inr (.inl h)
   ·exact .inr (.inr h)
  obtain⟨u,ru,lk⟩:=hl i x v q3 q2 LC;refine⟨u,ru,?_⟩
  have nl:X.env.kindOf x≠some .local:=by
   rcases mD with h|h
   ·intro z;rw[h] at z;cases z
   ·intro z;rw[h] at z;cases z
  rcases lk with⟨k,_⟩|⟨_,c,ec,hc⟩
  ·exact absurd k nl
  ·obtain⟨c',Dc⟩:=c2 (x,.free) hm rfl
   have Dd:=c1 _ _ Dc;rw[ec] at Dd;cases Dd;have nc:(x,NameKind.cell)∉scope.names:=fun z=>by have:=S.cell _ z rfl;rw[show scope.names.lookup x=some .free from q4] at this;cases this
   refine .inr ⟨?_,c,(xV nc).trans Dc,?_⟩
   ·have z:(relabel scope X.env).names.lookup x=_:=xR (env:=X.env) q4
    show(relabel scope X.env).names.lookup x=some .cell\/(relabel scope X.env).names.lookup x=some .free;rw[z];split
    ·exact .inl rfl
    ·exact .inr rfl
   ·obtain⟨o,e,d⟩:=hc
    exact⟨o,hk _ _ e,d⟩
 ·rcases pv e with e|⟨e,_⟩
  ·exact I.b_ x c (c1 _ _ e)
  ·exact I.aM.fresh (Nat.le_of_succ_le e)
 ·unfold gQ
  rw[nU];exact S.len
theorem LF{fp:List Addr}{d:BD}{it l:Addr}{tn:Nat->Heap->Prop}{J:It}{R:Result->Shared->Prop}{Q:VK}{H1:Hp}{s1:Shared}{τ:St}(hc:X.calm=true)
  (hg:JG (bF X scope Nb d) tg (g d)) (hf:JF (bF X scope Nb d) ifs (tf d)) (he:JE (bF X scope Nb d) elt (te d)) (T:Turn X.prog X.w X.K tg J fp it tn)
  (Ur:d.fp=fp) (I1:Inv (bF X scope Nb d) [] τ H1 s1) (kY:tn 0 s1.heap) (De:∀b∈fp,a9 (bF X scope Nb d) [] H1 b)
  (W:Nat->Nat->St->Hp->Prop) (w0:∃m,W 0 m τ H1)
  (turn:∀i m τ H,W i m τ H->(J.stop i H/\Q (.ref l) H)\/(J.go i H/\∃N:St->Hp->Prop,(∀τ' H',N τ' H'->∃m',m'<m/\W (i+1) m' τ' H')/\∀x H',J.o9 i H x H'->g d x τ H' fun τ2 H2=>tf d τ2 H2 fun b H3 =>
   if b=true then te d τ2 H3 fun y H4=>∃ys,H4 l=some (.lst ys)/\ys.length<sizeLine/\N τ2 (upd H4 l (.lst (ys++[y]))) else N τ2 H3))
  (fin:∀τ' H' s',Inv (bF X scope Nb d) [] τ' H' s'->Q (.ref l) H'->R (.ok .next) s') :
  codeAny (model X.prog X.w) X.A (.compStart (.ListComp elt [⟨tg,iter,ifs,0⟩] scope pos) 0 (.ref it) (.ref l) (compEnvC scope d.cl d.C X.env)) R s1:=by
 have gZ:∀{H':Hp},(∀b∈fp,H' b=none)->∀b∈fp,a9 (bF X scope Nb d) [] H' b:=fun hn b hb=>⟨hn b hb,(De b hb).2⟩
 have loop:codeAny (model X.prog X.w) X.A (.compLoop (.ListComp elt [⟨tg,iter,ifs,0⟩] scope pos) 0 (.ref it) (.ref l) (compEnvC scope d.cl d.C X.env)) R s1:=by
  obtain⟨m0,w0⟩:=w0;refine Lr (fun n s'=>∃i τ' H',Inv (bF X scope Nb d) [] τ' H' s'/\tn i s'.heap/\(∀b∈fp,H' b=none)/\W i n τ' H') ?_ m0 ⟨0,τ,H1,I1,kY,fun b hb=>(De b hb).1,w0⟩;rintro n s3 ⟨i,σ3,H3,I3,o_,qH,w3⟩;rcases turn i n σ3 H3 w3 with⟨stop,qn⟩|⟨go,N,hN,step⟩
  ·refine aY (T.done (bF X scope Nb d) rfl rfl rfl hc i [] s3 σ3 H3 (fun _ _=>False) I3 (gZ qH) o_ stop) fun r s4 ⟨hr,I4⟩=>?_
   subst hr;exact fin σ3 H3 s4 I4 qn
  ·refine aY (T.item (bF X scope Nb d) rfl rfl rfl hc i [] s3 σ3 H3 (fun _ _=>False) I3 (gZ qH) o_ go) fun r s4 ⟨u,hr,h4⟩=>?_
   subst hr;refine aY h4 fun _ s5 ⟨x,H5,I5,r5,y5,nA,wZ⟩=>?_;have w4:=I5.pinned (gZ wZ) (T.obj _ _ nA);refine aY (hg _ s5 σ3 H5 x u _ w4 r5 (step x H5 y5)) fun _ s6 ⟨σ6,H6,I6,q6⟩=>?_
   have again:∀{σ7:St}{H7:Hp}{s7:Shared}{m':Nat},Inv (bF X scope Nb d) ([]++qG fp s5.heap) σ7 H7 s7->m'<n->W (i+1) m' σ7 H7->∃m,m<n/\∃i σ' H',Inv (bF X scope Nb d) [] σ' H' s7/\tn i s7.heap/\(∀b∈fp,H' b=none)/\W i m σ' H':=fun{σ7 H7 s7 m'} I7 hm w7=>by
    refine⟨m',hm,i+1,σ7,H7,I7.de,T.keep _ _ _ nA fun b hb o e=>(I7.pin (b,o) (Uj _ (Uj _ (t5 hb e)))).1,fun b hb=>?_,w7⟩;obtain⟨o,e,d⟩:=T.obj _ _ nA b hb;exact(I7.pin (b,o) (Uj _ (Uj _ (t5 hb e)))).2.1
   refine aY (hf _ s6 σ6 H6 _ I6 q6) fun ok s7 h0_=>el3 h0_ fun H7 I7 q7=>?_
   cases ok with
   |false =>
    rw[Uo VC] at q7 ⊢;obtain⟨m',hm,w7⟩:=hN _ _ q7;exact again I7 hm w7
   |true =>
    rw[VB rfl] at q7 ⊢;refine aY (he _ s7 σ6 H7 _ I7 q7) fun y s8 ⟨yv,H8,I8,r8,ys,hy,hz,q8⟩=>?_;obtain⟨m',hm,w8⟩:=hN _ _ q8;refine aY (CY _ s8 σ6 H8 (.ref l) [yv] (.ref l) [y] (fun _ H9=>H9=upd H8 l (.lst (ys++[yv]))) I8 rfl (.cons r8 .nil) ⟨l,ys,yv,rfl,rfl,hy,hz,rfl⟩) fun _ s9 h0_=>el5 h0_ fun _ H9 I9 _ e9=>?_;subst e9;exact again I9 hm w8
 exact codeAny_compStart_list loop (T.self _ 0 s1 _ _ kY loop)
theorem LG{fp:List Addr}{d:BD}{τ:St}{H1 H':Hp}{s1 s':Shared}(I1:Inv X pins σ H1 s1)(hs:d.s=s1)(hH:d.H=H1)(hd:d.fp=fp)(hf:∀b∈fp,a9 X pins H1 b)(J:Inv (bF X scope Nb d) [] τ H' s'):Inv X pins σ H' s':=by
 subst hs hH hd;exact I1.qA (ch:=d.fp) J.os J.base J.aM J.bare fun b hb=>⟨(hf b hb).2.2.2.1,(hf b hb).2.1,(hf b hb).2.2.2.2.1,(hf b hb).2.2.2.2.2⟩
theorem Df{use:Option (Value->Sem Unit)}{P:aP}{Q:VK}(hc:X.calm=true)(S:uc X scope Nb cp)(hi:JI X tg iter wi)(hg:∀d,JG (bF X scope Nb d) tg (g d))(hf:∀d,JF (bF X scope Nb d) ifs (tf d))(he:∀d,JE (bF X scope Nb d) elt (te d))
  (hs:∀x,foldedSetIterable iter X.env x=pure x) (I:Inv X pins σ H s) (h:qZ wi cp g tf te σ H Q)
  (fin:∀(l C:Addr)(H':Hp)(s':Shared)(m:Str->Option Value),Inv X pins σ H' s'->a9 X pins H' C->(∀p c,X.env.cells.lookup p=some c->c≠C)->s'.heap.Ns C m->Q (.ref l) H'->compPost (model X.prog X.w) X.A X.xe use P (.ref l) C (.ok .next) s') :
  wpAny (model X.prog X.w) X.A (comprehension (.ListComp elt [⟨tg,iter,ifs,0⟩] scope pos) scope X.env (firstIterPos [⟨tg,iter,ifs,0⟩] pos) (newList []) false (eval iter X.env) use) P X.xe s:=by
 obtain⟨cl,LH,c1,c2⟩:=xQ (scope:=scope) (env:=X.env) fun y hy LI=>by
  rcases S.free y hy LI with z|z
  ·exact I.ok.has _ (.inl z)
  ·exact I.ok.has _ (.inr z)
 refine wpAny_comprehension_free (cl:=cl) rfl hs LH S.kind S.names (aY (hi pins s σ H _ I h) fun v s1 h1=>aY h1 fun wW s2 h2=>?_);obtain⟨it,fp,tn,J,H2,e,I2,T,jj,f2,q2⟩:=h2;subst e;refine Wn ?_;have hl:H2 s2.heap.objs.size=none:=I2.fresh;have I3:Inv X pins σ (upd H2 s2.heap.objs.size (.lst [])) {s2 with heap:=s2.heap.push {cls:=.type "list",data:=.seq ([]:List Value).toArray}}:=I2.bW (t':=s2.toks) (ys:=[]) .nil (Ww _);have k3:∀b o,s2.heap.get? b=some o->(s2.heap.push {cls:=.type "list",data:=.seq ([]:List Value).toArray}).get? b=some o:=fun b o e=>ph _ e
 have f3:∀b∈fp,a9 X pins (upd H2 s2.heap.objs.size (.lst [])) b:=fun b hb=>by
  obtain⟨o,e,_⟩:=T.obj _ _ jj b hb;refine⟨?_,(f2 b hb).2⟩;rw[aU (VD (Ul e))];exact(f2 b hb).1
 generalize LL:upd H2 s2.heap.objs.size (.lst [])=H3 at I3 f3;generalize LM:({s2 with heap:=s2.heap.push {cls:=.type "list",data:=.seq ([]:List Value).toArray}}:Shared)=s3 at I3;have Dg:∀b o,s2.heap.get? b=some o->s3.heap.get? b=some o:=by rw[<-LM];exact k3
 have o3:∀b∈fp,∃o,s3.heap.get? b=some o:=fun b hb=>let⟨o,e,_⟩:=T.obj _ _ jj b hb;⟨o,Dg b o e⟩;refine Lw ?_;have k4:∀b o,s3.heap.get? b=some o->(pushCells (s3.heap.push {cls:=.type "dict",data:=.dict #[]}) scope.names).get? b=some o:=fun b o e=>pushCells_keeps _ _ _ _ (ph _ e);have q_:(pushCells (s3.heap.push {cls:=.type "dict",data:=.dict #[]}) scope.names).Ns s3.heap.objs.size (fun x=>([]:List (Str×Value)).reverse.lookup x):=(Heap.Ns.new s3.heap (.type "dict")).keeps (pushCells_keeps _ _)
 have I4:=LB (Nb:=Nb) (tk:=s3.toks) S I3 f3 o3 c1 c2 q_ k4 fun x c e=>by
  have hz:(s3.heap.push {cls:=.type "dict",data:=.dict #[]}).objs.size=s3.heap.objs.size+1:=Xq ..;have e':(cellsFrom (s3.heap.push {cls:=.type "dict",data:=.dict #[]}).objs.size scope.names cl).lookup x=some c:=by rw[hz];exact e
  refine xW (fun u c q=>?_) e';obtain⟨v,o,g1,g2⟩:=I3.cell u c (c1 _ _ q);exact⟨v,o,ph _ g1,g2⟩
 generalize Us:pushCells (s3.heap.push {cls:=.type "dict",data:=.dict #[]}) scope.names=h₁ at k4 q_ I4 ⊢;obtain⟨W,w0,turn⟩:=q2 ⟨q9 scope s3 cl,s3.heap.objs.size,s3,H3,fp⟩ s2.heap.objs.size hl;rw[LL] at w0;refine LF (d:=⟨q9 scope s3 cl,s3.heap.objs.size,s3,H3,fp⟩) (fp:=fp) (tn:=tn) (J:=J) (Q:=Q) hc (hg _) (hf _) (he _) T rfl I4 (T.keep _ _ _ jj fun b hb o e=>k4 b o (Dg b o e)) (fun b hb=>?_) W w0 turn fun τ' H' s' I5 q5=>?_
 ·obtain⟨o,e⟩:=o3 b hb
  refine⟨(f3 b hb).1,VD (Ul e),fun z=>?_,.inl hb,fun x c ec=>?_,fun p hp=>absurd (show p∈([]:av) from hp) (by simp)⟩
  ·rcases Lp.mp (I3.fM b z) with r|r
   ·exact(f3 b hb).2.1 r
   ·exact(f3 b hb).2.2.1 r
  ·rcases pv ec with q|⟨q,_⟩
   ·exact(f3 b hb).2.2.2.2.1 x c (c1 _ _ q)
   ·have xX:=Ul e
    intro z;subst z;exact absurd (Nat.lt_of_succ_le q) (Nat.not_lt.mpr (WZ xX))
 ·have I6:Inv X pins σ H' s':=LG I3 rfl rfl rfl f3 I5
  obtain⟨m,hn,_⟩:=I5.loc;have fC:a9 X pins H' s3.heap.objs.size:=I3.fO (ua _) I5.free;exact fin _ _ _ _ m I6 fC (fun p c e=>fC.2.2.2.2.1 p c e) hn q5
theorem Dh(cp:List (Option Nat))(Nb:List Str)(hc:X.calm=true)(hi:JI X tg iter wi)(hg:∀d,JG (bF X scope Nb d) tg (g d))(hf:∀d,JF (bF X scope Nb d) ifs (tf d))(he:∀d,JE (bF X scope Nb d) elt (te d))
  (hk:scope.kind=.function:=by rfl) (ho:iY X.N X.env.scope scope Nb cp=true:=by first|rfl|kernel_rfl) (hs:∀x,foldedSetIterable iter X.env x=pure x:=by intro _;rfl) :
  JE X (.ListComp elt [⟨tg,iter,ifs,0⟩] scope pos) (qZ wi cp g tf te):=by
 refine⟨?_⟩;intro pins s σ H Q I h;rw[eval_ListComp];refine Df (use:=none) hc (q8M hk ho) hi hg hf he hs I h fun l C H' s' m I' fC hcc hn q=>⟨m,hn,fun h' rh=>⟨.ref l,H',?_,rfl,q⟩⟩;exact I'.turned (t':=s'.toks) (fun b o hb e=>(rh.2 b hb).trans e) fC.1 fC.2.1 fC.2.2.2.1 fC.2.2.2.2.1 fC.2.2.2.2.2
theorem Di(cp:List (Option Nat))(Nb:List Str){i:Nat}{x:Str}{pos' dg:Pos}(hN:X.N.Nodup)(hi:X.N[i]?=some x)(hx:Loc X.env.scope x)(hc:X.calm=true)(hit:JI X tg iter wi)(hg:∀d,JG (bF X scope Nb d) tg (g d))(hf:∀d,JF (bF X scope Nb d) ifs (tf d))(he:∀d,JE (bF X scope Nb d) elt (te d))
  (hk:scope.kind=.function:=by rfl) (ho:iY X.N X.env.scope scope Nb cp=true:=by first|rfl|kernel_rfl) (hs:∀x,foldedSetIterable iter X.env x=pure x:=by intro _;rfl)
  (lq:swapsWith (.ListComp elt [⟨tg,iter,ifs,0⟩] scope pos) (some (.Name x pos')) dg.line X.env=pure true:=by rfl)
  (iR:eC X x:=by first|exact .inl rfl|exact .inr rfl|assumption) :
  JS X (.Assign [.Name x pos'] (.ListComp elt [⟨tg,iter,ifs,0⟩] scope pos) dg) (jG (qZ wi cp g tf te) (t4 i)):=by
 refine⟨?_⟩;intro pins s σ H D I h;rw[exec_Assign_Name_used _ _ _ _ lq];refine lj (XY (lj ?_));show wpAny _ X.A (do let _ <- comprehension (.ListComp elt [⟨tg,iter,ifs,0⟩] scope pos) scope X.env _ (newList []) false (eval iter X.env) (some (assign (.Name x pos') X.env))) _ _ s;refine lj (aY (Df (use:=some (assign (.Name x pos') X.env)) (P:=fun _ s'=>SP X pins D .next s') hc (q8M hk ho) hit hg hf he hs I h fun l C H' s' m I' fC hcc hn q=>?_) fun _ s' hq=>qV (qV hq));show wpAny _ X.A (assign (.Name x pos') X.env (.ref l)) _ _ s';refine wpAny_assign_Name (B5 I' hN hi hx (v:=.ref l) rfl (fun g5 LN ⟨a,sb,ha⟩=>?_) iR)
 have nC:C≠a:=by
  rcases ha with e|e
  ·rw[e];exact fC.2.1
  ·exact Xv (hcc _ _ e)
 refine⟨m,hn.sameBut sb nC,fun h' rh=>⟨_,H',?_,q⟩⟩;exact LN.turned (t':=g5.toks) (fun b o hb e=>(rh.2 b hb).trans e) fC.1 fC.2.1 fC.2.2.2.1 fC.2.2.2.2.1 fC.2.2.2.2.2
end
section
variable{g:TG}{tf:TT}{te:TE}
end
section
variable{X:Cx}{pins:av}{σ:St}{H:Hp}{s:Shared}{h':Heap}{T:Addr}{o:HO}{ch:List Addr}{t':Nat}
theorem Inv.gB(I:Inv X pins σ H s)(hf:∀b∈ch,a9 X pins H b)(k:∀b u,b∉ch->s.heap.get? b=some u->h'.get? b=some u)(hT:s.heap.objs.size<=T)(new:aL X.prog X.w (upd H T o) h' T o):
  Inv X pins σ (upd H T o) {s with heap:=h',toks:=t'}:=by
 have hn:H T=none:=I.aM.fresh hT;have ma:∀b u,H b=some u->b∉ch:=fun b u e hb=>by rw[(hf b hb).1] at e;cases e
 refine I.step (g':=s.gens) (d':=s.drawn) (ch:=ch) (fun b hb=>⟨(hf b hb).2.2.2.1,(hf b hb).2.1,(hf b hb).2.2.2.2.1,(hf b hb).2.2.2.2.2⟩) (fun b u _ _ hc e _=>k b u hc e) (fun b u _ _ hc e _=>⟨u.slots,k b u hc e⟩)
  (fun b u _ e n=>by rw[aU (VD (VG (Ul e) hT))];exact n) (fun b u hc e=>⟨u,k b u hc e⟩) (fun b xs e=>by rw[aU (cL e hn)];exact e)
  (fun b u xs e=>by rw[aU (cL e hn)];exact e) (fun b ps e=>⟨#[],by rw[aU (cL e hn),e];simp⟩) (fun m hm=>?_) (fun b u e=>?_) I.bare
 ·obtain⟨u,es,ep,ho,r⟩:=hm
  exact⟨u,es,ep,k _ u (fun hb=>(hf _ hb).2.1 rfl) ho,r⟩
 ·by_cases hb:b=T
  ·subst hb;rw[bE] at e;cases e;exact new
  ·rw[aU hb] at e
   refine(I.aM b u e).eY (fun c v hc q=>k c v ?_ q) (fun c q=>by rw[aU (cL q hn)];exact q) fun c xs q=>by rw[aU (cL q hn)];exact q
   rcases hc with z|z
   ·rw[z];exact ma b u e
   ·exact ma c _ z
end
noncomputable def px(K:PySem.W.Frag)(a:Addr):It :=
 ⟨fun i H=>∃xs x,a8 K H a xs/\xs[i]?=some x,fun i H x H'=>∃T v,x=.ref T/\H T=none/\H'=upd H T (.tup [.int (i:Nat),v])/\∀xs,a8 K H a xs->xs[i]?=some v,fun i H=>∃xs,a8 K H a xs/\xs.length<=i⟩
theorem Dj{P:Program}{w:World}{K:PySem.W.Frag}{elts:List Expr}{x1}{tp:Pos}(a e it:Addr)(fz:e≠it):
  Turn P w K (.Tuple elts x1 tp) (px K a) [e,it] e (fun i h=>(∃old,IsEnum h e it (i:Nat) old)/\h.IsListIter it a i) where
 mem:=by simp
 obj:=fun i h st b hb=>by
  obtain⟨⟨old,he⟩,o,hi,hc,hd⟩:=st;rcases Lp.mp hb with rfl|hb
  ·exact⟨_,he,fun v z=>by cases z⟩
  ·have z:b=it:=by simpa using hb
   subst z;exact⟨o,hi,fun v z=>by rw[hd] at z;cases z⟩
 keep:=fun i h h' st k=>by
  obtain⟨⟨old,he⟩,hi⟩:=st;exact⟨⟨old,k e (by simp) _ he⟩,hi.at fun o q=>k it (by simp) o q⟩
 item:=by
  intro X hP hw hK hc i pins s σ H E I hf st hg;subst hP hw hK;obtain⟨⟨old,he⟩,hi⟩:=st;obtain⟨xs,x,hq,hx⟩:=hg;obtain⟨ar,rv,p,hz⟩:=I.list hq;obtain⟨u,hu,ru⟩:=rv.get hx;refine wpAny_pyNext_enum_item he hi p.isList (x:=u) (by simpa using hu) fz fun h1 kD xY rj hsz hk=>⟨_,rfl,?_⟩;refine wpAny_letOwnedTupleGo_enum kD fun h2 rp jm=>?_;have hT:s.heap.objs.size≠e:=Xn (Ul he);have jz:h2.get? s.heap.objs.size=some {cls:=.type "tuple",data:=.seq #[.int i s.toks,u]}:=(jm.2 _ hT).trans rj
  have k2:∀b o,b∉[e,it]->s.heap.get? b=some o->h2.get? b=some o:=fun b o hb q=>by
   have rq:b≠e:=fun z=>hb (by simp[z]);have eX:b≠it:=fun z=>hb (by simp[z]);exact(jm.2 _ rq).trans (hk b o rq eX q)
  have hn:H s.heap.objs.size=none:=I.aM.fresh (ua _);refine⟨.ref s.heap.objs.size,upd H s.heap.objs.size (.tup [.int i,x]),I.gB (ch:=[e,it]) (t':=s.toks+1) hf k2 (ua _) ?_,rfl,⟨_,x,rfl,hn,rfl,fun ys hy=>by rw[I.gy hy hq];exact hx⟩,⟨⟨u,?_⟩,?_⟩,fun b hb=>?_⟩
  ·exact⟨by show 2<=sizeLine;decide,[.int i s.toks,u],.cons ⟨_,rfl⟩ (.cons ru .nil),_,jz,rfl,_,rfl⟩
  ·have e3:((i:Int)+1)=(((i+1:Nat)):Int):=by omega
   rw[e3] at rp;exact rp
  ·exact xY.at fun o q=>(jm.2 _ (Xv fz)).trans q
  ·have:b<s.heap.objs.size:=by
    obtain⟨o,q,_⟩:=hi;rcases Lp.mp hb with rfl|hb
    ·exact Ul he
    ·have z:b=it:=by simpa using hb
     subst z;exact Ul q
   rw[aU (VD this)];exact(hf b hb).1
 done:=by
  intro X hP hw hK hc i pins s σ H E I hf st hg;subst hP hw hK;obtain⟨⟨old,he⟩,hi⟩:=st;obtain⟨xs,hq,hx⟩:=hg;obtain⟨ar,rv,p,hz⟩:=I.list hq;have hl:=rv.length;refine wpAny_pyNext_enum_end (I.ok.hd hc) he hi p.isList (by simp;omega) fun h1 eb=>⟨rfl,?_⟩;obtain⟨f0,f1,f2,f3,f4,f5⟩:=hf it (by simp);exact I.turned (t':=s.toks) (fun b o hb q=>eb b o hb q) f0 f1 f3 f4 f5
 self:=fun A i s Q E st h=>by
  obtain⟨⟨old,he⟩,hi⟩:=st;have hT:s.TypeIs (.ref e) "enumerate" := ⟨_,he,rfl⟩;exact Xt he h
section
variable{X:Cx}{elts:List Expr}{x1:Nat}{tp:Pos}
def LO(K:PySem.W.Frag)(ta:TA):TI:=fun σ H R=>ta σ H fun vs H1=>∃a,vs=[.ref a]/\(∃xs,a8 K H1 a xs)/\R (px K a) H1
theorem Dl:bootBuiltins "enumerate" = some (.type "enumerate"):=by decide +kernel
theorem LP{a:Expr}{ta:TA}{p pos:Pos}(hg:Gl X "enumerate")(hm:X.mg "enumerate" = none)(ha:JA X [a] ta)(hs:starEach [a] X.env=[(false,eval a X.env)]:=by rfl):
  JI X (.Tuple elts x1 tp) (.Call (.Name "enumerate" p) [a] [] pos) (LO X.K ta):=by
 refine⟨?_⟩;intro pins s σ H R I h;refine Call_ (kW I hg hm Dl (Xe (aY (ha pos pins s σ H _ I h) fun us s1 h0_=>el5 h0_ fun vs H1 I1 r1 q1=>?_) hs rfl));obtain⟨l,e,⟨xs,hq⟩,q⟩:=q1;subst e
 cases r1 with
 |cons r rr =>
  cases rr
  cases r
  obtain⟨ar,rv,p,hz⟩:=I1.list hq;refine call_enumerate_list p.isList fun h' he hi hsz hk=>?_;have I2:Inv X pins σ H1 {s1 with heap:=h'}:=I1.kept (t':=s1.toks) hk;refine Xt he ?_;refine⟨_,_,_,_,H1,rfl,I2,Dj l (s1.heap.objs.size+1) s1.heap.objs.size (ZD _),⟨⟨_,he⟩,hi⟩,fun b hb=>?_,q⟩
  have hb':s1.heap.objs.size<=b:=by
   rcases Lp.mp hb with rfl|hb
   ·exact Zn _
   ·have z:b=s1.heap.objs.size:=by simpa using hb
    rw[z];exact ua _
  exact I1.fO hb' (I1.aM.fresh hb')
end
section
variable{X:Cx}{nm:Str}{tp:Pos}
end
end L2
namespace L2
open PySem PySem.Spec PyProof.Rows PySem.W
open Builtin Builtin.ObjectAttr
section
variable{prog:Program}{w:World}{A:Around}{E:aP}{s:Shared}{K:Frag}{x D:Addr}{ox:Obj}{Ut:Option Obj}{name:Str}
variable{h:Heap}{g:Array GenState}{d:Drawn}{t:Nat}{os:OsState}{nm q:Str}{C N:Addr}{bs bm Uu:List Value}{LQ:Bool}{sn:List Str}{sub:List Value}{ab:Bool}{col:Option Bool}{dd:Option Addr}{k0 k1 k2 k3 k5:Option Value}{B newId xZ:String}
end
end L2
namespace L2
open PySem PySem.Spec PyProof.Rows
section
variable{X:Cx}{pins:av}{σ:St}{H:Hp}{s:Shared}{C f:Addr}{CX:jn}{k:Nat}{fd:FuncData}{ps:List Str}{sp:Sp}{E:XK}{x:Str}{p pos pos':Pos}{e o value:Expr}{es:List Expr}{ta tv:TE}{t:TA}
end
section
variable{X:Cx}
noncomputable def rA:V->Option Value
 |.ty n=>some (.type n)
 |.ref a=>some (.ref a)
 |_=>none
theorem LR{y:V}{u c:Value}(r:RelV y u)(e:rA y=some c):u=c:=by
 cases y with
 |ty n=>cases e;exact r
 |ref a=>cases e;exact r
 |_=>cases e
theorem LU:fc X (.builtin "isinstance") (fun xs H Q=>∃x y c t b,xs=[x,y]/\rA y=some c/\df X.K H x t/\PySem.W.kitOne X.K t c=some b/\Q (.bl b) H):=by
 intro pins s σ H xs us Q I rv h;obtain⟨x,y,c,t,b,rfl,hc,ty,e,q⟩:=h;obtain⟨u,w',rfl,rx,ry⟩:=rv.two;rw[LR ry hc];exact Kx I rx ty e fun tk=>⟨.bl b,H,I.tok tk,rfl,q⟩
theorem Dm{x:V}:∀{xs:List V}{us:List Value},Vals xs us->xs.all kH=true->us.countP (qR x)=xs.countP fun y=>jr y x
 |_,_,.nil,_=>rfl
 |y::xs,u::us,.cons r t,f=>by
  rw[Yf,Wa] at f;rw[WX,WX,Dm t f.2,CO r f.1]
theorem IsList.parts{h:Heap}{l:Addr}{items:Array Value}(x:h.IsList l items):∃dd n sl,h.get? l=some {cls:=.type "list",dict:=dd,data:=.seq items n,slots:=sl}:=by
 obtain⟨⟨cls,dd,data,sl⟩,ho,hc,n,hd⟩:=x;simp only at hc hd;subst hc hd;exact⟨dd,n,sl,ho⟩
def Dp(K:PySem.W.Frag):V->List V->Hp->VK->Prop:=fun x vs H Q=>∃l xs y,x=.ref l/\vs=[y]/\a8 K H l xs/\kH y=true/\xs.all kH=true/\Q (.int (xs.countP fun z=>jr z y:Nat)) H
theorem LV:t_ X "list.count" (Dp X.K):=by
 intro pins s σ H x vs v us Q I rx rv h;obtain⟨l,xs,y,rfl,rfl,hq,fy,fs,q⟩:=h;cases rx
 obtain⟨u,rfl,ru⟩:=rv.one;obtain⟨ar,r,pl,hz⟩:=I.list hq;obtain⟨dd,n,sl,e⟩:=IsList.parts pl.isList;refine Zd F.slot_list_count ⟨_,e,rfl⟩ F.entry_list_count (F.args_list_count_2 _ _) (SeqAt.list_countAt l ar.toArray n dd sl u (qR y)) ⟨e,fun w hw=>CP ru fy r fs w (by simpa using hw),?_⟩;refine⟨.int _,H,I.tok _,⟨_,rfl⟩,?_⟩;have e2:ar.toArray.toList.countP (qR y)=xs.countP fun z=>jr z y:=by rw[List.toList_toArray];exact Dm r fs
 rw[e2];exact q
end
theorem LW{K:PySem.W.Frag}{a:Addr}{xs:List V}{g:TG}{tb:TS}{D:Ends}{σ:St}{H:Hp}(Pv:Nat->St->Hp->Prop)(h0:Pv 0 σ H)(hl:∀i σ H,i<=xs.length->Pv i σ H->a8 K H a xs)
  (hs:∀i x T σ H,xs[i]?=some x->Pv i σ H->H T=none->g (.ref T) σ (upd H T (.tup [.int (i:Nat),x])) fun σ2 H2=>tb {D with nx:=Pv (i+1),ct:=Pv (i+1),bk:=D.nx} σ2 H2) (hd:∀σ H,Pv xs.length σ H->D.nx σ H) :
  ∃W:Nat->Nat->St->Hp->Prop,(∃m,W 0 m σ H)/\∀i m σ H,W i m σ H →
   ((px K a).stop i H/\D.nx σ H)\/((px K a).go i H/\∃N:St->Hp->Prop,(∀σ' H',N σ' H'->∃m',m'<m/\W (i+1) m' σ' H')/\∀x H',(px K a).o9 i H x H'->g x σ H' fun σ2 H2=>tb {D with nx:=N,ct:=N,bk:=D.nx} σ2 H2):=by
 refine⟨fun i m σ H=>m=xs.length-i/\i<=xs.length/\Pv i σ H,⟨xs.length,by simp,Ww _,h0⟩,?_⟩;rintro i m σ H ⟨rfl,hi,p⟩;have q:=hl i σ H hi p
 by_cases cB:i<xs.length
 ·refine .inr ⟨⟨xs,xs[i],q,by simp[cB]⟩,Pv (i+1),fun σ' H' p'=>⟨xs.length-(i+1),by omega,rfl,cB,p'⟩,fun x H' y=>?_⟩
  obtain⟨T,v,rfl,hT,rfl,y⟩:=y;exact hs i v T σ H (y xs q) p hT
 ·have e:i=xs.length:=by omega
  subst e;exact .inl ⟨⟨xs,q,ua _⟩,hd σ H p⟩
section
variable{g:TG}{tf:TT}{te:TE}{l:Addr}{τ0:St}{H0:Hp}{Q:VK}
end
section
variable{X:Cx}{es:List Expr}{te:TE}{t:TA}
theorem x5{c j p}(ha:JE X (.Constant c j p) te)(hr:JA X es t):JA X (.Constant c j p::es) (mn te t):=iS ha hr rfl
theorem nY{x p}(ha:JE X (.Name x p) te)(hr:JA X es t):JA X (.Name x p::es) (mn te t):=iS ha hr rfl
theorem g8{f a k p}(ha:JE X (.Call f a k p) te)(hr:JA X es t):JA X (.Call f a k p::es) (mn te t):=iS ha hr rfl
theorem x6{a p}(ha:JE X (.List a p) te)(hr:JA X es t):JA X (.List a p::es) (mn te t):=iS ha hr rfl
theorem x8{a k p}(ha:JE X (.Tuple a k p) te)(hr:JA X es t):JA X (.Tuple a k p::es) (mn te t):=iS ha hr rfl
theorem x9{a k p}(ha:JE X (.Subscript a k p) te)(hr:JA X es t):JA X (.Subscript a k p::es) (mn te t):=iS ha hr rfl
end
inductive D where
 |non|bl (b:Bool)|int (i:Int)|str (x:Str)|tup (xs:List D)|lst (xs:List D)
mutual
def Is (H:Hp):D->V->Prop
 |.non,v=>v=.non
 |.bl b,v=>v=.bl b
 |.int i,v=>v=.int i
 |.str x,v=>v=.str x
 |.tup ds,v=>∃a vs,v=.ref a/\H a=some (.tup vs)/\ae H ds vs
 |.lst ds,v=>∃a vs,v=.ref a/\H a=some (.lst vs)/\ae H ds vs
def ae (H:Hp):List D->List V->Prop
 |[],vs=>vs=[]
 |d::ds,vs=>∃v r,vs=v::r/\Is H d v/\ae H ds r
end
mutual
theorem Is.same {H H':Hp} (s:aE H H'):∀{d:D}{v:V},Is H d v->Is H' d v
 |.non,_,h=>h
 |.bl _,_,h=>h
 |.int _,_,h=>h
 |.str _,_,h=>h
 |.tup _,_,h=>by
  simp only[Is] at h ⊢;obtain⟨a,vs,e,h1,h2⟩:=h;exact⟨a,vs,e,s _ _ h1,ae.same s h2⟩
 |.lst _,_,h=>by
  simp only[Is] at h ⊢;obtain⟨a,vs,e,h1,h2⟩:=h;exact⟨a,vs,e,s _ _ h1,ae.same s h2⟩
theorem ae.same {H H':Hp} (s:aE H H'):∀{d:List D}{v:List V},ae H d v->ae H' d v
 |[],_,h=>h
 |_::_,_,h=>by
  simp only[ae] at h ⊢;obtain⟨v,r,e,h1,h2⟩:=h;exact⟨v,r,e,Is.same s h1,ae.same s h2⟩
end
theorem ae.length{H:Hp}:∀{ds:List D}{vs:List V},ae H ds vs->vs.length=ds.length
 |[],_,h=>by simp only[ae] at h;rw[h];rfl
 |_::_,_,h=>by
  simp only[ae] at h;obtain⟨v,r,rfl,_,h2⟩:=h;rw[Lk,Lk,ae.length h2]
theorem ae.get{H:Hp}:∀{ds:List D}{vs:List V}{i:Nat}{v:V},ae H ds vs->vs[i]?=some v->∃d,ds[i]?=some d/\Is H d v
 |[],_,i,v,h,e=>by simp only[ae] at h;rw[h] at e;simp at e
 |d::ds,_,i,v,h,e=>by
  simp only[ae] at h;obtain⟨v',r,rfl,h1,h2⟩:=h
  cases i with
  |zero=>simp at e;subst e;exact⟨d,rfl,h1⟩
  |succ i=>simp at e;simpa using ae.get h2 e
theorem ae.nil{H:Hp}:ae H [] []:=by simp only[ae]
theorem ae.cons{H:Hp}{d:D}{ds:List D}{v:V}{vs:List V}(h:Is H d v)(r:ae H ds vs):ae H (d::ds) (v::vs):=by
 simp only[ae];exact⟨v,vs,rfl,h,r⟩
theorem ae.snoc{H:Hp}{d:D}{v:V}:∀{ds:List D}{vs:List V},ae H ds vs->Is H d v->ae H (ds++[d]) (vs++[v])
 |[],_,h,q=>by simp only[ae] at h;subst h;exact .cons q .nil
 |_::_,_,h,q=>by
  simp only[ae] at h;obtain⟨v',r,rfl,h1,h2⟩:=h;exact .cons h1 (ae.snoc h2 q)
mutual
noncomputable def dep:D->Nat
 |.tup ds=>bO ds+1
 |.lst ds=>bO ds+1
 |_=>0
noncomputable def bO:List D->Nat
 |[]=>0
 |d::ds=>max (dep d) (bO ds)
end
theorem x_:∀{ds:List D}{i:Nat}{d:D},ds[i]?=some d->dep d<=bO ds
 |[],i,d,e=>by simp at e
 |d'::ds,0,d,e=>by simp at e;subst e;simp only[bO];exact Nat.le_max_left _ _
 |d'::ds,i+1,d,e=>by simp at e;simp only[bO];exact V_ (x_ e) (Nat.le_max_right _ _)
noncomputable def fU:D->String
 |.non=>"NoneType" | .bl _=>"bool" | .int _=>"int" | .str _=>"str" | .tup _=>"tuple" | .lst _=>"list"
theorem Is.ty{K:PySem.W.Frag}{H:Hp}:∀{d:D}{v:V},Is H d v->df K H v (.type (fU d))
 |.non,_,h=>by cases(show _=_ from h);exact .non
 |.bl b,_,h=>by cases(show _=_ from h);exact .bl b
 |.int i,_,h=>by cases(show _=_ from h);exact .int i
 |.str x,_,h=>by cases(show _=_ from h);exact .str x
 |.tup _,_,h=>by
  simp only[Is] at h;obtain⟨a,vs,rfl,h1,_⟩:=h;exact .tup h1
 |.lst _,_,h=>by
  simp only[Is] at h;obtain⟨a,vs,rfl,h1,_⟩:=h;exact .lst h1
noncomputable def dh(T c:String):Bool:=T==c||(T=="bool" && c=="int")
section
variable{K:PySem.W.Frag}
theorem LX:∀T∈["NoneType", "bool", "int", "str", "tuple", "list"],PySem.W.kitOne K (.type T) (.type "bool")=some (dh T "bool"):=by
 intro T hT;simp only[Lp,V9,X7] at hT;rcases hT with rfl|rfl|rfl|rfl|rfl|rfl<;>kernel_rfl
theorem LY:∀T∈["NoneType", "bool", "int", "str", "tuple", "list"],PySem.W.kitOne K (.type T) (.type "int")=some (dh T "int"):=by
 intro T hT;simp only[Lp,V9,X7] at hT;rcases hT with rfl|rfl|rfl|rfl|rfl|rfl<;>kernel_rfl
theorem kit_tuple:∀T∈["NoneType", "bool", "int", "str", "tuple", "list"],PySem.W.kitOne K (.type T) (.type "tuple")=some (dh T "tuple"):=by
 intro T hT;simp only[Lp,V9,X7] at hT;rcases hT with rfl|rfl|rfl|rfl|rfl|rfl<;>kernel_rfl
theorem LZ:∀T∈["NoneType", "bool", "int", "str", "tuple", "list"],PySem.W.kitOne K (.type T) (.type "list")=some (dh T "list"):=by
 intro T hT;simp only[Lp,V9,X7] at hT;rcases hT with rfl|rfl|rfl|rfl|rfl|rfl<;>kernel_rfl
theorem ud(d:D):fU d∈["NoneType", "bool", "int", "str", "tuple", "list"]:=by cases d<;>simp[fU]
end
section
variable{X:Cx}
theorem JE.weak{e:Expr}{t t':TE}(h:JE X e t)(k:∀σ H Q,t' σ H Q->t σ H Q):JE X e t':=⟨fun pins s σ H Q I q=>h pins s σ H Q I (k σ H Q q)⟩
theorem JT.weak{e:Expr}{t t':TT}(h:JT X e t)(k:∀σ H Q,t' σ H Q->t σ H Q):JT X e t':=⟨fun pins s σ H Q I q=>h pins s σ H Q I (k σ H Q q)⟩
theorem JA.weak{es:List Expr}{t t':TA}(h:JA X es t)(k:∀σ H Q,t' σ H Q->t σ H Q):JA X es t':=⟨fun pos pins s σ H Q I q=>h pos pins s σ H Q I (k σ H Q q)⟩
theorem JS.weak{st:Stmt}{t t':TS}(h:JS X st t)(k:∀D σ H,t' D σ H->t D σ H):JS X st t':=⟨fun pins s σ H D I q=>h pins s σ H D I (k D σ H q)⟩
theorem cM.weak{st:List Stmt}{t t':TS}(h:cM X st t)(k:∀D σ H,t' D σ H->t D σ H):cM X st t':=⟨fun pins s σ H D I q=>h pins s σ H D I (k D σ H q)⟩
end
section
variable{κ:Type}[DecidableEq κ]
noncomputable def di(ah:List (κ×V))(k:κ):Option V:=(ah.find? fun kv=>decide (kv.1=k)).map (·.2)
noncomputable def putK(ah:List (κ×V))(k:κ)(v:V):List (κ×V) :=
 if(ah.any fun kv=>decide (kv.1=k))=true then ah.map (fun kv=>if kv.1=k then(kv.1,v) else kv) else ah++[(k,v)]
theorem ue{p:κ×V}{r:List (κ×V)}{k:κ}(e:p.1=k):di (p::r) k=some p.2:=by simp[di,XX,e]
theorem uf{p:κ×V}{r:List (κ×V)}{k:κ}(e:¬ p.1=k):di (p::r) k=di r k:=by simp[di,XX,e]
theorem Dq(k:κ):∀ah:List (κ×V),(ah.any fun kv=>decide (kv.1=k))=(di ah k).isSome
 |[]=>rfl
 |p::r=>by
  rw[Xw]
  by_cases e:p.1=k
  ·simp only[ue e,Ln e,Bool.true_or,Option.isSome_some]
  ·rw[uf e,C7 e,Bool.false_or];exact Dq k r
theorem ya(ah:List (κ×V))(k:κ)(v:V):(putK ah k v).length<=ah.length+1:=by
 unfold putK;split
 ·rw[nU];omega
 ·rw[C4,Lk,Wi];omega
theorem dE.dG{o:Option V}{u:Option Value}(r:dE o u):o.isSome=u.isSome:=by
 cases o with
 |none=>cases u with
  |none=>rfl
  |some _=>exact(show False from r).elim
 |some _=>cases u with
  |none=>exact(show False from r).elim
  |some _=>rfl
theorem dE.getD{o:Option V}{u:Option Value}{d:V}{d':Value}(r:dE o u)(rd:RelV d d'):RelV (o.getD d) (u.getD d'):=by
 cases o with
 |none=>cases u with
  |none=>exact rd
  |some _=>exact(show False from r).elim
 |some _=>cases u with
  |none=>exact(show False from r).elim
  |some _=>exact r
theorem KV.val{ah:List (κ×V)}{vs:List (κ×Value)}(r:KV ah vs)(k:κ):dE (di ah k) (valueAt vs k):=by
 unfold KV at r
 induction r with
 |nil=>exact True.intro
 | @cons p q ps qs h t ih =>
  obtain⟨h1,h2⟩:=h
  by_cases e:p.1=k
  ·have e':q.1=k:=h1.symm.trans e
   have b:valueAt (q::qs) k=some q.2:=by simp[valueAt,XX,e']
   rw[ue e,b];exact h2
  ·have e':¬ q.1=k:=fun z=>e (h1.trans z)
   have b:valueAt (q::qs) k=valueAt qs k:=by simp[valueAt,XX,e']
   rw[uf e,b];exact ih
theorem KV.any{ah:List (κ×V)}{vs:List (κ×Value)}(r:KV ah vs)(k:κ):(ah.any fun kv=>decide (kv.1=k))=vs.any fun kv=>decide (kv.1=k):=by
 unfold KV at r
 induction r with
 |nil=>rfl
 |cons h t ih=>rw[Xw,Xw,ih,h.1]
theorem KV.g9{ah:List (κ×V)}{vs:List (κ×Value)}(r:KV ah vs)(k:κ){y:V}{u:Value}(ry:RelV y u):
  KV (ah.map fun kv=>if kv.1=k then(kv.1,y) else kv) (vs.map fun kv=>if kv.1=k then(kv.1,u) else kv):=by
 unfold KV at r ⊢
 induction r with
 |nil=>exact .nil
 | @cons p q ps qs h t ih =>
  rw[VM,VM];refine .cons ?_ ih;obtain⟨h1,h2⟩:=h
  by_cases e:p.1=k
  ·rw[VB e,VB (h1.symm.trans e)];exact⟨h1,ry⟩
  ·rw[Uo e,Uo (fun z=>e (h1.trans z))];exact⟨h1,h2⟩
theorem KV.put{ah:List (κ×V)}{vs:List (κ×Value)}(r:KV ah vs)(k:κ){y:V}{u:Value}(ry:RelV y u):KV (putK ah k y) (stored vs k u):=by
 unfold putK stored;rw[r.any k]
 by_cases e:(vs.any fun kv=>decide (kv.1=k))=true
 ·rw[VB e,VB e];exact r.g9 k ry
 ·rw[Uo e,Uo e];exact Paired.snoc r ⟨rfl,ry⟩
theorem KV.length{ah:List (κ×V)}{vs:List (κ×Value)}(r:KV ah vs):ah.length=vs.length:=Paired.length r
end
theorem pz{P:Program}{w:World}{k:Key}{u:Value}(r:RelV (kV k) u):(gv P w).is k u=true:=by
 cases k with
 |inl i=>obtain⟨t,e⟩:=(show ∃t,u=Value.int i t from r);subst e;exact Ji P w i t
 |inr x=>obtain⟨t,e⟩:=(show ∃t,u=Value.str x t from r);subst e;exact Jj P w x t
theorem Dr{P:Program}{w:World}:∀{ks:List Key}{us:List Value},Vals (ks.map kV) us->ItemsAre (gv P w) ks us
 |[],_,r=>by rw[Xo] at r;cases r;exact .nil
 |k::ks,_,r=>by
  rw[VM] at r
  cases r with
  |cons h t=>exact .cons (pz h) (Dr t)
abbrev KT(H:Hp):List (List Key×V)->List (List Key×Addr×Value)->Prop:=Paired fun p q=>p.1=q.1/\H q.2.1=some (.tup (p.1.map kV))/\RelV p.2 q.2.2
theorem KT.val{H:Hp}{ah:List (List Key×V)}{xs:List (List Key×Addr×Value)}(r:KT H ah xs)(k:List Key):dE (di ah k) ((atKey xs k).map (·.2)):=by
 induction r with
 |nil=>exact True.intro
 | @cons p q ps qs h t ih =>
  obtain⟨h1,_,h2⟩:=h
  by_cases e:p.1=k
  ·have e':q.1=k:=h1.symm.trans e
   have b:atKey (q::qs) k=some q.2:=by simp[atKey,XX,e']
   rw[ue e,b];exact h2
  ·have e':¬ q.1=k:=fun z=>e (h1.trans z)
   have b:atKey (q::qs) k=atKey qs k:=by simp[atKey,XX,e']
   rw[uf e,b];exact ih
theorem KT.g9{H:Hp}{ah:List (List Key×V)}{xs:List (List Key×Addr×Value)}(r:KT H ah xs)(k:List Key){y:V}{u:Value}(ry:RelV y u):
  KT H (ah.map fun kv=>if kv.1=k then(kv.1,y) else kv) (xs.map (putAt k u)):=by
 induction r with
 |nil=>exact .nil
 | @cons p q ps qs h t ih =>
  rw[VM,VM];refine .cons ?_ ih;obtain⟨h1,h2,h3⟩:=h;unfold putAt
  by_cases e:p.1=k
  ·rw[VB e,VB (h1.symm.trans e)];exact⟨h1,h2,ry⟩
  ·rw[Uo e,Uo (fun z=>e (h1.trans z))];exact⟨h1,h2,h3⟩
theorem KT.put{H:Hp}{ah:List (List Key×V)}{xs:List (List Key×Addr×Value)}(r:KT H ah xs)(k:List Key){b:Addr}{y:V}{u:Value}(hb:H b=some (.tup (k.map kV)))(ry:RelV y u):
  KT H (putK ah k y) (storedH xs k b u):=by
 have e:(ah.any fun kv=>decide (kv.1=k))=(atKey xs k).isSome:=by
  rw[Dq,(r.val k).dG,Zo]
 unfold putK storedH;rw[e]
 by_cases q:(atKey xs k).isSome=true
 ·rw[VB q,VB q];exact r.g9 k ry
 ·rw[Uo q,Uo q];exact Paired.snoc r ⟨rfl,hb,ry⟩
theorem KT.keeps{H H':Hp}{ah:List (List Key×V)}{xs:List (List Key×Addr×Value)}(r:KT H ah xs)(ht:∀b ys,H b=some (.tup ys)->H' b=some (.tup ys)):KT H' ah xs :=
 Paired.m9 r fun _ _ z=>⟨z.1,ht _ _ z.2.1,z.2.2⟩
section
variable{P:Program}{w:World}{H:Hp}{h:Heap}{a:Addr}
theorem Ds{u:HO}(ok:c8 P w H h)(e:Rd H a u):aL P w H h a u:=e.ok ok
theorem pA{ah:List (Key×V)}(ok:c8 P w H h)(e:Rd H a (.dK ah)):ah.length<=sizeLine/\(a==sysModules)=false/\∃vs,KV ah vs/\h.DictOf (gv P w) a vs :=
 show aL P w H h a (.dK ah) from Ds ok e
theorem Dt{ah:List (Key×V)}(ok:c8 P w H h)(e:H a=some (.dK ah)):ah.length<=sizeLine/\(a==sysModules)=false/\∃vs,KV ah vs/\h.DictOf (gv P w) a vs:=pA ok (.inl e)
theorem rB{ks:List Key}(ok:c8 P w H h)(e:H a=some (.tup (ks.map kV))):(tupleKind (gv P w)).is h ks a:=by
 obtain⟨_,ar,r,o,h1,h2,n,h3⟩:=(show aL P w H h a (.tup (ks.map kV)) from ok a _ e);exact⟨o,ar.toArray,n,h1,h2,h3,by simpa using Dr r⟩
theorem pB{ah:List (List Key×V)}(ok:c8 P w H h)(e:Rd H a (.dT ah)):ah.length<=sizeLine/\(a==sysModules)=false ∧
  ∃xs,KT H ah xs/\h.DictOfH (tupleKind (gv P w)) a xs:=by
 obtain⟨z,y,xs,r,o,es,ep,h1,h2,h3,h4,h5⟩:=(show aL P w H h a (.dT ah) from Ds ok e);refine⟨z,y,xs,r,o,es,ep,h1,h2,h3,h4,fun x hx=>?_,h5⟩
 have all:∀{l:List (List Key×V)}{m:List (List Key×Addr×Value)},KT H l m->∀x∈m,(tupleKind (gv P w)).is h x.1 x.2.1:=by
  intro l m q
  induction q with
  |nil=>intro x hx;exact nomatch hx
  | @cons p q ps qs hq t ih =>
   intro x hx;rcases Lp.mp hx with e|hx
   ·subst e
    exact rB ok (by rw[<-hq.1];exact hq.2.1)
   ·exact ih x hx
 exact all r x hx
theorem L1{ah:List (List Key×V)}(ok:c8 P w H h)(e:H a=some (.dT ah)):ah.length<=sizeLine/\(a==sysModules)=false ∧
  ∃xs,KT H ah xs/\h.DictOfH (tupleKind (gv P w)) a xs:=pB ok (.inl e)
end
def dH(H:Hp)(a:Addr)(y:V)(r:Option V):Prop :=
 (∃ah k,Rd H a (.dK ah)/\y=kV k/\r=di ah k)\/∃ah k b,Rd H a (.dT ah)/\y=.ref b/\H b=some (.tup (k.map kV))/\r=di ah k
def jK(H:Hp)(a:Addr)(y v:V)(H':Hp):Prop :=
 (∃ah k,H a=some (.dK ah)/\y=kV k/\ah.length<sizeLine/\H'=upd H a (.dK (putK ah k v))) ∨
 ∃ah k b,H a=some (.dT ah)/\y=.ref b/\H b=some (.tup (k.map kV))/\ah.length<sizeLine/\H'=upd H a (.dT (putK ah k v))
theorem dH.k{H:Hp}{a:Addr}{ah:List (Key×V)}{k:Key}(e:H a=some (.dK ah)):dH H a (kV k) (di ah k):=.inl ⟨ah,k,.inl e,rfl,rfl⟩
theorem jK.k{H:Hp}{a:Addr}{ah:List (Key×V)}{k:Key}{v:V}(e:H a=some (.dK ah))(hl:ah.length<sizeLine):jK H a (kV k) v (upd H a (.dK (putK ah k v))):=.inl ⟨ah,k,e,rfl,hl,rfl⟩
section
variable{X:Cx}{pins:av}{σ:St}{H:Hp}{s:Shared}{a:Addr}{y v:V}{u r:Value}{o:Option V}{A:Around}{E:aP}
theorem Inv.big(I:Inv X pins σ H s):sysModules<s.heap.objs.size:=by
 have h:mainGlobals<s.heap.objs.size:=(I.mod.glob.keeps I.bk).lt;exact ZK (by decide) h
theorem L3{Q:aP}(hu:A.units+1<cLine)(I:Inv X pins σ H s)(g:dH H a y (some v))(ry:RelV y u)(h:∀w' s',Inv X pins σ H s'->RelV v w'->Q w' s'):
  wpAny (model X.prog X.w) A (getItem (.ref a) u) Q E s:=by
 rcases g with⟨ah,k,e,ey,l⟩|⟨ah,k,b,e,ey,eb,l⟩
 ·subst ey
  obtain⟨z,hd,vs,rel,dd⟩:=pA I.aM e;obtain⟨w',hw,iV⟩:=dE.some_of (v:=v) (o:=valueAt vs k) (by rw[l];exact rel.val k);exact wpAny_getItem_of (pz ry) dd.mapOf hw (h w' _ (I.tok _) iV)
 ·subst ey
  cases(show u=Value.ref b from ry)
  obtain⟨z,hd,xs,rel,dd⟩:=pB I.aM e;obtain⟨w',hw,iV⟩:=dE.some_of (v:=v) (o:=(atKey xs k).map (·.2)) (by rw[l];exact rel.val k);obtain⟨p,hp,L4⟩:=Vz.mp hw;refine wpAny_getItem_heap (Yl hu) (rB I.aM eb) dd hp ?_;rw[L4];exact h w' _ (I.tok _) iV
theorem L6{Q:aP}(hu:A.units+1<cLine)(I:Inv X pins σ H s)(g:dH H a y o)(ry:RelV y u)(h:∀s',Inv X pins σ H s'->Q (.bool (!o.isSome)) s'):
  wpAny (model X.prog X.w) A (compareOp .NotIn u (.ref a)) Q E s:=by
 rcases g with⟨ah,k,e,ey,l⟩|⟨ah,k,b,e,ey,eb,l⟩
 ·subst ey
  obtain⟨z,hd,vs,rel,dd⟩:=pA I.aM e;refine wpAny_notIn_of (pz ry) hd dd.mapOf ?_;rw[<-(rel.val k).dG,<-l];exact h _ (I.tok _)
 ·subst ey
  cases(show u=Value.ref b from ry)
  obtain⟨z,hd,xs,rel,dd⟩:=pB I.aM e;refine wpAny_notIn_heap (Yl hu) (rB I.aM eb) hd dd ?_;have q:=(rel.val k).dG;rw[Zo] at q;rw[<-q,<-l];exact h _ (I.tok _)
theorem yb{h':Heap}{t':Nat}{ob:HO}(I:Inv X pins σ H s)(mu:qv (H a))(hs:Heap.SameBut a s.heap h')(he:∃q,h'.get? a=some q)(new:aL X.prog X.w (upd H a ob) h' a ob):
  Inv X pins σ (upd H a ob) {s with heap:=h',toks:=t'} :=
 I.write (x:=a) (e:=a) mu (.inl rfl) (fun b q hb z=>(hs.2 b hb).trans z) he new
theorem Du{P:Program}{w:World}{H':Hp}{h':Heap}{ah:List (Key×V)}{vs:List (Key×Value)}(z:ah.length<=sizeLine)(hd:(a==sysModules)=false)(rel:KV ah vs)(dd:h'.DictOf (gv P w) a vs):
  aL P w H' h' a (.dK ah):=⟨z,hd,vs,rel,dd⟩
theorem L7{H':Hp}{Q:Unit->Shared->Prop}(hu:A.units+1<cLine)(I:Inv X pins σ H s)(g:jK H a y v H')(ry:RelV y u)(rv:RelV v r)(h:∀s',Inv X pins σ H' s'->Q () s'):
  wpAny (model X.prog X.w) A (setItem (.ref a) u r) Q E s:=by
 rcases g with⟨ah,k,e,ey,l,eH⟩|⟨ah,k,b,e,ey,eb,l,eH⟩
 ·subst ey eH
  obtain⟨z,hd,vs,rel,dd⟩:=Dt I.aM e;have hz:vs.length<=sizeLine:=by rw[<-rel.length];exact z
  have hl:(putK ah k v).length<=sizeLine:=by have:=ya ah k v;omega
  refine wpAny_setItem_pairs (hsz:=hz) (pz ry) dd fun h' nZ hs=>h _ ?_;have he:∃q,h'.get? a=some q:=let⟨q,_,_,hq,_⟩:=nZ;⟨q,hq⟩;exact yb I (by rw[e];exact True.intro) hs he (Du hl hd (rel.put k rv) nZ)
 ·subst ey eH
  cases(show u=Value.ref b from ry)
  obtain⟨z,hd,xs,rel,dd⟩:=L1 I.aM e;have hz:xs.length<=sizeLine:=by rw[<-Paired.length rel];exact z
  have hl:(putK ah k v).length<=sizeLine:=by have:=ya ah k v;omega
  refine wpAny_setItem_heap (hsz:=hz) (Yl hu) (rB I.aM eb) dd fun h' nZ hs=>h _ ?_;obtain⟨q,es,ep,hq,h2,h3,h4,_,h5⟩:=nZ;refine yb I (by rw[e];exact True.intro) hs ⟨q,hq⟩ ⟨hl,hd,_,(rel.put k eb rv).keeps fun c ys ec=>?_,q,es,ep,hq,h2,h3,h4,h5⟩;rw[aU (Jk ec e (fun z=>nomatch z))];exact ec
end
section
variable{X:Cx}{pins:av}{σ:St}{H:Hp}{s:Shared}{a:Addr}{ah:List (Key×V)}{k:Key}{u:Value}{A:Around}{E:aP}
end
def n5(i:Expr):Prop:=∀ov iv,subscripted i false ov iv=operate [ov,iv] (getItem ov iv)
theorem L8{prog:Program}{w:World}{A:Around}{E:aP}{s:Shared}{env:Env}{value slice:Expr}{pos:Pos}{T id:String}{Q:aP}
  (hl:typeLookup (.type T) "__getitem__" = pure (some (.builtin id))) (hs:n5 slice)
  (h:wpAny (model prog w) A (eval value env) (fun o s₁=>wpAny (model prog w) A (eval slice env) (fun i s₂=>s₂.TypeIs o T/\wpAny (model prog w) A (getItem o i) Q E s₂) E s₁) E s) :
  wpAny (model prog w) A (eval (.Subscript value slice pos) env) Q E s:=by
 refine Subscript_ (Xa h (fun o s₁ h₁=>Xa h₁ (fun i s₂ h₂=>?_) fun _ _ x=>x) fun _ _ x=>x);obtain⟨hT,h₂⟩:=h₂;unfold subscriptTail;refine lj ?_;rw[getitemInPython_of_ne hT.not_modules];refine lj (YT hT hl ?_)
 have fin:wpAny (model prog w) A (subscripted slice false o i) (fun r s₃=>wpAny (model prog w) A (letTemporaryGo value o r >>= fun _=>pure r) Q E s₃) E s₂:=by
  rw[hs o i];exact wpAny_operating (Xa h₂ (fun r s₃ h₃=>lj (wpAny_letTemporaryGo (qV h₃))) fun _ _ x=>x)
 first
  |exact qV (lj fin)
  |exact lj (qV (lj fin))
  |exact lj fin
theorem L9{X:Cx}{pins:av}{σ:St}{H:Hp}{s:Shared}{a:Addr}{y:V}{o:Option V}(I:Inv X pins σ H s)(g:dH H a y o):s.TypeIs (.ref a) "dict" := by
 rcases g with⟨ah,k,e,_,_⟩|⟨ah,k,b,e,_,_,_⟩
 ·obtain⟨_,_,vs,_,dd⟩:=pA I.aM e
  exact dd.typeIs
 ·obtain⟨_,_,xs,_,dd⟩:=pB I.aM e
  exact dd.typeIs
def L_(td ty:TE):TE:=fun σ H Q=>td σ H fun x H1=>ty σ H1 fun y H2=>∃a v,x=.ref a/\dH H2 a y (some v)/\Q v H2
def Dv(ty td:TE):TE:=fun σ H Q=>ty σ H fun y H1=>td σ H1 fun x H2=>∃a o,x=.ref a/\dH H2 a y o/\Q (.bl (!o.isSome)) H2
def Ma(td ty tv:TE):TS:=fun D σ H=>tv σ H fun v H1=>td σ H1 fun x H2=>ty σ H2 fun y H3=>∃a H4,x=.ref a/\jK H3 a y v H4/\D.nx σ H4
section
variable{X:Cx}{o i e value:Expr}{pos pos' xa:Pos}{td ty tv:TE}
theorem Mb(hu:X.A.units+1<cLine)(ho:JE X o td)(hi:JE X i ty)(hs:n5 i):JE X (.Subscript o i pos) (L_ td ty):=by
 refine⟨?_⟩;intro pins s σ H Q I h;refine L8 PySem.F.slot_dict_getitem.lookup hs (aY (ho pins s σ H _ I h) fun u s1 h0_=>el5 h0_ fun x H1 I1 rx q1 =>aY (hi pins s1 σ H1 _ I1 q1) fun iv s2 ⟨y,H2,I2,ry,a,v,ex,g,q2⟩=>?_);subst ex;obtain rfl:u=Value.ref a:=rx;exact⟨L9 I2 g,L3 hu I2 g ry fun w' s3 I3 iV=>⟨v,H2,I3,iV,q2⟩⟩
theorem Mc(hu:X.A.units+1<cLine)(hi:JE X i ty)(ho:JE X o td):JC X .NotIn i o (Dv ty td):=by
 refine⟨?_⟩;intro pins s σ H Q I h;refine aY (hi pins s σ H _ I h) fun iv s1 h0_=>el5 h0_ fun y H1 I1 ry q1 =>aY (ho pins s1 σ H1 _ I1 q1) fun u s2 ⟨x,H2,I2,rx,a,ov,ex,g,q2⟩=>?_;subst ex;obtain rfl:u=Value.ref a:=rx;exact L6 hu I2 g ry fun s3 I3=>⟨.bl (!ov.isSome),H2,I3,rfl,q2⟩
theorem Md(hu:X.A.units+1<cLine)(ho:JE X o td)(hi:JE X i ty)(hv:JE X value tv)(hs:swapsWith value (some (.Subscript o i pos')) pos.line X.env=pure false):
  JS X (.Assign [.Subscript o i pos'] value pos) (Ma td ty tv):=by
 refine⟨?_⟩;intro pins s σ H D I h;refine wpAny_Assign_Subscript (aY (hv pins s σ H _ I h) fun r s1 h0_=>el5 h0_ fun v H1 I1 rv q1 =>aY (ho pins s1 σ H1 _ I1 q1) fun u s2 h0_=>el5 h0_ fun x H2 I2 rx q2 =>aY (hi pins s2 σ H2 _ I2 q2) fun iv s3 ⟨y,H3,I3,ry,a,H4,ex,g,q3⟩=>?_) hs;subst ex;obtain rfl:u=Value.ref a:=rx;exact L7 hu I3 g ry rv fun s4 I4=>⟨σ,H4,I4,q3⟩
end
theorem Me{P:Program}{w:World}{H:Hp}(h:Heap)(hb:sysModules<h.objs.size):aL P w H (h.push {cls:=.type "dict",data:=.dict #[]}) h.objs.size (.dK []) :=
 ⟨Ww _,beq_eq_false_iff_ne.mpr (Xv (VD hb)),[],.nil,Heap.DictOf.new h⟩
section
variable{X:Cx}{pos:Pos}
end
def yc:List (TE×TE)->St->Hp->(List (V×V)->Hp->Prop)->Prop
 |[],_,H,Q=>Q [] H
 |(tk,tv)::r,σ,H,Q=>tk σ H fun x H1=>tv σ H1 fun y H2=>yc r σ H2 fun ps H3=>Q ((x,y)::ps) H3
abbrev VV:List (V×V)->List (Value×Value)->Prop:=Paired fun p q=>RelV p.1 q.1/\RelV p.2 q.2
def ug(X:Cx)(pos:Pos)(keys:List (Option Expr))(values:List Expr)(lr:List (TE×TE)):Prop :=
 ∀(pins:av)(s:Shared)(σ:St)(H:Hp)(Q:List (V×V)->Hp->Prop),Inv X pins σ H s->yc lr σ H Q →
  wpAny (model X.prog X.w) X.A (evalPairs (pairTrees keys values X.env pos)) (fun vs s'=>∃ps H',Inv X pins σ H' s'/\VV ps vs/\Q ps H') X.xe s
theorem Mf{X:Cx}{pos:Pos}:ug X pos [] [] []:=fun pins s σ H Q I h=>pairTrees_nil_walk ⟨[],H,I,.nil,h⟩
theorem Mg{X:Cx}{pos:Pos}{k v:Expr}{ks:List (Option Expr)}{vs:List Expr}{tk tv:TE}{lr:List (TE×TE)}(hk:JE X k tk)(hv:JE X v tv)(hr:ug X pos ks vs lr):
  ug X pos (some k::ks) (v::vs) ((tk,tv)::lr):=fun pins s σ H Q I h =>
 pairTrees_cons_walk (aY (hk pins s σ H _ I h) fun u s1 h0_=>el5 h0_ fun x H1 I1 rx q1 =>aY (hv pins s1 σ H1 _ I1 q1) fun w2 s2 h0_=>el5 h0_ fun y H2 I2 ry q2 =>
  aY (hr pins s2 σ H2 _ I2 q2) fun ws s3 h0_=>el5 h0_ fun ps H3 I3 rel q3 =>⟨(x,y)::ps,H3,I3,.cons ⟨rx,ry⟩ rel,q3⟩)
noncomputable def rC(ah more:List (Key×V)):List (Key×V):=more.foldl (fun acc kv=>putK acc kv.1 kv.2) ah
theorem KV.merge:∀{more:List (Key×V)}{rs:List (Key×Value)}{ah:List (Key×V)}{vs:List (Key×Value)},KV more rs->KV ah vs->KV (rC ah more) (merged vs rs):=by
 intro more rs ah vs r;unfold KV at r
 induction r generalizing ah vs with
 |nil=>intro q;exact q
 | @cons p q ps qs h t ih =>
  intro r0
  have e:KV (putK ah p.1 p.2) (stored vs q.1 q.2):=by
   have:=r0.put p.1 h.2;rw[<-h.1];exact this
  exact ih e
theorem Dw:∀(more ah:List (Key×V)),(rC ah more).length<=ah.length+more.length
 |[],ah=>by show ah.length<=ah.length+0;omega
 |p::r,ah=>by
  have h1:=Dw r (putK ah p.1 p.2);have h2:=ya ah p.1 p.2;show(rC (putK ah p.1 p.2) r).length<=_;rw[Lk];omega
theorem Dy{P:Program}{w:World}:∀{ah:List (Key×V)}{ws:List (Value×Value)},VV (ah.map fun kv=>(kV kv.1,kv.2)) ws->∃rs,Carries (gv P w) ws rs/\KV ah rs
 |[],_,r=>by rw[Xo] at r;cases r;exact⟨[],True.intro,.nil⟩
 |p::ah,_,r=>by
  rw[VM] at r
  cases r with
  | @cons a b as bs h t =>
   obtain⟨rs,c,q⟩:=Dy (P:=P) (w:=w) t;obtain⟨b1,b2⟩:=b;exact⟨(p.1,b2)::rs,⟨pz h.1,rfl,c⟩,.cons ⟨rfl,h.2⟩ q⟩
def Mh(lr:List (TE×TE)):TE:=fun σ H Q=>∀p,H p=none->yc lr σ (upd H p (.dK [])) fun ps H2=>H2 p=some (.dK [])/\∃ah:List (Key×V),ps=ah.map (fun kv=>(kV kv.1,kv.2))/\ah.length<=15/\Q (.ref p) (upd H2 p (.dK (rC [] ah)))
theorem Mi{X:Cx}{pos:Pos}{keys:List (Option Expr)}{values:List Expr}{lr:List (TE×TE)}(h:ug X pos keys values lr)(iP:keys.all (·.isSome)=true)(hl:keys.length=values.length)(h0:keys≠[])
  (Mj:keys.length<=15):JE X (.Dict keys values pos) (Mh lr):=by
 refine⟨?_⟩;intro pins s σ H Q I q;have hn:=I.aM.fresh (ua s.heap.objs.size);have I1:=I.laid (a:=s.heap.objs.size) (o:=.dK []) (h':=s.heap.push {cls:=.type "dict",data:=.dict #[]}) (t':=s.toks) (fun _ _ q=>ph _ q) (ua _) (Me s.heap I.big);refine wpAny_Dict_walk (knd:=gv X.prog X.w) iP hl h0 Mj (aY (h pins _ σ _ _ I1 (q _ hn)) fun ws s2 ⟨ps,H2,I2,rel,e,ah,ep,lk,q2⟩=>?_);subst ep;obtain⟨rs,c,rk⟩:=Dy (P:=X.prog) (w:=X.w) rel;obtain⟨z,hd,Uv,r0,dd⟩:=Dt I2.aM e;cases r0
 refine⟨rs,c,dd,fun h' nZ hs=>⟨.ref s.heap.objs.size,_,?_,rfl,q2⟩⟩
 have hz:(rC [] ah).length<=sizeLine:=by
  have h1:=Dw ah [];rw[Wi] at h1;rw[WU];omega
 have he:∃q,h'.get? s.heap.objs.size=some q:=let⟨q,_,_,hq,_⟩:=nZ;⟨q,hq⟩;exact yb I2 (by rw[e];exact True.intro) hs he (Du hz hd (rk.merge .nil) nZ)
structure M2(X:Cx)(o:Expr)(m:Str)(apos:Pos)(e f:Expr)(cW:Pos):Prop where
 base:attributeBase o m X.env (eval o X.env)=eval o X.env
 gs:((backTo cW (starEach [e,f] X.env)).all (fun x => !x.1)&&(backToKw cW (keywordEach [] X.env)).all (fun x=>x.1.isSome)
  && decide (([e,f]:List Expr).length+([]:List Keyword).length+(if([]:List Keyword).isEmpty then 0 else 1)<30))=true
 line:(apos.endLine==cW.line)=true
 trees:backTo cW (starEach [e,f] X.env)=[(false,eval e X.env),(false,eval f X.env)]
def Dz(H:Hp)(a:Addr):Prop:=(∃ah,Rd H a (.dK ah))\/∃ah,Rd H a (.dT ah)
theorem Ml{X:Cx}{pins:av}{σ:St}{H:Hp}{s:Shared}{a:Addr}(I:Inv X pins σ H s)(d:Dz H a):
  s.TypeIs (.ref a) "dict" /\ (∀b,Value.ref a=.ref b->∃ob,s.heap.get? b=some ob/\ob.dict=none)/\(a==sysModules)=false:=by
 rcases d with⟨ah,e⟩|⟨ah,e⟩
 ·obtain⟨_,hd,vs,_,dd⟩:=pA I.aM e
  refine⟨dd.typeIs,fun b q=>?_,hd⟩;cases q
  obtain⟨ob,_,_,h1,h2,_⟩:=dd;exact⟨ob,h1,h2.2.1⟩
 ·obtain⟨_,hd,xs,_,dd⟩:=pB I.aM e
  refine⟨dd.typeIs,fun b q=>?_,hd⟩;cases q
  obtain⟨ob,_,_,h1,h2,_⟩:=dd;exact⟨ob,h1,h2.2.1⟩
section
variable{X:Cx}{pins:av}{σ:St}{H:Hp}{s:Shared}{a:Addr}{y d:V}{u r:Value}{o:Option V}{A:Around}{E:aP}
theorem Mm{Q:aP}(hu:A.units+1<cLine)(I:Inv X pins σ H s)(g:dH H a y o)(ry:RelV y u)(rd:RelV d r)(h:∀w' s',Inv X pins σ H s'->RelV (o.getD d) w'->Q w' s'):
  wpAny (model X.prog X.w) A (call (.builtin "dict.get") [.ref a,u,r]) Q E s:=by
 rcases g with⟨ah,k,e,ey,l⟩|⟨ah,k,b,e,ey,eb,l⟩
 ·subst ey
  obtain⟨z,hd,vs,rel,dd⟩:=pA I.aM e;refine call_meetsIn YI dd.typeIs ZP (ZE _ _ _) (meets_dict_get_default (gv X.prog X.w) a (pz ry) hd r) ⟨_,dd.mapOf,h _ _ (I.tok _) ?_⟩;rw[l];exact(rel.val k).getD rd
 ·subst ey
  cases(show u=Value.ref b from ry)
  obtain⟨z,hd,xs,rel,dd⟩:=pB I.aM e;refine call_meetsIn YI dd.typeIs ZP (ZE _ _ _) (meetsH_dict_get_default (tupleKind (gv X.prog X.w)) a b hd r) ⟨Yl hu,k,xs,rB I.aM eb,dd,h _ _ (I.tok _) ?_⟩;rw[l];exact(rel.val k).getD rd
end
def Mn(td ty tx:TE):TE:=fun σ H Q=>td σ H fun x H1=>∃a,x=.ref a/\Dz H1 a/\ty σ H1 fun y H2=>tx σ H2 fun z H3=>∃o,dH H3 a y o/\Q (o.getD z) H3
section
variable{X:Cx}{o e f:Expr}{apos cW:Pos}{td ty tx:TE}
theorem Mo(hu:X.A.units+1<cLine)(ho:JE X o td)(he:JE X e ty)(hf:JE X f tx)(m:M2 X o "get" apos e f cW):JE X (.Call (.Attribute o "get" apos) [e,f] [] cW) (Mn td ty tx):=by
 refine⟨?_⟩;intro pins s σ H Q I h;refine wpAny_Call_method m.base m.gs m.line PySem.F.plainAttrs_dict YI PySem.F.type_dict_get (aY (ho pins s σ H _ I h) fun u s1 ⟨x,H1,I1,rx,a,ex,d,q1⟩=>?_);subst ex;obtain rfl:u=Value.ref a:=rx;obtain⟨t1,t2,_⟩:=Ml I1 d;refine⟨t1,t2,?_⟩;rw[m.trees]
 refine Calls.callWith_builtin rfl (Calls.evalArgs_plain (Za (aY (he pins s1 σ H1 _ I1 q1) fun iv s2 h0_=>el5 h0_ fun y H2 I2 ry q2 =>
  Za (aY (hf pins s2 σ H2 _ I2 q2) fun fv s3 ⟨z,H3,I3,rz,ov,g,q3⟩=>Calls.spliced_nil ?_))))
 exact Mm hu I3 g ry rz fun w' s4 I4 iV=>⟨_,H3,I4,iV,q3⟩
end
section
variable{X:Cx}{pins:av}{σ:St}{H:Hp}{s:Shared}{a:Addr}{ah:List (Key×V)}{A:Around}{E:aP}
end
section
variable{X:Cx}{pins:av}{σ:St}{H:Hp}{s:Shared}{a:Addr}{y:V}{u:Value}{A:Around}{E:aP}
end
end L2
namespace L2
section
variable{κ:Type}[DecidableEq κ]
end
end L2
namespace L2
open PySem PySem.Spec PyProof.Rows
end L2
namespace LJS
open PySem
noncomputable def hp(i j:Int):Int:=reduceHash (Builtin.Tuple.tupleHashOf [hashInt i,hashInt j])
theorem DA{prog:Program}{w:World}(i j:Int):hT prog w [i,j]=hp i j:=rfl
noncomputable def uh:List (Int×Int):=(List.range 12).flatMap fun j=>(List.range j).map fun i:Nat=>(Int.ofNat i,Int.ofNat j)
theorem Mp:∀a∈uh,∀b∈uh,hp a.1 a.2=hp b.1 b.2->a=b:=by decide +kernel
theorem DB{i j:Int}(h0:0<=i)(h1:i<j)(h2:j<12):(i,j)∈uh:=by
 obtain⟨a,rfl⟩:∃a:Nat,i=a:=⟨i.toNat,by omega⟩;obtain⟨b,rfl⟩:∃b:Nat,j=b:=⟨j.toNat,by omega⟩;unfold uh;exact List.mem_flatMap.mpr ⟨b,VL.mpr (by omega),Lm.mpr ⟨a,VL.mpr (by omega),rfl⟩⟩
end LJS
namespace L2
open PySem PySem.Spec PyProof.Rows
noncomputable def jL(S:Addr)(n:Nat):HO:=.ext fun h=>∃hs:List Int,hs.length=n/\LJS.eu h S hs
theorem Mq{P:Program}{w:World}{H:Hp}{h:Heap}{S:Addr}{hs:List Int}{n:Nat}(e:LJS.eu h S hs)(hn:hs.length=n):aL P w H h S (jL S n) :=
 ⟨⟨hs,hn,e⟩,let⟨o,_,_,_,ho,_⟩:=e;⟨o,ho⟩,fun h1 h2 ⟨ui,en,e1⟩ k=>⟨ui,en,LJS.v5 e1 fun o eo=>k o eo⟩⟩
section
variable{X:Cx}
theorem DC:∀{ps:List Addr}{ar:List Value},Vals (ps.map V.ref) ar->ar=ps.map Value.ref
 |[],_,.nil=>rfl
 |_::_,_,.cons r rs=>by cases r;rw[DC rs];rfl
theorem Mr(hc:X.calm=true)(hu:X.A.units+64<cLine):fc X (.type "set") (fun xs H Q=>∃(l:Addr)(ps:List Addr)(ks:List (Int×Int)),xs=[.ref l]/\a8 X.K H l (ps.map V.ref)/\ps.length=ks.length ∧
  (∀(i:Nat)(a:Addr)(k:Int×Int),ps[i]?=some a->ks[i]?=some k->H a=some (.tup [.int k.1,.int k.2]))/\(∀k∈ks,0<=k.1/\k.1<k.2/\k.2<12)/\ks.Nodup/\ks.length<=30/\∀p,H p=none->Q (.ref p) (upd H p (jL p ks.length))):=by
 intro pins s σ H xs us Q I r h;obtain⟨l,ps,ks,rfl,hq,hl,eB,bd,jA,gu,q⟩:=h;obtain⟨u,rfl,rx⟩:=vals1 r;cases rx
 obtain⟨ar,r',pl,_⟩:=I.list hq;obtain rfl:=DC r';have sz:(ps.map Value.ref).toArray.size=ks.length:=by rw[xM,nU,hl]
 have n6:∀i,i<ks.length->∃k,ks[i]?=some k/\ks.getD i (0,0)=k:=fun i hi=>⟨ks[i],nR hi,by rw[C6,nR hi];rfl⟩;have yd:∀i,i<ks.length->∃a,ps[i]?=some a/\ps.getD i 0=a:=fun i hi=>⟨ps[i]'(by rw[hl];exact hi),nR (by rw[hl];exact hi),by rw[C6,nR (by rw[hl];exact hi)];rfl⟩;refine LJS.IG (fun i=>ps.getD i 0) (fun i=>[(ks.getD i (0,0)).1,(ks.getD i (0,0)).2]) (I.ok.hd hc) (by omega) pl.isList (fun i v hv=>?_) (fun i hi=>?_) (fun i j hi hj=>?_) (by rw[sz];exact gu) fun h' tk se kp=>?_
 ·rw[XD,Lq] at hv
  obtain⟨a,ea,rfl⟩:=Vz.mp hv;rw[C6,ea];rfl
 ·rw[sz] at hi
  obtain⟨k,ek,dk⟩:=n6 i hi;obtain⟨a,ea,da⟩:=yd i hi;show IsTupleKey _ _ [(ks.getD i (0,0)).1,(ks.getD i (0,0)).2] (ps.getD i 0);rw[dk,da];obtain⟨_,a_,r2,o,ho,kI,n,hd⟩:=I.aM a _ (eB i a k ea ek)
  cases r2 with
  |cons ra rr =>
   cases rr with
   |cons rb rn =>
    cases rn
    obtain⟨t1,rfl⟩:=ra;obtain⟨t2,rfl⟩:=rb;exact⟨o,_,n,ho,kI,hd,.cons (Y4 ..) (.cons (Y4 ..) .nil)⟩
 ·rw[sz] at hi
  obtain⟨k,ek,dk⟩:=n6 i hi;obtain⟨k',ye,pC⟩:=n6 j (by omega);show LJS.hT _ _ [(ks.getD j (0,0)).1,(ks.getD j (0,0)).2]≠LJS.hT _ _ [(ks.getD i (0,0)).1,(ks.getD i (0,0)).2];rw[dk,pC,LJS.DA,LJS.DA];intro z;have b1:=bd k (Uq.mpr ⟨i,ek⟩);have b2:=bd k' (Uq.mpr ⟨j,ye⟩);have e:=LJS.Mp (k'.1,k'.2) (LJS.DB b2.1 b2.2.1 b2.2.2) (k.1,k.2) (LJS.DB b1.1 b1.2.1 b1.2.2) z;have e':k'=k:=e;rw[e'] at ye;obtain⟨yf,Ms⟩:=nV.mp ye;obtain⟨c7,vV⟩:=nV.mp ek;have:=(YO (h₀:=yf) (h₁:=c7) jA).mp (by rw[Ms,vV]);omega
 ·refine⟨.ref s.heap.objs.size,upd H s.heap.objs.size (jL s.heap.objs.size ks.length),I.laid (t':=tk) (fun b o e=>kp b o (Ul e) e) (ua _) (Mq se (by rw[nU,Wg,sz])),rfl,q _ (I.aM.fresh (ua _))⟩
theorem Mt:fc X (.builtin "len") (fun xs H Q=>∃(p:Addr)(n:Nat),xs=[.ref p]/\H p=some (jL p n)/\n<1000/\Q (.int n) H):=by
 intro pins s σ H xs us Q I r h;obtain⟨p,n,rfl,hp,hn,q⟩:=h;obtain⟨u,rfl,rx⟩:=vals1 r;cases rx
 obtain⟨⟨hs,hl,o,es,ep,t,ho,hex,hd,T⟩,_⟩:=I.aM p _ hp;have e:es.size=n:=by rw[T.num,hl]
 refine call_len_set ho hex hd T.fits (by omega) ⟨.int n,H,I.tok _,⟨_,by rw[e]⟩,q⟩
theorem yg:∀{bs:List Bool}{ar:List Value},Vals (bs.map V.bl) ar->ar=bs.map Value.bool
 |[],_,.nil=>rfl
 |_::_,_,.cons r rs=>by cases r;rw[yg rs];rfl
theorem all_range(bs:List Bool):(List.range bs.length).all (fun i=>bs.getD i true)=bs.all id:=by
 rw[Bool.eq_iff_iff,WL,WL]
 constructor
 ·intro h b hb
  obtain⟨i,hi⟩:=Uq.mp hb;have hl:=(nV.mp hi).1;have:=h i (VL.mpr hl);rw[C6,hi] at this;exact this
 ·intro h i hi
  have hl:=VL.mp hi;rw[C6,nR hl];exact h _ (Wu hl)
theorem Mu(hc:X.calm=true):fc X (.builtin "all") (fun xs H Q=>∃(l:Addr)(bs:List Bool),xs=[.ref l]/\a8 X.K H l (bs.map V.bl)/\Q (.bl (bs.all id)) H):=by
 intro pins s σ H xs us Q I r h;obtain⟨l,bs,rfl,hq,q⟩:=h;obtain⟨u,rfl,rx⟩:=vals1 r;cases rx
 obtain⟨ar,r',pl,_⟩:=I.list hq;obtain rfl:=yg r';have hL:=pl.isList;have ll:l<s.heap.objs.size:=by obtain⟨o,e,_⟩:=hL;exact Ul e
 have nI:l≠s.heap.objs.size:=VD ll;refine call_all_walk (Xr hL ?_);refine⟨s.heap.objs.size,_,_,_,_,_,fun i=>bs.getD i true,rfl,YN (by rw[XU];exact I.ok.hd hc) s.heap.objs.size l nI _,⟨⟨_,Vy _ rfl,rfl,rfl⟩,hL.push _⟩,fun i v s' Q' E' hv lu=>?_,fun h' tk kp=>?_⟩
 ·have hv:(bs.map Value.bool).toArray[i]?=some v:=hv
  have lu:Q' (bs.getD i true) s':=lu;rw[XD,Lq] at hv;obtain⟨b,eb,rfl⟩:=Vz.mp hv;rw[C6,eb] at lu;exact W6 lu
 ·refine⟨.bl (bs.all id),H,I.kept (t':=tk) fun b o e=>kp b o (fun z=>?_) (ph _ e),?_,q⟩
  ·have:=Ul e
   rw[Um.mp z] at this;exact W9 _ this
  ·show Value.bool _=Value.bool _
   rw[xM,nU,all_range]
end
end L2
namespace LJ
open PySem L2
structure Fn(P:Program)(w:World)(K:PySem.W.Frag)(mg:Str->Option Value)(base:Heap)(k:Nat)(x:Str)(ps:List Str)(sp:Sp)(f:Addr)(fd:FuncData):Prop where
 ok:cV P w K mg base gn k f fd ps sp
 yh:mg x=some (.ref f)
 kp:PySem.W.keepIn K (.ref f)=true
 bd:Binds K fd ps []
theorem Mv:bootBuiltins "bool" = some (.type "bool"):=by decide +kernel
theorem Mw:bootBuiltins "int" = some (.type "int"):=by decide +kernel
theorem DD:bootBuiltins "tuple" = some (.type "tuple"):=by decide +kernel
theorem uj:bootBuiltins "list" = some (.type "list"):=by decide +kernel
theorem yi:bootBuiltins "set" = some (.type "set"):=by decide +kernel
theorem Mx:bootBuiltins "all" = some (.builtin "all"):=by decide +kernel
section
variable{K:PySem.W.Frag}
end
structure ax(many:Int)(ys:List (Int×Int×Int)):Prop where
 m1:1<=many
 dj:many<=12
 gu:ys.length<=30
 ends:∀y∈ys,0<=y.1/\y.1<y.2.1/\y.2.1<many/\0<=y.2.2/\y.2.2<=1000000000
 unlike:(ys.map fun y=>(y.1,y.2.1)).Nodup
end LJ
namespace L2
open PySem PySem.Spec PyProof.Rows
section
variable{X:Cx}
end
end L2
namespace LJ
open PySem L2
noncomputable def iA:Nat->List (Int×Int)
 |0=>[]
 |n+1=>iA n++(List.range n).map fun a:Nat=>(Int.ofNat a,Int.ofNat n)
theorem yj:∀{n:Nat}{k:Int×Int},k∈iA n->0<=k.1/\k.1<k.2/\k.2<n
 |0,_,h=>nomatch h
 |n+1,k,h=>by
  rcases VA.mp h with h|h
  ·have:=yj h;omega
  ·obtain⟨a,ha,rfl⟩:=Lm.mp h
   have:=VL.mp ha;refine⟨Int.natCast_nonneg a,?_,?_⟩
   ·show(a:Int)<(n:Int);omega
   ·show(n:Int)<((n+1:Nat):Int);omega
theorem DE:∀n:Nat,(iA n).Nodup
 |0=>Xz
 |n+1=>by
  refine VZ.mpr ⟨DE n,?_,fun k h1 k' h2 e=>?_⟩
  ·refine Wm.mpr (YJ.imp fun{a b} ne e=>ne ?_)
   exact Int.ofNat.inj (congrArg Prod.fst e)
  ·subst e
   obtain⟨a,ha,rfl⟩:=Lm.mp h2;have:=(yj h1).2.2;have:(n:Int)<(n:Int):=this;omega
theorem DF:∀n:Nat,n<=12->(iA n).length<=66:=by
 intro n h;rcases n with _|_|_|_|_|_|_|_|_|_|_|_|_|n
 all_goals first|decide|omega
end LJ
namespace LJ
open PySem
theorem DG{j n:Nat}(h:j<n):seqIndex? (j:Int) n=some j:=by
 unfold seqIndex?
 first|(simp;omega)|skip
end LJ
namespace L2
open PySem PySem.Spec PyProof.Rows
section
variable{X:Cx}
theorem yk:fc X (.type "range") (fun xs H Q=>∃j:Int,xs=[.int j]/\∀r,H r=none->Q (.ref r) (upd H r (.rng 0 j))):=by
 intro pins s σ H xs us Q I r h;obtain⟨j,rfl,q⟩:=h;obtain⟨u,rfl,t,rfl⟩:=vals1 r;refine call_range_1 ⟨.ref s.heap.objs.size,_,I.laid (t':=s.toks+1+1) (o:=.rng 0 j) (fun b o e=>ph _ e) (ua _) ?_,rfl,q _ (I.aM.fresh (ua _))⟩;exact⟨_,_,_,Vy _ rfl⟩
noncomputable def aI(n:Nat):List Int:=(List.range n).map fun a:Nat=>(a:Int)
theorem ym:∀{ns:List Int}{us:List Value},us.length=ns.length->(∀(i:Nat)(u:Value),us[i]?=some u->∃t,u=.int (ns.getD i 0) t)->Vals (ns.map V.int) us
 |[],[],_,_=>.nil
 |[],_::_,h,_=>by simp at h
 |_::_,[],h,_=>by simp at h
 |n::ns,u::us,h,g=>by
  obtain⟨t,e⟩:=g 0 u rfl;refine .cons ⟨t,e⟩ (ym (by simpa using h) fun i v e2=>?_);obtain⟨t,e⟩:=g (i+1) v (by simpa using e2);exact⟨t,by simpa using e⟩
theorem DH(hc:X.calm=true):fc X (.type "list") (fun xs H Q=>∃(r:Addr)(n:Nat),xs=[.ref r]/\H r=some (.rng 0 (n:Int))/\n<=1000/\∀l,H l=none->Q (.ref l) (upd H l (.lst ((aI n).map V.int)))):=by
 intro pins s σ H xs us Q I r h;obtain⟨a,n,rfl,ha,hn,q⟩:=h;obtain⟨u,rfl,rx⟩:=vals1 r;cases rx
 obtain⟨t,u,v,e⟩:=(show ∃t u v,s.heap.get? a=some {cls:=.type "range",data:=.fields #[.int 0 t,.int (n:Int) u,.int 1 v]} from I.aM a _ ha);have hs:Builtin.Range.rangeSize 0 (n:Int) 1=n:=by rw[rangeSize_one];split<;>omega
 refine call_list_range (n:=n) (I.ok.hd hc) e (small_one (by omega) (by omega) (by omega) (by omega)) hs (by omega) fun h' tk acc c' kp e' it=>?_;refine⟨.ref s.heap.objs.size,_,I.laid (t':=tk) (o:=.lst ((aI n).map V.int)) kp (ua _) ?_,rfl,q _ (I.aM.fresh (ua _))⟩;refine⟨WZ (nW (by rw[nU,aI,nU,Wg];exact hn)),acc.toList,c',?_,by simpa using e'⟩;refine ym ?_ fun i u e=>?_
 ·rw[Uk,it.1,aI,nU,Wg]
 ·rw[VT] at e
  obtain⟨t',e2⟩:=it.2 i u e;have hi:i<n:=by rw[<-it.1];exact(X0.mp e).1
  refine⟨t',e2.trans ?_⟩;rw[aI,C6,Lq,W0 hi];show Value.int (0+(i:Int)*1) t'=Value.int (i:Int) t';rw[ZQ,Int.mul_one]
theorem yn:∀{us:List Value}{ns:List Int},IntsAre us ns->Vals (ns.map V.int) us
 |_,_,.nil=>.nil
 |_,_,.cons n t r=>.cons ⟨t,rfl⟩ (yn r)
theorem DI:fc X (.builtin "sorted") (fun xs H Q=>∃(l:Addr)(ns:List Int),xs=[.ref l]/\a8 X.K H l (ns.map V.int)/\ns.length<64/\∀(r:Addr)(cb:List Int),cb.Perm ns->cb.Pairwise (· <= ·)->H r=none->Q (.ref r) (upd H r (.lst (cb.map V.int)))):=by
 intro pins s σ H xs us Q I r h;obtain⟨l,ns,rfl,hq,mE,q⟩:=h;obtain⟨u,rfl,rx⟩:=vals1 r;cases rx
 obtain⟨ar,r',pl,_⟩:=I.list hq;have hl:=r'.length;rw[nU] at hl;refine sorted_ints pl.isList (by simpa using intsAre_of r') (by omega) fun out cb hI pm pw=>?_;have hf:H (s.heap.objs.size+1)=none:=I.aM.fresh (Zn _);obtain⟨e,he⟩:=sortedAll_at s.heap ar out;refine⟨.ref (s.heap.objs.size+1),_,I.laid (t':=s.toks) (o:=.lst (cb.map V.int)) (fun b o e=>sortedAll_old e) (Zn _) ?_,rfl,q _ cb pm pw hf⟩;refine⟨WZ (nW (by rw[nU,pm.length_eq];omega)),out.toList,e,yn hI,?_⟩;simpa[seqObj] using he
theorem DJ{prog:Program}{w:World}{A:Around}{E:aP}{I l:Addr}{items:Array Value}(W:Walks prog w A I [I,l] [I] items.size (fun i v=>items[i]?=some v) (fun i h=>h.IsListIter I l i/\h.IsList l items)):
  ∀(k i:Nat)(s:Shared)(Q:List Value->Shared->Prop),i+k<=items.size->(s.heap.IsListIter I l i/\s.heap.IsList l items) →
   (∀h' tk,(h'.IsListIter I l (i+k)/\h'.IsList l items)->(∀b o,b∉[I]->s.heap.get? b=some o->h'.get? b=some o)->Q ((items.toList.drop i).take k) {s with heap:=h',toks:=tk})->wpAny (model prog w) A (draw (.ref I) k) Q E s
 |0,i,s,Q,_,st,g=>by
  show wpAny _ _ (pure []) Q E s;refine qV ?_;have:=g s.heap s.toks st fun _ _ _ e=>e;rw[Zf] at this;exact this
 |k+1,i,s,Q,hk,st,g=>by
  have hi:i<items.size:=by omega
  show wpAny _ _ (pyNext (.ref I) >>= _) Q E s;refine lj (W.item i s _ _ hi st fun v h1 iQ hv kQ pD=>?_);refine lj (VX (DJ W k (i+1) _ _ (by omega) kQ fun h2 yo jj m8=>qV ?_))
  have e:items.toList.drop i=v::items.toList.drop (i+1):=by
   rw[Xk (by rw[Uk];exact hi)];congr 1;have DK:items[i]?=some v:=hv;rw[VN hi] at DK;simpa using DK
  have:=g h2 yo (by rw[show i+(k+1)=i+1+k by omega];exact jj) fun b o hb e=>m8 b o hb (pD b o hb e);rw[e,List.take_succ_cons] at this;exact this
theorem Mz{prog:Program}{w:World}{A:Around}{E:aP}{s:Shared}{l:Addr}{items:Array Value}{Q:List Value->Shared->Prop}(hh:A.handled=none)(hl:s.heap.IsList l items)
  (g:∀h' tk,(∀b o,b≠s.heap.objs.size->s.heap.get? b=some o->h'.get? b=some o)->Q items.toList {s with heap:=h',toks:=tk}):wpAny (model prog w) A (unpackItems (.ref l) items.size none) Q E s:=by
 have ll:l<s.heap.objs.size:=by obtain⟨o,e,_⟩:=hl;exact Ul e
 have W:=YN (prog:=prog) (w:=w) hh s.heap.objs.size l (VD ll) items;unfold unpackItems;refine lj ?_;unfold notIterableAtAll;refine lj (YT hl.typeIs slot_list_iter.lookup (qV ?_));simp only[V8,Xp];refine lj (VX (Xr hl ?_));refine lj (VX (DJ W items.size 0 _ _ (by omega) ⟨⟨_,Vy _ rfl,rfl,rfl⟩,hl.push _⟩ fun h1 iQ kQ pD=>?_));rw[Z9,WB (by rw[Uk];exact ua _),Uo (by rw[Uk];exact W9 _)];rw[Wb] at kQ;refine lj (VX (W.done _ _ _ kQ fun h2 yo m8=>?_));simp only[Option.isSome_none,V8,Xp];refine qV (g h2 yo fun b o hb e=>m8 b o (by simpa using hb) (pD b o (by simpa using hb) (ph _ e)))
def MA(K:PySem.W.Frag)(n:Nat)(t:jl):TG:=fun v σ H Q=>∃a xs,v=.ref a/\a8 K H a xs/\xs.length=n/\t xs σ H Q
theorem MB{es:List Expr}{k:Nat}{t:jl}{n:Nat}{pos:Pos}(hc:X.calm=true)(h:iu X es t)
  (hn:(assignEach es X.env).length=n:=by rfl) (kY:(assignEach es X.env).findIdx? (·.1)=none:=by rfl):JG X (.Tuple es k pos) (MA X.K n t):=by
 refine⟨?_⟩;intro pins s σ H v u Q I r hw;obtain⟨a,xs,e1,hq,hl,hw⟩:=hw;subst e1;cases r
 obtain⟨ar,rv,ht,hz⟩:=I.list hq;have hlen:=rv.length;rw[assign_Tuple];refine lj (XY ?_);unfold unpack;rw[kY,show(assignEach es X.env).length=ar.toArray.size by rw[hn,<-hl,hlen];simp];refine lj (VX (Mz (I.ok.hd hc) ht.isList fun h' tk kp=>?_));have I1:Inv X pins σ H {s with heap:=h',toks:=tk}:=I.kept fun b o e=>kp b o (VD (Ul e)) e;exact h pins _ σ H xs _ Q I1 (by simpa using rv) hw
end
section
variable{X:Cx}{e:Expr}{te:TE}{pos p2 p3 p4:Pos}
end
inductive DV where
 |p (d:D)|o (k:Nat)
inductive OV where
 |lst (ds:List D)|dct (ah:List (Key×D))
structure aD where
 sl:List (Option DV)
 mu:List (Option OV)
def eI(F:Hp):List (Key×D)->List (Key×V)->Prop
 |[],ws=>ws=[]
 |kd::r,ws=>∃v t,ws=(kd.1,v)::t/\Is F kd.2 v/\eI F r t
def dY(F:Hp):OV->HO->Prop
 |.lst ds,o=>∃vs,o=.lst vs/\ae F ds vs
 |.dct ah,o=>∃ws,o=.dK ws/\eI F ah ws
theorem eI.same{F F':Hp}(s:aE F F'):∀{fg:List (Key×D)}{ws:List (Key×V)},eI F fg ws->eI F' fg ws
 |[],_,h=>h
 |_::_,_,⟨v,t,e,h1,h2⟩=>⟨v,t,e,h1.same s,eI.same s h2⟩
theorem dY.same{F F':Hp}(s:aE F F'):∀{ov:OV}{o:HO},dY F ov o->dY F' ov o
 |.lst _,_,⟨vs,e,h⟩=>⟨vs,e,h.same s⟩
 |.dct _,_,⟨ws,e,h⟩=>⟨ws,e,h.same s⟩
def eN(F:Hp)(ad:List Addr):DV->V->Prop
 |.p d,v=>Is F d v
 |.o k,v=>∃a,ad[k]?=some a/\v=.ref a
def Lv(ad:List Addr)(mu:List (Option OV))(a:Addr):Prop:=∃(k:Nat)(ov:OV),ad[k]?=some a/\mu[k]?=some (some ov)
class aH where
 ad:List Addr
 ok:Hp->Prop
 same:∀{H H':Hp},ok H->aE H H'->ok H'
 put:∀{H:Hp}{a:Addr}{o o':HO},ok H->H a=some o->((∃vs,o=.lst vs)\/∃ws,o=.dK ws)->ok (upd H a o')
 tb:∀{H:Hp}{a:Addr},ok H->a∈ad->∃ps,H a=some (.tbl ps)
theorem dY.kind{F:Hp}:∀{ov:OV}{o:HO},dY F ov o->(∃vs,o=.lst vs)\/∃ws,o=.dK ws
 |.lst _,_,⟨vs,e,_⟩=>.inl ⟨vs,e⟩
 |.dct _,_,⟨ws,e,_⟩=>.inr ⟨ws,e⟩
variable[aH]
structure SR(F:Hp)(ad:List Addr)(δ:aD)(σ:St)(H:Hp):Prop where
 sub:aE F H
 off:∀a,Lv ad δ.mu a->F a=none
 bY:ad.length=δ.mu.length
 inj:∀(k l:Nat)(a:Addr)(ov ow:OV),ad[k]?=some a->ad[l]?=some a->δ.mu[k]?=some (some ov)->δ.mu[l]?=some (some ow)->k=l
 mu:∀(k:Nat)(ov:OV),δ.mu[k]?=some (some ov)->∃a o,ad[k]?=some a/\H a=some o/\dY F ov o
 sl:∀(i:Nat)(x:DV),δ.sl[i]?=some (some x)->∃v,σ[i]?=some (some v)/\eN F ad x v
 len:σ.length=δ.sl.length
 tab:aH.ok H
 nt:∀a∈aH.ad,F a=none
structure Ext(F:Hp)(ad:List Addr)(mu:List (Option OV))(H:Hp)(F':Hp)(aF:List Addr)(cy:List (Option OV))(H':Hp):Prop where
 same:aE F F'
 new:∀a o,F' a=some o->F a=some o\/H a=none\/Lv ad mu a
 keep:∀a o,H a=some o->¬ Lv ad mu a->a∉aH.ad->H' a=some o
 pre:∀(k:Nat)(a:Addr),ad[k]?=some a->aF[k]?=some a
 bW:∀a,Lv aF cy a->Lv ad mu a\/H a=none
 iB:∀a o,H a=some o->∃o',H' a=some o'
section
variable{F F' DL H H' g_:Hp}{ad aF rD:List Addr}{mu cy rE:List (Option OV)}{δ:aD}{σ:St}
theorem cz{H:Hp}{a:Addr}{o:HO}(h:H a=none):aE H (upd H a o):=fun b u e=>by rw[aU (cL e h)];exact e
theorem Ext.refl:Ext F ad mu H F ad mu H:=⟨fun _ _ e=>e,fun _ _ e=>.inl e,fun _ _ e _ _=>e,fun _ _ e=>e,fun _ e=>.inl e,fun _ o e=>⟨o,e⟩⟩
theorem Ext.trans(x:Ext F ad mu H F' aF cy H')(y:Ext F' aF cy H' DL rD rE g_):Ext F ad mu H DL rD rE g_ where
 same:=x.same.trans y.same
 new:=fun a o e=>by
  rcases y.new a o e with h|h|h
  ·exact x.new a o h
  ·refine .inr (.inl ?_)
   cases q:H a with
   |none=>rfl
   |some u=>obtain⟨u',h'⟩:=x.iB a u q;rw[h] at h';cases h'
  ·rcases x.bW a h with h|h
   ·exact .inr (.inr h)
   ·exact .inr (.inl h)
 keep:=fun a o e n t=>y.keep a o (x.keep a o e n t) (fun l=>by
  rcases x.bW a l with h|h
  ·exact n h
  ·rw[e] at h;cases h) t
 pre:=fun k a e=>y.pre k a (x.pre k a e)
 bW:=fun a l=>by
  rcases y.bW a l with h|h
  ·exact x.bW a h
  ·refine .inr ?_
   cases q:H a with
   |none=>rfl
   |some u=>obtain⟨u',h'⟩:=x.iB a u q;rw[h] at h';cases h'
 iB:=fun a o e=>let⟨o1,e1⟩:=x.iB a o e;y.iB a o1 e1
theorem eN.ext{x:DV}{v:V}(h:eN F ad x v)(e:Ext F ad mu H F' aF cy H'):eN F' aF x v:=by
 cases x with
 |p d=>exact Is.same e.same h
 |o k=>obtain⟨a,h1,h2⟩:=h;exact⟨a,e.pre k a h1,h2⟩
noncomputable def Nw(F H H':Hp):Hp:=fun a=>match H a with
 |none=>H' a
 |some _=>F a
theorem Nw.same(s:aE F H):aE F (Nw F H H'):=fun a o e=>by
 unfold Nw;rw[s a o e];exact e
theorem Nw.sub(s:aE F H)(k:aE H H'):aE (Nw F H H') H':=fun a o e=>by
 unfold Nw at e
 cases q:H a with
 |none=>rw[q] at e;exact e
 |some u=>rw[q] at e;exact k a o (s a o e)
theorem Nw.upd{p:Addr}{o:HO}(s:aE F H)(hp:H p=none):Nw F H (upd H p o)=upd F p o:=by
 funext a;unfold Nw L2.upd
 by_cases c:a=p
 ·subst c;rw[hp,VB rfl];simp
 ·rw[Uo c,Uo c]
  cases q:H a with
  |none =>
   cases q2:F a with
   |none=>rfl
   |some u=>rw[s a u q2] at q;cases q
  |some u=>rfl
theorem Nw.refl(s:aE F H):Nw F H H=F:=by
 funext a;unfold Nw
 cases q:H a with
 |none =>
  cases q2:F a with
  |none=>rfl
  |some u=>rw[s a u q2] at q;cases q
 |some u=>rfl
theorem SR.al(S:SR F ad δ σ H)(k:aE H H'):SR (Nw F H H') ad δ σ H':=by
 have sm:=Nw.same (H':=H') S.sub;refine⟨Nw.sub S.sub k,fun a l=>?_,S.bY,S.inj,fun i ov e=>?_,fun i x e=>?_,S.len,aH.same S.tab k,fun a ha=>by obtain⟨ps,q⟩:=aH.tb S.tab ha;unfold Nw;rw[q];exact S.nt a ha⟩
 ·obtain⟨i,ov,e1,e2⟩:=l
  obtain⟨a',o,e3,e4,_⟩:=S.mu i ov e2;rw[e1] at e3;cases e3;unfold Nw;rw[e4];exact S.off a ⟨i,ov,e1,e2⟩
 ·obtain⟨a,o,e1,e2,h⟩:=S.mu i ov e
  exact⟨a,o,e1,k a o e2,h.same sm⟩
 ·obtain⟨v,e1,h⟩:=S.sl i x e
  refine⟨v,e1,?_⟩
  cases x with
  |p d=>exact Is.same sm h
  |o k=>exact h
theorem Ext.al(S:SR F ad δ σ H)(k:aE H H'):Ext F ad δ.mu H (Nw F H H') ad δ.mu H' where
 same:=Nw.same S.sub
 new:=fun a o e=>by
  unfold Nw at e
  cases q:H a with
  |none=>exact .inr (.inl rfl)
  |some u=>rw[q] at e;exact .inl e
 keep:=fun a o e _ _=>k a o e
 pre:=fun _ _ e=>e
 bW:=fun _ l=>.inl l
 iB:=fun a o e=>⟨o,k a o e⟩
theorem SR.own{p:Addr}{o:HO}{ov:OV}(S:SR F ad δ σ H)(hp:H p=none)(h:dY F ov o):SR F (ad++[p]) ⟨δ.sl,δ.mu++[some ov]⟩ σ (upd H p o):=by
 have old:∀{k:Nat}{w:OV},(δ.mu++[some ov])[k]?=some (some w)->(k<δ.mu.length/\δ.mu[k]?=some (some w))\/(k=δ.mu.length/\w=ov):=fun{k w} e=>by
  by_cases c:k<δ.mu.length
  ·rw[VE c] at e;exact .inl ⟨c,e⟩
  ·have hl:=(nV.mp e).1
   rw[C4,VU] at hl;have ek:k=δ.mu.length:=by omega
   subst ek;rw[VF (ua _),Wr] at e;exact .inr ⟨rfl,by simpa using e.symm⟩
 have pre:∀{k:Nat},k<δ.mu.length->(ad++[p])[k]?=ad[k]?:=fun{k} c=>VE (by rw[S.bY];exact c);have last:(ad++[p])[δ.mu.length]?=some p:=by rw[<-S.bY,VF (ua _),Wr];rfl
 have np:∀{k:Nat}{a:Addr}{w:OV},ad[k]?=some a->δ.mu[k]?=some (some w)->a≠p:=fun{k a w} e1 e2=>by
  obtain⟨a',u,e3,e4,_⟩:=S.mu k w e2;rw[e1] at e3;cases e3;exact cL e4 hp
 refine⟨fun a u e=>?_,fun a l=>?_,by rw[C4,C4,S.bY];rfl,fun k l a w w' e1 e2 e3 e4=>?_,fun k w e=>?_,fun i x e=>?_,S.len,aH.same S.tab (cz hp),S.nt⟩
 ·have:=S.sub a u e
  rw[aU (cL this hp)];exact this
 ·obtain⟨k,w,e1,e2⟩:=l
  rcases old e2 with⟨c,e3⟩|⟨c,e3⟩
  ·rw[pre c] at e1;exact S.off a ⟨k,w,e1,e3⟩
  ·subst c;rw[last] at e1;cases e1
   cases q:F p with
   |none=>rfl
   |some u=>rw[S.sub p u q] at hp;cases hp
 ·rcases old e3 with⟨c,q⟩|⟨c,q⟩
  ·rw[pre c] at e1
   rcases old e4 with⟨c',q'⟩|⟨c',q'⟩
   ·rw[pre c'] at e2;exact S.inj k l a w w' e1 e2 q q'
   ·subst c';rw[last] at e2;cases e2;exact absurd rfl (np e1 q)
  ·subst c;rw[last] at e1;cases e1
   rcases old e4 with⟨c',q'⟩|⟨c',q'⟩
   ·rw[pre c'] at e2;exact absurd rfl (np e2 q')
   ·exact c'.symm
 ·rcases old e with⟨c,q⟩|⟨c,q⟩
  ·obtain⟨a,u,e1,e2,h'⟩:=S.mu k w q
   exact⟨a,u,by rw[pre c];exact e1,by rw[aU (np e1 q)];exact e2,h'⟩
  ·subst c;subst q;exact⟨p,o,last,bE,h⟩
 ·obtain⟨v,e1,h'⟩:=S.sl i x e
  refine⟨v,e1,?_⟩
  cases x with
  |p d=>exact h'
  |o k =>
   obtain⟨a,e2,e3⟩:=h';exact⟨a,by rw[VE (nV.mp e2).1];exact e2,e3⟩
theorem Ext.own{p:Addr}{o:HO}{ov:OV}(S:SR F ad δ σ H)(hp:H p=none):Ext F ad δ.mu H F (ad++[p]) (δ.mu++[some ov]) (upd H p o) where
 same:=fun _ _ e=>e
 new:=fun _ _ e=>.inl e
 keep:=fun a u e _ _=>by rw[aU (cL e hp)];exact e
 pre:=fun k a e=>by rw[VE (nV.mp e).1];exact e
 bW:=fun a l=>by
  obtain⟨k,w,e1,e2⟩:=l
  by_cases c:k<δ.mu.length
  ·rw[VE c] at e2
   rw[VE (by rw[S.bY];exact c)] at e1;exact .inl ⟨k,w,e1,e2⟩
  ·have hl:=(nV.mp e2).1
   rw[C4,VU] at hl;have ek:k=ad.length:=by rw[S.bY];omega
   subst ek;rw[VF (ua _),Wr] at e1;have:p=a:=by simpa using e1
   subst this;exact .inr hp
 iB:=fun a u e=>⟨u,by rw[aU (cL e hp)];exact e⟩
theorem SR.put{k:Nat}{a:Addr}{o:HO}{ov ow:OV}(S:SR F ad δ σ H)(hk:δ.mu[k]?=some (some ow))(ha:ad[k]?=some a)(h:dY F ov o):SR F ad ⟨δ.sl,δ.mu.set k (some ov)⟩ σ (upd H a o):=by
 have kl:=(nV.mp hk).1
 have old:∀{l:Nat}{w:OV},(δ.mu.set k (some ov))[l]?=some (some w)->(l≠k/\δ.mu[l]?=some (some w))\/(l=k/\w=ov):=fun{l w} e=>by
  by_cases c:k=l
  ·subst c;rw[WJ kl] at e;exact .inr ⟨rfl,by simpa using e.symm⟩
  ·rw[Wx c] at e;exact .inl ⟨fun z=>c z.symm,e⟩
 have lv:∀{l:Nat}{w:OV}{b:Addr},ad[l]?=some b->(δ.mu.set k (some ov))[l]?=some (some w)->Lv ad δ.mu b:=fun{l w b} e1 e2=>by
  rcases old e2 with⟨_,q⟩|⟨c,_⟩
  ·exact⟨l,w,e1,q⟩
  ·subst c;exact⟨l,ow,e1,hk⟩
 have tk:aH.ok (upd H a o):=by
  obtain⟨a',u,e1,e2,h'⟩:=S.mu k ow hk;rw[ha] at e1;cases e1;exact aH.put S.tab e2 h'.kind
 refine⟨fun b u e=>?_,fun b l=>?_,by rw[Xj];exact S.bY,fun l l' b w w' e1 e2 e3 e4=>?_,fun l w e=>?_,fun i x e=>?_,S.len,tk,S.nt⟩
 ·have nb:b≠a:=fun z=>by
   subst z;rw[S.off b ⟨k,ow,ha,hk⟩] at e;cases e
  rw[aU nb];exact S.sub b u e
 ·obtain⟨l,w,e1,e2⟩:=l
  exact S.off b (lv e1 e2)
 ·have h1:∃w,δ.mu[l]?=some (some w):=by
   rcases old e3 with⟨_,q⟩|⟨c,_⟩
   ·exact⟨_,q⟩
   ·subst c;exact⟨_,hk⟩
  have h2:∃w,δ.mu[l']?=some (some w):=by
   rcases old e4 with⟨_,q⟩|⟨c,_⟩
   ·exact⟨_,q⟩
   ·subst c;exact⟨_,hk⟩
  obtain⟨w1,q1⟩:=h1;obtain⟨w2,q2⟩:=h2;exact S.inj l l' b _ _ e1 e2 q1 q2
 ·rcases old e with⟨c,q⟩|⟨c,q⟩
  ·obtain⟨b,u,e1,e2,h'⟩:=S.mu l w q
   have nb:b≠a:=fun z=>by subst z;exact c (S.inj l k b _ _ e1 ha q hk)
   exact⟨b,u,e1,by rw[aU nb];exact e2,h'⟩
  ·subst c;subst q;exact⟨a,o,ha,bE,h⟩
 ·exact S.sl i x e
theorem Ext.put{k:Nat}{a:Addr}{o:HO}{ov ow:OV}(S:SR F ad δ σ H)(hk:δ.mu[k]?=some (some ow))(ha:ad[k]?=some a):Ext F ad δ.mu H F ad (δ.mu.set k (some ov)) (upd H a o) where
 same:=fun _ _ e=>e
 new:=fun _ _ e=>.inl e
 keep:=fun b u e n _=>by rw[aU fun z=>n (by subst z;exact⟨k,ow,ha,hk⟩)];exact e
 pre:=fun _ _ e=>e
 bW:=fun b l=>by
  obtain⟨l,w,e1,e2⟩:=l
  by_cases c:k=l
  ·subst c;exact .inl ⟨k,ow,e1,hk⟩
  ·rw[Wx c] at e2;exact .inl ⟨l,w,e1,e2⟩
 iB:=fun b u e=>by
  by_cases c:b=a
  ·subst c;exact⟨o,bE⟩
  ·exact⟨u,by rw[aU c];exact e⟩
theorem SR.fix{k:Nat}{a:Addr}{o:HO}{ow:OV}(S:SR F ad δ σ H)(hk:δ.mu[k]?=some (some ow))(ha:ad[k]?=some a)(ho:H a=some o):SR (upd F a o) ad ⟨δ.sl,δ.mu.set k none⟩ σ H:=by
 have kl:=(nV.mp hk).1;have fa:=S.off a ⟨k,ow,ha,hk⟩;have sm:aE F (upd F a o):=fun b u e=>by rw[aU (cL e fa)];exact e
 have old:∀{l:Nat}{w:OV},(δ.mu.set k none)[l]?=some (some w)->l≠k/\δ.mu[l]?=some (some w):=fun{l w} e=>by
  by_cases c:k=l
  ·subst c;rw[WJ kl] at e;cases e
  ·rw[Wx c] at e;exact⟨fun z=>c z.symm,e⟩
 refine⟨fun b u e=>?_,fun b l=>?_,by rw[Xj];exact S.bY,fun l l' b w w' e1 e2 e3 e4=>S.inj l l' b w w' e1 e2 (old e3).2 (old e4).2,fun l w e=>?_,fun i x e=>?_,S.len,S.tab,fun b hb=>?_⟩
 ·by_cases c:b=a
  ·subst c;rw[bE] at e;cases e;exact ho
  ·rw[aU c] at e;exact S.sub b u e
 ·obtain⟨l,w,e1,e2⟩:=l
  obtain⟨c,q⟩:=old e2;have nb:b≠a:=fun z=>by subst z;exact c (S.inj l k b _ _ e1 ha q hk)
  rw[aU nb];exact S.off b ⟨l,w,e1,q⟩
 ·obtain⟨b,u,e1,e2,h'⟩:=S.mu l w (old e).2
  exact⟨b,u,e1,e2,h'.same sm⟩
 ·obtain⟨v,e1,h'⟩:=S.sl i x e
  refine⟨v,e1,?_⟩
  cases x with
  |p d=>exact Is.same sm h'
  |o k=>exact h'
 ·obtain⟨ps,q⟩:=aH.tb S.tab hb
  have nb:b≠a:=fun z=>by
   subst z;obtain⟨a',u,e1,e2,h'⟩:=S.mu k ow hk;rw[ha] at e1;cases e1;rw[q] at e2;cases e2;rcases h'.kind with⟨_,z⟩|⟨_,z⟩<;>cases z
  rw[aU nb];exact S.nt b hb
theorem Ext.fix{k:Nat}{a:Addr}{o:HO}{ow:OV}(S:SR F ad δ σ H)(hk:δ.mu[k]?=some (some ow))(ha:ad[k]?=some a):Ext F ad δ.mu H (upd F a o) ad (δ.mu.set k none) H where
 same:=fun b u e=>by rw[aU (cL e (S.off a ⟨k,ow,ha,hk⟩))];exact e
 new:=fun b u e=>by
  by_cases c:b=a
  ·subst c;exact .inr (.inr ⟨k,ow,ha,hk⟩)
  ·rw[aU c] at e;exact .inl e
 keep:=fun b u e _ _=>e
 pre:=fun _ _ e=>e
 bW:=fun b l=>by
  obtain⟨l,w,e1,e2⟩:=l
  by_cases c:k=l
  ·subst c;rw[WJ (nV.mp hk).1] at e2;cases e2
  ·rw[Wx c] at e2;exact .inl ⟨l,w,e1,e2⟩
 iB:=fun b u e=>⟨u,e⟩
theorem SR.set{i:Nat}{x:DV}{v:V}(S:SR F ad δ σ H)(h:eN F ad x v):SR F ad ⟨δ.sl.set i (some x),δ.mu⟩ (σ.set i (some v)) H:=by
 refine⟨S.sub,S.off,S.bY,S.inj,S.mu,fun j y e=>?_,by rw[Xj,Xj];exact S.len,S.tab,S.nt⟩
 by_cases c:i=j
 ·subst c
  have hl:=(nV.mp e).1;rw[Xj] at hl;rw[WJ hl] at e;cases e
  exact⟨v,WJ (by rw[S.len];exact hl),h⟩
 ·rw[Wx c] at e
  obtain⟨w,e1,h1⟩:=S.sl j y e;exact⟨w,by rw[Wx c];exact e1,h1⟩
end
abbrev WE:=aD->(DV->aD->Prop)->Prop
abbrev WA:=aD->(List DV->aD->Prop)->Prop
abbrev WT:=aD->(Bool->aD->Prop)->Prop
def cX(F:Hp)(ad:List Addr):List DV->List V->Prop
 |[],vs=>vs=[]
 |x::xs,vs=>∃v r,vs=v::r/\eN F ad x v/\cX F ad xs r
theorem cX.ext{F F' H H':Hp}{ad aF:List Addr}{mu cy:List (Option OV)}(e:Ext F ad mu H F' aF cy H'):∀{xs:List DV}{vs:List V},cX F ad xs vs->cX F' aF xs vs
 |[],_,h=>h
 |_::_,_,⟨v,r,q,h1,h2⟩=>⟨v,r,q,h1.ext e,cX.ext e h2⟩
def tD(f:WE):TE:=fun σ H Q=>∃F ad δ K,SR F ad δ σ H/\f δ K/\∀x δ',K x δ'->∀v F' aF H',Ext F ad δ.mu H F' aF δ'.mu H'->SR F' aF δ' σ H'->eN F' aF x v->Q v H'
def bH(f:WA):TA:=fun σ H Q=>∃F ad δ K,SR F ad δ σ H/\f δ K/\∀xs δ',K xs δ'->∀vs F' aF H',Ext F ad δ.mu H F' aF δ'.mu H'->SR F' aF δ' σ H'->cX F' aF xs vs->Q vs H'
def b8(f:WT):TT:=fun σ H Q=>∃F ad δ K,SR F ad δ σ H/\f δ K/\∀b δ',K b δ'->∀F' aF H',Ext F ad δ.mu H F' aF δ'.mu H'->SR F' aF δ' σ H'->Q b H'
def fV(F H:Hp):D->V->Prop
 |.lst ds,v=>∃a vs,v=.ref a/\H a=some (.lst vs)/\ae F ds vs
 |d,v=>Is F d v
def fW(x:DV)(δ:aD)(K:D->Prop):Prop:=match x with
 |.p d=>K d
 |.o k=>match δ.mu[k]? with
  |some (some (.lst ds))=>K (.lst ds)
  |_=>False
theorem fV.of{F H:Hp}(s:aE F H):∀{d:D}{v:V},Is F d v->fV F H d v
 |.lst _,_,h=>by
  simp only[Is] at h;obtain⟨a,vs,e,h1,h2⟩:=h;exact⟨a,vs,e,s _ _ h1,h2⟩
 |.tup _,_,h=>h
 |.non,_,h=>h
 |.bl _,_,h=>h
 |.int _,_,h=>h
 |.str _,_,h=>h
theorem fV.is{F H:Hp}(s:aE F H):∀{d:D}{v:V},fV F H d v->Is H d v
 |.lst _,_,h=>by
  obtain⟨a,vs,e,h1,h2⟩:=h;simp only[Is];exact⟨a,vs,e,h1,h2.same s⟩
 |.tup _,_,h=>Is.same s h
 |.non,_,h=>Is.same s h
 |.bl _,_,h=>Is.same s h
 |.int _,_,h=>Is.same s h
 |.str _,_,h=>Is.same s h
theorem iC{F H:Hp}{ad:List Addr}{δ:aD}{σ:St}{x:DV}{v:V}{K:D->Prop}(S:SR F ad δ σ H)(hv:eN F ad x v)(h:fW x δ K):∃d,K d/\fV F H d v:=by
 cases x with
 |p d=>exact⟨d,h,fV.of S.sub hv⟩
 |o k =>
  unfold fW at h;dsimp only at h;split at h
  ·rename_i ds e
   obtain⟨a,e1,rfl⟩:=hv;obtain⟨a',o,e2,e3,vs,rfl,h4⟩:=S.mu k _ e;rw[e1] at e2;cases e2;exact⟨_,h,a,vs,rfl,e3,h4⟩
  ·exact h.elim
def hJ:List DV->aD->(List D->Prop)->Prop
 |[],_,K=>K []
 |x::xs,δ,K=>fW x δ fun d=>hJ xs δ fun ds=>K (d::ds)
def fX(F H:Hp):List D->List V->Prop
 |[],vs=>vs=[]
 |d::ds,vs=>∃v r,vs=v::r/\fV F H d v/\fX F H ds r
theorem n8{F H:Hp}{ad:List Addr}{δ:aD}{σ:St}(S:SR F ad δ σ H):∀{xs:List DV}{vs:List V}{K:List D->Prop},cX F ad xs vs->hJ xs δ K->∃ds,K ds/\fX F H ds vs
 |[],_,_,hv,h=>⟨[],h,hv⟩
 |x::xs,_,_,⟨v,r,rfl,h1,h2⟩,h=>by
  obtain⟨d,h',rd⟩:=iC S h1 h;obtain⟨ds,pE,hU⟩:=n8 S h2 h';exact⟨d::ds,pE,v,r,rfl,rd,hU⟩
abbrev Made(F H:Hp)(K:D->Prop)(Q:VK):Prop:=∀z v H',K z->aE H H'->Is (Nw F H H') z v->Q v H'
def dP(X:Cx)(f:Value->Value->Sem Value)(g:D->D->(D->Prop)->Prop):Prop :=
 cU X f fun x y H Q=>∃F d e K,aE F H/\fV F H d x/\fV F H e y/\g d e K/\Made F H K Q
def DM(X:Cx)(g:D->D->(D->Prop)->Prop):Prop :=
 qQ X fun x y H Q=>∃F d e K,aE F H/\fV F H d x/\fV F H e y/\g d e K/\Made F H K Q
def cO(X:Cx)(f:Value)(g:List D->(D->Prop)->Prop):Prop :=
 fc X f fun xs H Q=>∃F ds K,aE F H/\fX F H ds xs/\g ds K/\Made F H K Q
def d2(f g:WE)(op:D->D->(D->Prop)->Prop):WE:=fun δ K=>f δ fun x δ1=>g δ1 fun y δ2=>fW x δ2 fun d=>fW y δ2 fun e=>op d e fun z=>K (.p z) δ2
def d1(f:WE)(op:D->(D->Prop)->Prop):WE:=fun δ K=>f δ fun x δ1=>fW x δ1 fun d=>op d fun z=>K (.p z) δ1
def dN(f:WA)(op:List D->(D->Prop)->Prop):WE:=fun δ K=>f δ fun xs δ1=>hJ xs δ1 fun ds=>op ds fun z=>K (.p z) δ1
def dC(d:D):WE:=fun δ K=>K (.p d) δ
def aa(i:Nat):WE:=fun δ K=>match δ.sl[i]? with
 |some (some x)=>K x δ
 |_=>False
def af:WA:=fun δ K=>K [] δ
def aj(f:WE)(g:WA):WA:=fun δ K=>f δ fun x δ1=>g δ1 fun xs δ2=>K (x::xs) δ2
section
variable{X:Cx}{a b c:Expr}{f g h:WE}{fa:WA}{pos:Pos}
theorem rF{e:Expr}{d:D}{v:V}(h:JE X e (tC v))(hi:∀F,Is F d v):JE X e (tD (dC d)):=h.weak fun σ H Q h0_=>el7 h0_ fun F ad δ K S q k =>k _ _ q _ _ _ _ .refl S (hi F)
theorem uk{i j pos}:JE X (.Constant (.int i) j pos) (tD (dC (.int i))):=rF mj fun _=>rfl
theorem MC{i j pos}:JE X (.Constant (.bool i) j pos) (tD (dC (.bl i))):=rF Js fun _=>rfl
theorem MD{j pos}:JE X (.Constant .none j pos) (tD (dC .non)):=rF Jt fun _=>rfl
theorem ME{x j pos}:JE X (.Constant (.str x) j pos) (tD (dC (.str x))):=rF Ju fun _=>rfl
theorem MF{x:Str}{i:Int}{u:Value}{pos:Pos}(hg:Gl X x)(hm:X.mg x=some u)(r:RelV (.int i) u)(hd:bV x:=by decide):JE X (.Name x pos) (tD (dC (.int i))):=rF (Jv hg hm r hd) fun _=>rfl
theorem dv(i:Nat){x:Str}{pos:Pos}(hN:X.N[i]?=some x:=by rfl)(hv:qx X.env.scope x:=by first|exact Or.inl rfl|exact Or.inr (Or.inl rfl)|exact Or.inr (Or.inr rfl))
  (hd:bV x:=by decide) (fN:(x==("__classdict__" : Str))=false:=by decide):JE X (.Name x pos) (tD (aa i)) :=
 (B8 hN hv hd fN).weak fun σ H Q h0_=>el7 h0_ fun F ad δ K S q k =>by
  unfold aa at q;split at q
  ·rename_i x e
   obtain⟨v,e1,h1⟩:=S.sl i x e;exact⟨v,e1,k _ _ q _ _ _ _ .refl S h1⟩
  ·exact q.elim
theorem um{r:R2}{ta tb:TE}{op:D->D->(D->Prop)->Prop}(hr:∀x y H Q,(∃F d e K,aE F H/\fV F H d x/\fV F H e y/\op d e K/\Made F H K Q)->r x y H Q):∀σ H Q,tD (d2 f g op) σ H Q->qJ r (tD f) (tD g) σ H Q:=by
 rintro σ H Q ⟨F,ad,δ,K,S,q,k⟩;refine⟨F,ad,δ,_,S,q,fun x δ1 h1 v1 F1 aK H1 E1 S1 V1=>⟨F1,aK,δ1,_,S1,h1,fun y δ2 h2 v2 F2 bo H2 E2 S2 V2=>hr _ _ _ _ ?_⟩⟩;obtain⟨d,h3,rd⟩:=iC S2 (V1.ext E2) h2;obtain⟨e,h4,re⟩:=iC S2 V2 h3;exact⟨F2,d,e,_,S2.sub,rd,re,h4,fun z v H' hz sm is=>k _ _ hz _ _ _ _ ((E1.trans E2).trans (Ext.al S2 sm)) (S2.al sm) is⟩
theorem pF{op:Operator}{o:D->D->(D->Prop)->Prop}(ho:dP X (binaryOp op) o)(ha:JE X a (tD f))(hb:JE X b (tD g)):JE X (.BinOp a op b pos) (tD (d2 f g o)) :=
 (qK ho ha hb).weak (um (ta:=tD f) (tb:=tD g) fun _ _ _ _ h=>h)
theorem mF{op:CmpOp}{o:D->D->(D->Prop)->Prop}(ho:dP X (compareOp op) o)(ha:JE X a (tD f))(hb:JE X b (tD g))(hm:behindInMarks op b=false):JE X (.Compare a [op] [b] pos) (tD (d2 f g o)) :=
 (Kn ho ha hb hm).weak (um (ta:=tD f) (tb:=tD g) fun _ _ _ _ h=>h)
theorem n9{o:D->D->(D->Prop)->Prop}(ho:DM X o)(ha:JE X a (tD f))(hb:JE X b (tD g))(hs:CJ b):JE X (.Subscript a b pos) (tD (d2 f g o)) :=
 (CL ho ha hb hs).weak (um (ta:=tD f) (tb:=tD g) fun _ _ _ _ h=>h)
theorem ly:JA X [] (bH af):=bx.weak fun σ H Q h0_=>el7 h0_ fun F ad δ K S q k =>k _ _ q _ _ _ _ .refl S rfl
theorem n_:∀σ H Q,bH (aj f fa) σ H Q->mn (tD f) (bH fa) σ H Q:=by
 rintro σ H Q ⟨F,ad,δ,K,S,q,k⟩;exact⟨F,ad,δ,_,S,q,fun x δ1 h1 v1 F1 aK H1 E1 S1 V1=>⟨F1,aK,δ1,_,S1,h1,fun xs δ2 h2 vs F2 bo H2 E2 S2 V2=>k _ _ h2 _ _ _ _ (E1.trans E2) S2 ⟨v1,vs,rfl,V1.ext E2,V2⟩⟩⟩
theorem MG{e:Expr}{es:List Expr}(ha:JE X e (tD f))(hr:JA X es (bH fa))(hs:dF X e es:=by rfl):JA X (e::es) (bH (aj f fa)):=(iS ha hr hs).weak n_
theorem yp{es:List Expr}{c j p}(ha:JE X (.Constant c j p) (tD f))(hr:JA X es (bH fa)):JA X (.Constant c j p::es) (bH (aj f fa)):=(x5 ha hr).weak n_
theorem jM{es:List Expr}{x p}(ha:JE X (.Name x p) (tD f))(hr:JA X es (bH fa)):JA X (.Name x p::es) (bH (aj f fa)):=(nY ha hr).weak n_
theorem rG{es:List Expr}{x y k p}(ha:JE X (.Call x y k p) (tD f))(hr:JA X es (bH fa)):JA X (.Call x y k p::es) (bH (aj f fa)):=(g8 ha hr).weak n_
theorem yq{es:List Expr}{x p}(ha:JE X (.List x p) (tD f))(hr:JA X es (bH fa)):JA X (.List x p::es) (bH (aj f fa)):=(x6 ha hr).weak n_
theorem yr{es:List Expr}{x k p}(ha:JE X (.Tuple x k p) (tD f))(hr:JA X es (bH fa)):JA X (.Tuple x k p::es) (bH (aj f fa)):=(x8 ha hr).weak n_
theorem lz{es:List Expr}{x k p}(ha:JE X (.Subscript x k p) (tD f))(hr:JA X es (bH fa)):JA X (.Subscript x k p::es) (bH (aj f fa)):=(x9 ha hr).weak n_
theorem DN{r:List V->Hp->VK->Prop}{op:List D->(D->Prop)->Prop}(hr:∀xs H Q,(∃F ds K,aE F H/\fX F H ds xs/\op ds K/\Made F H K Q)->r xs H Q):∀σ H Q,tD (dN fa op) σ H Q->t7 r (bH fa) σ H Q:=by
 rintro σ H Q ⟨F,ad,δ,K,S,q,k⟩;refine⟨F,ad,δ,_,S,q,fun xs δ1 h1 vs F1 aK H1 E1 S1 V1=>hr _ _ _ ?_⟩;obtain⟨ds,h2,hU⟩:=n8 S1 V1 h1;exact⟨F1,ds,_,S1.sub,hU,h2,fun z v H' hz sm is=>k _ _ hz _ _ _ _ (E1.trans (Ext.al S1 sm)) (S1.al sm) is⟩
theorem oa{x:Str}{p:Pos}{e:Expr}{es:List Expr}{id:String}{o:List D->(D->Prop)->Prop}(hc:cO X (.builtin id) o)(hg:Gl X x)(hm:X.mg x=none)(hv:bootBuiltins x=some (.builtin id))(ha:JA X (e::es) (bH fa))(hn:x≠"__name__" := by decide)(fQ:bV x:=by decide)
  (he:dF X e es:=by rfl) (fB:eD X pos es:=by rfl):JE X (.Call (.Name x p) (e::es) [] pos) (tD (dN fa o)) :=
 (pd hc hg hm hv ha hn fQ he fB).weak (DN fun _ _ _ h=>h)
theorem DO{x:Str}{p:Pos}{e:Expr}{es:List Expr}{T:String}{o:List D->(D->Prop)->Prop}(hc:cO X (.type T) o)(hg:Gl X x)(hm:X.mg x=none)(hv:bootBuiltins x=some (.type T))(ha:JA X (e::es) (bH fa))(hn:x≠"__name__" := by decide)(fQ:bV x:=by decide)
  (he:dF X e es:=by rfl) (fB:eD X pos es:=by rfl):JE X (.Call (.Name x p) (e::es) [] pos) (tD (dN fa o)) :=
 (kG hc hg hm hv ha hn fQ he fB).weak (DN fun _ _ _ h=>h)
end
noncomputable def DP(k:Nat)(ds:List D):Option DV->Option DV
 |some (.o j)=>if j=k then some (.p (.lst ds)) else some (.o j)
 |s=>s
noncomputable def aD.fix(δ:aD)(k:Nat)(ds:List D):aD:=⟨δ.sl.map (DP k ds),δ.mu.set k none⟩
def jN(x:DV)(δ:aD)(K:D->aD->Prop):Prop:=match x with
 |.p d=>K d δ
 |.o k=>match δ.mu[k]? with
  |some (some (.lst ds))=>K (.lst ds) (δ.fix k ds)
  |_=>False
def iZ:List DV->aD->(List D->aD->Prop)->Prop
 |[],δ,K=>K [] δ
 |x::xs,δ,K=>jN x δ fun d δ1=>iZ xs δ1 fun ds δ2=>K (d::ds) δ2
section
variable{F F' H H':Hp}{ad aF:List Addr}{δ δ':aD}{σ σ':St}
theorem SR.fixed{k:Nat}{a:Addr}{vs:List V}{ds:List D}(S:SR F ad δ σ H)(hk:δ.mu[k]?=some (some (.lst ds)))(ha:ad[k]?=some a)(ho:H a=some (.lst vs))(hi:ae F ds vs):SR (upd F a (.lst vs)) ad (δ.fix k ds) σ H:=by
 have S1:=S.fix hk ha ho;have sm:aE F (upd F a (.lst vs)):=(Ext.fix (o:=.lst vs) S hk ha).same;refine⟨S1.sub,S1.off,S1.bY,S1.inj,S1.mu,fun i x e=>?_,by rw[S.len];unfold aD.fix;rw[nU],S1.tab,S1.nt⟩;unfold aD.fix at e;rw[Lq] at e;obtain⟨s,e1,e2⟩:=Vz.mp e
 match s,e2 with
 |none,e2=>cases e2
 |some (.p d),e2 =>
  cases(show some (DV.p d)=some x from e2)
  exact S1.sl i _ e1
 |some (.o j),e2 =>
  have e3:(if j=k then some (DV.p (.lst ds)) else some (DV.o j))=some x:=e2;clear e2;obtain⟨v,h1,a',h2,h3⟩:=S.sl i _ e1
  by_cases c:j=k
  ·rw[VB c] at e3
   subst c;cases e3
   rw[ha] at h2;cases h2;refine⟨v,h1,?_⟩;show Is _ (.lst ds) v;simp only[Is];exact⟨a,vs,h3,bE,hi.same sm⟩
  ·rw[Uo c] at e3
   cases e3
   exact⟨v,h1,a',h2,h3⟩
theorem oe{x:DV}{v:V}{K:D->aD->Prop}(S:SR F ad δ σ H)(hv:eN F ad x v)(h:jN x δ K):∃d δ' F',K d δ'/\Ext F ad δ.mu H F' ad δ'.mu H/\SR F' ad δ' σ H/\Is F' d v:=by
 cases x with
 |p d=>exact⟨d,δ,F,h,.refl,S,hv⟩
 |o k =>
  unfold jN at h;dsimp only at h;split at h
  ·rename_i ds e
   obtain⟨a,e1,rfl⟩:=hv;obtain⟨a',o,e2,e3,vs,rfl,h4⟩:=S.mu k _ e;rw[e1] at e2;cases e2;refine⟨_,_,_,h,Ext.fix S e e1,S.fixed e e1 e3 h4,?_⟩;simp only[Is];exact⟨a,vs,rfl,bE,h4.same (Ext.fix (o:=.lst vs) S e e1).same⟩
  ·exact h.elim
theorem uo:∀{xs:List DV}{vs:List V}{δ:aD}{F:Hp}{K:List D->aD->Prop},SR F ad δ σ H->cX F ad xs vs->iZ xs δ K->∃ds δ' F',K ds δ'/\Ext F ad δ.mu H F' ad δ'.mu H/\SR F' ad δ' σ H/\ae F' ds vs
 |[],_,δ,F,_,S,hv,h=>⟨[],δ,F,h,.refl,S,by simp only[ae];exact hv⟩
 |x::xs,_,δ,F,_,S,⟨v,r,e,h1,h2⟩,h=>by
  subst e;obtain⟨d,δ1,F1,h',E1,S1,i1⟩:=oe S h1 h;obtain⟨ds,δ2,F2,pE,E2,S2,i2⟩:=uo S1 (h2.ext E1) h';exact⟨d::ds,δ2,F2,pE,E1.trans E2,S2,.cons (i1.same E2.same) i2⟩
end
def cm(fa:WA):WE:=fun δ K=>fa δ fun xs δ1=>iZ xs δ1 fun ds δ2=>ds.length<=1000/\K (.p (.tup ds)) δ2
def b9(fa:WA):WE:=fun δ K=>fa δ fun xs δ1=>iZ xs δ1 fun ds δ2=>ds.length<=1000/\K (.p (.lst ds)) δ2
def kJ(fa:WA):WE:=fun δ K=>fa δ fun xs δ1=>iZ xs δ1 fun ds δ2=>ds.length<=1000/\K (.o δ2.mu.length) ⟨δ2.sl,δ2.mu++[some (.lst ds)]⟩
section
variable{X:Cx}{a b c:Expr}{es:List Expr}{f g h:WE}{fa:WA}{t u:WT}{pos:Pos}
theorem jO{n:Nat}(h:n<=1000):n<=sizeLine:=WZ (nW h)
theorem MH{x1}(ha:JA X es (bH fa)):JE X (.Tuple es x1 pos) (tD (cm fa)):=(Ky ha).weak fun σ H Q h0_=>el7 h0_ fun F ad δ K S q k =>
 ⟨F,ad,δ,_,S,q,fun xs δ1 h1 vs F1 aK H1 E1 S1 V1=>by
  obtain⟨ds,δ2,F2,⟨hl,h2⟩,E2,S2,i2⟩:=uo S1 V1 h1;refine⟨jO (by rw[i2.length];exact hl),fun p hp=>?_⟩;have sm:aE H1 (upd H1 p (.tup vs)):=cz hp;refine k _ _ h2 _ _ _ _ ((E1.trans E2).trans (Ext.al S2 sm)) (S2.al sm) ?_;show Is _ (.tup ds) _;simp only[Is];rw[Nw.upd S2.sub hp];refine⟨p,vs,rfl,bE,i2.same fun b o e=>?_⟩
  rw[aU (cL (S2.sub b o e) hp)];exact e⟩
theorem MI(ha:JA X es (bH fa)):JE X (.List es pos) (tD (b9 fa)):=(xg ha).weak fun σ H Q h0_=>el7 h0_ fun F ad δ K S q k =>
 ⟨F,ad,δ,_,S,q,fun xs δ1 h1 vs F1 aK H1 E1 S1 V1=>by
  obtain⟨ds,δ2,F2,⟨hl,h2⟩,E2,S2,i2⟩:=uo S1 V1 h1;refine⟨jO (by rw[i2.length];exact hl),fun p hp=>?_⟩;have sm:aE H1 (upd H1 p (.lst vs)):=cz hp;refine k _ _ h2 _ _ _ _ ((E1.trans E2).trans (Ext.al S2 sm)) (S2.al sm) ?_;show Is _ (.lst ds) _;simp only[Is];rw[Nw.upd S2.sub hp];refine⟨p,vs,rfl,bE,i2.same fun b o e=>?_⟩
  rw[aU (cL (S2.sub b o e) hp)];exact e⟩
theorem MJ(ha:JA X es (bH fa)):JE X (.List es pos) (tD (kJ fa)):=(xg ha).weak fun σ H Q h0_=>el7 h0_ fun F ad δ K S q k =>
 ⟨F,ad,δ,_,S,q,fun xs δ1 h1 vs F1 aK H1 E1 S1 V1=>by
  obtain⟨ds,δ2,F2,⟨hl,h2⟩,E2,S2,i2⟩:=uo S1 V1 h1;refine⟨jO (by rw[i2.length];exact hl),fun p hp=>?_⟩;have oi:dY F2 (.lst ds) (.lst vs):=⟨vs,rfl,i2⟩;refine k _ _ h2 _ _ _ _ ((E1.trans E2).trans (Ext.own S2 hp)) (S2.own hp oi) ⟨p,?_,rfl⟩
  rw[<-S2.bY,VF (ua _),Wr];rfl⟩
def pG(x:DV)(P:Bool->Prop):Prop:=match x with
 |.p (.bl b)=>P b
 |_=>False
def dT(f:WE):WT:=fun δ K=>f δ fun x δ1=>pG x fun b=>K b δ1
def eJ(t u:WT):WT:=fun δ K=>t δ fun b δ1=>if b=true then u δ1 K else K false δ1
def mG(t u:WT):WT:=fun δ K=>t δ fun b δ1=>if b=true then K true δ1 else u δ1 K
def dm(t:WT):WT:=fun δ K=>t δ fun b δ1=>K (!b) δ1
def rH(t:WT)(f g:WE):WE:=fun δ K=>t δ fun b δ1=>if b=true then f δ1 K else g δ1 K
def mH(f g:WE):WE:=fun δ K=>f δ fun x δ1=>pG x fun b=>if b=true then g δ1 K else K (.p (.bl false)) δ1
def yt(f:WE):WE:=fun δ K=>f δ fun x δ1=>pG x fun b=>K (.p (.bl (!b))) δ1
theorem rJ{F:Hp}{ad:List Addr}{x:DV}{v:V}{P:Bool->Prop}(hv:eN F ad x v)(h:pG x P):∃b,v=.bl b/\P b:=by
 unfold pG at h;split at h
 ·rename_i b
  exact⟨b,hv,h⟩
 ·exact h.elim
theorem MK(ha:JE X a (tD f))(he:∀whole,isTrue a X.env whole=(do let v <- whole;standAt a.pos;holding [v] (truthy v)):=by intro _;rfl):JT X a (b8 (dT f)) :=
 (Jy ha he).weak fun σ H Q h0_=>el7 h0_ fun F ad δ K S q k =>⟨F,ad,δ,_,S,q,fun x δ1 h1 v F1 aK H1 E1 S1 V1=>by
  obtain⟨b,rfl,h2⟩:=rJ V1 h1
  exact⟨b,rfl,k _ _ h2 _ _ _ E1 S1⟩⟩
theorem lA{op:CmpOp}{o:D->D->(D->Prop)->Prop}(ho:dP X (compareOp op) o)(ha:JE X a (tD f))(hb:JE X b (tD g))(hm:behindInMarks op b=false):JT X (.Compare a [op] [b] pos) (b8 (dT (d2 f g o))) :=
 (Kp ho ha hb hm).weak fun σ H Q h0_=>el7 h0_ fun F ad δ K S q k =>um (ta:=tD f) (tb:=tD g) (fun _ _ _ _ h=>h) σ H _ ⟨F,ad,δ,_,S,q,fun x δ1 h1 v F1 aK H1 E1 S1 V1=>by
  obtain⟨b,rfl,h2⟩:=rJ V1 h1
  exact⟨b,rfl,k _ _ h2 _ _ _ E1 S1⟩⟩
theorem ML(ha:JT X a (b8 t)):JT X (.UnaryOp .Not a pos) (b8 (dm t)):=(JJ ha).weak fun σ H Q h0_=>el7 h0_ fun F ad δ K S q k =>⟨F,ad,δ,_,S,q,fun b δ1 h1 F1 aK H1 E1 S1=>k _ _ h1 _ _ _ E1 S1⟩
theorem MM:∀σ H Q,b8 (eJ t u) σ H Q->qC (b8 t) (b8 u) σ H Q:=fun σ H Q h0_=>el7 h0_ fun F ad δ K S q k =>⟨F,ad,δ,_,S,q,fun b δ1 h1 F1 aK H1 E1 S1=>by
 cases b with
 |true =>
  rw[VB rfl] at h1 ⊢;exact⟨F1,aK,δ1,_,S1,h1,fun b δ2 h2 F2 bo H2 E2 S2=>k _ _ h2 _ _ _ (E1.trans E2) S2⟩
 |false =>
  rw[Uo VC] at h1 ⊢
  exact k _ _ h1 _ _ _ E1 S1⟩
theorem MN:∀σ H Q,b8 (mG t u) σ H Q->B_ (b8 t) (b8 u) σ H Q:=fun σ H Q h0_=>el7 h0_ fun F ad δ K S q k =>⟨F,ad,δ,_,S,q,fun b δ1 h1 F1 aK H1 E1 S1=>by
 cases b with
 |false =>
  rw[Uo VC] at h1 ⊢;exact⟨F1,aK,δ1,_,S1,h1,fun b δ2 h2 F2 bo H2 E2 S2=>k _ _ h2 _ _ _ (E1.trans E2) S2⟩
 |true =>
  rw[VB rfl] at h1 ⊢
  exact k _ _ h1 _ _ _ E1 S1⟩
theorem JW.weak{e:Expr}{t t':TT}(h:JW X e t)(k:∀σ H Q,t' σ H Q->t σ H Q):JW X e t':=⟨fun wh pins s σ H Q I q=>h wh pins s σ H Q I (k σ H Q q)⟩
theorem MO(ha:JT X a (b8 t)):JW X (.BoolOp .And [a] pos) (b8 t):=Jz ha
theorem MP(ha:JT X a (b8 t)):JW X (.BoolOp .Or [a] pos) (b8 t):=JB ha
theorem DQ{rest:List Expr}(ha:JT X a (b8 t))(hb:JW X (.BoolOp .And (b::rest) pos) (b8 u)):JW X (.BoolOp .And (a::b::rest) pos) (b8 (eJ t u)):=(JD ha hb).weak MM
theorem DR{rest:List Expr}(ha:JT X a (b8 t))(hb:JW X (.BoolOp .Or (b::rest) pos) (b8 u)):JW X (.BoolOp .Or (a::b::rest) pos) (b8 (mG t u)):=(JH ha hb).weak MN
theorem MQ{op}(ha:JE X a (tD f)):JE X (.BoolOp op [a] pos) (tD f):=JM ha
theorem MR{rest:List Expr}(ha:JE X a (tD f))(hb:JE X (.BoolOp .And (b::rest) pos) (tD g)):JE X (.BoolOp .And (a::b::rest) pos) (tD (mH f g)) :=
 (JN ha hb).weak fun σ H Q h0_=>el7 h0_ fun F ad δ K S q k =>⟨F,ad,δ,_,S,q,fun x δ1 h1 v F1 aK H1 E1 S1 V1=>by
  obtain⟨b,rfl,h2⟩:=rJ V1 h1;refine⟨b,rfl,?_⟩
  cases b with
  |true =>
   rw[VB rfl] at h2 ⊢;exact⟨F1,aK,δ1,_,S1,h2,fun x δ2 h3 v F2 bo H2 E2 S2 V2=>k _ _ h3 _ _ _ _ (E1.trans E2) S2 V2⟩
  |false =>
   rw[Uo VC] at h2 ⊢
   exact k _ _ h2 _ _ _ _ E1 S1 rfl⟩
theorem MS(ha:JE X a (tD f)):JE X (.UnaryOp .Not a pos) (tD (yt f)) :=
 (JO ha).weak fun σ H Q h0_=>el7 h0_ fun F ad δ K S q k =>⟨F,ad,δ,_,S,q,fun x δ1 h1 v F1 aK H1 E1 S1 V1=>by
  obtain⟨b,rfl,h2⟩:=rJ V1 h1
  exact⟨b,rfl,k _ _ h2 _ _ _ _ E1 S1 rfl⟩⟩
theorem MT(hc:JT X c (b8 t))(ha:JE X a (tD f))(hb:JE X b (tD g)):JE X (.IfExp c a b pos) (tD (rH t f g)) :=
 (JQ hc ha hb).weak fun σ H Q h0_=>el7 h0_ fun F ad δ K S q k =>⟨F,ad,δ,_,S,q,fun b δ1 h1 F1 aK H1 E1 S1=>by
  cases b with
  |true =>
   rw[VB rfl] at h1 ⊢;exact⟨F1,aK,δ1,_,S1,h1,fun x δ2 h3 v F2 bo H2 E2 S2 V2=>k _ _ h3 _ _ _ _ (E1.trans E2) S2 V2⟩
  |false =>
   rw[Uo VC] at h1 ⊢
   exact⟨F1,aK,δ1,_,S1,h1,fun x δ2 h3 v F2 bo H2 E2 S2 V2=>k _ _ h3 _ _ _ _ (E1.trans E2) S2 V2⟩⟩
end
structure KS where
 nx:aD->Prop
 rt:DV->aD->Prop
 bk:aD->Prop:=fun _=>False
 ct:aD->Prop:=fun _=>False
abbrev WS:=KS->aD->Prop
def Cn(F:Hp)(ad:List Addr)(mu:List (Option OV))(H:Hp)(P:aD->Prop)(R:St->Hp->Prop):Prop:=∀δ',P δ'->∀F' aF σ' H',Ext F ad mu H F' aF δ'.mu H'->SR F' aF δ' σ' H'->R σ' H'
class i0 where
 ok:Nat->Int->Prop
 kp:List Addr->List (Option OV)->Hp->Prop
 st:∀{F ad mu H F' aF cy H'},Ext F ad mu H F' aF cy H'->kp ad mu H->kp aF cy H'
instance (priority:=low) MU:i0:=⟨fun _ _=>False,fun _ _ _=>True,fun _ _=>trivial⟩
section
variable[i0]
structure uq(F:Hp)(ad:List Addr)(mu:List (Option OV))(H:Hp)(K:KS)(D:Ends):Prop where
 nx:Cn F ad mu H K.nx D.nx
 bk:Cn F ad mu H K.bk D.bk
 ct:Cn F ad mu H K.ct D.ct
 rt:∀x δ',K.rt x δ'->∀v F' aF σ' H',Ext F ad mu H F' aF δ'.mu H'->SR F' aF δ' σ' H'->eN F' aF x v->D.rt v H'
 kp:i0.kp ad mu H
theorem Cn.ext{F F' H H':Hp}{ad aF:List Addr}{mu cy:List (Option OV)}{P:aD->Prop}{R:St->Hp->Prop}(c:Cn F ad mu H P R)(e:Ext F ad mu H F' aF cy H'):Cn F' aF cy H' P R:=fun δ' h _ _ _ _ E S=>c δ' h _ _ _ _ (e.trans E) S
theorem uq.ext{F F' H H':Hp}{ad aF:List Addr}{mu cy:List (Option OV)}{K:KS}{D:Ends}(c:uq F ad mu H K D)(e:Ext F ad mu H F' aF cy H'):uq F' aF cy H' K D :=
 ⟨c.nx.ext e,c.bk.ext e,c.ct.ext e,fun x δ' h _ _ _ _ _ E S V=>c.rt x δ' h _ _ _ _ _ (e.trans E) S V,i0.st e c.kp⟩
def cY(G:WS):TS:=fun D σ H=>∃F ad δ K,SR F ad δ σ H/\G K δ/\uq F ad δ.mu H K D
def ak(G G':WS):WS:=fun K δ=>G {K with nx:=G' K} δ
def bK:WS:=fun K δ=>K.nx δ
def ay(i:Nat)(f:WE):WS:=fun K δ=>f δ fun x δ1=>K.nx ⟨δ1.sl.set i (some x),δ1.mu⟩
def i5(f:WE):WS:=fun K δ=>f δ fun _ δ1=>K.nx δ1
def aC(f:WE):WS:=fun K δ=>f δ fun x δ1=>K.rt x δ1
def aR(t:WT)(G G':WS):WS:=fun K δ=>t δ fun b δ1=>if b=true then G K δ1 else G' K δ1
section
variable{X:Cx}{e c:Expr}{st:Stmt}{rest:List Stmt}{f:WE}{t:WT}{G G':WS}{pos:Pos}
theorem MV:cM X [] (cY bK):=kX.weak fun D σ H h0_=>el7 h0_ fun F ad δ K S q k =>k.nx _ q _ _ _ _ .refl S
theorem ur(h:JS X st (cY G)):cM X [st] (cY G):=wJ h
theorem yu(h:JS X st (cY G))(r:cM X rest (cY G')):cM X (st::rest) (cY (ak G G')) :=
 (tZ h r).weak fun D σ H h0_=>el7 h0_ fun F ad δ K S q k =>⟨F,ad,δ,_,S,q,⟨fun δ' h _ _ _ _ E S'=>⟨_,_,δ',K,S',h,k.ext E⟩,k.bk,k.ct,k.rt,k.kp⟩⟩
theorem MW{i:Nat}:∀D σ H,cY (ay i f) D σ H->jG (tD f) (t4 i) D σ H:=fun D σ H h0_=>el7 h0_ fun F ad δ K S q k =>⟨F,ad,δ,_,S,q,fun x δ1 h1 v F1 aK H1 E1 S1 V1=>k.nx _ h1 _ _ _ _ E1 (S1.set V1)⟩
theorem DT{i:Nat}{x:Str}{pos':Pos}(hN:X.N.Nodup)(hi:X.N[i]?=some x)(hx:Loc X.env.scope x)(he:JE X e (tD f))(hs:swapsWith e (some (.Name x pos')) pos.line X.env=pure false:=by rfl)
  (hf:eC X x:=by first|exact .inl rfl|exact .inr rfl|assumption):JS X (.Assign [.Name x pos'] e pos) (cY (ay i f)):=(wU hN hi hx he hs hf).weak MW
theorem DU(he:JE X e (tD f))(hs:swapsWith e none pos.line X.env=pure false:=by rfl):JS X (.Expr e pos) (cY (i5 f)) :=
 (JV he hs).weak fun D σ H h0_=>el7 h0_ fun F ad δ K S q k =>⟨F,ad,δ,_,S,q,fun x δ1 h1 v F1 aK H1 E1 S1 V1=>k.nx _ h1 _ _ _ _ E1 S1⟩
theorem uu(he:JE X e (tD f)):JS X (.Return (some e) pos) (cY (aC f)) :=
 (Ca he).weak fun D σ H h0_=>el7 h0_ fun F ad δ K S q k =>⟨F,ad,δ,_,S,q,fun x δ1 h1 v F1 aK H1 E1 S1 V1=>k.rt _ _ h1 _ _ _ _ _ E1 S1 V1⟩
theorem MX{a b:List Stmt}(hc:JT X c (b8 t))(ha:cM X a (cY G))(hb:cM X b (cY G')):JS X (.If c a b pos) (cY (aR t G G')) :=
 (JX hc ha hb).weak fun D σ H h0_=>el7 h0_ fun F ad δ K S q k =>⟨F,ad,δ,_,S,q,fun b δ1 h1 F1 aK H1 E1 S1=>by
  cases b with
  |true =>
   rw[VB rfl] at h1 ⊢;exact⟨F1,aK,δ1,K,S1,h1,k.ext E1⟩
  |false =>
   rw[Uo VC] at h1 ⊢
   exact⟨F1,aK,δ1,K,S1,h1,k.ext E1⟩⟩
def uv:WS:=fun _ _=>False
abbrev WG:=DV->aD->(aD->Prop)->Prop
def gR(g:WG):TG:=fun v σ H Q=>∃F ad δ x K,SR F ad δ σ H/\eN F ad x v/\g x δ K/\Cn F ad δ.mu H K Q
abbrev og:=List D->aD->(aD->Prop)->Prop
def lB(g:og):jl:=fun vs σ H Q=>∃F ad δ ds K,SR F ad δ σ H/\ae F ds vs/\g ds δ K/\Cn F ad δ.mu H K Q
def aV(i:Nat):WG:=fun x δ K=>K ⟨δ.sl.set i (some x),δ.mu⟩
def gq:og:=fun ds δ K=>match ds with
 |[]=>K δ
 |_=>False
def cP(g:WG)(g':og):og:=fun ds δ K=>match ds with
 |d::r=>g (.p d) δ fun δ1=>g' r δ1 K
 |[]=>False
theorem JG.weak{tg:Expr}{t t':TG}(h:JG X tg t)(k:∀v σ H Q,t' v σ H Q->t v σ H Q):JG X tg t':=⟨fun pins s σ H v u Q I r q=>h pins s σ H v u Q I r (k v σ H Q q)⟩
theorem iu.weak{ts:List Expr}{t t':jl}(h:iu X ts t)(k:∀v σ H Q,t' v σ H Q->t v σ H Q):iu X ts t':=⟨fun pins s σ H v u Q I r q=>h pins s σ H v u Q I r (k v σ H Q q)⟩
theorem MY{i:Nat}{x:Str}(hN:X.N.Nodup)(hi:X.N[i]?=some x)(hx:Loc X.env.scope x)(hf:eC X x:=by first|exact .inl rfl|exact .inr rfl|assumption):JG X (.Name x pos) (gR (aV i)) :=
 (wM hN hi hx hf).weak fun v σ H Q ⟨F,ad,δ,x,K,S,V,q,k⟩=>k _ q _ _ _ _ .refl (S.set V)
theorem MZ:iu X [] (lB gq):=iw.weak fun vs σ H Q ⟨F,ad,δ,ds,K,S,V,q,k⟩=>by
 unfold gq at q;split at q
 ·simp only[ae] at V
  exact⟨V,k _ q _ _ _ _ .refl S⟩
 ·exact q.elim
theorem M0{es:List Expr}{g:WG}{g':og}(h1:JG X e (gR g))(h2:iu X es (lB g'))(hs:(assignEach (e::es) X.env).map (·.2)=assign e X.env::(assignEach es X.env).map (·.2):=by rfl):iu X (e::es) (lB (cP g g')) :=
 (wO h1 h2 hs).weak fun vs σ H Q ⟨F,ad,δ,ds,K,S,V,q,k⟩=>by
  unfold cP at q;split at q
  ·rename_i d r
   simp only[ae] at V;obtain⟨v,r',e,i1,i2⟩:=V;exact⟨v,r',e,F,ad,δ,.p d,_,S,i1,q,fun δ' h _ _ _ _ E S'=>⟨_,_,δ',r,K,S',i2.same E.same,h,k.ext E⟩⟩
  ·exact q.elim
def gC(n:Nat)(g:og):WG:=fun x δ K=>fW x δ fun d=>match d with
 |.tup ds=>ds.length=n/\g ds δ K
 |.lst ds=>ds.length=n/\g ds δ K
 |_=>False
theorem JG.or{tg:Expr}{t t':TG}(h:JG X tg t)(h':JG X tg t'):JG X tg (fun v σ H Q=>t v σ H Q\/t' v σ H Q):=⟨fun pins s σ H v u Q I r q=>q.elim (fun q=>h pins s σ H v u Q I r q) fun q=>h' pins s σ H v u Q I r q⟩
theorem M1{es:List Expr}{k:Nat}{g:og}{n:Nat}(hc:X.calm=true)(h:iu X es (lB g))(hn:(assignEach es X.env).length=n:=by rfl)(kY:(assignEach es X.env).findIdx? (·.1)=none:=by rfl):JG X (.Tuple es k pos) (gR (gC n g)) :=
 ((Cb hc h hn kY).or (MB hc h hn kY)).weak fun v σ H Q ⟨F,ad,δ,x,K,S,V,q,k⟩=>by
  obtain⟨d,q,rd⟩:=iC S V q;split at q
  ·rename_i ds
   have uw:Is F (.tup ds) v:=rd;simp only[Is] at uw;obtain⟨a,vs,e,h1,h2⟩:=uw;exact .inl ⟨a,vs,e,bw.of (S.sub _ _ h1),by rw[h2.length];exact q.1,F,ad,δ,ds,K,S,h2,q.2,k⟩
  ·rename_i ds
   obtain⟨a,vs,e,h1,h2⟩:=rd;exact .inr ⟨a,vs,e,a8.of h1,by rw[h2.length];exact q.1,F,ad,δ,ds,K,S,h2,q.2,k⟩
  ·exact q.elim
def fh(f:WE)(g:WG):WS:=fun K δ=>f δ fun x δ1=>g x δ1 K.nx
theorem M3{tg:Expr}{g:WG}(he:JE X e (tD f))(hg:JG X tg (gR g))(hs:swapsWithSole [tg] e pos.line X.env=pure false:=by rfl)(hw:swappedStores [tg] e X.env=pure none:=by rfl)
  (h1:(assignEach [tg] X.env).map (·.2)=[assign tg X.env]:=by rfl):JS X (.Assign [tg] e pos) (cY (fh f g)) :=
 (wR he hg hs hw h1).weak fun D σ H h0_=>el7 h0_ fun F ad δ K S q k =>⟨F,ad,δ,_,S,q,fun x δ1 h1 v F1 aK H1 E1 S1 V1=>⟨F1,aK,δ1,x,K.nx,S1,V1,h1,k.nx.ext E1⟩⟩
end
end
structure oh where
 items:List D
 bc:aD->Prop
abbrev WI:=aD->(oh->aD->Prop)->Prop
def om(F:Hp)(ad:List Addr)(it:oh)(J:It):Prop:=∀(F':Hp)(aF:List Addr)(δ:aD)(σ:St)(H:Hp),aE F F'->(∀(k:Nat)(a:Addr),ad[k]?=some a->aF[k]?=some a)->SR F' aF δ σ H->it.bc δ →
 J.stop it.items.length H/\∀(i:Nat)(d:D),it.items[i]?=some d->J.go i H/\∀x H',J.o9 i H x H'->aE H H'/\Is (Nw F' H H') d x
def hV(w:WI):TI:=fun σ H R=>∃F ad δ K,SR F ad δ σ H/\w δ K/\∀it δ',K it δ'->∀J F' aF H',Ext F ad δ.mu H F' aF δ'.mu H'->SR F' aF δ' σ H'->om F' aF it J->R J H'
noncomputable def rK(n:Nat):Option DV->Option DV->Option DV
 |none,_=>none
 |some _,some (.o k)=>if k<n then some (.o k) else none
 |some _,s=>s
noncomputable def eO(n:Nat):List (Option DV)->List (Option DV)->List (Option DV)
 |s0::r0,s::r=>rK n s0 s::eO n r0 r
 |[],_::r=>none::eO n [] r
 |_,[]=>[]
noncomputable def aD.trim(δ0 δ:aD):aD:=⟨eO δ0.mu.length δ0.sl δ.sl,δ.mu.take δ0.mu.length⟩
theorem yw{n:Nat}:∀(l0 l:List (Option DV)),(eO n l0 l).length=l.length
 |_::r0,_::r=>by rw[eO,Lk,Lk,yw r0 r]
 |[],_::r=>by rw[eO,Lk,Lk,yw [] r]
 |[],[]=>rfl
 |_::_,[]=>rfl
theorem yx{n:Nat}:∀{l0 l:List (Option DV)}{i:Nat}{x:DV},(eO n l0 l)[i]?=some (some x)->l[i]?=some (some x)/\∀k,x=.o k->k<n
 |s0::r0,s::r,0,x,h=>by
  have h:rK n s0 s=some x:=by simpa[eO] using h
  match s0,s,h with
  |none,_,h=>cases h
  |some _,none,h=>cases h
  |some _,some (.p d),h=>cases(show some (DV.p d)=some x from h);exact⟨rfl,fun k e=>nomatch e⟩
  |some _,some (.o k),h =>
   have h:(if k<n then some (DV.o k) else none)=some x:=h
   by_cases c:k<n
   ·rw[VB c] at h;cases h;exact⟨rfl,fun k' e=>by cases e;exact c⟩
   ·rw[Uo c] at h;cases h
 |s0::r0,s::r,i+1,x,h=>by
  have h:(eO n r0 r)[i]?=some (some x):=by simpa[eO] using h
  simpa using yx h
 |[],s::r,0,x,h=>by simp[eO] at h
 |[],s::r,i+1,x,h=>by
  have h:(eO n [] r)[i]?=some (some x):=by simpa[eO] using h
  simpa using yx h
 |[],[],i,x,h=>by simp[eO] at h
 |_::_,[],i,x,h=>by simp[eO] at h
section
variable{F F' H H':Hp}{ad aF:List Addr}{δ δ' δ0:aD}{σ σ' τ:St}{mu cy:List (Option OV)}{l:Addr}{o:HO}
theorem Lv.take{n:Nat}{a:Addr}(h:Lv (ad.take n) (mu.take n) a):Lv ad mu a:=by
 obtain⟨k,ov,e1,e2⟩:=h
 have hk:k<n:=by
  have:=(nV.mp e1).1;rw[We] at this;omega
 rw[Wo hk] at e1 e2;exact⟨k,ov,e1,e2⟩
theorem SR.trim(S:SR F ad δ σ H):SR F (ad.take δ0.mu.length) (δ0.trim δ) σ H:=by
 have tk:∀{k:Nat}{a:Addr},(ad.take δ0.mu.length)[k]?=some a->k<δ0.mu.length/\ad[k]?=some a:=fun{k a} e=>by
  have hk:k<δ0.mu.length:=by
   have:=(nV.mp e).1;rw[We] at this;omega
  rw[Wo hk] at e;exact⟨hk,e⟩
 have tm:∀{k:Nat}{w:Option OV},(δ.mu.take δ0.mu.length)[k]?=some w->k<δ0.mu.length/\δ.mu[k]?=some w:=fun{k w} e=>by
  have hk:k<δ0.mu.length:=by
   have:=(nV.mp e).1;rw[We] at this;omega
  rw[Wo hk] at e;exact⟨hk,e⟩
 refine⟨S.sub,fun a x=>S.off a x.take,?_,fun k l a w w' e1 e2 e3 e4=>S.inj k l a w w' (tk e1).2 (tk e2).2 (tm e3).2 (tm e4).2,fun k ov e=>?_,fun i x e=>?_,?_,S.tab,S.nt⟩
 ·show(ad.take _).length=(δ.mu.take _).length
  rw[We,We,S.bY]
 ·obtain⟨a,o,e1,e2,h⟩:=S.mu k ov (tm e).2
  exact⟨a,o,by rw[Wo (tm e).1];exact e1,e2,h⟩
 ·obtain⟨e1,e2⟩:=yx e
  obtain⟨v,h1,h2⟩:=S.sl i x e1;refine⟨v,h1,?_⟩
  cases x with
  |p d=>exact h2
  |o k =>
   obtain⟨a,h3,h4⟩:=h2;exact⟨a,by rw[Wo (e2 k rfl)];exact h3,h4⟩
 ·show σ.length=(eO _ _ _).length
  rw[yw];exact S.len
theorem Ext.trim{n:Nat}(e:Ext F ad mu H F' aF cy H')(hn:ad.length=n):Ext F ad mu H F' (aF.take n) (cy.take n) H' :=
 ⟨e.same,e.new,e.keep,fun k a h=>by rw[Wo (by rw[<-hn];exact(nV.mp h).1)];exact e.pre k a h,fun a x=>e.bW a x.take,e.iB⟩
theorem SR.other(S:SR F ad δ σ H)(hf:F l=none)(hl:¬ Lv ad δ.mu l)(tk:aH.ok (upd H l o)):SR F ad δ σ (upd H l o):=by
 refine⟨fun a u e=>?_,S.off,S.bY,S.inj,fun k ov e=>?_,S.sl,S.len,tk,S.nt⟩
 ·rw[aU (cL e hf)];exact S.sub a u e
 ·obtain⟨a,u,e1,e2,h⟩:=S.mu k ov e
  exact⟨a,u,e1,by rw[aU fun z=>hl (by subst z;exact⟨k,ov,e1,e⟩)];exact e2,h⟩
theorem Ext.other(e:Ext F ad mu H F' aF cy H')(hl:H l=none):Ext F ad mu H F' aF cy (upd H' l o) :=
 ⟨e.same,e.new,fun a u h n t=>by rw[aU (cL h hl)];exact e.keep a u h n t,e.pre,e.bW,fun a u h=>by rw[aU (cL h hl)];exact e.iB a u h⟩
theorem SR.adopt(S:SR F ad δ σ H)(hf:F l=none)(ho:H l=some o)(hl:¬ Lv ad δ.mu l)(no:∀ps,o≠.tbl ps:=by intro _ z;cases z):SR (upd F l o) ad δ σ H:=by
 have sm:aE F (upd F l o):=cz hf
 refine⟨fun a u e=>?_,fun a x=>?_,S.bY,S.inj,fun k ov e=>?_,fun i x e=>?_,S.len,S.tab,fun a ha=>by
  obtain⟨ps,q⟩:=aH.tb S.tab ha;rw[aU fun z=>by subst z;rw[ho] at q;exact no ps (VY q)]
  exact S.nt a ha⟩
 ·by_cases c:a=l
  ·subst c;rw[bE] at e;cases e;exact ho
  ·rw[aU c] at e;exact S.sub a u e
 ·rw[aU fun z=>hl (by subst z;exact x)];exact S.off a x
 ·obtain⟨a,u,e1,e2,h⟩:=S.mu k ov e
  exact⟨a,u,e1,e2,h.same sm⟩
 ·obtain⟨v,e1,h⟩:=S.sl i x e
  refine⟨v,e1,?_⟩
  cases x with
  |p d=>exact Is.same sm h
  |o k=>exact h
theorem Ext.adopt(e:Ext F ad mu H F' aF cy H')(hl:H l=none)(hf:F' l=none):Ext F ad mu H (upd F' l o) aF cy H' :=
 ⟨e.same.trans (cz hf),fun a u h=>by
  by_cases c:a=l
  ·subst c;exact .inr (.inl hl)
  ·rw[aU c] at h;exact e.new a u h,e.keep,e.pre,e.bW,e.iB⟩
theorem SR.dq{ov:OV}(S:SR F ad δ σ H)(hf:F l=none)(ho:H l=some o)(hl:¬ Lv ad δ.mu l)(h:dY F ov o):SR F (ad++[l]) ⟨δ.sl,δ.mu++[some ov]⟩ σ H:=by
 have old:∀{k:Nat}{w:OV},(δ.mu++[some ov])[k]?=some (some w)->(k<δ.mu.length/\δ.mu[k]?=some (some w))\/(k=δ.mu.length/\w=ov):=fun{k w} e=>by
  by_cases c:k<δ.mu.length
  ·rw[VE c] at e;exact .inl ⟨c,e⟩
  ·have hl:=(nV.mp e).1
   rw[C4,VU] at hl;have ek:k=δ.mu.length:=by omega
   subst ek;rw[VF (ua _),Wr] at e;exact .inr ⟨rfl,by simpa using e.symm⟩
 have pre:∀{k:Nat},k<δ.mu.length->(ad++[l])[k]?=ad[k]?:=fun{k} c=>VE (by rw[S.bY];exact c);have last:(ad++[l])[δ.mu.length]?=some l:=by rw[<-S.bY,VF (ua _),Wr];rfl
 refine⟨S.sub,fun a x=>?_,by rw[C4,C4,S.bY];rfl,fun k k' a w w' e1 e2 e3 e4=>?_,fun k w e=>?_,fun i x e=>?_,S.len,S.tab,S.nt⟩
 ·obtain⟨k,w,e1,e2⟩:=x
  rcases old e2 with⟨c,e3⟩|⟨c,e3⟩
  ·rw[pre c] at e1;exact S.off a ⟨k,w,e1,e3⟩
  ·subst c;rw[last] at e1;cases e1;exact hf
 ·rcases old e3 with⟨c,q⟩|⟨c,q⟩
  ·rw[pre c] at e1
   rcases old e4 with⟨c',q'⟩|⟨c',q'⟩
   ·rw[pre c'] at e2;exact S.inj k k' a w w' e1 e2 q q'
   ·subst c';rw[last] at e2;cases e2;exact absurd ⟨k,w,e1,q⟩ hl
  ·subst c;rw[last] at e1;cases e1
   rcases old e4 with⟨c',q'⟩|⟨c',q'⟩
   ·rw[pre c'] at e2;exact absurd ⟨k',w',e2,q'⟩ hl
   ·exact c'.symm
 ·rcases old e with⟨c,q⟩|⟨c,q⟩
  ·obtain⟨a,u,e1,e2,h'⟩:=S.mu k w q
   exact⟨a,u,by rw[pre c];exact e1,e2,h'⟩
  ·subst c;subst q;exact⟨l,o,last,ho,h⟩
 ·obtain⟨v,e1,h'⟩:=S.sl i x e
  refine⟨v,e1,?_⟩
  cases x with
  |p d=>exact h'
  |o k =>
   obtain⟨a,e2,e3⟩:=h';exact⟨a,by rw[VE (nV.mp e2).1];exact e2,e3⟩
theorem Ext.dq{ov:OV}(e:Ext F ad mu H F' aF cy H')(hl:H l=none)(hm:aF.length=cy.length):Ext F ad mu H F' (aF++[l]) (cy++[some ov]) H' :=
 ⟨e.same,e.new,e.keep,fun k a h=>by rw[VE (nV.mp (e.pre k a h)).1];exact e.pre k a h,fun a x=>by
  obtain⟨k,w,e1,e2⟩:=x
  by_cases c:k<cy.length
  ·rw[VE c] at e2
   rw[VE (by rw[hm];exact c)] at e1;exact e.bW a ⟨k,w,e1,e2⟩
  ·have d9:=(nV.mp e2).1
   rw[C4,VU] at d9;have ek:k=aF.length:=by rw[hm];omega
   subst ek;rw[VF (ua _),Wr] at e1;have:l=a:=by simpa using e1
   subst this;exact .inr hl,e.iB⟩
theorem SR.back{sl:List (Option DV)}(S0:SR F ad δ σ H)(e:Ext F ad δ.mu H F' aF cy H')(S:SR F' aF ⟨sl,cy⟩ τ H'):SR F' aF ⟨δ.sl,cy⟩ σ H' :=
 ⟨S.sub,S.off,S.bY,S.inj,S.mu,fun i x q=>let⟨v,h1,h2⟩:=S0.sl i x q;⟨v,h1,h2.ext e⟩,S0.len,S.tab,S.nt⟩
noncomputable def cF(cp:List (Option Nat))(sl:List (Option DV)):List (Option DV):=cp.map fun o=>match o with
 |some i=>(sl[i]?).join
 |none=>none
theorem SR.oo{cp:List (Option Nat)}(S:SR F ad δ σ H):SR F ad ⟨cF cp δ.sl,δ.mu⟩ (gQ cp σ) H:=by
 refine⟨S.sub,S.off,S.bY,S.inj,S.mu,fun j x e=>?_,by unfold gQ cF;rw[nU,nU],S.tab,S.nt⟩;unfold cF at e;rw[Lq] at e;obtain⟨o,e1,e2⟩:=Vz.mp e
 match o,e2 with
 |none,e2=>cases e2
 |some i,e2 =>
  have e2:(δ.sl[i]?).join=some x:=e2
  cases q:δ.sl[i]? with
  |none=>rw[q] at e2;cases e2
  |some z =>
   rw[q] at e2;have e3:z=some x:=e2;subst e3;obtain⟨v,h1,h2⟩:=S.sl i x q;refine⟨v,?_,h2⟩;unfold gQ;rw[Lq,e1];show some ((σ[i]?).join)=some (some v);rw[h1];rfl
end
def jw(δ0:aD)(bc:aD->Prop)(g:WG)(b:WS)(K:KS):List D->aD->Prop
 |[],δ=>bc δ/\K.nx δ
 |d::r,δ=>bc δ/\g (.p d) δ fun δ1=>b {nx:=fun δ2=>jw δ0 bc g b K r (δ0.trim δ2),ct:=fun δ2=>jw δ0 bc g b K r (δ0.trim δ2),bk:=K.nx,rt:=K.rt} δ1
def cI(w:WI)(g:WG)(b:WS):WS:=fun K δ=>w δ fun it δ1=>jw δ1 it.bc g b K it.items δ1
def iD(δ0:aD)(bc:aD->Prop)(g:WG)(t:WT)(f:WE)(K:List D->aD->Prop):List D->List D->aD->Prop
 |[],acc,δ=>bc δ/\K acc δ
 |d::r,acc,δ=>bc δ/\g (.p d) δ fun δ1=>t δ1 fun b δ2=>if b=true then f δ2 fun x δ3=>jN x δ3 fun e δ4=>acc.length<1000/\iD δ0 bc g t f K r (acc++[e]) (δ0.trim δ4) else iD δ0 bc g t f K r acc (δ0.trim δ2)
def bU(w:WI)(cp:List (Option Nat))(g:WG)(t:WT)(f:WE):WE:=fun δ K=>w δ fun it δ1=>iD ⟨cF cp δ1.sl,δ1.mu⟩ it.bc g t f (fun acc δ'=>K (.p (.lst acc)) ⟨δ1.sl,δ'.mu⟩) it.items [] ⟨cF cp δ1.sl,δ1.mu⟩
def jP(w:WI)(cp:List (Option Nat))(g:WG)(t:WT)(f:WE):WE:=fun δ K=>w δ fun it δ1=>iD ⟨cF cp δ1.sl,δ1.mu⟩ it.bc g t f (fun acc δ'=>K (.o δ'.mu.length) ⟨δ1.sl,δ'.mu++[some (.lst acc)]⟩) it.items [] ⟨cF cp δ1.sl,δ1.mu⟩
section
variable{X:Cx}{tg iter elt:Expr}{body:List Stmt}{w:WI}{g:WG}{b:WS}{pos:Pos}{ifs:List Expr}{t:WT}{f:WE}{scope:Scope}
theorem M4[i0](hp:PassesOwn (model X.prog X.w) X.A X.env X.xe)(hc:X.calm=true)(hi:JI X tg iter (hV w))(hg:JG X tg (gR g))(hb:cM X body (cY b))(hs:∀x,foldedSetIterable iter X.env x=pure x:=by intro _;rfl):
  JS X (.For tg iter body [] pos) (cY (cI w g b)):=(Cg hp hc hi hg hb hs).weak fun D σ H h0_=>el7 h0_ fun F ad δ K S q k =>by
 refine⟨F,ad,δ,_,S,q,fun it δ1 h1 J F1 aK H1 E1 S1 I1=>?_⟩;have k1:=k.ext E1;refine⟨fun i m σ' H'=>∃F' aF δ',i+m=it.items.length/\Ext F1 aK δ1.mu H1 F' aF δ'.mu H'/\SR F' aF δ' σ' H'/\jw δ1 it.bc g b K (it.items.drop i) δ',⟨it.items.length,F1,aK,δ1,by omega,.refl,S1,h1⟩,?_⟩;rintro i m σ' H' ⟨F',aF,δ',hm,E',S',h⟩
 by_cases cB:i<it.items.length
 ·rw[Xk cB] at h
  obtain⟨ck,h⟩:=h;obtain⟨go,yl⟩:=(I1 F' aF δ' σ' H' E'.same E'.pre S' ck).2 i _ (nR cB);refine .inr ⟨go,fun σ2 H2=>∃F2 bo δ2,Ext F1 aK δ1.mu H1 F2 bo δ2.mu H2/\SR F2 bo δ2 σ2 H2/\jw δ1 it.bc g b K (it.items.drop (i+1)) δ2,fun σ2 H2 ⟨F2,bo,δ2,e1,e2,e3⟩=>⟨m-1,by omega,F2,bo,δ2,by omega,e1,e2,e3⟩,fun x H2 y=>?_⟩;obtain⟨sm,is⟩:=yl x H2 y;have E2:=E'.trans (Ext.al S' sm);refine⟨_,aF,δ',.p _,_,S'.al sm,is,h,fun δ3 h3 F3 oq σ3 H3 E3 S3=>?_⟩;have rL:=E2.trans E3;refine⟨F3,oq,δ3,_,S3,h3,⟨fun δ4 h4 F4 ux σ4 H4 E4 S4=>⟨F4,_,_,(rL.trans E4).trim S1.bY,S4.trim,h4⟩,k1.nx.ext rL,fun δ4 h4 F4 ux σ4 H4 E4 S4=>⟨F4,_,_,(rL.trans E4).trim S1.bY,S4.trim,h4⟩,(k1.ext rL).rt,(k1.ext rL).kp⟩⟩
 ·have ei:i=it.items.length:=by omega
  subst ei;rw[ZR (ua _)] at h;obtain⟨ck,h⟩:=h;exact .inl ⟨(I1 F' aF δ' σ' H' E'.same E'.pre S' ck).1,k1.nx _ h _ _ _ _ E' S'⟩
def bI:WT:=fun δ K=>K true δ
theorem JF.weak{ifs:List Expr}{t t':TT}(h:JF X ifs t)(k:∀σ H Q,t' σ H Q->t σ H Q):JF X ifs t':=⟨fun pins s σ H Q I q=>h pins s σ H Q I (k σ H Q q)⟩
theorem M5:JF X [] (b8 bI):=nX.weak fun σ H Q h0_=>el7 h0_ fun F ad δ K S q k =>k _ _ q _ _ _ .refl S
theorem M6{c:Expr}(h:JT X c (b8 t)):JF X [c] (b8 t):=Ls h
theorem DW{J:It}{l:Addr}{F1:Hp}{aK:List Addr}{δ1:aD}{σ:St}{H1:Hp}{it:oh}{cp:List (Option Nat)}{Q:VK}{K:List D->aD->Prop}(S1:SR F1 aK δ1 σ H1)(I1:om F1 aK it J)(hl:H1 l=none)
  (h:iD ⟨cF cp δ1.sl,δ1.mu⟩ it.bc g t f K it.items [] ⟨cF cp δ1.sl,δ1.mu⟩)
  (fin:∀acc δ' F' aF τ H' ys,K acc δ'->Ext F1 aK δ1.mu H1 F' aF δ'.mu H'->SR F' aF δ' τ H'->H' l=some (.lst ys)->F' l=none->¬ Lv aF δ'.mu l->ae F' acc ys->Q (.ref l) H') :
  C_ J (gR g) (b8 t) (tD f) l (gQ cp σ) (upd H1 l (.lst [])) Q:=by
 have f1:F1 l=none:=by
  cases q:F1 l with
  |none=>rfl
  |some u=>rw[S1.sub l u q] at hl;cases hl
 have nl:∀{ad mu},(∀a,Lv ad mu a->Lv aK δ1.mu a\/H1 a=none)->True:=fun _=>trivial
 have l1:¬ Lv aK δ1.mu l:=fun⟨k,ov,e1,e2⟩=>by
  obtain⟨a,o,e3,e4,_⟩:=S1.mu k ov e2;rw[e1] at e3;cases e3;rw[hl] at e4;cases e4
 have S0:SR F1 aK ⟨cF cp δ1.sl,δ1.mu⟩ (gQ cp σ) (upd H1 l (.lst [])):=S1.oo.other f1 l1 (aH.same S1.tab (cz hl));refine⟨fun i m τ H'=>∃F' aF δ' acc ys,i+m=it.items.length/\Ext F1 aK δ1.mu H1 F' aF δ'.mu H'/\SR F' aF δ' τ H'/\H' l=some (.lst ys)/\F' l=none/\¬ Lv aF δ'.mu l/\ae F' acc ys/\iD ⟨cF cp δ1.sl,δ1.mu⟩ it.bc g t f K (it.items.drop i) acc δ',⟨it.items.length,F1,aK,_,[],[],by omega,Ext.refl.other hl,S0,bE,f1,l1,.nil,h⟩,?_⟩;rintro i m τ H' ⟨F',aF,δ',acc,ys,hm,E',S',d9,lC,mI,ia,h⟩
 by_cases cB:i<it.items.length
 ·rw[Xk cB] at h
  obtain⟨ck,h⟩:=h;obtain⟨go,yl⟩:=(I1 F' aF δ' τ H' E'.same E'.pre S' ck).2 i _ (nR cB)
  have step:∀{F2:Hp}{bo:List Addr}{yy:List (Option OV)}{H2:Hp},Ext F' aF δ'.mu H' F2 bo yy H2->H2 l=some (.lst ys)/\F2 l=none/\¬ Lv bo yy l/\ae F2 acc ys:=fun{F2 bo yy H2} e=>by
   refine⟨e.keep _ _ d9 mI (fun z=>by obtain⟨ps,q⟩:=aH.tb S1.tab z;rw[hl] at q;cases q),?_,fun z=>?_,ia.same e.same⟩
   ·cases q:F2 l with
    |none=>rfl
    |some u =>
     rcases e.new l u q with z|z|z
     ·rw[lC] at z;cases z
     ·rw[d9] at z;cases z
     ·exact absurd z mI
   ·rcases e.bW l z with z|z
    ·exact mI z
    ·rw[d9] at z;cases z
  refine .inr ⟨go,fun τ2 H2=>∃F2 bo δ2 lD uy,Ext F1 aK δ1.mu H1 F2 bo δ2.mu H2/\SR F2 bo δ2 τ2 H2/\H2 l=some (.lst uy)/\F2 l=none/\¬ Lv bo δ2.mu l/\ae F2 lD uy/\iD ⟨cF cp δ1.sl,δ1.mu⟩ it.bc g t f K (it.items.drop (i+1)) lD δ2,
   fun τ2 H2 ⟨F2,bo,δ2,lD,uy,r⟩=>⟨m-1,by omega,F2,bo,δ2,lD,uy,by omega,r⟩,fun x H2 y=>?_⟩
  obtain⟨sm,is⟩:=yl x H2 y;have X2:=Ext.al S' sm;refine⟨_,aF,δ',.p _,_,S'.al sm,is,h,fun δ3 h3 F3 oq σ3 H3 X3 S3=>?_⟩;refine⟨F3,oq,δ3,_,S3,h3,fun bb δ4 h4 F4 ux H4 X4 S4=>?_⟩;have yz:=(X2.trans X3).trans X4
  cases bb with
  |false =>
   dsimp only at h4 ⊢;rw[Uo VC] at h4 ⊢;obtain⟨a1,a2,a3,a4⟩:=step yz;exact⟨F4,_,_,acc,ys,(E'.trans yz).trim S1.bY,S4.trim (δ0:=⟨cF cp δ1.sl,δ1.mu⟩),a1,a2,fun z=>a3 z.take,a4,h4⟩
  |true =>
   dsimp only at h4 ⊢;rw[VB rfl] at h4 ⊢;refine⟨F4,ux,δ4,_,S4,h4,fun y δ5 h5 v F5 Uw H5 X5 S5 V5=>?_⟩;obtain⟨e,δ6,F6,⟨hlen,h6⟩,X6,S6,i6⟩:=oe S5 V5 h5;have DX:=(yz.trans X5).trans X6;obtain⟨a1,a2,a3,a4⟩:=step DX;refine⟨ys,a1,nW (by rw[a4.length];omega),F6,_,_,acc++[e],ys++[v],?_,(S6.other a2 a3 (aH.put S6.tab a1 (.inl ⟨_,rfl⟩))).trim (δ0:=⟨cF cp δ1.sl,δ1.mu⟩),bE,a2,fun z=>a3 z.take,a4.snoc i6,h6⟩;exact((E'.trans DX).other hl).trim S1.bY
 ·have ei:i=it.items.length:=by omega
  subst ei;rw[ZR (ua _)] at h;obtain⟨ck,h⟩:=h;exact .inl ⟨(I1 F' aF δ' τ H' E'.same E'.pre S' ck).1,fin _ _ _ _ _ _ _ h E' S' d9 lC mI ia⟩
theorem DY{cp:List (Option Nat)}:∀σ H Q,tD (bU w cp g t f) σ H Q->qZ (hV w) cp (fun _=>gR g) (fun _=>b8 t) (fun _=>tD f) σ H Q:=fun σ H Q h0_=>el7 h0_ fun F ad δ K S q k =>by
 refine⟨F,ad,δ,_,S,q,fun it δ1 h1 J F1 aK H1 E1 S1 I1=>fun d l hl=>?_⟩;refine DW S1 I1 hl h1 fun acc δ' F' aF τ H' ys hk E' S' d9 lC mI ia=>?_;have sm:aE F' (upd F' l (.lst ys)):=cz lC;refine k _ _ hk _ _ _ _ (E1.trans (E'.adopt hl lC)) (SR.back (sl:=δ'.sl) S1 (E'.adopt hl lC) (S'.adopt lC d9 mI)) ?_;show Is _ (.lst acc) _;simp only[Is];exact⟨l,ys,rfl,bE,ia.same sm⟩
theorem DZ{cp:List (Option Nat)}:∀σ H Q,tD (jP w cp g t f) σ H Q->qZ (hV w) cp (fun _=>gR g) (fun _=>b8 t) (fun _=>tD f) σ H Q:=fun σ H Q h0_=>el7 h0_ fun F ad δ K S q k =>by
 refine⟨F,ad,δ,_,S,q,fun it δ1 h1 J F1 aK H1 E1 S1 I1=>fun d l hl=>?_⟩;refine DW S1 I1 hl h1 fun acc δ' F' aF τ H' ys hk E' S' d9 lC mI ia=>?_;have S2:=S'.dq (ov:=.lst acc) lC d9 mI ⟨ys,rfl,ia⟩;have E2:=E'.dq (ov:=.lst acc) hl S'.bY;refine k _ _ hk _ _ _ _ (E1.trans E2) (SR.back (sl:=δ'.sl) S1 E2 S2) ⟨l,?_,rfl⟩;rw[<-S'.bY,VF (ua _),Wr];rfl
theorem M7(cp:List (Option Nat))(Nb:List Str)(hc:X.calm=true)(hi:JI X tg iter (hV w))(hg:∀d,JG (bF X scope Nb d) tg (gR g))(hf:∀d,JF (bF X scope Nb d) ifs (b8 t))(he:∀d,JE (bF X scope Nb d) elt (tD f))
  (hk:scope.kind=.function:=by rfl) (ho:iY X.N X.env.scope scope Nb cp=true:=by first|rfl|kernel_rfl) (hs:∀x,foldedSetIterable iter X.env x=pure x:=by intro _;rfl) :
  JE X (.ListComp elt [⟨tg,iter,ifs,0⟩] scope pos) (tD (bU w cp g t f)):=(Dh cp Nb hc hi hg hf he hk ho hs).weak DY
theorem M8(cp:List (Option Nat))(Nb:List Str)(hc:X.calm=true)(hi:JI X tg iter (hV w))(hg:∀d,JG (bF X scope Nb d) tg (gR g))(hf:∀d,JF (bF X scope Nb d) ifs (b8 t))(he:∀d,JE (bF X scope Nb d) elt (tD f))
  (hk:scope.kind=.function:=by rfl) (ho:iY X.N X.env.scope scope Nb cp=true:=by first|rfl|kernel_rfl) (hs:∀x,foldedSetIterable iter X.env x=pure x:=by intro _;rfl) :
  JE X (.ListComp elt [⟨tg,iter,ifs,0⟩] scope pos) (tD (jP w cp g t f)):=(Dh cp Nb hc hi hg hf he hk ho hs).weak DZ
theorem M9[i0](cp:List (Option Nat))(Nb:List Str){i:Nat}{x:Str}{pos' dg:Pos}(hN:X.N.Nodup)(hi:X.N[i]?=some x)(hx:Loc X.env.scope x)(hc:X.calm=true)(hit:JI X tg iter (hV w))(hg:∀d,JG (bF X scope Nb d) tg (gR g))(hf:∀d,JF (bF X scope Nb d) ifs (b8 t))(he:∀d,JE (bF X scope Nb d) elt (tD f))
  (hk:scope.kind=.function:=by rfl) (ho:iY X.N X.env.scope scope Nb cp=true:=by first|rfl|kernel_rfl) (hs:∀x,foldedSetIterable iter X.env x=pure x:=by intro _;rfl)
  (lq:swapsWith (.ListComp elt [⟨tg,iter,ifs,0⟩] scope pos) (some (.Name x pos')) dg.line X.env=pure true:=by rfl)
  (iR:eC X x:=by first|exact .inl rfl|exact .inr rfl|assumption) :
  JS X (.Assign [.Name x pos'] (.ListComp elt [⟨tg,iter,ifs,0⟩] scope pos) dg) (cY (ay i (bU w cp g t f))) :=
 (Di cp Nb hN hi hx hc hit hg hf he hk ho hs lq iR).weak fun D σ H h0_=>el7 h0_ fun F ad δ K S q k =>DY σ H _ ⟨F,ad,δ,_,S,q,fun x δ1 h1 v F1 aK H1 E1 S1 V1=>k.nx _ h1 _ _ _ _ E1 (S1.set V1)⟩
theorem M_[i0](cp:List (Option Nat))(Nb:List Str){i:Nat}{x:Str}{pos' dg:Pos}(hN:X.N.Nodup)(hi:X.N[i]?=some x)(hx:Loc X.env.scope x)(hc:X.calm=true)(hit:JI X tg iter (hV w))(hg:∀d,JG (bF X scope Nb d) tg (gR g))(hf:∀d,JF (bF X scope Nb d) ifs (b8 t))(he:∀d,JE (bF X scope Nb d) elt (tD f))
  (hk:scope.kind=.function:=by rfl) (ho:iY X.N X.env.scope scope Nb cp=true:=by first|rfl|kernel_rfl) (hs:∀x,foldedSetIterable iter X.env x=pure x:=by intro _;rfl)
  (lq:swapsWith (.ListComp elt [⟨tg,iter,ifs,0⟩] scope pos) (some (.Name x pos')) dg.line X.env=pure true:=by rfl)
  (iR:eC X x:=by first|exact .inl rfl|exact .inr rfl|assumption) :
  JS X (.Assign [.Name x pos'] (.ListComp elt [⟨tg,iter,ifs,0⟩] scope pos) dg) (cY (ay i (jP w cp g t f))) :=
 (Di cp Nb hN hi hx hc hit hg hf he hk ho hs lq iR).weak fun D σ H h0_=>el7 h0_ fun F ad δ K S q k =>DZ σ H _ ⟨F,ad,δ,_,S,q,fun x δ1 h1 v F1 aK H1 E1 S1 V1=>k.nx _ h1 _ _ _ _ E1 (S1.set V1)⟩
end
inductive RV where
 |p (d:D)|n (ds:List D)|a (j:Nat)
abbrev GD:=List DV->List OV->(RV->List OV->Prop)->Prop
structure yA(F:Hp)(ad:List Addr)(H:Hp)(r:RV)(ows:List OV)(v:V)(F' H':Hp):Prop where
 sub:aE F' H'
 same:aE F F'
 new:∀a o,F' a=some o->F a=some o\/H a=none
 keep:∀a o,H a=some o->a∉ad->a∉aH.ad->H' a=some o
 tab:aH.ok H'
 nt:∀a∈aH.ad,F' a=none
 len:ows.length=ad.length
 own:∀(j:Nat)(ow:OV),ows[j]?=some ow->∃a o,ad[j]?=some a/\H' a=some o/\dY F' ow o
 off:∀a∈ad,F' a=none
 res:match r with
  |.p d=>Is F' d v
  |.n ds=>∃a vs,v=.ref a/\H a=none/\H' a=some (.lst vs)/\F' a=none/\ae F' ds vs
  |.a j=>∃a,ad[j]?=some a/\v=.ref a
def lE(G:GD)(n:Nat):Sp:=fun vs H Q _=>vs.length=n/\∃F ad ys az K,SR F ad ⟨ys.map some,az.map some⟩ (vs.map some) H/\G ys az K/\∀r ows,K r ows->∀v F' H',yA F ad H r ows v F' H'->Q v H'
def gD(n:Nat)(K:RV->List OV->Prop)(x:DV)(δ:aD):Prop:=∃ows,δ.mu.take n=ows.map some/\ows.length=n/\match x with
 |.p d=>K (.p d) ows
 |.o k=>if k<n then K (.a k) ows else match δ.mu[k]? with
  |some (some (.lst ds))=>K (.n ds) ows\/K (.p (.lst ds)) ows
  |_=>False
noncomputable def jQ(n:Nat)(K:RV->List OV->Prop):KS where
 nx:=gD n K (.p .non)
 rt:=gD n K
section
variable{F F' H H':Hp}{ad aF:List Addr}{σ σ':St}
theorem D0{α:Type}{l:List α}{i:Nat}{x:α}(h:(l.map some)[i]?=some (some x)):l[i]?=some x:=by
 rw[Lq] at h;obtain⟨y,e,q⟩:=Vz.mp h;cases q;exact e
theorem Na{α:Type}{l:List α}{i:Nat}{x:α}(h:l[i]?=some x):(l.map some)[i]?=some (some x):=by
 rw[Lq,h];rfl
theorem SR.start{ys:List DV}{mu:List (Option OV)}{vs:List V}{N:List Str}(S:SR F ad ⟨ys.map some,mu⟩ (vs.map some) H):SR F ad ⟨ys.map some++List.replicate (N.length-vs.length) none,mu⟩ (start N vs) H:=by
 have hl:vs.length=ys.length:=by
  have:=S.len;rw[nU] at this;show vs.length=ys.length;rw[this];show(ys.map some).length=_;rw[nU]
 refine⟨S.sub,S.off,S.bY,S.inj,S.mu,fun i x e=>?_,?_,S.tab,S.nt⟩
 ·have hi:i<ys.length:=by
   by_cases c:i<ys.length
   ·exact c
   ·rw[VF (by rw[nU];omega),Yn] at e
    split at e
    ·cases e
    ·cases e
  rw[VE (by rw[nU];exact hi)] at e;obtain⟨v,h1,h2⟩:=S.sl i x e;exact⟨v,by unfold L2.start;rw[VE (by rw[nU,hl];exact hi)];exact h1,h2⟩
 ·unfold L2.start
  show _=(ys.map some++_).length;rw[C4,C4,YH,YH,nU,nU,hl]
theorem uz{az:List OV}{δ:aD}{x:DV}{v:V}{K:RV->List OV->Prop}{Q:VK}{sl:List (Option DV)}{τ:St}(S0:SR F ad ⟨sl,az.map some⟩ τ H)(E:Ext F ad (az.map some) H F' aF δ.mu H')(S:SR F' aF δ σ' H')(V:eN F' aF x v)
  (h:gD az.length K x δ) (k:∀r ows,K r ows->∀v F' H',yA F ad H r ows v F' H'->Q v H'):Q v H':=by
 obtain⟨ows,tk,hl,h⟩:=h;have al:ad.length=az.length:=by have:=S0.bY;rwa [nU] at this
 have lv:∀(j:Nat)(a:Addr),ad[j]?=some a->∃ow,ows[j]?=some ow/\δ.mu[j]?=some (some ow)/\Lv aF δ.mu a:=fun j a e=>by
  have hj:j<az.length:=by rw[<-al];exact(nV.mp e).1
  have h1:(δ.mu.take az.length)[j]?=some (some (ows[j]'(by rw[hl];exact hj))):=by
   rw[tk,Lq,nR (by rw[hl];exact hj)];rfl
  rw[Wo hj] at h1;exact⟨_,nR (by rw[hl];exact hj),h1,j,_,E.pre j a e,h1⟩
 have jR:∀a∈ad,F' a=none:=fun a ha=>by
  obtain⟨j,e⟩:=Uq.mp ha;obtain⟨_,_,_,l⟩:=lv j a e;exact S.off a l
 have base:∀{F2:Hp},aE F' F2->aE F2 H'->(∀a o,F2 a=some o->F' a=some o\/(H a=none/\¬ a∈ad))->(∀a∈ad,F2 a=none)->(∀a∈aH.ad,F2 a=none)->∀{r:RV},(match r with
   |.p d=>Is F2 d v
   |.n ds=>∃a vs,v=.ref a/\H a=none/\H' a=some (.lst vs)/\F2 a=none/\ae F2 ds vs
   |.a j=>∃a,ad[j]?=some a/\v=.ref a)->yA F ad H r ows v F2 H':=fun{F2} s1 s2 n2 o2 Nc {r} res=>by
  refine⟨s2,E.same.trans s1,fun a o e=>?_,fun a o e n t=>?_,S.tab,Nc,by rw[hl,al],fun j ow e=>?_,o2,res⟩
  ·rcases n2 a o e with e|⟨e,_⟩
   ·rcases E.new a o e with z|z|⟨j,ov,z,_⟩
    ·exact .inl z
    ·exact .inr z
    ·rw[jR a (Uq.mpr ⟨j,z⟩)] at e;cases e
   ·exact .inr e
  ·exact E.keep a o e (fun⟨j,ov,z,_⟩=>n (Uq.mpr ⟨j,z⟩)) t
  ·have hj:j<ad.length:=by rw[al,<-hl];exact(nV.mp e).1
   obtain⟨yB,e1,e2,_⟩:=lv j _ (nR hj);rw[e] at e1;cases e1;obtain⟨a,o,e3,e4,h5⟩:=S.mu j _ e2;rw[E.pre j _ (nR hj)] at e3;cases e3
   exact⟨_,o,nR hj,e4,h5.same s1⟩
 cases x with
 |p d=>exact k _ _ h _ _ _ (base (F2:=F') (fun _ _ e=>e) S.sub (fun _ _ e=>.inl e) jR S.nt V)
 |o i =>
  dsimp only at h;obtain⟨a,e1,rfl⟩:=V
  by_cases c:i<az.length
  ·rw[VB c] at h
   have ei:ad[i]?=some a:=by
    have:=E.pre i _ (nR (by rw[al];exact c));rw[e1] at this;rw[nR (by rw[al];exact c)];exact this.symm
   exact k _ _ h _ _ _ (base (F2:=F') (fun _ _ e=>e) S.sub (fun _ _ e=>.inl e) jR S.nt ⟨a,ei,rfl⟩)
  ·rw[Uo c] at h
   split at h
   ·rename_i ds em
    obtain⟨a',o,e2,e3,vs,rfl,h4⟩:=S.mu i _ em;rw[e1] at e2;cases e2
    have na:a∉ad:=fun z=>by
     obtain⟨j,e⟩:=Uq.mp z;obtain⟨ow,_,e5,_⟩:=lv j a e;have:i=j:=S.inj i j a _ _ e1 (E.pre j a e) em e5;subst this;exact c (by rw[<-al];exact(nV.mp e).1)
    have fa:F' a=none:=S.off a ⟨i,_,e1,em⟩
    have ha:H a=none:=by
     rcases E.bW a ⟨i,_,e1,em⟩ with⟨j,ov,z,_⟩|z
     ·exact absurd (Uq.mpr ⟨j,z⟩) na
     ·exact z
    rcases h with h|h
    ·exact k _ _ h _ _ _ (base (F2:=F') (fun _ _ e=>e) S.sub (fun _ _ e=>.inl e) jR S.nt ⟨a,vs,rfl,ha,e3,fa,h4⟩)
    ·refine k _ _ h _ _ _ (base (F2:=upd F' a (.lst vs)) (cz fa) (fun b o e=>?_) (fun b o e=>?_) (fun b hb=>?_) (fun b hb=>?_) ?_)
     ·by_cases z:b=a
      ·subst z;rw[bE] at e;cases e;exact e3
      ·rw[aU z] at e;exact S.sub b o e
     ·by_cases z:b=a
      ·subst z;exact .inr ⟨ha,na⟩
      ·rw[aU z] at e;exact .inl e
     ·rw[aU fun z=>na (by subst z;exact hb)];exact jR b hb
     ·obtain⟨ps,q⟩:=aH.tb S.tab hb
      rw[aU fun z=>by subst z;rw[e3] at q;cases q];exact S.nt b hb
     ·show Is _ (.lst ds) _
      simp only[Is];exact⟨a,vs,rfl,bE,h4.same (cz fa)⟩
   ·exact h.elim
end
theorem g7.Nd{P:Program}{w:World}{K:PySem.W.Frag}{mg:Str->Option Value}{base:Heap}{x qual:Str}{st:Stmt}{f:Addr}{fd:FuncData}{N ps:List Str}{k:Nat}{G:GD}(F:g7 K x qual st f fd)(S:my N ps (cN st))
  (eG:∀(a6:Value)(A:Around)(outer:List Env)(s:Shared)(H:Hp)(E:XK),a7 k (A.deeper (envOfC qual (cN st) s.heap.objs.size f a6)) →
   ∃B:WS,cM (eF gn P w K mg base N qual (cN st) f a6 A outer s H E).kF (gm st) (cY B)/\∀ys az K',ys.length=ps.length->G ys az K'->B (jQ az.length K') ⟨ys.map some++List.replicate (N.length-ps.length) none,az.map some⟩) :
  cV P w K mg base gn (k+1) f fd ps (lE G ps.length) :=
 F.xO S (fun vs H Q E h=>h.1) fun a6 A outer s H vs Q E hr h=>by
  obtain⟨hl,Fz,ad,ys,az,K',S0,g,kk⟩:=h;obtain⟨B,jb,hb⟩:=eG a6 A outer s H E hr
  have hy:ys.length=ps.length:=by
   have:=S0.len;rw[nU] at this;rw[<-hl,this];show _=(ys.map some).length;rw[nU]
  refine⟨_,jb,Fz,ad,⟨ys.map some++List.replicate (N.length-ps.length) none,az.map some⟩,jQ az.length K',by rw[<-hl];exact S0.start,hb ys az K' hy g,⟨fun δ' h F' aF σ' H' E' S'=>?_,fun δ' h=>h.elim,fun δ' h=>h.elim,fun y δ' h v F' aF σ' H' E' S' V=>?_,trivial⟩⟩
  ·exact uz (σ':=σ') S0 E' S' (x:=.p .non) (v:=.non) rfl h kk
  ·exact uz (σ':=σ') S0 E' S' V h kk
noncomputable def passes(mu:List (Option OV)):List DV->Nat->Option (List DV×List (Nat×OV))
 |[],_=>some ([],[])
 |.p d::xs,j=>match passes mu xs j with
  |some r=>some (.p d::r.1,r.2)
  |none=>none
 |.o k::xs,j=>match mu[k]? with
  |some (some ov)=>match passes mu xs (j+1) with
   |some r=>some (.o j::r.1,(k,ov)::r.2)
   |none=>none
  |_=>none
noncomputable def eQ(mu:List (Option OV)):List (Nat×OV)->List OV->List (Option OV)
 |(k,_)::r,ow::ows=>eQ (mu.set k (some ow)) r ows
 |_,_=>mu
noncomputable def jS:List (Nat×OV)->Bool
 |[]=>true
 |(k,_)::r => !(r.any fun e=>e.1==k)&&jS r
def lF(δ:aD)(fE:List (Nat×OV))(K:DV->aD->Prop)(r:RV)(ows:List OV):Prop:=match r with
 |.p d=>K (.p d) ⟨δ.sl,eQ δ.mu fE ows⟩
 |.n ds=>K (.p (.lst ds)) ⟨δ.sl,eQ δ.mu fE ows⟩
 |.a j=>match fE[j]? with
  |some ko=>K (.o ko.1) ⟨δ.sl,eQ δ.mu fE ows⟩
  |none=>False
def ot(δ:aD)(fE:List (Nat×OV))(K:DV->aD->Prop)(r:RV)(ows:List OV):Prop:=match r with
 |.n ds=>K (.o (eQ δ.mu fE ows).length) ⟨δ.sl,eQ δ.mu fE ows++[some (.lst ds)]⟩
 |_=>False
def aq(n:Nat)(G:GD)(fa:WA):WE:=fun δ K=>fa δ fun xs δ1=>match passes δ1.mu xs 0 with
 |some r=>(jS r.2=true/\r.1.length=n)/\G r.1 (r.2.map (·.2)) (lF δ1 r.2 K)
 |none=>False
def rM(n:Nat)(G:GD)(fa:WA):WE:=fun δ K=>fa δ fun xs δ1=>match passes δ1.mu xs 0 with
 |some r=>(jS r.2=true/\r.1.length=n)/\G r.1 (r.2.map (·.2)) (ot δ1 r.2 K)
 |none=>False
section
variable{F F' H H':Hp}{ad aF:List Addr}{δ:aD}{σ σ':St}
theorem uA{mu:List (Option OV)}(hm:∀(k:Nat) (ov:OV),mu[k]?=some (some ov)->∃a o,ad[k]?=some a/\H a=some o/\dY F ov o):∀{xs:List DV}{vs:List V}{j:Nat}{r:List DV×List (Nat×OV)},passes mu xs j=some r->cX F ad xs vs →
  ∃as:List Addr,as.length=r.2.length/\(∀(i:Nat)(ko:Nat×OV),r.2[i]?=some ko->mu[ko.1]?=some (some ko.2)/\∃a o,as[i]?=some a/\ad[ko.1]?=some a/\H a=some o/\dY F ko.2 o) ∧
   ∀(pre:List Addr),pre.length=j->∃_u:Unit,vs.length=r.1.length/\∀(i:Nat)(y:DV),r.1[i]?=some y->∃v,vs[i]?=some v/\eN F (pre++as) y v
 |[],vs,j,r,h,hv=>by
  cases h
  have:vs=[]:=hv;subst this;exact⟨[],rfl,fun i ko e=>by simp at e,fun pre _=>⟨(),rfl,fun i y e=>by simp at e⟩⟩
 |.p d::xs,_,j,r,h,⟨v,t,e,h1,h2⟩=>by
  subst e;unfold passes at h;split at h
  ·rename_i r' hr
   cases h
   obtain⟨as,l,b,c⟩:=uA hm hr h2;refine⟨as,l,b,fun pre hp=>⟨(),?_,fun i y e=>?_⟩⟩
   ·obtain⟨_,c1,_⟩:=c pre hp
    rw[Lk,Lk,c1]
   ·obtain⟨_,_,c2⟩:=c pre hp
    cases i with
    |zero=>cases(show some (DV.p d)=some y by simpa using e);exact⟨v,rfl,h1⟩
    |succ i=>simpa using c2 i y (by simpa using e)
  ·cases h
 |.o k::xs,_,j,r,h,⟨v,t,e,h1,h2⟩=>by
  subst e;unfold passes at h;split at h
  ·rename_i ov hk
   split at h
   ·rename_i r' hr
    cases h
    obtain⟨as,l,b,c⟩:=uA hm hr h2;obtain⟨a,e1,rfl⟩:=h1;obtain⟨a',o,e2,e3,e4⟩:=hm k ov hk;rw[e1] at e2;cases e2;refine⟨a::as,by rw[Lk,Lk,l],fun i ko e=>?_,fun pre hp=>⟨(),?_,fun i y e=>?_⟩⟩
    ·cases i with
     |zero=>cases(show some (k,ov)=some ko by simpa using e);exact⟨hk,a,o,rfl,e1,e3,e4⟩
     |succ i=>simpa using b i ko (by simpa using e)
    ·obtain⟨_,c1,_⟩:=c (pre++[a]) (by rw[C4,hp];rfl)
     rw[Lk,Lk,c1]
    ·obtain⟨_,_,c2⟩:=c (pre++[a]) (by rw[C4,hp];rfl)
     cases i with
     |zero =>
      cases(show some (DV.o j)=some y by simpa using e)
      refine⟨_,rfl,a,?_,rfl⟩;rw[VF (by omega),hp,Wr];rfl
     |succ i =>
      obtain⟨v',c3,c4⟩:=c2 i y (by simpa using e);exact⟨v',by simpa using c3,by rw[Xi] at c4;exact c4⟩
   ·cases h
  ·cases h
theorem D1:∀{fE:List (Nat×OV)},jS fE=true->∀(i j:Nat)(k:Nat)(a b:OV),fE[i]?=some (k,a)->fE[j]?=some (k,b)->i=j
 |[],_,i,j,k,a,b,e,_=>by simp at e
 |(k',ov)::r,h,i,j,k,a,b,e1,e2=>by
  unfold jS at h;simp only[Wa,YC] at h
  have no:∀(m:Nat)(c:OV),r[m]?=some (k',c)->False:=fun m c e=>by
   have:=Xs.mp h.1 _ (Uq.mpr ⟨m,e⟩);exact this (by simp)
  cases i with
  |zero =>
   cases(show some (k',ov)=some (k,a) by simpa using e1)
   cases j with
   |zero=>rfl
   |succ j=>exact(no j b (by simpa using e2)).elim
  |succ i =>
   cases j with
   |zero=>cases(show some (k',ov)=some (k,b) by simpa using e2);exact(no i a (by simpa using e1)).elim
   |succ j=>rw[D1 h.2 i j k a b (by simpa using e1) (by simpa using e2)]
theorem D2:∀(fE:List (Nat×OV))(ows:List OV)(mu:List (Option OV)),(eQ mu fE ows).length=mu.length
 |(k,_)::r,ow::ows,mu=>by rw[eQ,D2 r ows,Xj]
 |[],_,_=>rfl
 |_::_,[],_=>rfl
theorem uB:∀(fE:List (Nat×OV))(ows:List OV)(mu:List (Option OV))(l:Nat),(∀ko∈fE,ko.1≠l)->(eQ mu fE ows)[l]?=mu[l]?
 |(k,_)::r,ow::ows,mu,l,h=>by
  rw[eQ,uB r ows _ l fun ko hk=>h ko (C5 _ hk),Wx (h _ My)]
 |[],_,_,_,_=>rfl
 |_::_,[],_,_,_=>rfl
theorem D3:∀{fE:List (Nat×OV)}{ows:List OV}{mu:List (Option OV)}{i:Nat}{ko:Nat×OV}{ow:OV},jS fE=true->fE[i]?=some ko->ows[i]?=some ow->ko.1<mu.length->(eQ mu fE ows)[ko.1]?=some (some ow)
 |(k,ov)::r,yB::ows,mu,0,ko,ow,h,e1,e2,hl=>by
  cases(show some (k,ov)=some ko by simpa using e1)
  cases(show some yB=some ow by simpa using e2)
  unfold jS at h;simp only[Wa,YC] at h;rw[eQ,uB r ows _ k fun ko hk z=>absurd (by simpa using z) (Xs.mp h.1 ko hk),WJ hl]
 |(k,ov)::r,yB::ows,mu,i+1,ko,ow,h,e1,e2,hl=>by
  unfold jS at h;simp only[Wa,YC] at h;rw[eQ];exact D3 h.2 (by simpa using e1) (by simpa using e2) (by rw[Xj];exact hl)
 |[],_,_,i,_,_,_,e1,_,_=>by simp at e1
 |_::_,[],_,i,_,_,_,_,e2,_=>by simp at e2
theorem D4{xs:List DV}{vs:List V}{r:List DV×List (Nat×OV)}{G:GD}{n:Nat}{Q:VK}{E:XK}{K:RV->List OV->Prop}(S:SR F ad δ σ H)(V:cX F ad xs vs)(hn:vs.length=n)(hp:passes δ.mu xs 0=some r)(nd:jS r.2=true)(g:G r.1 (r.2.map (·.2)) K)
  (fin:∀res ows v F' H',K res ows->Ext F ad δ.mu H F' ad (eQ δ.mu r.2 ows) H'->SR F' ad ⟨δ.sl,eQ δ.mu r.2 ows⟩ σ H'->(match res with
   |.p d=>Is F' d v
   |.n ds=>∃a vs,v=.ref a/\H a=none/\H' a=some (.lst vs)/\F' a=none/\ae F' ds vs
   |.a j=>∃ko a,r.2[j]?=some ko/\ad[ko.1]?=some a/\v=.ref a)->Q v H'):lE G n vs H Q E:=by
 obtain⟨as,al,b,c⟩:=uA S.mu hp V;obtain⟨_,c1,c2⟩:=c [] rfl
 have pH:∀(i:Nat)(a:Addr),as[i]?=some a->Lv ad δ.mu a/\∃ko,r.2[i]?=some ko/\ad[ko.1]?=some a/\δ.mu[ko.1]?=some (some ko.2):=fun i a e=>by
  have hi:i<r.2.length:=by rw[<-al];exact(nV.mp e).1
  obtain⟨m1,a',o,e1,e2,_,_⟩:=b i _ (nR hi);rw[e] at e1;cases e1;exact⟨⟨_,_,e2,m1⟩,_,nR hi,e2,m1⟩
 refine⟨hn,F,as,r.1,r.2.map (·.2),K,⟨S.sub,fun a ⟨i,ov,e1,e2⟩=>S.off a (pH i a e1).1,by rw[al];show _=((r.2.map (·.2)).map some).length;rw[nU,nU],fun i j a ov ow e1 e2 _ _=>?_,fun i ov e=>?_,fun i y e=>?_,?_,S.tab,S.nt⟩,g,fun res ows hk v F' H' P=>?_⟩
 ·obtain⟨_,ko,k1,k2,k3⟩:=pH i a e1
  obtain⟨_,kp,p1,p2,p3⟩:=pH j a e2;have:ko.1=kp.1:=S.inj _ _ a _ _ k2 p2 k3 p3;exact D1 nd i j ko.1 ko.2 kp.2 k1 (by rw[this];exact p1)
 ·have e:=D0 e
  rw[Lq] at e;obtain⟨ko,e1,rfl⟩:=Vz.mp e;obtain⟨_,a,o,e2,_,e4,e5⟩:=b i ko e1;exact⟨a,o,e2,e4,e5⟩
 ·obtain⟨v,e1,e2⟩:=c2 i y (D0 e)
  exact⟨v,Na e1,by simpa using e2⟩
 ·show(vs.map some).length=(r.1.map some).length
  rw[nU,nU,c1]
 ·have ol:ows.length=r.2.length:=by rw[P.len,al]
  have l9:∀(l:Nat)(ow:OV),(eQ δ.mu r.2 ows)[l]?=some (some ow)->(∃(i:Nat)(ko:Nat×OV),r.2[i]?=some ko/\ko.1=l/\ows[i]?=some ow)\/((∀ko∈r.2,ko.1≠l)/\δ.mu[l]?=some (some ow)):=fun l ow e=>by
   by_cases z:∃ko∈r.2,ko.1=l
   ·obtain⟨ko,hk,rfl⟩:=z
    obtain⟨i,hi⟩:=Uq.mp hk;have ou:i<ows.length:=by rw[ol];exact(nV.mp hi).1
    have:=D3 (mu:=δ.mu) nd hi (nR ou) (nV.mp (b i ko hi).1).1;rw[e] at this;cases this
    exact .inl ⟨i,ko,hi,rfl,nR ou⟩
   ·have z':∀ko∈r.2,ko.1≠l:=fun ko hk q=>z ⟨ko,hk,q⟩
    rw[uB _ _ _ _ z'] at e;exact .inr ⟨z',e⟩
  have D5:∀(l:Nat)(ow:OV)(a:Addr),ad[l]?=some a->(eQ δ.mu r.2 ows)[l]?=some (some ow)->Lv ad δ.mu a:=fun l ow a e1 e2=>by
   rcases l9 l ow e2 with⟨i,ko,hi,rfl,_⟩|⟨_,q⟩
   ·exact⟨_,_,e1,(b i ko hi).1⟩
   ·exact⟨_,_,e1,q⟩
  have Nf:∀a,a∈as->Lv ad δ.mu a:=fun a ha=>by
   obtain⟨i,e⟩:=Uq.mp ha;exact(pH i a e).1
  have ex:Ext F ad δ.mu H F' ad (eQ δ.mu r.2 ows) H':=by
   refine⟨P.same,fun a o e=>?_,fun a o e n t=>P.keep a o e (fun z=>n (Nf a z)) t,fun _ _ e=>e,fun a ⟨l,ow,e1,e2⟩=>.inl (D5 l ow a e1 e2),fun a o e=>?_⟩
   ·rcases P.new a o e with z|z
    ·exact .inl z
    ·exact .inr (.inl z)
   ·by_cases z:a∈as
    ·obtain⟨i,e1⟩:=Uq.mp z
     have hi:i<ows.length:=by rw[P.len];exact(nV.mp e1).1
     obtain⟨a',o',e2,e3,_⟩:=P.own i _ (nR hi);rw[e1] at e2;cases e2;exact⟨o',e3⟩
    ·by_cases t:a∈aH.ad
     ·obtain⟨ps,q⟩:=aH.tb P.tab t
      exact⟨_,q⟩
     ·exact⟨o,P.keep a o e z t⟩
  have yC:∀a,Lv ad δ.mu a->F' a=none:=fun a l=>by
   by_cases z:a∈as
   ·exact P.off a z
   ·cases q:F' a with
    |none=>rfl
    |some u =>
     rcases P.new a u q with y|y
     ·rw[S.off a l] at y;cases y
     ·obtain⟨k,ov,e1,e2⟩:=l
      obtain⟨a',o,e3,e4,_⟩:=S.mu k ov e2;rw[e1] at e3;cases e3;rw[y] at e4;cases e4
  have sr:SR F' ad ⟨δ.sl,eQ δ.mu r.2 ows⟩ σ H':=by
   refine⟨P.sub,fun a ⟨l,ow,e1,e2⟩=>yC a (D5 l ow a e1 e2),by rw[S.bY];exact(D2 _ _ _).symm,fun k l a ov ow e1 e2 e3 e4=>?_,fun l ow e=>?_,fun i y e=>?_,S.len,P.tab,P.nt⟩
   ·have h3:∃w,δ.mu[k]?=some (some w):=by
     rcases l9 k ov e3 with⟨i,ko,hi,rfl,_⟩|⟨_,q⟩
     ·exact⟨_,(b i ko hi).1⟩
     ·exact⟨_,q⟩
    have h4:∃w,δ.mu[l]?=some (some w):=by
     rcases l9 l ow e4 with⟨i,ko,hi,rfl,_⟩|⟨_,q⟩
     ·exact⟨_,(b i ko hi).1⟩
     ·exact⟨_,q⟩
    obtain⟨_,h3⟩:=h3;obtain⟨_,h4⟩:=h4;exact S.inj k l a _ _ e1 e2 h3 h4
   ·rcases l9 l ow e with⟨i,ko,hi,rfl,ho⟩|⟨z,q⟩
    ·obtain⟨_,a,o,e1,e2,_,_⟩:=b i ko hi
     obtain⟨a',o',e3,e4,h5⟩:=P.own i ow ho;rw[e1] at e3;cases e3;exact⟨a,o',e2,e4,h5⟩
    ·obtain⟨a,o,e1,e2,h⟩:=S.mu l ow q
     refine⟨a,o,e1,P.keep a o e2 (fun y=>?_) (fun t=>?_),h.same P.same⟩
     ·obtain⟨i,e3⟩:=Uq.mp y
      obtain⟨_,ko,k1,k2,k3⟩:=pH i a e3;exact z ko (Uq.mpr ⟨i,k1⟩) (S.inj _ _ a _ _ k2 e1 k3 q)
     ·obtain⟨ps,q2⟩:=aH.tb S.tab t
      rw[e2] at q2;cases q2
      rcases h.kind with⟨_,z⟩|⟨_,z⟩<;>cases z
   ·obtain⟨v,e1,h⟩:=S.sl i y e
    exact⟨v,e1,h.ext ex⟩
  refine fin res ows v F' H' hk ex sr ?_;have oy:=P.res
  cases res with
  |p d=>exact oy
  |n ds=>exact oy
  |a j =>
   obtain⟨a,e1,e2⟩:=oy;obtain⟨_,ko,k1,k2,_⟩:=pH j a e1;exact⟨ko,a,k1,k2,e2⟩
end
section
variable{X:Cx}{fa:WA}{G:GD}{pos:Pos}
theorem D6{F1 F2 H1 H2:Hp}{aK:List Addr}{δ1:aD}{σ:St}{xs:List DV}{vs:List V}{r:List DV×List (Nat×OV)}{ows:List OV}{a:Addr}(S1:SR F1 aK δ1 σ H1)(V1:cX F1 aK xs vs)(hp:passes δ1.mu xs 0=some r)(n1:H1 a=none):¬ Lv aK (eQ δ1.mu r.2 ows) a:=fun⟨k,ov,e1,e2⟩=>by
 have c:∃ov,δ1.mu[k]?=some (some ov):=by
  by_cases y:∃ko∈r.2,ko.1=k
  ·obtain⟨ko,i7,rfl⟩:=y
   obtain⟨as,_,b,_⟩:=uA S1.mu hp V1;obtain⟨i,hi⟩:=Uq.mp i7;exact⟨_,(b i ko hi).1⟩
  ·rw[uB _ _ _ _ fun ko i7 q=>y ⟨ko,i7,q⟩] at e2
   exact⟨_,e2⟩
 obtain⟨Ng,c⟩:=c;obtain⟨a',o,e3,e4,_⟩:=S1.mu k Ng c;rw[e1] at e3;cases e3;rw[n1] at e4;cases e4
theorem cX.length{F:Hp}{ad:List Addr}:∀{xs:List DV}{vs:List V},cX F ad xs vs->vs.length=xs.length
 |[],vs,h=>by have h:vs=[]:=h;rw[h];rfl
 |x::xs,vs,⟨v,r,e,_,h2⟩=>by rw[e,Lk,Lk,cX.length h2]
theorem uC{mu:List (Option OV)}:∀{xs:List DV}{j:Nat}{r:List DV×List (Nat×OV)},passes mu xs j=some r->r.1.length=xs.length
 |[],j,r,h=>by cases h;rfl
 |.p d::xs,j,r,h=>by
  unfold passes at h;split at h
  ·rename_i r' hr;cases h;show(DV.p d::r'.1).length=_;rw[Lk,Lk,uC hr]
  ·cases h
 |.o k::xs,j,r,h=>by
  unfold passes at h;split at h
  ·split at h
   ·rename_i r' hr;cases h;show(DV.o j::r'.1).length=_;rw[Lk,Lk,uC hr]
   ·cases h
  ·cases h
section
variable{k:Nat}{f:Addr}{fd:FuncData}{ps:List Str}{x:Str}{p:Pos}{e:Expr}{es:List Expr}{n:Nat}
theorem Nh{E:XK}{F F1 H H1:Hp}{ad aK:List Addr}{δ δ1:aD}{σ:St}{K:DV->aD->Prop}{Q:VK}{xs:List DV}{vs:List V}(kk:∀x δ',K x δ'->∀v F' aF H',Ext F ad δ.mu H F' aF δ'.mu H'->SR F' aF δ' σ H'->eN F' aF x v->Q v H')(h1:match passes δ1.mu xs 0 with
 |some r=>(jS r.2=true/\r.1.length=n)/\G r.1 (r.2.map (·.2)) (lF δ1 r.2 K)
 |none=>False)(E1:Ext F ad δ.mu H F1 aK δ1.mu H1)(S1:SR F1 aK δ1 σ H1)(V1:cX F1 aK xs vs):lE G n (vs++[]) H1 Q E:=by
 split at h1
 ·rename_i r hp
  obtain⟨⟨nd,hn⟩,h1⟩:=h1;rw[XE];refine D4 S1 V1 (by rw[V1.length,<-uC hp,hn]) hp nd h1 fun res ows v F2 H2 hk E2 S2 jT=>?_;unfold lF at hk
  cases res with
  |p d=>exact kk _ _ hk _ _ _ _ (E1.trans E2) S2 jT
  |n ds =>
   obtain⟨a,us,rfl,n1,n2,n3,n4⟩:=jT;refine kk _ _ hk _ _ _ _ (E1.trans (E2.adopt (o:=.lst us) n1 n3)) (S2.adopt n3 n2 (D6 (F2:=F2) (H2:=H2) S1 V1 hp n1)) ?_;show Is _ (.lst ds) _;simp only[Is];exact⟨a,us,rfl,bE,n4.same (cz n3)⟩
  |a j =>
   obtain⟨ko,a,h1,h2,h3⟩:=jT;dsimp only at hk;rw[h1] at hk;exact kk _ _ hk _ _ _ _ (E1.trans E2) S2 ⟨a,h2,h3⟩
 ·exact h1.elim
theorem Ni{E:XK}:∀σ H Q,tD (aq n G fa) σ H Q->xh (lE G n) [] E (bH fa) σ H Q:=fun σ H Q h0_=>el7 h0_ fun F ad δ K S q kk =>
 ⟨F,ad,δ,_,S,q,fun xs δ1 h1 vs F1 aK H1 E1 S1 V1=>Nh kk h1 E1 S1 V1⟩
theorem Nj{E:XK}:∀σ H Q,tD (rM n G fa) σ H Q->xh (lE G n) [] E (bH fa) σ H Q:=fun σ H Q h0_=>el7 h0_ fun F ad δ K S q kk =>by
 refine⟨F,ad,δ,_,S,q,fun xs δ1 h1 vs F1 aK H1 E1 S1 V1=>?_⟩;split at h1
 ·rename_i r hp
  obtain⟨⟨nd,hn⟩,h1⟩:=h1;rw[XE];refine D4 S1 V1 (by rw[V1.length,<-uC hp,hn]) hp nd h1 fun res ows v F2 H2 hk E2 S2 jT=>?_;unfold ot at hk
  cases res with
  |p d=>exact hk.elim
  |n ds =>
   obtain⟨a,us,rfl,n1,n2,n3,n4⟩:=jT;have oi:dY F2 (.lst ds) (.lst us):=⟨us,rfl,n4⟩;refine kk _ _ hk _ _ _ _ (E1.trans (E2.dq (ov:=.lst ds) n1 S2.bY)) (S2.dq n3 n2 (D6 (F2:=F2) (H2:=H2) S1 V1 hp n1) oi) ⟨a,?_,rfl⟩;have:aK.length=(eQ δ1.mu r.2 ows).length:=S2.bY;rw[<-this,VF (ua _),Wr];rfl
  |a j=>exact hk.elim
 ·exact h1.elim
theorem Nk(Fn:cV X.prog X.w X.K X.mg X.base gn k f fd ps (lE G n))(hr:a7 k X.A)(hg:Gl X x)(hm:X.mg x=some (.ref f))(hk:PySem.W.keepIn X.K (.ref f)=true)(hb:Binds X.K fd ps [])
  (ha:JA X (e::es) (bH fa)) (fQ:bV x:=by decide) (he:dF X e es:=by rfl) (fB:eD X pos es:=by rfl) :
  JE X (.Call (.Name x p) (e::es) [] pos) (tD (aq n G fa)):=(xj Fn hr hg hm hk hb .nil xN ha fQ he fB).weak Ni
theorem Nl(Fn:cV X.prog X.w X.K X.mg X.base gn k f fd ps (lE G n))(hr:a7 k X.A)(hg:Gl X x)(hm:X.mg x=some (.ref f))(hk:PySem.W.keepIn X.K (.ref f)=true)(hb:Binds X.K fd ps [])
  (ha:JA X (e::es) (bH fa)) (fQ:bV x:=by decide) (he:dF X e es:=by rfl) (fB:eD X pos es:=by rfl) :
  JE X (.Call (.Name x p) (e::es) [] pos) (tD (rM n G fa)):=(xj Fn hr hg hm hk hb .nil xN ha fQ he fB).weak Nj
end
end
end L2
namespace PySem
open Sem (wp)
open AutoSeq1 (wpAny_loadPart')
theorem Nm(l:Addr)(items:Array Value)(n:Nat)(dct:Option Addr)(sl:Array (Option Value)):
  Meets (Builtin.«enumerate.__new__» ⟨[.type "enumerate",.ref l],[]⟩) (fun _ R s=>s.heap.get? l=some {cls:=.type "tuple",dict:=dct,data:=.seq items n,slots:=sl} ∧
   R (.ok (.ret (.ref (s.heap.push {cls:=.type "tuple_iterator",data:=.fields #[.ref l,.int 0 0]}).objs.size)))
    {s with heap:=(s.heap.push {cls:=.type "tuple_iterator",data:=.fields #[.ref l,.int 0 0]}).push {cls:=.type "enumerate",data:=.fields #[.none,.bool false,.ref s.heap.objs.size,rawInt 0,.none,.none]}}) :=
 .of_wp fun prog w A R s h=>by
  obtain⟨hp,g,d,tk,os⟩:=s;obtain⟨hl,h⟩:=h;have Nn:=sub_enumerate;have hL:Heap.IsTuple (Shared.heap ⟨hp,g,d,tk,os⟩) l items:=⟨_,hl,rfl,n,rfl⟩
  wp_walk using WK hl
  refine wpAny_stack_any fun st=>qV ?_;split
  ·rename_i c _ _ _ _ _
   cases(c==Value.type "enumerate")
   ·wp_walk using WK hl,Ym hL
    exact⟨_,rfl,h⟩
   ·wp_walk using WK hl,Ym hL
    exact⟨_,rfl,h⟩
  ·wp_walk using WK hl,Ym hL
   exact⟨_,rfl,h⟩
section
variable{prog:Program}{w:World}{A:Around}{E:aP}{s:Shared}
theorem Np{l:Addr}{items:Array Value}{Q:aP}(hL:s.heap.IsTuple l items)
  (h:∀h',IsEnum h' (s.heap.objs.size+1) s.heap.objs.size 0 .none->h'.IsTupleIter s.heap.objs.size l 0->h'.objs.size=s.heap.objs.size+2 →
   (∀b o,s.heap.get? b=some o->h'.get? b=some o)->Q (.ref (s.heap.objs.size+1)) {s with heap:=h'}) :
  wpAny (model prog w) A (call (.type "enumerate") [.ref l]) Q E s:=by
 obtain⟨⟨c,dct,dt,sl⟩,hl,hc,n,hd⟩:=hL
 replace hc:c=.type "tuple" := hc
 replace hd:dt=.seq items n:=hd
 subst hc hd
 refine callType_new F.called_enumerate (by decide) (F.typeCall_enumerate_1 _) (F.newCall_enumerate_1 _) (fun obj=>F.args_object_init_2 obj _) F.entry_enumerate_new
  (Nm l items n dct sl) ⟨hl,?_⟩
 have hz:(s.heap.push {cls:=.type "tuple_iterator",data:=.fields #[.ref l,.int 0 0]}).objs.size=s.heap.objs.size+1:=Xq ..;show _/\_;rw[hz]
 have he:IsEnum ((s.heap.push {cls:=.type "tuple_iterator",data:=.fields #[.ref l,.int 0 0]}).push
   {cls:=.type "enumerate",data:=.fields #[.none,.bool false,.ref s.heap.objs.size,rawInt 0,.none,.none]}) (s.heap.objs.size+1) s.heap.objs.size 0 .none:=by
  have:=Vy (s.heap.push {cls:=.type "tuple_iterator",data:=.fields #[.ref l,.int 0 0]})
   (o:={cls:=.type "enumerate",data:=.fields #[.none,.bool false,.ref s.heap.objs.size,rawInt 0,.none,.none]}) rfl
  rw[hz] at this;exact this
 refine⟨⟨_,he,rfl⟩,h _ he ⟨_,ph _ (Vy _ rfl),rfl,rfl⟩ (by rw[Xq,hz]) fun b o x=>ph _ (ph _ x)⟩
theorem Nq{it l:Addr}{i:Nat}{items:Array Value}{x:Value}{Q:aP}(hit:s.heap.IsTupleIter it l i)(hl:s.heap.IsTuple l items)(hx:items[i]?=some x)
  (hQ:∀h',h'.IsTupleIter it l (i+1)->Heap.SameBut it s.heap h'->Q x {s with heap:=h'}):wpAny (model prog w) A (Builtin.SmallTypes.nextOf (.ref it)) Q E s:=by
 obtain⟨o,ho,hc,hd⟩:=id hit;obtain⟨ol,yD,_,nl,yE⟩:=hl;have nn:¬ ((Value.ref l==Value.none)=true):=VC;unfold Builtin.SmallTypes.nextOf;refine lj (Xc (name:=Str.ofString "__next__") hit.typeIs XB (Xd XB hit.typeIs F.entry_tuple_iterator_next ?_ (YW _)));show wpAny _ _ (field (.ref it) 0 >>= _) _ _ s;refine lj (Yp ho hd (x:=.ref l) rfl ?_);show wpAny _ _ (if(Value.ref l==Value.none)=true then _ else _) _ _ s;rw[Uo nn];show wpAny _ _ (field (.ref it) 1 >>= _) _ _ s;refine lj (Yp ho hd (x:=.int i 0) rfl ?_);show wpAny _ _ (seqItems? (.ref l) >>= _) _ _ s;refine lj (Yw yD yE ?_);simp only[Vx,hx]
 refine lj (Yx ho hd (by simp) (qV ⟨x,rfl,qV (hQ _ ⟨_,Wk _ ho (YG (XA hd _)),(Zm ..).trans hc,?_⟩ (VW ..))⟩));rw[XA hd];simp[rawInt]
theorem Nr{it l:Addr}{i:Nat}{items:Array Value}{Q:aP}(hh:A.handled=none)(hit:s.heap.IsTupleIter it l i)(hl:s.heap.IsTuple l items)(hx:items[i]?=none)
  (hE:∀h' e,Heap.ExtBut it s.heap h'->(∃o,h'.get? e=some o/\o.cls=.type "StopIteration")->E (.ref e) {s with heap:=h'}):wpAny (model prog w) A (Builtin.SmallTypes.nextOf (.ref it)) Q E s:=by
 obtain⟨o,ho,hc,hd⟩:=id hit;obtain⟨ol,yD,_,nl,yE⟩:=hl;have nn:¬ ((Value.ref l==Value.none)=true):=VC;unfold Builtin.SmallTypes.nextOf;refine lj (Xc (name:=Str.ofString "__next__") hit.typeIs XB (Xd XB hit.typeIs F.entry_tuple_iterator_next ?_ (YW _)));show wpAny _ _ (field (.ref it) 0 >>= _) _ _ s;refine lj (Yp ho hd (x:=.ref l) rfl ?_);show wpAny _ _ (if(Value.ref l==Value.none)=true then _ else _) _ _ s;rw[Uo nn];show wpAny _ _ (field (.ref it) 1 >>= _) _ _ s;refine lj (Yp ho hd (x:=.int i 0) rfl ?_);show wpAny _ _ (seqItems? (.ref l) >>= _) _ _ s;refine lj (Yw yD yE ?_);simp only[Vx,hx]
 refine lj (Y5 (lj (Yx ho hd (by simp) ?_)));show wpAny _ _ (newExc (.type "StopIteration") [] >>= _) _ _ _;refine lj ?_;simp only[newExc,newTuple];refine lj (Wn ?_ (by size_fits));refine lj (m:=firstArgMember _ _) (Z_ (a:=Value.none) (by first|rfl|(simp only[firstArgMember];rfl)) (Wn ?_ (by size_fits)));simp only[raiseNew];refine lj (wpAny_handled ?_)
 first|rw[show A.in1.handled=none from hh]|rw[hh]
 refine lj (qV (wpAny_throw (hE _ _ (((VW ..).extBut.push _).push _) ⟨_,Vy _ rfl,rfl⟩)))
theorem D7(hh:A.handled=none)(it l:Addr)(fz:l≠it)(items:Array Value):Draws prog w A it [it,l] items.size (fun i v=>items[i]?=some v) (fun i h=>h.IsTupleIter it l i/\h.IsTuple l items) where
 live:=fun _ _ st=>let⟨o,ho,_⟩:=st.1;⟨o,ho⟩
 frame:=fun _ _ _ st hk=>⟨st.1.at fun o e=>hk it (by simp) o e,st.2.at fun o e=>hk l (by simp) o e⟩
 item:=fun i s Q E hi st hQ=>Nq st.1 st.2 (x:=items[i]) (by simp[hi]) fun h' yF ui=>hQ _ h' s.toks (by simp[hi]) ⟨yF,st.2.extBut ui.extBut fz⟩ ui
 done:=fun s Q E st hE=>Nr hh st.1 st.2 (by simp) hE
end
end PySem
namespace L2
open PySem PySem.Spec PyProof.Rows
noncomputable def rN(K:PySem.W.Frag)(a:Addr):It :=
 ⟨fun i H=>∃xs x,bw K H a xs/\xs[i]?=some x,fun i H x H'=>∃T v,x=.ref T/\H T=none/\H'=upd H T (.tup [.int (i:Nat),v])/\∀xs,bw K H a xs->xs[i]?=some v,fun i H=>∃xs,bw K H a xs/\xs.length=i⟩
theorem Nt{P:Program}{w:World}{K:PySem.W.Frag}{elts:List Expr}{x1}{tp:Pos}(a e it:Addr)(fz:e≠it)(Nu:a≠e)(D8:a≠it):
  Turn P w K (.Tuple elts x1 tp) (rN K a) [e,it] e (fun i h=>(∃old,IsEnum h e it (i:Nat) old)/\h.IsTupleIter it a i) where
 mem:=by simp
 obj:=fun i h st b hb=>by
  obtain⟨⟨old,he⟩,o,hi,hc,hd⟩:=st;rcases Lp.mp hb with rfl|hb
  ·exact⟨_,he,fun v z=>by cases z⟩
  ·have z:b=it:=by simpa using hb
   subst z;exact⟨o,hi,fun v z=>by rw[hd] at z;cases z⟩
 keep:=fun i h h' st k=>by
  obtain⟨⟨old,he⟩,hi⟩:=st;exact⟨⟨old,k e (by simp) _ he⟩,hi.at fun o q=>k it (by simp) o q⟩
 item:=by
  intro X hP hw hK hc i pins s σ H E I hf st hg;subst hP hw hK;obtain⟨⟨old,he⟩,hi⟩:=st;obtain⟨xs,x,hq,hx⟩:=hg;obtain⟨ar,rv,p,hz⟩:=I.tuple hq;obtain⟨u,hu,ru⟩:=rv.get hx;have D:=D7 (prog:=X.prog) (w:=X.w) (A:=X.A.in1) (by rw[XU];exact I.ok.hd hc) it a D8 ar.toArray;have ou:i<ar.toArray.size:=by rw[xM];exact(nV.mp hu).1
  refine wpAny_pyNext_enum_itemD D he ⟨hi,p⟩ ou fz (by simp[fz,Xv Nu]) fun y h1 tk py kD xY rj hsz hk=>⟨_,rfl,?_⟩
  have ey:y=u:=by
   have py:ar.toArray[i]?=some y:=py;rw[XD,hu] at py;cases py;rfl
  subst ey;refine wpAny_letOwnedTupleGo_enum kD fun h2 rp jm=>?_;have hT:s.heap.objs.size≠e:=Xn (Ul he);have jz:h2.get? s.heap.objs.size=some {cls:=.type "tuple",data:=.seq #[.int i tk,y]}:=(jm.2 _ hT).trans rj
  have k2:∀b o,b∉[e,it]->s.heap.get? b=some o->h2.get? b=some o:=fun b o hb q=>by
   have rq:b≠e:=fun z=>hb (by simp[z]);have eX:b≠it:=fun z=>hb (by simp[z]);exact(jm.2 _ rq).trans (hk b o rq eX q)
  have hn:H s.heap.objs.size=none:=I.aM.fresh (ua _);refine⟨.ref s.heap.objs.size,upd H s.heap.objs.size (.tup [.int i,x]),I.gB (ch:=[e,it]) (t':=tk+1) hf k2 (ua _) ?_,rfl,⟨_,x,rfl,hn,rfl,fun ys hy=>by rw[I.fA hy hq];exact hx⟩,⟨⟨y,?_⟩,?_⟩,fun b hb=>?_⟩
  ·exact⟨by show 2<=sizeLine;decide,[.int i tk,y],.cons ⟨_,rfl⟩ (.cons ru .nil),_,jz,rfl,_,rfl⟩
  ·have e3:((i:Int)+1)=(((i+1:Nat)):Int):=by omega
   rw[e3] at rp;exact rp
  ·exact xY.1.at fun o q=>(jm.2 _ (Xv fz)).trans q
  ·have:b<s.heap.objs.size:=by
    obtain⟨o,q,_⟩:=hi;rcases Lp.mp hb with rfl|hb
    ·exact Ul he
    ·have z:b=it:=by simpa using hb
     subst z;exact Ul q
   rw[aU (VD this)];exact(hf b hb).1
 done:=by
  intro X hP hw hK hc i pins s σ H E I hf st hg;subst hP hw hK;obtain⟨⟨old,he⟩,hi⟩:=st;obtain⟨xs,hq,hx⟩:=hg;obtain⟨ar,rv,p,hz⟩:=I.tuple hq;have D:=D7 (prog:=X.prog) (w:=X.w) (A:=X.A.in1) (by rw[XU];exact I.ok.hd hc) it a D8 ar.toArray;have ou:ar.toArray.size=i:=by rw[xM,<-rv.length];exact hx
  refine wpAny_pyNext_enum_endD D he (by rw[ou];exact⟨hi,p⟩) fun h1 eb=>⟨rfl,?_⟩;obtain⟨f0,f1,f2,f3,f4,f5⟩:=hf it (by simp);exact I.turned (t':=s.toks) (fun b o hb q=>eb b o hb q) f0 f1 f3 f4 f5
 self:=fun A i s Q E st h=>by
  obtain⟨⟨old,he⟩,hi⟩:=st;exact Xt he h
section
variable{X:Cx}{elts:List Expr}{x1:Nat}{tp:Pos}{tg:Expr}
def Nv(K:PySem.W.Frag)(ta:TA):TI:=fun σ H R=>ta σ H fun vs H1=>∃a,vs=[.ref a]/\(((∃xs,a8 K H1 a xs)/\R (px K a) H1)\/((∃xs,bw K H1 a xs)/\R (rN K a) H1))
theorem Nx{a:Expr}{ta:TA}{p pos:Pos}(hg:Gl X "enumerate")(hm:X.mg "enumerate" = none)(ha:JA X [a] ta)(hs:starEach [a] X.env=[(false,eval a X.env)]:=by rfl):
  JI X (.Tuple elts x1 tp) (.Call (.Name "enumerate" p) [a] [] pos) (Nv X.K ta):=by
 refine⟨?_⟩;intro pins s σ H R I h;refine Call_ (kW I hg hm Dl (Xe (aY (ha pos pins s σ H _ I h) fun us s1 h0_=>el5 h0_ fun vs H1 I1 r1 q1=>?_) hs rfl));obtain⟨l,e,q⟩:=q1;subst e;obtain⟨u,rfl,rx⟩:=vals1 r1;cases rx
 have fp:∀b∈[s1.heap.objs.size+1,s1.heap.objs.size],a9 X pins H1 b:=fun b hb=>by
  have hb':s1.heap.objs.size<=b:=by
   rcases Lp.mp hb with rfl|hb
   ·exact Zn _
   ·have z:b=s1.heap.objs.size:=by simpa using hb
    rw[z];exact ua _
  exact I1.fO hb' (I1.aM.fresh hb')
 rcases q with⟨⟨xs,hq⟩,q⟩|⟨⟨xs,hq⟩,q⟩
 ·obtain⟨ar,rv,p,hz⟩:=I1.list hq
  refine call_enumerate_list p.isList fun h' he hi hsz hk=>?_;have I2:Inv X pins σ H1 {s1 with heap:=h'}:=I1.kept (t':=s1.toks) hk;refine Xt he ?_;exact⟨_,_,_,_,H1,rfl,I2,Dj l (s1.heap.objs.size+1) s1.heap.objs.size (ZD _),⟨⟨_,he⟩,hi⟩,fp,q⟩
 ·obtain⟨ar,rv,p,hz⟩:=I1.tuple hq
  have uD:l<s1.heap.objs.size:=by obtain⟨o,e,_⟩:=p;exact Ul e
  refine Np p fun h' he hi hsz hk=>?_;have I2:Inv X pins σ H1 {s1 with heap:=h'}:=I1.kept (t':=s1.toks) hk;refine Xt he ?_;exact⟨_,_,_,_,H1,rfl,I2,Nt l (s1.heap.objs.size+1) s1.heap.objs.size (ZD _) (VD (Wh uD)) (VD uD),⟨⟨_,he⟩,hi⟩,fp,q⟩
def yG(K:PySem.W.Frag)(tl:TE):TI:=fun σ H R=>tl σ H fun x H1=>∃a,x=.ref a/\(((∃xs,a8 K H1 a xs)/\R (Cd K a) H1)\/((∃xs,bw K H1 a xs)/\R (Ce K a) H1))
theorem Ny{l:Expr}{tl:TE}(hl:JE X l tl):JI X tg l (yG X.K tl):=by
 refine⟨?_⟩;intro pins s σ H R I h;refine aY (hl pins s σ H _ I h) fun v s1 h0_=>el5 h0_ fun x H1 I1 r1 q1=>?_;obtain⟨a,e,q⟩:=q1;subst e;cases r1
 have fp:∀b∈[s1.heap.objs.size],a9 X pins H1 b:=fun b hb=>by
  have e:b=s1.heap.objs.size:=by simpa using hb
  subst e;exact I1.fO (ua _) (I1.aM.fresh (ua _))
 rcases q with⟨⟨xs,hq⟩,q⟩|⟨⟨xs,hq⟩,q⟩
 ·obtain⟨ar,rv,p,hz⟩:=I1.list hq
  exact Xr p.isList ⟨s1.heap.objs.size,[s1.heap.objs.size],_,_,H1,rfl,I1.kept (t':=s1.toks) fun b o e=>ph _ e,J6 a _,⟨_,Vy _ rfl,rfl,rfl⟩,fp,q⟩
 ·obtain⟨ar,rv,p,hz⟩:=I1.tuple hq
  exact Ym (show s1.heap.IsTuple a ar.toArray from p) ⟨s1.heap.objs.size,[s1.heap.objs.size],_,_,H1,rfl,I1.kept (t':=s1.toks) fun b o e=>ph _ e,J7 a _,⟨_,Vy _ rfl,rfl,rfl⟩,fp,q⟩
end
variable[aH]
noncomputable def bp(lo:Int)(n:Nat):List D:=(List.range n).map fun i:Nat=>D.int (lo+i)
noncomputable def kK:Nat->List D->List D
 |_,[]=>[]
 |i,d::r=>.tup [.int i,d]::kK (i+1) r
def pJ(x:DV)(δ:aD)(K:oh->Prop):Prop:=match x with
 |.p (.lst ds)=>K ⟨ds,fun _=>True⟩
 |.p (.tup ds)=>K ⟨ds,fun _=>True⟩
 |.o k=>match δ.mu[k]? with
  |some (some (.lst ds))=>K ⟨ds,fun δ'=>δ'.mu[k]?=some (some (.lst ds))⟩
  |_=>False
 |_=>False
def aZ(f:WE):WI:=fun δ K=>f δ fun x δ1=>pJ x δ1 fun it=>K it δ1
def iE(fa:WA):WI:=fun δ K=>fa δ fun xs δ1=>match xs with
 |[.p (.int j)]=>(-(2 ^ 62)<=j/\j<2 ^ 62)/\K ⟨bp 0 j.toNat,fun _=>True⟩ δ1
 |_=>False
def yH(fa:WA):WI:=fun δ K=>fa δ fun xs δ1=>match xs with
 |[.p (.int i),.p (.int j)]=>(-(2 ^ 62)<=i/\i<2 ^ 62 /\ -(2 ^ 62)<=j/\j<2 ^ 62)/\K ⟨bp i (j-i).toNat,fun _=>True⟩ δ1
 |_=>False
def jU(fa:WA):WI:=fun δ K=>fa δ fun xs δ1=>match xs with
 |[x]=>pJ x δ1 fun it=>K ⟨kK 0 it.items,it.bc⟩ δ1
 |_=>False
def yI(x:DV)(δ:aD)(K:oh->Prop):Prop:=match x with
 |.p (.lst ds)=>K ⟨ds,fun _=>True⟩
 |.o k=>match δ.mu[k]? with
  |some (some (.lst ds))=>K ⟨ds,fun δ'=>δ'.mu[k]?=some (some (.lst ds))⟩
  |_=>False
 |_=>False
theorem iF{lo:Int}{n i:Nat}{d:D}(h:(bp lo n)[i]?=some d):i<n/\d=.int (lo+i):=by
 unfold bp at h;rw[Lq] at h;obtain⟨j,e,rfl⟩:=Vz.mp h;have hj:=(nV.mp e).1;rw[Wg] at hj;rw[W0 hj] at e;cases e
 exact⟨hj,rfl⟩
theorem hW(lo:Int)(n:Nat):(bp lo n).length=n:=by unfold bp;rw[nU,Wg]
theorem pK:∀(ds:List D)(i:Nat),(kK i ds).length=ds.length
 |[],_=>rfl
 |d::r,i=>by rw[kK,Lk,Lk,pK r]
theorem pL:∀{ds:List D}{k i:Nat}{d:D},(kK k ds)[i]?=some d->∃e,ds[i]?=some e/\d=.tup [.int ((k+i:Nat):Int),e]
 |[],k,i,d,h=>by simp[kK] at h
 |e::r,k,0,d,h=>by
  cases(show some (D.tup [.int (k:Nat),e])=some d by simpa[kK] using h)
  exact⟨e,rfl,rfl⟩
 |e::r,k,i+1,d,h=>by
  obtain⟨e',h1,h2⟩:=pL (ds:=r) (k:=k+1) (i:=i) (d:=d) (by simpa[kK] using h);exact⟨e',by simpa using h1,by rw[h2];congr 4;omega⟩
section
variable{X:Cx}{tg l a b:Expr}{f:WE}{fa:WA}{F H:Hp}{ad:List Addr}{δ:aD}{σ:St}
theorem JI.weak{iter:Expr}{w w':TI}(h:JI X tg iter w)(k:∀σ H R,w' σ H R->w σ H R):JI X tg iter w':=⟨fun pins s σ H R I q=>h pins s σ H R I (k σ H R q)⟩
theorem pM{ds:List D}{vs:List V}(h:ae F ds vs){i:Nat}{d:D}(e:ds[i]?=some d):∃v,vs[i]?=some v/\Is F d v:=by
 have hl:=h.length;have hi:i<vs.length:=by rw[hl];exact(nV.mp e).1
 obtain⟨d',e1,h1⟩:=h.get (nR hi);rw[e] at e1;cases e1;exact⟨_,nR hi,h1⟩
theorem D9{x:DV}{v:V}{K:oh->Prop}(S:SR F ad δ σ H)(V1:eN F ad x v)(h:yI x δ K):∃a it,v=.ref a/\K it/\(∃vs,H a=some (.lst vs)) ∧
  ∀(F':Hp)(aF:List Addr)(δ':aD)(σ':St)(H':Hp),aE F F'->(∀(k:Nat)(a:Addr),ad[k]?=some a->aF[k]?=some a)->SR F' aF δ' σ' H'->it.bc δ'->∃vs,H' a=some (.lst vs)/\ae F' it.items vs:=by
 unfold yI at h;split at h
 ·rename_i ds
  have V2:Is F (.lst ds) v:=V1;simp only[Is] at V2;obtain⟨a,vs,rfl,h1,h2⟩:=V2;exact⟨a,_,rfl,h,⟨vs,S.sub _ _ h1⟩,fun F' aF δ' σ' H' s _ S' _=>⟨vs,S'.sub _ _ (s _ _ h1),h2.same s⟩⟩
 ·rename_i k
  split at h
  ·rename_i ds e
   obtain⟨a,e1,rfl⟩:=V1;obtain⟨a',o,e2,e3,vs,rfl,h4⟩:=S.mu k _ e;rw[e1] at e2;cases e2;refine⟨a,_,rfl,h,⟨vs,e3⟩,fun F' aF δ' σ' H' _ pre S' ck=>?_⟩;obtain⟨Ux,o,e5,e6,ws,rfl,h7⟩:=S'.mu k _ ck;rw[pre k a e1] at e5;cases e5;exact⟨ws,e6,h7⟩
  ·exact h.elim
 ·exact h.elim
theorem D_{x:DV}{v:V}{K:oh->Prop}(S:SR F ad δ σ H)(V1:eN F ad x v)(h:pJ x δ K):∃a it,v=.ref a/\K it ∧
  (((∃vs,H a=some (.lst vs))/\∀(F':Hp)(aF:List Addr)(δ':aD)(σ':St)(H':Hp),aE F F'->(∀(k:Nat)(a:Addr),ad[k]?=some a->aF[k]?=some a)->SR F' aF δ' σ' H'->it.bc δ'->∃vs,H' a=some (.lst vs)/\ae F' it.items vs) ∨
  ((∃vs,H a=some (.tup vs))/\∀(F':Hp)(aF:List Addr)(δ':aD)(σ':St)(H':Hp),aE F F'->(∀(k:Nat)(a:Addr),ad[k]?=some a->aF[k]?=some a)->SR F' aF δ' σ' H'->it.bc δ'->∃vs,H' a=some (.tup vs)/\ae F' it.items vs)):=by
 unfold pJ at h;split at h
 ·rename_i ds
  obtain⟨a,it,e,k,r⟩:=D9 (x:=.p (.lst ds)) S V1 h;exact⟨a,it,e,k,.inl r⟩
 ·rename_i ds
  have V2:Is F (.tup ds) v:=V1;simp only[Is] at V2;obtain⟨a,vs,rfl,h1,h2⟩:=V2;exact⟨a,_,rfl,h,.inr ⟨⟨vs,S.sub _ _ h1⟩,fun F' aF δ' σ' H' s _ S' _=>⟨vs,S'.sub _ _ (s _ _ h1),h2.same s⟩⟩⟩
 ·rename_i k
  obtain⟨a,it,e,k,r⟩:=D9 (x:=.o k) S V1 h;exact⟨a,it,e,k,.inl r⟩
 ·exact h.elim
theorem Nz(hl:JE X l (tD f)):JI X tg l (hV (aZ f)):=(Ny hl).weak fun σ H R h0_=>el7 h0_ fun F ad δ K S q k =>⟨F,ad,δ,_,S,q,fun x δ1 h1 v F1 aK H1 E1 S1 V1=>by
 obtain⟨a,it,rfl,hk,r⟩:=D_ S1 V1 h1;refine⟨a,rfl,?_⟩;rcases r with⟨⟨vs,e⟩,r⟩|⟨⟨vs,e⟩,r⟩
 ·refine .inl ⟨⟨vs,a8.of e⟩,k _ _ hk _ _ _ _ E1 S1 fun F' aF δ' σ' H' s pre S' ck=>?_⟩
  obtain⟨ws,e1,e2⟩:=r F' aF δ' σ' H' s pre S' ck;refine⟨⟨ws,a8.of e1,by rw[e2.length];exact ua _⟩,fun i d ed=>?_⟩;obtain⟨w,e3,e4⟩:=pM e2 ed;refine⟨⟨ws,w,a8.of e1,e3⟩,fun y g_ ⟨eh,hy⟩=>?_⟩;subst eh;refine⟨fun _ _ e=>e,?_⟩;have:=hy ws (a8.of e1);rw[e3] at this;cases this;rw[Nw.refl S'.sub];exact e4
 ·refine .inr ⟨⟨vs,bw.of e⟩,k _ _ hk _ _ _ _ E1 S1 fun F' aF δ' σ' H' s pre S' ck=>?_⟩
  obtain⟨ws,e1,e2⟩:=r F' aF δ' σ' H' s pre S' ck;refine⟨⟨ws,bw.of e1,by rw[e2.length];exact ua _⟩,fun i d ed=>?_⟩;obtain⟨w,e3,e4⟩:=pM e2 ed;refine⟨⟨ws,w,bw.of e1,e3⟩,fun y g_ ⟨eh,hy⟩=>?_⟩;subst eh;refine⟨fun _ _ e=>e,?_⟩;have:=hy ws (bw.of e1);rw[e3] at this;cases this
  rw[Nw.refl S'.sub];exact e4⟩
theorem Ea{F H:Hp}{T:Addr}{d e:D}{x y:V}(s:aE F H)(hT:H T=none)(h1:Is F d x)(h2:Is F e y):Is (Nw F H (upd H T (.tup [x,y]))) (.tup [d,e]) (.ref T):=by
 rw[Nw.upd s hT]
 have hF:F T=none:=by
  cases q:F T with
  |none=>rfl
  |some u=>rw[s T u q] at hT;cases hT
 have sm:aE F (upd F T (.tup [x,y])):=cz hF;simp only[Is];exact⟨T,_,rfl,bE,.cons (h1.same sm) (.cons (h2.same sm) .nil)⟩
theorem NA{elts:List Expr}{x1:Nat}{tp p pos:Pos}(hg:Gl X "enumerate")(hm:X.mg "enumerate" = none)(ha:JA X [a] (bH fa))(hs:starEach [a] X.env=[(false,eval a X.env)]:=by rfl):
  JI X (.Tuple elts x1 tp) (.Call (.Name "enumerate" p) [a] [] pos) (hV (jU fa)):=(Nx hg hm ha hs).weak fun σ H R h0_=>el7 h0_ fun F ad δ K S q k =>⟨F,ad,δ,_,S,q,fun xs δ1 h1 vs F1 aK H1 E1 S1 V1=>by
 match xs,h1,V1 with
 |[x],g1,⟨v,r,e,W1,W2⟩ =>
  subst e;have W3:r=[]:=W2;subst W3;obtain⟨a,it,rfl,hk,r⟩:=D_ S1 W1 g1;refine⟨a,rfl,?_⟩;rcases r with⟨⟨vs,e⟩,r⟩|⟨⟨vs,e⟩,r⟩
  ·refine .inl ⟨⟨vs,a8.of e⟩,k _ _ hk _ _ _ _ E1 S1 fun F' aF δ' σ' H' s pre S' ck=>?_⟩
   obtain⟨ws,e1,e2⟩:=r F' aF δ' σ' H' s pre S' ck;refine⟨⟨ws,a8.of e1,by rw[e2.length,pK];exact ua _⟩,fun i d ed=>?_⟩;obtain⟨d',yJ,rfl⟩:=pL ed;obtain⟨w,e3,e4⟩:=pM e2 yJ;refine⟨⟨ws,w,a8.of e1,e3⟩,fun y g_ ⟨T,v,ey,hT,eh,hy⟩=>?_⟩;subst eh ey;have:=hy ws (a8.of e1);rw[e3] at this;cases this;refine⟨cz hT,?_⟩;rw[Wb];exact Ea S'.sub hT rfl e4
  ·refine .inr ⟨⟨vs,bw.of e⟩,k _ _ hk _ _ _ _ E1 S1 fun F' aF δ' σ' H' s pre S' ck=>?_⟩
   obtain⟨ws,e1,e2⟩:=r F' aF δ' σ' H' s pre S' ck;refine⟨⟨ws,bw.of e1,by rw[e2.length,pK]⟩,fun i d ed=>?_⟩;obtain⟨d',yJ,rfl⟩:=pL ed;obtain⟨w,e3,e4⟩:=pM e2 yJ;refine⟨⟨ws,w,bw.of e1,e3⟩,fun y g_ ⟨T,v,ey,hT,eh,hy⟩=>?_⟩;subst eh ey;have:=hy ws (bw.of e1);rw[e3] at this;cases this;refine⟨cz hT,?_⟩;rw[Wb];exact Ea S'.sub hT rfl e4
 |[],h1,_=>exact h1.elim
 |_::_::_,h1,_=>exact h1.elim⟩
theorem Eb{F1:Hp}{aK:List Addr}{lo:Int}{n:Nat}:om F1 aK ⟨bp lo n,fun _=>True⟩ (qF lo n):=fun F' aF δ' σ' H' s pre S' _=>by
 refine⟨by show n<=(bp lo n).length;rw[hW];exact ua _,fun i d ed=>?_⟩;obtain⟨hi,rfl⟩:=iF ed;refine⟨hi,fun x g_ ⟨eh,ex⟩=>?_⟩;subst eh ex;exact⟨fun _ _ e=>e,rfl⟩
theorem NB{p pos:Pos}(hg:Gl X "range")(hm:X.mg "range" = none)(ha:JA X [a] (bH fa))(hs:starEach [a] X.env=[(false,eval a X.env)]:=by rfl):JI X tg (.Call (.Name "range" p) [a] [] pos) (hV (iE fa)) :=
 (Ka hg hm ha hs).weak fun σ H R h0_=>el7 h0_ fun F ad δ K S q k =>⟨F,ad,δ,_,S,q,fun xs δ1 h1 vs F1 aK H1 E1 S1 V1=>by
  split at h1
  ·rename_i j
   obtain⟨v,r,e,V1,V2⟩:=V1;have V2:r=[]:=V2;have V1:v=.int j:=V1;subst V2 V1 e;exact⟨j,rfl,h1.1.1,h1.1.2,k _ _ h1.2 _ _ _ _ E1 S1 Eb⟩
  ·exact h1.elim⟩
theorem NC{p pos:Pos}(hg:Gl X "range")(hm:X.mg "range" = none)(ha:JA X [a,b] (bH fa))(hs:starEach [a,b] X.env=[(false,eval a X.env),(false,eval b X.env)]:=by rfl)(jm:starEach [b] X.env=[(false,eval b X.env)]:=by rfl):
  JI X tg (.Call (.Name "range" p) [a,b] [] pos) (hV (yH fa)) :=
 (Kb hg hm ha hs jm).weak fun σ H R h0_=>el7 h0_ fun F ad δ K S q k =>⟨F,ad,δ,_,S,q,fun xs δ1 h1 vs F1 aK H1 E1 S1 V1=>by
  split at h1
  ·rename_i i j
   obtain⟨v,r,e,V1,w,r2,e2,V2,V3⟩:=V1;have V3:r2=[]:=V3;have V1:v=.int i:=V1;have V2:w=.int j:=V2;subst V3 V1 V2 e2 e;exact⟨i,j,rfl,h1.1,k _ _ h1.2 _ _ _ _ E1 S1 Eb⟩
  ·exact h1.elim⟩
end
end L2
namespace L2
open PySem PySem.Spec PyProof.Rows
mutual
noncomputable def aB:D->D->Bool
 |.non,.non=>true
 |.bl a,.bl b=>a==b
 |.bl a,.int b=>(if a then 1 else 0)==b
 |.int a,.bl b=>a==(if b then 1 else 0)
 |.int a,.int b=>a==b
 |.str a,.str b=>a==b
 |.tup a,.tup b=>bP a b
 |.lst a,.lst b=>bP a b
 |_,_=>false
noncomputable def bP:List D->List D->Bool
 |[],[]=>true
 |a::r,b::s=>aB a b&&bP r s
 |_,_=>false
end
mutual
theorem kL:∀d:D,aB d d=true
 |.non=>by simp[aB]
 |.bl a=>by simp[aB]
 |.int a=>by simp[aB]
 |.str a=>by simp[aB]
 |.tup a=>by simp only[aB];exact yK a
 |.lst a=>by simp only[aB];exact yK a
theorem yK:∀ds:List D,bP ds ds=true
 |[]=>by simp[bP]
 |d::r=>by simp only[bP,kL d,yK r,Bool.and_true]
end
mutual
theorem Is.inj {H:Hp}:∀{d e:D}{v:V},Is H d v->Is H e v->d=e
 |.non,e,v,h,q=>by cases e<;>simp only[Is] at h q<;>first|rfl|(subst h;first|(obtain⟨_,_,z,_⟩:=q;cases z;done)|(cases q;done)|(cases q;rfl))
 |.bl a,e,v,h,q=>by cases e<;>simp only[Is] at h q<;>(subst h;first|(obtain⟨_,_,z,_⟩:=q;cases z;done)|(cases q;done)|(cases q;rfl))
 |.int a,e,v,h,q=>by cases e<;>simp only[Is] at h q<;>(subst h;first|(obtain⟨_,_,z,_⟩:=q;cases z;done)|(cases q;done)|(cases q;rfl))
 |.str a,e,v,h,q=>by cases e<;>simp only[Is] at h q<;>(subst h;first|(obtain⟨_,_,z,_⟩:=q;cases z;done)|(cases q;done)|(cases q;rfl))
 |.tup a,e,v,h,q=>by
  simp only[Is] at h;obtain⟨p,vs,rfl,h1,h2⟩:=h
  cases e with
  |tup b =>
   simp only[Is] at q;obtain⟨p',ws,z,q1,q2⟩:=q;cases z
   rw[h1] at q1;cases q1;rw[ae.inj h2 q2]
  |lst b =>
   simp only[Is] at q;obtain⟨p',ws,z,q1,q2⟩:=q;cases z
   rw[h1] at q1;cases q1
  |non=>simp only[Is] at q;cases q
  |bl _=>simp only[Is] at q;cases q
  |int _=>simp only[Is] at q;cases q
  |str _=>simp only[Is] at q;cases q
 |.lst a,e,v,h,q=>by
  simp only[Is] at h;obtain⟨p,vs,rfl,h1,h2⟩:=h
  cases e with
  |lst b =>
   simp only[Is] at q;obtain⟨p',ws,z,q1,q2⟩:=q;cases z
   rw[h1] at q1;cases q1;rw[ae.inj h2 q2]
  |tup b =>
   simp only[Is] at q;obtain⟨p',ws,z,q1,q2⟩:=q;cases z
   rw[h1] at q1;cases q1
  |non=>simp only[Is] at q;cases q
  |bl _=>simp only[Is] at q;cases q
  |int _=>simp only[Is] at q;cases q
  |str _=>simp only[Is] at q;cases q
theorem ae.inj {H:Hp}:∀{ds es:List D}{vs:List V},ae H ds vs->ae H es vs->ds=es
 |[],es,vs,h,q=>by
  simp only[ae] at h;subst h
  cases es with
  |nil=>rfl
  |cons _ _=>simp only[ae] at q;obtain⟨_,_,z,_⟩:=q;cases z
 |d::ds,es,vs,h,q=>by
  simp only[ae] at h;obtain⟨v,r,rfl,h1,h2⟩:=h
  cases es with
  |nil=>simp only[ae] at q;cases q
  |cons e es =>
   simp only[ae] at q;obtain⟨v',r',z,q1,q2⟩:=q;cases z
   rw[Is.inj h1 q1,ae.inj h2 q2]
end
theorem rO:∀{ds es:List D},ds.length≠es.length->bP ds es=false
 |[],[],h=>absurd rfl h
 |[],_::_,_=>by simp[bP]
 |_::_,[],_=>by simp[bP]
 |d::r,e::s,h=>by simp only[bP];rw[rO (fun z=>h (by rw[Lk,Lk,z])),q0c]
noncomputable def oz(ds es:List D)(j:Nat):Bool:=match ds[j]?,es[j]? with
 |some a,some b=>aB a b
 |_,_=>true
theorem rP:∀{ds es:List D},ds.length=es.length->(List.range ds.length).all (oz ds es)=bP ds es
 |[],[],_=>by simp[bP]
 |[],_::_,h=>by simp at h
 |_::_,[],h=>by simp at h
 |d::r,e::s,h=>by
  have ih:=rP (ds:=r) (es:=s) (by simpa using h);rw[Lk,List.range_succ_eq_map,Yf,List.all_map];simp only[bP];rw[<-ih];rfl
section
variable{X:Cx}{pins:av}{σ:St}{H:Hp}{s:Shared}
theorem rQ{vs:List V}{ar:List Value}(r:Vals vs ar){j:Nat}(h:j<ar.toArray.size):∃v,vs[j]?=some v/\RelV v ar.toArray[j]:=by
 have hj:j<ar.length:=by simpa using h
 have hv:j<vs.length:=by rw[r.length];exact hj
 obtain⟨u,e,ru⟩:=r.get (nR hv)
 have:ar.toArray[j]=u:=by
  have:=(nV.mp e).2;simpa using this
 rw[this];exact⟨_,nR hv,ru⟩
theorem cJ(I:Inv X pins σ H s){a:Addr}{vs:List V}(h:H a=some (.lst vs)):∃ar:List Value,Vals vs ar/\s.heap.IsList a ar.toArray:=by
 obtain⟨ar,r,p,_⟩:=I.list (a8.of h);exact⟨ar,r,p.isList⟩
theorem cK(I:Inv X pins σ H s){a:Addr}{vs:List V}(h:H a=some (.tup vs)):∃ar:List Value,Vals vs ar/\s.heap.IsTuple a ar.toArray:=by
 obtain⟨ar,r,p,_⟩:=I.tuple (bw.of h);exact⟨ar,r,p⟩
theorem in1_units(A:Around):A.in1.units=A.units+1:=rfl
theorem yL(I:Inv X pins σ H s):∀(n:Nat){A:Around}{d e:D}{v u:V}{x y:Value},dep d<=n->A.units+n<cLine->Is H d v->Is H e u->RelV v x->RelV u y->SeqAt.EqAt A s x y (aB d e)/\SeqAt.RcAt A s x y (aB d e):=by
 intro n
 induction n with
 |zero =>
  intro A d e v u x y hd hu hv hw rv ru;have nz:A.units<cLine:=by omega
  cases d with
  |tup ds=>simp[dep] at hd
  |lst ds=>simp[dep] at hd
  |non =>
   cases(show v=.non from hv);cases rv
   cases e with
   |non=>cases(show u=.non from hw);cases ru;simp only[aB];exact⟨YV _,SeqAt.RcAt.none_none⟩
   |bl b=>cases(show u=.bl b from hw);cases ru;simp only[aB];exact⟨SeqAt.EqAt.none_bool _,SeqAt.RcAt.none_bool _⟩
   |int b=>cases(show u=.int b from hw);obtain⟨t,rfl⟩:=ru;simp only[aB];exact⟨SeqAt.EqAt.none_int _ _,SeqAt.RcAt.none_int _ _⟩
   |str b=>cases(show u=.str b from hw);obtain⟨t,rfl⟩:=ru;simp only[aB];exact⟨SeqAt.EqAt.none_str _ _,SeqAt.RcAt.none_str _ _⟩
   |tup es=>simp only[Is] at hw;obtain⟨a,vs,rfl,h1,_⟩:=hw;cases ru;obtain⟨_,_,p⟩:=cK I h1;simp only[aB];exact⟨SeqAt.EqAt.none_tuple p nz,SeqAt.RcAt.none_tuple p nz⟩
   |lst es=>simp only[Is] at hw;obtain⟨a,vs,rfl,h1,_⟩:=hw;cases ru;obtain⟨_,_,p⟩:=cJ I h1;simp only[aB];exact⟨SeqAt.EqAt.none_list p nz,SeqAt.RcAt.none_list p nz⟩
  |bl b0 =>
   cases(show v=.bl b0 from hv);cases rv
   cases e with
   |non=>cases(show u=.non from hw);cases ru;simp only[aB];exact⟨SeqAt.EqAt.bool_none _,SeqAt.RcAt.bool_none _⟩
   |bl b=>cases(show u=.bl b from hw);cases ru;simp only[aB];exact⟨SeqAt.EqAt.bool_bool _ _,SeqAt.RcAt.bool_bool _ _⟩
   |int b=>cases(show u=.int b from hw);obtain⟨t,rfl⟩:=ru;simp only[aB];exact⟨SeqAt.EqAt.bool_int _ _ _,SeqAt.RcAt.bool_int _ _ _⟩
   |str b=>cases(show u=.str b from hw);obtain⟨t,rfl⟩:=ru;simp only[aB];exact⟨SeqAt.EqAt.bool_str _ _ _,SeqAt.RcAt.bool_str _ _ _⟩
   |tup es=>simp only[Is] at hw;obtain⟨a,vs,rfl,h1,_⟩:=hw;cases ru;obtain⟨_,_,p⟩:=cK I h1;simp only[aB];exact⟨SeqAt.EqAt.bool_tuple _ p nz,SeqAt.RcAt.bool_tuple _ p nz⟩
   |lst es=>simp only[Is] at hw;obtain⟨a,vs,rfl,h1,_⟩:=hw;cases ru;obtain⟨_,_,p⟩:=cJ I h1;simp only[aB];exact⟨SeqAt.EqAt.bool_list _ p nz,SeqAt.RcAt.bool_list _ p nz⟩
  |int b0 =>
   cases(show v=.int b0 from hv);obtain⟨t0,rfl⟩:=rv
   cases e with
   |non=>cases(show u=.non from hw);cases ru;simp only[aB];exact⟨SeqAt.EqAt.int_none _ _,SeqAt.RcAt.int_none _ _⟩
   |bl b=>cases(show u=.bl b from hw);cases ru;simp only[aB];exact⟨SeqAt.EqAt.int_bool _ _ _,SeqAt.RcAt.int_bool _ _ _⟩
   |int b=>cases(show u=.int b from hw);obtain⟨t,rfl⟩:=ru;simp only[aB];exact⟨Zb _ _ _ _,SeqAt.RcAt.int_int _ _ _ _⟩
   |str b=>cases(show u=.str b from hw);obtain⟨t,rfl⟩:=ru;simp only[aB];exact⟨Y8 _ _ _ _,SeqAt.RcAt.int_str _ _ _ _⟩
   |tup es=>simp only[Is] at hw;obtain⟨a,vs,rfl,h1,_⟩:=hw;cases ru;obtain⟨_,_,p⟩:=cK I h1;simp only[aB];exact⟨SeqAt.EqAt.int_tuple _ _ p nz,SeqAt.RcAt.int_tuple _ _ p nz⟩
   |lst es=>simp only[Is] at hw;obtain⟨a,vs,rfl,h1,_⟩:=hw;cases ru;obtain⟨_,_,p⟩:=cJ I h1;simp only[aB];exact⟨SeqAt.EqAt.int_list _ _ p nz,SeqAt.RcAt.int_list _ _ p nz⟩
  |str b0 =>
   cases(show v=.str b0 from hv);obtain⟨t0,rfl⟩:=rv
   cases e with
   |non=>cases(show u=.non from hw);cases ru;simp only[aB];exact⟨SeqAt.EqAt.str_none _ _,SeqAt.RcAt.str_none _ _⟩
   |bl b=>cases(show u=.bl b from hw);cases ru;simp only[aB];exact⟨SeqAt.EqAt.str_bool _ _ _,SeqAt.RcAt.str_bool _ _ _⟩
   |int b=>cases(show u=.int b from hw);obtain⟨t,rfl⟩:=ru;simp only[aB];exact⟨Y9 _ _ _ _,SeqAt.RcAt.str_int _ _ _ _⟩
   |str b=>cases(show u=.str b from hw);obtain⟨t,rfl⟩:=ru;simp only[aB];exact⟨SeqAt.EqAt.str_str _ _ _ _,SeqAt.RcAt.str_str _ _ _ _⟩
   |tup es=>simp only[Is] at hw;obtain⟨a,vs,rfl,h1,_⟩:=hw;cases ru;obtain⟨_,_,p⟩:=cK I h1;simp only[aB];exact⟨SeqAt.EqAt.str_tuple _ _ p nz,SeqAt.RcAt.str_tuple _ _ p nz⟩
   |lst es=>simp only[Is] at hw;obtain⟨a,vs,rfl,h1,_⟩:=hw;cases ru;obtain⟨_,_,p⟩:=cJ I h1;simp only[aB];exact⟨SeqAt.EqAt.str_list _ _ p nz,SeqAt.RcAt.str_list _ _ p nz⟩
 |succ n ih =>
  intro A d e v u x y hd hu hv hw rv ru;have nz:A.units<cLine:=by omega
  have step:∀{ds es:List D}{vs us:List V}{ar a_:List Value}(r1:Vals vs ar)(r2:Vals us a_),bO ds<=n->ae H ds vs->ae H es us →
    ∀(j:Nat)(h1:j<ar.toArray.size)(h2:j<a_.toArray.size),SeqAt.EqAt A.in1 s ar.toArray[j] a_.toArray[j] (oz ds es j):=fun{ds es vs us ar a_} r1 r2 hl i1 i2 j h1 h2=>by
   obtain⟨v1,e1,q1⟩:=rQ r1 h1;obtain⟨v2,e2,q2⟩:=rQ r2 h2;obtain⟨d1,f1,g1⟩:=i1.get e1;obtain⟨d2,f2,g2⟩:=i2.get e2;unfold oz;rw[f1,f2];exact(ih (V_ (x_ f1) hl) (by rw[in1_units];omega) g1 g2 q1 q2).1
  cases d with
  |tup ds =>
   have hl:bO ds<=n:=by simp only[dep] at hd;omega
   have yM:=hv;simp only[Is] at hv;obtain⟨a,vs,rfl,h1,i1⟩:=hv;cases rv
   obtain⟨ar,r1,p1⟩:=cK I h1
   cases e with
   |tup es =>
    have yN:=hw;simp only[Is] at hw;obtain⟨b,us,rfl,h2,i2⟩:=hw;cases ru
    obtain⟨a_,r2,p2⟩:=cK I h2
    have rc:SeqAt.RcAt A s (.ref a) (.ref b) (aB (.tup ds) (.tup es)):=by
     have:=SeqAt.RcAt.tuples p1 p2 nz (step r1 r2 hl i1 i2);have l1:ar.toArray.size=ds.length:=by rw[xM,<-r1.length,i1.length]
     have l2:a_.toArray.size=es.length:=by rw[xM,<-r2.length,i2.length]
     rw[l1,l2] at this
     have eb:((List.range (min ds.length es.length)).all (oz ds es)&&ds.length==es.length)=aB (.tup ds) (.tup es):=by
      simp only[aB]
      by_cases c:ds.length=es.length
      ·rw[<-c,Nat.min_self,rP c];simp
      ·rw[rO c];simp[c]
     rw[eb] at this;exact this
    refine⟨?_,rc⟩
    by_cases c:a=b
    ·subst c
     have:=Is.inj yM yN;rw[this,kL];exact YV _
    ·exact SeqAt.EqAt.of_refs c rc
   |lst es =>
    simp only[Is] at hw;obtain⟨b,us,rfl,h2,i2⟩:=hw;cases ru
    obtain⟨a_,r2,p2⟩:=cJ I h2;simp only[aB];exact⟨SeqAt.EqAt.tuple_list p1 p2 nz,SeqAt.RcAt.tuple_list p1 p2 nz⟩
   |non=>cases(show u=.non from hw);cases ru;simp only[aB];exact⟨SeqAt.EqAt.tuple_none p1 nz,SeqAt.RcAt.tuple_none p1 nz⟩
   |bl b=>cases(show u=.bl b from hw);cases ru;simp only[aB];exact⟨SeqAt.EqAt.tuple_bool _ p1 nz,SeqAt.RcAt.tuple_bool _ p1 nz⟩
   |int b=>cases(show u=.int b from hw);obtain⟨t,rfl⟩:=ru;simp only[aB];exact⟨SeqAt.EqAt.tuple_int _ _ p1 nz,SeqAt.RcAt.tuple_int _ _ p1 nz⟩
   |str b=>cases(show u=.str b from hw);obtain⟨t,rfl⟩:=ru;simp only[aB];exact⟨SeqAt.EqAt.tuple_str _ _ p1 nz,SeqAt.RcAt.tuple_str _ _ p1 nz⟩
  |lst ds =>
   have hl:bO ds<=n:=by simp only[dep] at hd;omega
   have yM:=hv;simp only[Is] at hv;obtain⟨a,vs,rfl,h1,i1⟩:=hv;cases rv
   obtain⟨ar,r1,p1⟩:=cJ I h1
   cases e with
   |lst es =>
    have yN:=hw;simp only[Is] at hw;obtain⟨b,us,rfl,h2,i2⟩:=hw;cases ru
    obtain⟨a_,r2,p2⟩:=cJ I h2;have l1:ar.toArray.size=ds.length:=by rw[xM,<-r1.length,i1.length]
    have l2:a_.toArray.size=es.length:=by rw[xM,<-r2.length,i2.length]
    have rc:SeqAt.RcAt A s (.ref a) (.ref b) (aB (.lst ds) (.lst es)):=by
     by_cases c:ds.length=es.length
     ·have:=SeqAt.RcAt.lists p1 p2 (by rw[l1,l2];exact c) nz (step r1 r2 hl i1 i2)
      rw[l1,rP c] at this;simp only[aB];exact this
     ·simp only[aB];rw[rO c]
      exact SeqAt.RcAt.lists_lengths p1 p2 (by rw[l1,l2];simpa using c) nz
    refine⟨?_,rc⟩
    by_cases c:a=b
    ·subst c
     have:=Is.inj yM yN;rw[this,kL];exact YV _
    ·exact SeqAt.EqAt.of_refs c rc
   |tup es =>
    simp only[Is] at hw;obtain⟨b,us,rfl,h2,i2⟩:=hw;cases ru
    obtain⟨a_,r2,p2⟩:=cK I h2;simp only[aB];exact⟨SeqAt.EqAt.list_tuple p1 p2 nz,SeqAt.RcAt.list_tuple p1 p2 nz⟩
   |non=>cases(show u=.non from hw);cases ru;simp only[aB];exact⟨SeqAt.EqAt.list_none p1 nz,SeqAt.RcAt.list_none p1 nz⟩
   |bl b=>cases(show u=.bl b from hw);cases ru;simp only[aB];exact⟨SeqAt.EqAt.list_bool _ p1 nz,SeqAt.RcAt.list_bool _ p1 nz⟩
   |int b=>cases(show u=.int b from hw);obtain⟨t,rfl⟩:=ru;simp only[aB];exact⟨SeqAt.EqAt.list_int _ _ p1 nz,SeqAt.RcAt.list_int _ _ p1 nz⟩
   |str b=>cases(show u=.str b from hw);obtain⟨t,rfl⟩:=ru;simp only[aB];exact⟨SeqAt.EqAt.list_str _ _ p1 nz,SeqAt.RcAt.list_str _ _ p1 nz⟩
  |non=>exact ih (by simp[dep]) (by omega) hv hw rv ru
  |bl b0=>exact ih (by simp[dep]) (by omega) hv hw rv ru
  |int b0=>exact ih (by simp[dep]) (by omega) hv hw rv ru
  |str b0=>exact ih (by simp[dep]) (by omega) hv hw rv ru
theorem ND(I:Inv X pins σ H s){A:Around}{d e:D}{v u:V}{x y:Value}(hd:dep d<=60)(hu:A.units+61<cLine)(hv:Is H d v)(hw:Is H e u)(rv:RelV v x)(ru:RelV u y):SeqAt.RcNeAt A s x y (!aB d e):=by
 have nz:A.units<cLine:=by omega
 have step:∀{ds es:List D}{vs us:List V}{ar a_:List Value}(r1:Vals vs ar)(r2:Vals us a_),bO ds<=59->ae H ds vs->ae H es us →
   ∀(j:Nat)(h1:j<ar.toArray.size)(h2:j<a_.toArray.size),SeqAt.EqAt A.in1 s ar.toArray[j] a_.toArray[j] (oz ds es j):=fun{ds es vs us ar a_} r1 r2 hl i1 i2 j h1 h2=>by
  obtain⟨v1,e1,q1⟩:=rQ r1 h1;obtain⟨v2,e2,q2⟩:=rQ r2 h2;obtain⟨d1,f1,g1⟩:=i1.get e1;obtain⟨d2,f2,g2⟩:=i2.get e2;unfold oz;rw[f1,f2];exact(yL I 59 (V_ (x_ f1) hl) (by rw[in1_units];omega) g1 g2 q1 q2).1
 cases d with
 |tup ds =>
  have hl:bO ds<=59:=by simp only[dep] at hd;omega
  simp only[Is] at hv;obtain⟨a,vs,rfl,h1,i1⟩:=hv;cases rv
  obtain⟨ar,r1,p1⟩:=cK I h1
  cases e with
  |tup es =>
   simp only[Is] at hw;obtain⟨b,us,rfl,h2,i2⟩:=hw;cases ru
   obtain⟨a_,r2,p2⟩:=cK I h2;have:=SeqAt.RcNeAt.tuples p1 p2 nz (step r1 r2 hl i1 i2);have l1:ar.toArray.size=ds.length:=by rw[xM,<-r1.length,i1.length]
   have l2:a_.toArray.size=es.length:=by rw[xM,<-r2.length,i2.length]
   rw[l1,l2] at this
   have eb:((List.range (min ds.length es.length)).all (oz ds es)&&ds.length==es.length)=aB (.tup ds) (.tup es):=by
    simp only[aB]
    by_cases c:ds.length=es.length
    ·rw[<-c,Nat.min_self,rP c];simp
    ·rw[rO c];simp[c]
   rw[eb] at this;exact this
  |lst es=>simp only[Is] at hw;obtain⟨b,us,rfl,h2,i2⟩:=hw;cases ru;obtain⟨a_,r2,p2⟩:=cJ I h2;simp only[aB];exact SeqAt.RcNeAt.tuple_list p1 p2 nz
  |non=>cases(show u=.non from hw);cases ru;simp only[aB];exact SeqAt.RcNeAt.tuple_none p1 nz
  |bl b=>cases(show u=.bl b from hw);cases ru;simp only[aB];exact SeqAt.RcNeAt.tuple_bool _ p1 nz
  |int b=>cases(show u=.int b from hw);obtain⟨t,rfl⟩:=ru;simp only[aB];exact SeqAt.RcNeAt.tuple_int _ _ p1 nz
  |str b=>cases(show u=.str b from hw);obtain⟨t,rfl⟩:=ru;simp only[aB];exact SeqAt.RcNeAt.tuple_str _ _ p1 nz
 |lst ds =>
  have hl:bO ds<=59:=by simp only[dep] at hd;omega
  simp only[Is] at hv;obtain⟨a,vs,rfl,h1,i1⟩:=hv;cases rv
  obtain⟨ar,r1,p1⟩:=cJ I h1
  cases e with
  |lst es =>
   simp only[Is] at hw;obtain⟨b,us,rfl,h2,i2⟩:=hw;cases ru
   obtain⟨a_,r2,p2⟩:=cJ I h2;have l1:ar.toArray.size=ds.length:=by rw[xM,<-r1.length,i1.length]
   have l2:a_.toArray.size=es.length:=by rw[xM,<-r2.length,i2.length]
   by_cases c:ds.length=es.length
   ·have:=SeqAt.RcNeAt.lists p1 p2 (by rw[l1,l2];exact c) nz (step r1 r2 hl i1 i2)
    rw[l1,rP c] at this;simp only[aB];exact this
   ·simp only[aB];rw[rO c]
    exact SeqAt.RcNeAt.lists_lengths p1 p2 (by rw[l1,l2];simpa using c) nz
  |tup es=>simp only[Is] at hw;obtain⟨b,us,rfl,h2,i2⟩:=hw;cases ru;obtain⟨a_,r2,p2⟩:=cK I h2;simp only[aB];exact SeqAt.RcNeAt.list_tuple p1 p2 nz
  |non=>cases(show u=.non from hw);cases ru;simp only[aB];exact SeqAt.RcNeAt.list_none p1 nz
  |bl b=>cases(show u=.bl b from hw);cases ru;simp only[aB];exact SeqAt.RcNeAt.list_bool _ p1 nz
  |int b=>cases(show u=.int b from hw);obtain⟨t,rfl⟩:=ru;simp only[aB];exact SeqAt.RcNeAt.list_int _ _ p1 nz
  |str b=>cases(show u=.str b from hw);obtain⟨t,rfl⟩:=ru;simp only[aB];exact SeqAt.RcNeAt.list_str _ _ p1 nz
 |non =>
  cases(show v=.non from hv);cases rv
  cases e with
  |non=>cases(show u=.non from hw);cases ru;simp only[aB];exact SeqAt.RcNeAt.none_none
  |bl b=>cases(show u=.bl b from hw);cases ru;simp only[aB];exact SeqAt.RcNeAt.none_bool _
  |int b=>cases(show u=.int b from hw);obtain⟨t,rfl⟩:=ru;simp only[aB];exact SeqAt.RcNeAt.none_int _ _
  |str b=>cases(show u=.str b from hw);obtain⟨t,rfl⟩:=ru;simp only[aB];exact SeqAt.RcNeAt.none_str _ _
  |tup es=>simp only[Is] at hw;obtain⟨a,vs,rfl,h1,_⟩:=hw;cases ru;obtain⟨_,_,p⟩:=cK I h1;simp only[aB];exact SeqAt.RcNeAt.none_tuple p nz
  |lst es=>simp only[Is] at hw;obtain⟨a,vs,rfl,h1,_⟩:=hw;cases ru;obtain⟨_,_,p⟩:=cJ I h1;simp only[aB];exact SeqAt.RcNeAt.none_list p nz
 |bl b0 =>
  cases(show v=.bl b0 from hv);cases rv
  cases e with
  |non=>cases(show u=.non from hw);cases ru;simp only[aB];exact SeqAt.RcNeAt.bool_none _
  |bl b=>cases(show u=.bl b from hw);cases ru;simp only[aB];exact SeqAt.RcNeAt.bool_bool _ _
  |int b=>cases(show u=.int b from hw);obtain⟨t,rfl⟩:=ru;simp only[aB];exact SeqAt.RcNeAt.bool_int _ _ _
  |str b=>cases(show u=.str b from hw);obtain⟨t,rfl⟩:=ru;simp only[aB];exact SeqAt.RcNeAt.bool_str _ _ _
  |tup es=>simp only[Is] at hw;obtain⟨a,vs,rfl,h1,_⟩:=hw;cases ru;obtain⟨_,_,p⟩:=cK I h1;simp only[aB];exact SeqAt.RcNeAt.bool_tuple _ p nz
  |lst es=>simp only[Is] at hw;obtain⟨a,vs,rfl,h1,_⟩:=hw;cases ru;obtain⟨_,_,p⟩:=cJ I h1;simp only[aB];exact SeqAt.RcNeAt.bool_list _ p nz
 |int b0 =>
  cases(show v=.int b0 from hv);obtain⟨t0,rfl⟩:=rv
  cases e with
  |non=>cases(show u=.non from hw);cases ru;simp only[aB];exact SeqAt.RcNeAt.int_none _ _
  |bl b=>cases(show u=.bl b from hw);cases ru;simp only[aB];exact SeqAt.RcNeAt.int_bool _ _ _
  |int b=>cases(show u=.int b from hw);obtain⟨t,rfl⟩:=ru;simp only[aB];exact SeqAt.RcNeAt.int_int _ _ _ _
  |str b=>cases(show u=.str b from hw);obtain⟨t,rfl⟩:=ru;simp only[aB];exact SeqAt.RcNeAt.int_str _ _ _ _
  |tup es=>simp only[Is] at hw;obtain⟨a,vs,rfl,h1,_⟩:=hw;cases ru;obtain⟨_,_,p⟩:=cK I h1;simp only[aB];exact SeqAt.RcNeAt.int_tuple _ _ p nz
  |lst es=>simp only[Is] at hw;obtain⟨a,vs,rfl,h1,_⟩:=hw;cases ru;obtain⟨_,_,p⟩:=cJ I h1;simp only[aB];exact SeqAt.RcNeAt.int_list _ _ p nz
 |str b0 =>
  cases(show v=.str b0 from hv);obtain⟨t0,rfl⟩:=rv
  cases e with
  |non=>cases(show u=.non from hw);cases ru;simp only[aB];exact SeqAt.RcNeAt.str_none _ _
  |bl b=>cases(show u=.bl b from hw);cases ru;simp only[aB];exact SeqAt.RcNeAt.str_bool _ _ _
  |int b=>cases(show u=.int b from hw);obtain⟨t,rfl⟩:=ru;simp only[aB];exact SeqAt.RcNeAt.str_int _ _ _ _
  |str b=>cases(show u=.str b from hw);obtain⟨t,rfl⟩:=ru;simp only[aB];exact SeqAt.RcNeAt.str_str _ _ _ _
  |tup es=>simp only[Is] at hw;obtain⟨a,vs,rfl,h1,_⟩:=hw;cases ru;obtain⟨_,_,p⟩:=cK I h1;simp only[aB];exact SeqAt.RcNeAt.str_tuple _ _ p nz
  |lst es=>simp only[Is] at hw;obtain⟨a,vs,rfl,h1,_⟩:=hw;cases ru;obtain⟨_,_,p⟩:=cJ I h1;simp only[aB];exact SeqAt.RcNeAt.str_list _ _ p nz
end
variable[aH]
noncomputable def intsOf:List D->Option (List Int)
 |[]=>some []
 |.int i::r=>match intsOf r with
  |some ns=>some (i::ns)
  |none=>none
 |_=>none
theorem oA:∀ns:List Int,intsOf (ns.map D.int)=some ns
 |[]=>rfl
 |n::r=>by show(match intsOf (r.map D.int) with|some ns=>some (n::ns)|none=>none)=_;rw[oA r]
theorem pN:∀{ds:List D}{ns:List Int},intsOf ds=some ns->ds=ns.map D.int
 |[],ns,h=>by cases h;rfl
 |.int i::r,ns,h=>by
  unfold intsOf at h;split at h
  ·rename_i ms e;cases h;rw[VM,pN e]
  ·cases h
 |.non::r,ns,h=>by cases h
 |.bl _::r,ns,h=>by cases h
 |.str _::r,ns,h=>by cases h
 |.tup _::r,ns,h=>by cases h
 |.lst _::r,ns,h=>by cases h
theorem lG{F:Hp}:∀{ns:List Int}{vs:List V},ae F (ns.map D.int) vs->vs=ns.map V.int
 |[],vs,h=>by simp only[Xo,ae] at h;exact h
 |n::r,vs,h=>by
  simp only[VM,ae] at h;obtain⟨v,t,rfl,h1,h2⟩:=h;have h1:v=.int n:=h1;rw[lG h2,h1];rfl
theorem mJ{F:Hp}:∀{ns:List Int},ae F (ns.map D.int) (ns.map V.int)
 |[]=>.nil
 |n::r=>.cons (show _=_ from rfl) mJ
theorem pO{F:Hp}:∀{as bs:List D}{us vs:List V},ae F as us->ae F bs vs->ae F (as++bs) (us++vs)
 |[],bs,us,vs,h,q=>by simp only[ae] at h;subst h;exact q
 |a::r,bs,us,vs,h,q=>by
  simp only[ae] at h;obtain⟨v,t,rfl,h1,h2⟩:=h;exact .cons h1 (pO h2 q)
theorem Ec{F:Hp}:∀{as:List D}{us:List V}(n:Nat),ae F as us->ae F (as.take n) (us.take n)
 |as,us,0,_=>by rw[Zf,Zf];exact .nil
 |[],us,n+1,h=>by simp only[ae] at h;subst h;exact .nil
 |a::r,us,n+1,h=>by
  simp only[ae] at h;obtain⟨v,t,rfl,h1,h2⟩:=h;exact .cons h1 (Ec n h2)
theorem Ed{F:Hp}:∀{as:List D}{us:List V}(n:Nat),ae F as us->ae F (as.drop n) (us.drop n)
 |as,us,0,h=>h
 |[],us,n+1,h=>by simp only[ae] at h;subst h;exact .nil
 |a::r,us,n+1,h=>by
  simp only[ae] at h;obtain⟨v,t,rfl,h1,h2⟩:=h;exact Ed n h2
theorem Ee{F:Hp}:∀{as:List D}{us:List V}(n:Nat){d:D}{v:V},ae F as us->Is F d v->ae F (as.set n d) (us.set n v)
 |[],us,n,d,v,h,_=>by simp only[ae] at h;subst h;exact .nil
 |a::r,us,0,d,v,h,q=>by
  simp only[ae] at h;obtain⟨w,t,rfl,h1,h2⟩:=h;exact .cons q h2
 |a::r,us,n+1,d,v,h,q=>by
  simp only[ae] at h;obtain⟨w,t,rfl,h1,h2⟩:=h;exact .cons h1 (Ee n h2 q)
theorem Ef{F:Hp}:∀{as:List D}{us:List V}(n:Nat),ae F as us->ae F (as.eraseIdx n) (us.eraseIdx n)
 |[],us,n,h=>by simp only[ae] at h;subst h;exact .nil
 |a::r,us,0,h=>by
  simp only[ae] at h;obtain⟨w,t,rfl,h1,h2⟩:=h;exact h2
 |a::r,us,n+1,h=>by
  simp only[ae] at h;obtain⟨w,t,rfl,h1,h2⟩:=h;exact .cons h1 (Ef n h2)
theorem mK{F H:Hp}{p:Addr}{ds:List D}{vs:List V}(s:aE F H)(hp:H p=none)(h:ae F ds vs):Is (Nw F H (upd H p (.lst vs))) (.lst ds) (.ref p):=by
 rw[Nw.upd s hp];simp only[Is];exact⟨p,vs,rfl,bE,h.same (cz (s.free hp))⟩
theorem yO{F H:Hp}{p:Addr}{ds:List D}{vs:List V}(s:aE F H)(hp:H p=none)(h:ae F ds vs):Is (Nw F H (upd H p (.tup vs))) (.tup ds) (.ref p):=by
 rw[Nw.upd s hp];simp only[Is];exact⟨p,vs,rfl,bE,h.same (cz (s.free hp))⟩
theorem rR{F H:Hp}{d:D}{v:V}(s:aE F H)(h:Is F d v):Is (Nw F H H) d v:=by rw[Nw.refl s];exact h
def oB:D->D->(D->Prop)->Prop
 |.int i,.int j,K=>K (.int (i+j))
 |.lst a,.lst b,K=>a.length+b.length<=1000/\K (.lst (a++b))
 |.tup a,.tup b,K=>(a≠[]/\a.length+b.length<=1000)/\K (.tup (a++b))
 |.str a,.str b,K=>a.length+b.length<=1000/\K (.str (a++b))
 |_,_,_=>False
def oI(f:Int->Int->D):D->D->(D->Prop)->Prop
 |.int i,.int j,K=>K (f i j)
 |_,_,_=>False
def c9(C:Int->Int->Prop)(f:Int->Int->D):D->D->(D->Prop)->Prop
 |.int i,.int j,K=>C i j/\K (f i j)
 |_,_,_=>False
def fm:D->D->(D->Prop)->Prop
 |.int i,.int j,K=>k7 i j/\K (.int (i*j))
 |.lst a,.int j,K=>(-(2 ^ 63)<=j/\j<2 ^ 63/\a.length*j.toNat<=1000)/\K (.lst (List.replicate j.toNat a).flatten)
 |_,_,_=>False
section
variable{X:Cx}
theorem uE{f:Value->Value->Sem Value}{g:Int->Int->V}{h:Int->Int->D}(op:cU X f (kZ g))(hg:∀F i j,Is F (h i j) (g i j)):dP X f (oI h):=by
 rintro pins s σ H x y v u Q I rx ry ⟨F,d,e,K,sub,rd,re,q,md⟩;unfold oI at q;split at q
 ·rename_i i j
  exact op pins s σ H x y v u Q I rx ry ⟨i,j,rd,re,md _ _ _ q (fun _ _ e=>e) (hg _ i j)⟩
 ·exact q.elim
theorem yP{f:Value->Value->Sem Value}{C:Int->Int->Prop}{g:Int->Int->V}{h:Int->Int->D}(op:cU X f (rI C g))(hg:∀F i j,Is F (h i j) (g i j)):dP X f (c9 C h):=by
 rintro pins s σ H x y v u Q I rx ry ⟨F,d,e,K,sub,rd,re,q,md⟩;unfold c9 at q;split at q
 ·rename_i i j
  exact op pins s σ H x y v u Q I rx ry ⟨i,j,rd,re,q.1,md _ _ _ q.2 (fun _ _ e=>e) (hg _ i j)⟩
 ·exact q.elim
theorem uF:dP X (binaryOp .Add) oB:=by
 rintro pins s σ H x y v u Q I rx ry ⟨F,d,e,K,sub,rd,re,q,md⟩;unfold oB at q;split at q
 ·rename_i i j
  exact Ci pins s σ H x y v u Q I rx ry ⟨i,j,rd,re,md _ _ _ q (fun _ _ e=>e) rfl⟩
 ·rename_i as bs
  obtain⟨a,us,rfl,h1,h2⟩:=rd;obtain⟨b,ws,rfl,h3,h4⟩:=re;refine C1 pins s σ H _ _ v u Q I rx ry ⟨a,b,us,ws,rfl,rfl,h1,h3,jO (by rw[h2.length,h4.length];exact q.1),fun p hp=>md _ _ _ q.2 (cz hp) (mK sub hp (pO h2 h4))⟩
 ·rename_i as bs
  have cA:Is F (.tup as) x:=rd;have gE:Is F (.tup bs) y:=re;simp only[Is] at cA gE;obtain⟨a,us,rfl,h1,h2⟩:=cA;obtain⟨b,ws,rfl,h3,h4⟩:=gE;have ne:us≠[]:=fun z=>q.1.1 (XM.mp (by rw[<-h2.length,z];rfl));refine K5 pins s σ H _ _ v u Q I rx ry ⟨a,b,us,ws,rfl,rfl,bw.of (sub _ _ h1),bw.of (sub _ _ h3),ne,jO (by rw[h2.length,h4.length];exact q.1.2),fun z=>?_,fun z p hp=>md _ _ _ q.2 (cz hp) (yO sub hp (pO h2 h4))⟩;have:bs=[]:=XM.mp (by rw[<-h4.length,z];rfl);subst this;refine md _ _ _ q.2 (fun _ _ e=>e) (rR sub ?_);rw[XE];exact rd
 ·rename_i as bs
  have cA:x=.str as:=rd;have gE:y=.str bs:=re;subst cA gE;exact Ks pins s σ H _ _ v u Q I rx ry ⟨as,bs,rfl,rfl,jO q.1,md _ _ _ q.2 (fun _ _ e=>e) rfl⟩
 ·exact q.elim
theorem NF:dP X (binaryOp .Sub) (oI fun i j=>.int (i-j)):=uE Kd fun _ _ _=>rfl
theorem NG:dP X (binaryOp .Mult) fm:=by
 rintro pins s σ H x y v u Q I rx ry ⟨F,d,e,K,sub,rd,re,q,md⟩;unfold fm at q;split at q
 ·rename_i i j
  exact Ke pins s σ H x y v u Q I rx ry ⟨i,j,rd,re,q.1,md _ _ _ q.2 (fun _ _ e=>e) rfl⟩
 ·rename_i as j
  obtain⟨a,us,rfl,h1,h2⟩:=rd;refine Lh pins s σ H _ _ v u Q I rx ry ⟨a,j,us,rfl,re,h1,q.1.1,q.1.2.1,jO (by rw[h2.length];exact q.1.2.2),fun p hp=>md _ _ _ q.2 (cz hp) (mK sub hp ?_)⟩
  have:∀k:Nat,ae F (List.replicate k as).flatten (List.replicate k us).flatten:=fun k=>by
   induction k with
   |zero=>exact .nil
   |succ k ih=>rw[WN,WN,Wv,Wv];exact pO h2 ih
  exact this _
 ·exact q.elim
theorem NH:dP X (binaryOp .FloorDiv) (c9 qM fun i j=>.int (i.fdiv j)):=yP Kf fun _ _ _=>rfl
theorem NI:dP X (binaryOp .Mod) (c9 (fun _ j=>0<j) fun i j=>.int (i%j)):=yP w5 fun _ _ _=>rfl
theorem NJ:dP X (binaryOp .Pow) (c9 fP fun i j=>.int (i ^ j.toNat)):=yP Kg fun _ _ _=>rfl
def oEq:D->D->(D->Prop)->Prop:=fun d e K=>dep d<=60/\K (.bl (aB d e))
def iG:D->D->(D->Prop)->Prop:=fun d e K=>dep d<=60/\K (.bl (!aB d e))
theorem Eg(hu:X.A.units+64<cLine):dP X (compareOp .Eq) oEq:=by
 rintro pins s σ H x y v u Q I rx ry ⟨F,d,e,K,sub,rd,re,q,md⟩;exact(yL I 60 q.1 (by omega) (rd.is sub) (re.is sub) rx ry).2 _ _ _ _ ⟨.bl _,H,I,rfl,md _ _ _ q.2 (fun _ _ e=>e) rfl⟩
theorem Eh(hu:X.A.units+64<cLine):dP X (compareOp .NotEq) iG:=by
 rintro pins s σ H x y v u Q I rx ry ⟨F,d,e,K,sub,rd,re,q,md⟩;exact ND I q.1 (by omega) (rd.is sub) (re.is sub) rx ry _ _ _ _ ⟨.bl _,H,I,rfl,md _ _ _ q.2 (fun _ _ e=>e) rfl⟩
def oLt:D->D->(D->Prop)->Prop
 |.int i,.int j,K=>K (.bl (decide (i<j)))
 |.tup a,.tup b,K=>match intsOf a,intsOf b with
  |some ns,some ms=>K (.bl (HT.lexLt ns ms))
  |_,_=>False
 |_,_,_=>False
theorem Ei(hu:X.A.units+64<cLine):dP X (compareOp .Lt) oLt:=by
 rintro pins s σ H x y v u Q I rx ry ⟨F,d,e,K,sub,rd,re,q,md⟩;unfold oLt at q;split at q
 ·rename_i i j
  exact Kh pins s σ H x y v u Q I rx ry ⟨i,j,rd,re,md _ _ _ q (fun _ _ e=>e) rfl⟩
 ·rename_i as bs
  split at q
  ·rename_i ns ms e1 e2
   rw[pN e1] at rd;rw[pN e2] at re;have cA:Is F (.tup (ns.map D.int)) x:=rd;have gE:Is F (.tup (ms.map D.int)) y:=re;simp only[Is] at cA gE;obtain⟨a,us,rfl,h1,h2⟩:=cA;obtain⟨b,ws,rfl,h3,h4⟩:=gE;rw[lG h2] at h1;rw[lG h4] at h3;exact K1 (by omega) pins s σ H _ _ v u Q I rx ry ⟨a,b,ns,ms,rfl,rfl,bw.of (sub _ _ h1),bw.of (sub _ _ h3),md _ _ _ q (fun _ _ e=>e) rfl⟩
  ·exact q.elim
 ·exact q.elim
theorem Ej:dP X (compareOp .LtE) (oI fun i j=>.bl (decide (i<=j))):=uE Ki fun _ _ _=>rfl
theorem Ek:dP X (compareOp .Gt) (oI fun i j=>.bl (decide (j<i))):=uE Kj fun _ _ _=>rfl
theorem NK:dP X (compareOp .GtE) (oI fun i j=>.bl (decide (j<=i))):=uE Kk fun _ _ _=>rfl
def i8:D->D->(D->Prop)->Prop
 |.non,.non,K=>K (.bl true)
 |.bl _,.non,K=>K (.bl false)
 |.int _,.non,K=>K (.bl false)
 |.str _,.non,K=>K (.bl false)
 |.tup _,.non,K=>K (.bl false)
 |.lst _,.non,K=>K (.bl false)
 |_,_,_=>False
theorem El{F H:Hp}{d e:D}{x y:V}{K:D->Prop}(rd:fV F H d x)(re:fV F H e y)(q:i8 d e K):y=.non/\K (.bl (decide (x=.non))):=by
 unfold i8 at q;split at q
 ·have:x=.non:=rd;have h2:y=.non:=re;subst this;exact⟨h2,q⟩
 ·rename_i b;have:x=.bl b:=rd;have h2:y=.non:=re;subst this;exact⟨h2,q⟩
 ·rename_i b;have:x=.int b:=rd;have h2:y=.non:=re;subst this;exact⟨h2,q⟩
 ·rename_i b;have:x=.str b:=rd;have h2:y=.non:=re;subst this;exact⟨h2,q⟩
 ·rename_i b;have rd:Is F (.tup b) x:=rd;simp only[Is] at rd;obtain⟨a,_,rfl,_⟩:=rd;exact⟨re,q⟩
 ·rename_i b;obtain⟨a,_,rfl,_⟩:=rd;exact⟨re,q⟩
 ·exact q.elim
def yQ:D->D->(D->Prop)->Prop:=fun d e K=>i8 d e fun z=>match z with
 |.bl b=>K (.bl (!b))
 |_=>False
theorem NL:dP X (compareOp .Is) i8:=by
 rintro pins s σ H x y v u Q I rx ry ⟨F,d,e,K,sub,rd,re,q,md⟩;obtain⟨h1,h2⟩:=El rd re q;exact Kl pins s σ H x y v u Q I rx ry ⟨h1,md _ _ _ h2 (fun _ _ e=>e) rfl⟩
theorem NM:dP X (compareOp .IsNot) yQ:=by
 rintro pins s σ H x y v u Q I rx ry ⟨F,d,e,K,sub,rd,re,q,md⟩;obtain⟨h1,h2⟩:=El rd re q;exact Km pins s σ H x y v u Q I rx ry ⟨h1,md _ _ _ h2 (fun _ _ e=>e) rfl⟩
def dZ(neg:Bool):D->D->(D->Prop)->Prop
 |d,.lst es,K=>bO es<=55/\K (.bl (if neg then !(es.any fun e=>aB e d) else es.any fun e=>aB e d))
 |d,.tup es,K=>bO es<=55/\K (.bl (if neg then !(es.any fun e=>aB e d) else es.any fun e=>aB e d))
 |_,_,_=>False
noncomputable def gT(H:Hp)(d:D)(u:Value):Bool:=by
 classical exact if ∃e v,Is H e v/\RelV v u/\aB e d=true then true else false
theorem Em{H:Hp}{d e:D}{v:V}{u:Value}(h:Is H e v)(r:RelV v u):gT H d u=aB e d:=by
 unfold gT;split
 ·rename_i z
  obtain⟨e',v',h',r',q⟩:=z;have:v'=v:=r'.inj r;subst this;rw[Is.inj h h'];exact q.symm
 ·rename_i z
  cases q:aB e d with
  |false=>rfl
  |true=>exact absurd ⟨e,v,h,r,q⟩ z
theorem rS{H:Hp}{d:D}:∀{es:List D}{vs:List V}{us:List Value},ae H es vs->Vals vs us->us.any (gT H d)=es.any fun e=>aB e d
 |[],vs,us,h,r=>by simp only[ae] at h;subst h;cases r;rfl
 |e::es,vs,us,h,r=>by
  simp only[ae] at h;obtain⟨v,t,rfl,h1,h2⟩:=h
  cases r with
  |cons r1 r2=>rw[Xw,Xw,Em h1 r1,rS h2 r2]
theorem rT{pins:av}{σ:St}{H:Hp}{s:Shared}(I:Inv X pins σ H s){A:Around}(hu:A.units+60<cLine){d:D}{x:V}{w:Value}(hd:Is H d x)(rd:RelV x w):∀{es:List D}{vs:List V}{us:List Value},bO es<=55->ae H es vs->Vals vs us->∀u∈us,SeqAt.EqAt A s u w (gT H d u)
 |[],vs,us,_,h,r=>by simp only[ae] at h;subst h;cases r;intro u hu;cases hu
 |e::es,vs,us,hp,h,r=>by
  simp only[ae] at h;obtain⟨v,t,rfl,h1,h2⟩:=h;simp only[bO] at hp
  cases r with
  |cons r1 r2 =>
   intro u hu';rcases Lp.mp hu' with rfl|hu'
   ·rw[Em h1 r1];exact(yL I 55 (by omega) (by omega) h1 hd r1 rd).1
   ·exact rT I hu hd rd (by omega) h2 r2 u hu'
theorem En(hu:X.A.units+64<cLine):dP X (compareOp .In) (dZ false):=by
 rintro pins s σ H x y v u Q I rx ry ⟨F,d,e,K,sub,rd,re,q,md⟩;unfold dZ at q;split at q
 ·rename_i es
  obtain⟨a,vs,rfl,h1,h2⟩:=re;cases ry
  obtain⟨ar,r,p⟩:=cJ I h1;have eX:=h2.same sub;refine SeqAt.in_listAt (gT H d) p (fun w hw=>rT I (by rw[in1_units];omega) (rd.is sub) rx q.1 eX r w (by simpa using hw)) ⟨.bl _,H,I,rfl,?_⟩;rw[show ar.toArray.any (gT H d)=ar.any (gT H d) by simp,rS eX r];exact md _ _ _ q.2 (fun _ _ e=>e) rfl
 ·rename_i es
  have gE:Is F (.tup es) y:=re;simp only[Is] at gE;obtain⟨a,vs,rfl,h1,h2⟩:=gE;cases ry
  obtain⟨ar,r,p⟩:=cK I (sub _ _ h1);have eX:=h2.same sub;refine SeqAt.in_tupleAt (gT H d) p (fun w hw=>rT I (by rw[in1_units];omega) (rd.is sub) rx q.1 eX r w (by simpa using hw)) ⟨.bl _,H,I,rfl,?_⟩;rw[show ar.toArray.any (gT H d)=ar.any (gT H d) by simp,rS eX r];exact md _ _ _ q.2 (fun _ _ e=>e) rfl
 ·exact q.elim
theorem Eo(hu:X.A.units+64<cLine):dP X (compareOp .NotIn) (dZ true):=by
 rintro pins s σ H x y v u Q I rx ry ⟨F,d,e,K,sub,rd,re,q,md⟩;unfold dZ at q;split at q
 ·rename_i es
  obtain⟨a,vs,rfl,h1,h2⟩:=re;cases ry
  obtain⟨ar,r,p⟩:=cJ I h1;have eX:=h2.same sub;refine SeqAt.notIn_listAt (gT H d) p (fun w hw=>rT I (by rw[in1_units];omega) (rd.is sub) rx q.1 eX r w (by simpa using hw)) ⟨.bl _,H,I,rfl,?_⟩;rw[show ar.toArray.any (gT H d)=ar.any (gT H d) by simp,rS eX r];exact md _ _ _ q.2 (fun _ _ e=>e) rfl
 ·rename_i es
  have gE:Is F (.tup es) y:=re;simp only[Is] at gE;obtain⟨a,vs,rfl,h1,h2⟩:=gE;cases ry
  obtain⟨ar,r,p⟩:=cK I (sub _ _ h1);have eX:=h2.same sub;refine SeqAt.notIn_tupleAt (gT H d) p (fun w hw=>rT I (by rw[in1_units];omega) (rd.is sub) rx q.1 eX r w (by simpa using hw)) ⟨.bl _,H,I,rfl,?_⟩;rw[show ar.toArray.any (gT H d)=ar.any (gT H d) by simp,rS eX r];exact md _ _ _ q.2 (fun _ _ e=>e) rfl
 ·exact q.elim
def aG:D->D->(D->Prop)->Prop
 |.lst ds,.int i,K=>match d8 ds i with
  |some d=>K d
  |none=>False
 |.tup ds,.int i,K=>match d8 ds i with
  |some d=>K d
  |none=>False
 |.str z,.int i,K=>z.length<=1000/\match d8 z.cps.toList i with
  |some c=>K (.str ⟨#[c]⟩)
  |none=>False
 |_,_,_=>False
theorem Ep{F:Hp}{ds:List D}{vs:List V}{i:Int}{d:D}(h:ae F ds vs)(e:d8 ds i=some d):∃v,d8 vs i=some v/\Is F d v:=by
 unfold d8 at e ⊢;rw[h.length]
 cases q:iU ds.length i with
 |none=>rw[q] at e;cases e
 |some j =>
  rw[q] at e;exact pM h (show ds[j]?=some d from e)
theorem oC:DM X aG:=by
 rintro value slice pins s σ H x y v u Q I rx ry ⟨F,d,e,K,sub,rd,re,q,md⟩ hs;unfold aG at q;split at q
 ·rename_i ds i
  split at q
  ·rename_i d' e1
   obtain⟨a,vs,rfl,h1,h2⟩:=rd;obtain⟨w,e2,h3⟩:=Ep h2 e1;exact CM value slice pins s σ H _ _ v u Q I rx ry ⟨a,vs,i,w,rfl,re,a8.of h1,e2,md _ _ _ q (fun _ _ e=>e) (rR sub h3)⟩ hs
  ·exact q.elim
 ·rename_i ds i
  split at q
  ·rename_i d' e1
   have cA:Is F (.tup ds) x:=rd;simp only[Is] at cA;obtain⟨a,vs,rfl,h1,h2⟩:=cA;obtain⟨w,e2,h3⟩:=Ep h2 e1;exact K6 value slice pins s σ H _ _ v u Q I rx ry ⟨a,vs,i,w,rfl,re,bw.of (sub _ _ h1),e2,md _ _ _ q (fun _ _ e=>e) (rR sub h3)⟩ hs
  ·exact q.elim
 ·rename_i z i
  obtain⟨hz,q⟩:=q;split at q
  ·rename_i c e1
   have cA:x=.str z:=rd;subst cA;exact K7 value slice pins s σ H _ _ v u Q I rx ry ⟨z,i,c,rfl,re,jO hz,e1,md _ _ _ q (fun _ _ e=>e) rfl⟩ hs
  ·exact q.elim
 ·exact q.elim
noncomputable def cutD(ds:List D)(lo hi:Option Int):List D:=(ds.drop (HT.a0 ds.length 0 lo)).take (HT.a0 ds.length ds.length hi-HT.a0 ds.length 0 lo)
theorem Er{F:Hp}{ds:List D}{vs:List V}(h:ae F ds vs)(lo hi:Option Int):ae F (cutD ds lo hi) (cD vs lo hi):=by
 unfold cutD cD;rw[h.length];exact Ec _ (Ed _ h)
abbrev WO:=aD->(Option Int->aD->Prop)->Prop
def uG(f:WO):TO:=fun σ H Q=>∃F ad δ K,SR F ad δ σ H/\f δ K/\∀o δ',K o δ'->∀F' aF H',Ext F ad δ.mu H F' aF δ'.mu H'->SR F' aF δ' σ H'->Q o H'
def fY:WO:=fun δ K=>K none δ
def lH(f:WE):WO:=fun δ K=>f δ fun x δ1=>match x with
 |.p (.int i)=>K (some i) δ1
 |_=>False
theorem NN:PO X none (uG fY):=fun pins s σ H Q I h0_=>el7 h0_ fun F ad δ K S q k =>CG pins s σ H Q I (k _ _ q _ _ _ .refl S)
theorem NO{e:Expr}{f:WE}(h:JE X e (tD f)):PO X (some e) (uG (lH f)):=fun pins s σ H Q I h0_=>el7 h0_ fun F ad δ K S q k =>t8 h pins s σ H Q I ⟨F,ad,δ,_,S,q,fun x δ1 h1 v F1 aK H1 E1 S1 V1=>by
 split at h1
 ·rename_i i
  exact⟨i,V1,k _ _ h1 _ _ _ E1 S1⟩
 ·exact h1.elim⟩
def yR(f g h:WE)(o o':D->D->(D->Prop)->Prop):WE:=fun δ K=>f δ fun x δ1=>g δ1 fun y δ2=>fW x δ2 fun d=>fW y δ2 fun e=>o d e fun z=>match z with
 |.bl true=>h δ2 fun w δ3=>fW y δ3 fun e'=>fW w δ3 fun c=>o' e' c fun z'=>K (.p z') δ3
 |.bl false=>K (.p (.bl false)) δ2
 |_=>False
theorem NP{a b c:Expr}{f g h:WE}{op nD:CmpOp}{o o':D->D->(D->Prop)->Prop}{pos:Pos}(ho:dP X (compareOp op) o)(jF:dP X (compareOp nD) o')(ha:JE X a (tD f))(hb:JE X b (tD g))(hc:JE X c (tD h))
  (hm:lastMarks [op,nD] [b,c]=false:=by with_unfolding_all rfl):JE X (.Compare a [op,nD] [b,c] pos) (tD (yR f g h o o')) :=
 (Kr ho jF ha hb hc hm).weak fun σ H Q h0_=>el7 h0_ fun F ad δ K S q k =>by
  refine⟨F,ad,δ,_,S,q,fun x δ1 h1 v1 F1 aK H1 E1 S1 V1=>⟨F1,aK,δ1,_,S1,h1,fun y δ2 h2 v2 F2 bo H2 E2 S2 V2=>?_⟩⟩;obtain⟨d,h3,rd⟩:=iC S2 (V1.ext E2) h2;obtain⟨e,h4,re⟩:=iC S2 V2 h3;refine⟨F2,d,e,_,S2.sub,rd,re,h4,fun z v H' hz sm is=>?_⟩;have S3:=S2.al sm;have E3:=Ext.al S2 sm;split at hz
  ·refine⟨true,is,?_⟩
   rw[VB rfl];refine⟨_,bo,δ2,_,S3,hz,fun w δ4 h5 v4 F4 ux H4 E4 S4 V4=>?_⟩;obtain⟨d',h6,uw⟩:=iC S4 ((V2.ext E3).ext E4) h5;obtain⟨e',h7,uH⟩:=iC S4 V4 h6;exact⟨F4,d',e',_,S4.sub,uw,uH,h7,fun z v H' hz sm is=>k _ _ hz _ _ _ _ ((((E1.trans E2).trans E3).trans E4).trans (Ext.al S4 sm)) (S4.al sm) is⟩
  ·refine⟨false,is,?_⟩
   rw[Uo VC];exact k _ _ hz _ _ _ _ ((E1.trans E2).trans E3) S3 rfl
  ·exact hz.elim
end
noncomputable def sortI(ns:List Int):List Int:=ns.mergeSort fun a b=>decide (a<=b)
theorem sortI_perm(ns:List Int):(sortI ns).Perm ns:=List.mergeSort_perm ns _
theorem rU(ns:List Int):(sortI ns).Pairwise (· <= ·):=by
 have:=List.pairwise_mergeSort (le:=fun a b:Int=>decide (a<=b)) (fun a b c h1 h2=>by simp at *;omega) (fun a b=>by simp;omega) ns;exact this.imp fun h=>by simpa using h
theorem Es:∀{as bs:List Int},as.Perm bs->as.Pairwise (· <= ·)->bs.Pairwise (· <= ·)->as=bs
 |[],bs,p,_,_=>p.nil_eq
 |a::as,[],p,_,_=>absurd p.length_eq (by simp)
 |a::as,b::bs,p,s,t=>by
  have e:a=b:=by
   have h1:a<=b:=by
    have hb:b∈a::as:=p.mem_iff.mpr (My ..);rcases Lp.mp hb with h|h
    ·omega
    ·exact(Wj.mp s).1 b h
   have h2:b<=a:=by
    have ha:a∈b::bs:=p.mem_iff.mp (My ..);rcases Lp.mp ha with h|h
    ·omega
    ·exact(Wj.mp t).1 a h
   omega
  subst e;rw[Es (List.perm_cons a |>.mp p) (Wj.mp s).2 (Wj.mp t).2]
theorem pP{as bs:List Int}(p:as.Perm bs)(s:as.Pairwise (· <= ·)):as=sortI bs:=Es (p.trans (sortI_perm bs).symm) s (rU bs)
theorem kM(ns:List Int):(sortI ns).length=ns.length:=(sortI_perm ns).length_eq
def bz:List D->(D->Prop)->Prop
 |[.lst ds],K=>K (.int ds.length)
 |[.tup ds],K=>K (.int ds.length)
 |[.str z],K=>z.length<=1000/\K (.int z.length)
 |_,_=>False
def pQ:List D->(D->Prop)->Prop
 |[.lst ds],K=>K (.lst ds)
 |[.tup ds],K=>K (.lst ds)
 |_,_=>False
def uI:List D->(D->Prop)->Prop
 |[.lst ds],K=>K (.tup ds)
 |[.tup ds],K=>K (.tup ds)
 |_,_=>False
def iH:List D->(D->Prop)->Prop
 |[.lst ds],K=>match intsOf ds with
  |some ns=>ns.length<64/\K (.lst ((sortI ns).map D.int))
  |none=>False
 |_,_=>False
noncomputable def pR:List D->Option (List Bool)
 |[]=>some []
 |.bl b::r=>match pR r with
  |some bs=>some (b::bs)
  |none=>none
 |_=>none
theorem yS:∀bs:List Bool,pR (bs.map D.bl)=some bs
 |[]=>rfl
 |n::r=>by show(match pR (r.map D.bl) with|some ns=>some (n::ns)|none=>none)=_;rw[yS r]
theorem Et:∀{ds:List D}{bs:List Bool},pR ds=some bs->ds=bs.map D.bl
 |[],ns,h=>by cases h;rfl
 |.bl i::r,ns,h=>by
  unfold pR at h;split at h
  ·rename_i ms e;cases h;rw[VM,Et e]
  ·cases h
 |.non::r,ns,h=>by cases h
 |.int _::r,ns,h=>by cases h
 |.str _::r,ns,h=>by cases h
 |.tup _::r,ns,h=>by cases h
 |.lst _::r,ns,h=>by cases h
theorem yT{F:Hp}:∀{bs:List Bool}{vs:List V},ae F (bs.map D.bl) vs->vs=bs.map V.bl
 |[],vs,h=>by simp only[Xo,ae] at h;exact h
 |n::r,vs,h=>by
  simp only[VM,ae] at h;obtain⟨v,t,rfl,h1,h2⟩:=h;have h1:v=.bl n:=h1;rw[yT h2,h1];rfl
def jV:List D->(D->Prop)->Prop
 |[.lst ds],K=>match pR ds with
  |some bs=>K (.bl (bs.all id))
  |none=>False
 |_,_=>False
def rV:List D->(D->Prop)->Prop
 |[.int i,.int j],K=>K (.int (min i j))
 |_,_=>False
def uJ:List D->(D->Prop)->Prop
 |[.int i,.int j],K=>K (.int (max i j))
 |_,_=>False
section
variable{X:Cx}
theorem cA{F H:Hp}{d:D}{xs:List V}(h:fX F H [d] xs):∃v,xs=[v]/\fV F H d v:=by
 obtain⟨v,r,rfl,h1,h2⟩:=h;have h2:r=[]:=h2;subst h2;exact⟨v,rfl,h1⟩
theorem Eu{F H:Hp}{d e:D}{xs:List V}(h:fX F H [d,e] xs):∃v w,xs=[v,w]/\fV F H d v/\fV F H e w:=by
 obtain⟨v,r,rfl,h1,h2⟩:=h;obtain⟨w,rfl,h3⟩:=cA h2;exact⟨v,w,rfl,h1,h3⟩
theorem Ew:cO X (.builtin "len") bz:=by
 rintro pins s σ H xs us Q I r ⟨F,ds,K,sub,rd,q,md⟩;unfold bz at q;split at q
 ·obtain⟨v,rfl,a,vs,rfl,h1,h2⟩:=cA rd
  exact CQ pins s σ H _ us Q I r ⟨a,vs,rfl,.inl (a8.of h1),by rw[h2.length];exact md _ _ _ q (fun _ _ e=>e) rfl⟩
 ·rename_i es
  obtain⟨v,rfl,h⟩:=cA rd;have h:Is F (.tup es) v:=h;simp only[Is] at h;obtain⟨a,vs,rfl,h1,h2⟩:=h;exact CQ pins s σ H _ us Q I r ⟨a,vs,rfl,.inr (bw.of (sub _ _ h1)),by rw[h2.length];exact md _ _ _ q (fun _ _ e=>e) rfl⟩
 ·rename_i z
  obtain⟨v,rfl,h⟩:=cA rd;have h:v=.str z:=h;subst h;exact Lb pins s σ H _ us Q I r ⟨z,rfl,jO q.1,md _ _ _ q.2 (fun _ _ e=>e) rfl⟩
 ·exact q.elim
theorem NQ:cO X (.type "list") pQ:=by
 rintro pins s σ H xs us Q I r ⟨F,ds,K,sub,rd,q,md⟩;unfold pQ at q;split at q
 ·obtain⟨v,rfl,a,vs,rfl,h1,h2⟩:=cA rd
  exact xC pins s σ H _ us Q I r ⟨a,vs,rfl,.inl (a8.of h1),fun l hl=>md _ _ _ q (cz hl) (mK sub hl h2)⟩
 ·rename_i es
  obtain⟨v,rfl,h⟩:=cA rd;have h:Is F (.tup es) v:=h;simp only[Is] at h;obtain⟨a,vs,rfl,h1,h2⟩:=h;exact xC pins s σ H _ us Q I r ⟨a,vs,rfl,.inr (bw.of (sub _ _ h1)),fun l hl=>md _ _ _ q (cz hl) (mK sub hl h2)⟩
 ·exact q.elim
theorem NR:cO X (.type "tuple") uI:=by
 rintro pins s σ H xs us Q I r ⟨F,ds,K,sub,rd,q,md⟩;unfold uI at q;split at q
 ·obtain⟨v,rfl,a,vs,rfl,h1,h2⟩:=cA rd
  exact CT pins s σ H _ us Q I r ⟨a,vs,rfl,.inl ⟨a8.of h1,fun l hl=>md _ _ _ q (cz hl) (yO sub hl h2)⟩⟩
 ·rename_i es
  obtain⟨v,rfl,h⟩:=cA rd;have h0:Is F (.tup es) v:=h;have h:Is F (.tup es) v:=h;simp only[Is] at h;obtain⟨a,vs,rfl,h1,h2⟩:=h;exact CT pins s σ H _ us Q I r ⟨a,vs,rfl,.inr ⟨bw.of (sub _ _ h1),md _ _ _ q (fun _ _ e=>e) (rR sub h0)⟩⟩
 ·exact q.elim
theorem NS:cO X (.builtin "sorted") iH:=by
 rintro pins s σ H xs us Q I r ⟨F,ds,K,sub,rd,q,md⟩;unfold iH at q;split at q
 ·rename_i es
  split at q
  ·rename_i ns e
   obtain⟨v,rfl,a,vs,rfl,h1,h2⟩:=cA rd;rw[pN e] at h2;rw[lG h2] at h1;refine DI pins s σ H _ us Q I r ⟨a,ns,rfl,a8.of h1,q.1,fun l cb pm pw hl=>?_⟩;rw[pP pm pw];exact md _ _ _ q.2 (cz hl) (mK sub hl mJ)
  ·exact q.elim
 ·exact q.elim
theorem NT(hc:X.calm=true):cO X (.builtin "all") jV:=by
 rintro pins s σ H xs us Q I r ⟨F,ds,K,sub,rd,q,md⟩;unfold jV at q;split at q
 ·rename_i es
  split at q
  ·rename_i bs e
   obtain⟨v,rfl,a,vs,rfl,h1,h2⟩:=cA rd;rw[Et e] at h2;rw[yT h2] at h1;exact Mu hc pins s σ H _ us Q I r ⟨a,bs,rfl,a8.of h1,md _ _ _ q (fun _ _ e=>e) rfl⟩
  ·exact q.elim
 ·exact q.elim
theorem NU(hc:X.calm=true):cO X (.builtin "min") rV:=by
 rintro pins s σ H xs us Q I r ⟨F,ds,K,sub,rd,q,md⟩;unfold rV at q;split at q
 ·rename_i i j
  obtain⟨v,w,rfl,h1,h2⟩:=Eu rd;have h1:v=.int i:=h1;have h2:w=.int j:=h2;subst h1 h2;refine Ku hc pins s σ H _ us Q I r ⟨i,j,rfl,?_⟩;have:(if j<i then j else i)=min i j:=by split<;>omega
  rw[this];exact md _ _ _ q (fun _ _ e=>e) rfl
 ·exact q.elim
theorem NV(hc:X.calm=true):cO X (.builtin "max") uJ:=by
 rintro pins s σ H xs us Q I r ⟨F,ds,K,sub,rd,q,md⟩;unfold uJ at q;split at q
 ·rename_i i j
  obtain⟨v,w,rfl,h1,h2⟩:=Eu rd;have h1:v=.int i:=h1;have h2:w=.int j:=h2;subst h1 h2;refine Kt hc pins s σ H _ us Q I r ⟨i,j,rfl,?_⟩;have:(if j>i then j else i)=max i j:=by split<;>omega
  rw[this];exact md _ _ _ q (fun _ _ e=>e) rfl
 ·exact q.elim
def uK(fa:WA):WE:=fun δ K=>fa δ fun xs δ1=>match xs with
 |[.p (.int j)]=>(0<=j/\j<=1000)/\K (.p (.lst (bp 0 j.toNat))) δ1
 |_=>False
theorem jW(n:Nat):bp 0 n=(aI n).map D.int:=by
 unfold bp aI;rw[VH];refine W5 fun i _=>?_;show D.int (0+(i:Int))=D.int (i:Int);rw[ZQ]
theorem NW{a:Expr}{fa:WA}{p1 p2 q1 q2:Pos}(hc:X.calm=true)(lI:Gl X "list")(hl:X.mg "list" = none)(lJ:bootBuiltins "list" = some (.type "list"))(i9:Gl X "range")(hr:X.mg "range" = none)(i_:bootBuiltins "range" = some (.type "range"))(ha:JA X [a] (bH fa))
  (he:starEach [a] X.env=[(false,eval a X.env)]:=by rfl) (lK:starEach [.Call (.Name "range" p2) [a] [] q2] X.env=[(false,eval (.Call (.Name "range" p2) [a] [] q2) X.env)]:=by rfl):JE X (.Call (.Name "list" p1) [.Call (.Name "range" p2) [a] [] q2] [] q1) (tD (uK fa)) :=
 (kG (DH hc) lI hl lJ (g8 (kG yk i9 hr i_ ha (he:=he)) bx) (he:=lK)).weak fun σ H Q h0_=>el7 h0_ fun F ad δ K S q k =>⟨F,ad,δ,_,S,q,fun xs δ1 h1 vs F1 aK H1 E1 S1 V1=>by
  split at h1
  ·rename_i j
   obtain⟨v,r,e,W1,W2⟩:=V1;have W2:r=[]:=W2;have W1:v=.int j:=W1;subst W2 W1 e;refine⟨j,rfl,fun rr rW=>⟨rr,j.toNat,rfl,by rw[bE,Int.toNat_of_nonneg h1.1.1],by omega,fun l hl=>?_⟩⟩;have s1:aE H1 (upd H1 rr (.rng 0 j)):=cz rW;have S2:=S1.al s1;have E2:=Ext.al S1 s1;refine k _ _ h1.2 _ _ _ _ ((E1.trans E2).trans (Ext.al S2 (cz hl))) (S2.al (cz hl)) ?_;have:Is (Nw (Nw F1 H1 (upd H1 rr (.rng 0 j))) (upd H1 rr (.rng 0 j)) (upd (upd H1 rr (.rng 0 j)) l (.lst ((aI j.toNat).map V.int)))) (.lst ((aI j.toNat).map D.int)) (.ref l):=mK S2.sub hl mJ;rw[jW];exact this
  ·exact h1.elim⟩
def hX(T:String):D->(D->Prop)->Prop:=fun d K=>K (.bl (dh (fU d) T))
theorem uL{T:String}{t:Str}{a:Expr}{f:WE}{p p2 pos:Pos}(hk:∀d:D,PySem.W.kitOne X.K (.type (fU d)) (.type T)=some (dh (fU d) T))(hg:Gl X "isinstance")(hm:X.mg "isinstance" = none)(NX:Gl X t)(NY:X.mg t=none)(NZ:bootBuiltins t=some (.type T))(ha:JE X a (tD f))
  (rj:t≠"__name__" := by decide) (jz:bV t:=by decide) (he:starEach [a,.Name t p2] X.env=(false,eval a X.env)::starEach [.Name t p2] X.env:=by rfl):JE X (.Call (.Name "isinstance" p) [a,.Name t p2] [] pos) (tD (d1 f (hX T))) :=
 (pd LU hg hm PyProof.Rows.boot_isinstance (iS ha (nY (Jw NX NY NZ (v:=.ty T) rfl rj jz) bx) he) (he:=he)).weak fun σ H Q h0_=>el7 h0_ fun F ad δ K S q k =>⟨F,ad,δ,_,S,q,fun x δ1 h1 v F1 aK H1 E1 S1 V1=>by
  obtain⟨d,h2,rd⟩:=iC S1 V1 h1
  refine⟨v,.ty T,.type T,.type (fU d),_,rfl,rfl,Is.ty (rd.is S1.sub),hk d,k _ _ h2 _ _ _ _ E1 S1 rfl⟩⟩
theorem N0{K:PySem.W.Frag}:∀d:D,PySem.W.kitOne K (.type (fU d)) (.type "int")=some (dh (fU d) "int"):=fun d=>LY _ (ud d)
theorem N5{K:PySem.W.Frag}:∀d:D,PySem.W.kitOne K (.type (fU d)) (.type "bool")=some (dh (fU d) "bool"):=fun d=>LX _ (ud d)
theorem N6{K:PySem.W.Frag}:∀d:D,PySem.W.kitOne K (.type (fU d)) (.type "tuple")=some (dh (fU d) "tuple"):=fun d=>kit_tuple _ (ud d)
theorem N7{K:PySem.W.Frag}:∀d:D,PySem.W.kitOne K (.type (fU d)) (.type "list")=some (dh (fU d) "list"):=fun d=>LZ _ (ud d)
def fq(x:DV)(δ:aD)(K:Nat->List D->Prop):Prop:=match x with
 |.o k=>match δ.mu[k]? with
  |some (some (.lst ds))=>K k ds
  |_=>False
 |_=>False
theorem oD{F H:Hp}{ad:List Addr}{δ:aD}{σ:St}{x:DV}{v:V}{K:Nat->List D->Prop}(S:SR F ad δ σ H)(V1:eN F ad x v)(h:fq x δ K):∃k ds a vs,x=.o k/\K k ds/\v=.ref a/\ad[k]?=some a/\H a=some (.lst vs)/\ae F ds vs/\δ.mu[k]?=some (some (.lst ds)):=by
 unfold fq at h;split at h
 ·rename_i k
  split at h
  ·rename_i ds e
   obtain⟨a,e1,rfl⟩:=V1;obtain⟨a',o,e2,e3,vs,rfl,h4⟩:=S.mu k _ e;rw[e1] at e2;cases e2;exact⟨k,ds,a,vs,rfl,h,rfl,e1,e3,h4,e⟩
  ·exact h.elim
 ·exact h.elim
def ft(f:WE)(fa:WA):WE:=fun δ K=>f δ fun x δ1=>fq x δ1 fun _ _=>fa δ1 fun ys δ2=>match ys with
 |[y]=>jN y δ2 fun d δ3=>fq x δ3 fun k ds=>ds.length<1000/\K (.p .non) ⟨δ3.sl,δ3.mu.set k (some (.lst (ds++[d])))⟩
 |_=>False
theorem N8{f:WE}{fa:WA}{K0:PySem.W.Frag}:∀σ H Q,tD (ft f fa) σ H Q->pf K0 "list" CW (tD f) (bH fa) σ H Q:=fun σ H Q h0_=>el7 h0_ fun F ad δ K S q k =>⟨F,ad,δ,_,S,q,fun x δ1 h1 v F1 aK H1 E1 S1 V1=>by
 obtain⟨k0,Ex,a,vs,rfl,h2,rfl,e1,e2,i1,m1⟩:=oD S1 V1 h1;refine⟨.inl ⟨rfl,vs,a8.of e2⟩,F1,aK,δ1,_,S1,h2,fun ys δ2 h3 us F2 bo H2 E2 S2 V2=>?_⟩
 match ys,h3,V2 with
 |[y],g3,⟨u,r,e,W1,W2⟩ =>
  have W3:r=[]:=W2;subst W3 e;obtain⟨d,δ3,F3,h4,E3,S3,i3⟩:=oe S2 W1 g3;obtain⟨k1,ds,b,ws,ek,h5,eb,e3,e4,i4,m4⟩:=oD (x:=.o k0) S3 ((V1.ext E2).ext E3) h4;cases ek
  have rX:a=b:=by injection eb
  subst rX;have oi:dY F3 (.lst (ds++[d])) (.lst (ws++[u])):=⟨_,rfl,i4.snoc i3⟩;refine⟨a,ws,u,rfl,rfl,e4,nW (by rw[i4.length];omega),?_⟩;exact k _ _ h5.2 _ _ _ _ (((E1.trans E2).trans E3).trans (Ext.put S3 m4 e3)) (S3.put m4 e3 oi) rfl
 |[],g3,_=>exact g3.elim
 |_::_::_,g3,_=>exact g3.elim⟩
def oE(f:WE)(fa:WA):WE:=fun δ K=>f δ fun x δ1=>fq x δ1 fun _ _=>fa δ1 fun ys δ2=>match ys with
 |[.p (.lst es)]=>fq x δ2 fun k ds=>ds.length+es.length<=1000/\K (.p .non) ⟨δ2.sl,δ2.mu.set k (some (.lst (ds++es)))⟩
 |_=>False
theorem N9{f:WE}{fa:WA}{K0:PySem.W.Frag}:∀σ H Q,tD (oE f fa) σ H Q->pf K0 "list" CZ (tD f) (bH fa) σ H Q:=fun σ H Q h0_=>el7 h0_ fun F ad δ K S q k =>⟨F,ad,δ,_,S,q,fun x δ1 h1 v F1 aK H1 E1 S1 V1=>by
 obtain⟨k0,Ex,a,vs,rfl,h2,rfl,e1,e2,i1,m1⟩:=oD S1 V1 h1;refine⟨.inl ⟨rfl,vs,a8.of e2⟩,F1,aK,δ1,_,S1,h2,fun ys δ2 h3 us F2 bo H2 E2 S2 V2=>?_⟩;split at h3
 ·rename_i es
  obtain⟨u,r,e,W1,W2⟩:=V2;have W3:r=[]:=W2;have W4:Is F2 (.lst es) u:=W1;simp only[Is] at W4;obtain⟨b,zs,rfl,z1,z2⟩:=W4;subst W3 e;obtain⟨k1,ds,b',ws,ek,h5,eb,e3,e4,i4,m4⟩:=oD (x:=.o k0) S2 (V1.ext E2) h3;cases ek
  have rX:a=b':=by injection eb
  subst rX;have oi:dY F2 (.lst (ds++es)) (.lst (ws++zs)):=⟨_,rfl,pO i4 z2⟩;refine⟨a,b,ws,zs,rfl,rfl,e4,S2.sub _ _ z1,jO (by rw[i4.length,z2.length];exact h5.1),?_⟩;exact k _ _ h5.2 _ _ _ _ ((E1.trans E2).trans (Ext.put S2 m4 e3)) (S2.put m4 e3 oi) rfl
 ·exact h3.elim⟩
def pT(f:WE)(fa:WA):WE:=fun δ K=>f δ fun x δ1=>fq x δ1 fun _ _=>fa δ1 fun ys δ2=>match ys with
 |[.p (.int i)]=>fq x δ2 fun k ds=>(-(2 ^ 63)<=i/\i<2 ^ 63)/\match seqIndex? i ds.length with
  |some j=>match ds[j]? with
   |some d=>K (.p d) ⟨δ2.sl,δ2.mu.set k (some (.lst (ds.eraseIdx j)))⟩
   |none=>False
  |none=>False
 |_=>False
theorem N_{f:WE}{fa:WA}{K0:PySem.W.Frag}:∀σ H Q,tD (pT f fa) σ H Q->pf K0 "list" C0 (tD f) (bH fa) σ H Q:=fun σ H Q h0_=>el7 h0_ fun F ad δ K S q k =>⟨F,ad,δ,_,S,q,fun x δ1 h1 v F1 aK H1 E1 S1 V1=>by
 obtain⟨k0,Ex,a,vs,rfl,h2,rfl,e1,e2,i1,m1⟩:=oD S1 V1 h1;refine⟨.inl ⟨rfl,vs,a8.of e2⟩,F1,aK,δ1,_,S1,h2,fun ys δ2 h3 us F2 bo H2 E2 S2 V2=>?_⟩;split at h3
 ·rename_i i
  obtain⟨u,r,e,W1,W2⟩:=V2;have W3:r=[]:=W2;have W4:u=.int i:=W1;subst W3 W4 e;obtain⟨k1,ds,b',ws,ek,⟨h5,h6⟩,eb,e3,e4,i4,m4⟩:=oD (x:=.o k0) S2 (V1.ext E2) h3;cases ek
  have rX:a=b':=by injection eb
  subst rX;split at h6
  ·rename_i j hj
   split at h6
   ·rename_i d hd
    obtain⟨w,g1,g2⟩:=pM i4 hd;have oi:dY F2 (.lst (ds.eraseIdx j)) (.lst (ws.eraseIdx j)):=⟨_,rfl,Ef j i4⟩;refine⟨a,ws,i,j,w,rfl,rfl,e4,h5.1,h5.2,by rw[i4.length];exact hj,g1,?_⟩;exact k _ _ h6 _ _ _ _ ((E1.trans E2).trans (Ext.put S2 m4 e3)) (S2.put m4 e3 oi) g2
   ·exact h6.elim
  ·exact h6.elim
 ·exact h3.elim⟩
def oF(f fo fi:WE):WS:=fun K δ=>f δ fun x δ1=>fo δ1 fun o δ2=>fi δ2 fun i δ3=>jN x δ3 fun d δ4=>fq o δ4 fun k ds=>match i with
 |.p (.int j)=>match iU ds.length j with
  |some m=>K.nx ⟨δ4.sl,δ4.mu.set k (some (.lst (ds.set m d)))⟩
  |none=>False
 |_=>False
theorem Oa[i0]{f fo fi:WE}:∀D σ H,cY (oF f fo fi) D σ H->jG (tD f) (qE (tD fo) (tD fi) CN) D σ H:=fun D σ H h0_=>el7 h0_ fun F ad δ K S q k =>⟨F,ad,δ,_,S,q,fun x δ1 h1 v F1 aK H1 E1 S1 V1=>⟨F1,aK,δ1,_,S1,h1,fun o δ2 h2 ov F2 bo H2 E2 S2 V2=>⟨F2,bo,δ2,_,S2,h2,fun i δ3 h3 iv F3 oq H3 E3 S3 V3=>by
 obtain⟨d,δ4,F4,h4,E4,S4,i4⟩:=oe S3 ((V1.ext E2).ext E3) h3;obtain⟨k0,ds,a,vs,rfl,h5,rfl,e1,e2,i1,m1⟩:=oD S4 ((V2.ext E3).ext E4) h4;split at h5
 ·rename_i j
  split at h5
  ·rename_i m hm
   have V3:iv=.int j:=V3;subst V3;have oi:dY F4 (.lst (ds.set m d)) (.lst (vs.set m v)):=⟨_,rfl,Ee m i1 i4⟩;refine⟨a,vs,j,m,rfl,rfl,e2,by rw[i1.length];exact hm,?_⟩;exact k.nx _ h5 _ _ _ _ ((((E1.trans E2).trans E3).trans E4).trans (Ext.put S4 m1 e1)) (S4.put m1 e1 oi)
  ·exact h5.elim
 ·exact h5.elim⟩⟩⟩
def bQ:D->List D->(D->Prop)->Prop
 |.lst ds,[d],K=>(dQ d=true/\ds.all dQ=true)/\K (.int (ds.countP fun e=>aB e d:Nat))
 |_,_,_=>False
where dQ:D->Bool
 |.tup _=>false
 |.lst _=>false
 |_=>true
noncomputable def toV:D->V
 |.non=>.non
 |.bl b=>.bl b
 |.int i=>.int i
 |.str x=>.str x
 |_=>.non
theorem Ey{F:Hp}{d:D}{v:V}(hf:bQ.dQ d=true)(h:Is F d v):v=toV d/\kH v=true:=by
 cases d with
 |non=>cases(show v=_ from h);exact⟨rfl,rfl⟩
 |bl _=>cases(show v=_ from h);exact⟨rfl,rfl⟩
 |int _=>cases(show v=_ from h);exact⟨rfl,rfl⟩
 |str _=>cases(show v=_ from h);exact⟨rfl,rfl⟩
 |tup _=>cases hf
 |lst _=>cases hf
theorem Ob{d e:D}(hd:bQ.dQ d=true)(he:bQ.dQ e=true):jr (toV e) (toV d)=aB e d:=by
 cases d<;>cases e<;>first|(cases hd;done)|(cases he;done)|(simp[toV,jr,aB])
theorem count_is{F:Hp}{d:D}(hd:bQ.dQ d=true):∀{ds:List D}{vs:List V},ds.all bQ.dQ=true->ae F ds vs->vs.all kH=true/\vs.countP (fun z=>jr z (toV d))=ds.countP fun e=>aB e d
 |[],vs,_,h=>by simp only[ae] at h;subst h;exact⟨rfl,rfl⟩
 |e::r,vs,ha,h=>by
  simp only[ae] at h;obtain⟨v,t,rfl,h1,h2⟩:=h;simp only[Yf,Wa] at ha;obtain⟨g1,g2⟩:=Ey ha.1 h1;obtain⟨g3,g4⟩:=count_is hd ha.2 h2;refine⟨by rw[Yf,g2,g3];rfl,?_⟩;rw[WX,WX,g4,g1,Ob hd ha.1]
noncomputable def qr:D->Bool
 |.lst _=>true
 |_=>false
def lL(f:WE)(fa:WA)(op:D->List D->(D->Prop)->Prop):WE:=fun δ K=>f δ fun x δ1=>fW x δ1 fun d0=>qr d0=true/\fa δ1 fun xs δ2=>fW x δ2 fun d=>hJ xs δ2 fun ds=>op d ds fun z=>K (.p z) δ2
theorem Oc{f:WE}{fa:WA}{K0:PySem.W.Frag}{op:D->List D->(D->Prop)->Prop}{r:V->List V->Hp->VK->Prop}(hr:∀x xs H Q,(∃F d ds K,aE F H/\fV F H d x/\fX F H ds xs/\op d ds K/\Made F H K Q)->r x xs H Q):∀σ H Q,tD (lL f fa op) σ H Q->pf K0 "list" r (tD f) (bH fa) σ H Q:=fun σ H Q h0_=>el7 h0_ fun F ad δ K S q k =>
 ⟨F,ad,δ,_,S,q,fun x δ1 h1 v F1 aK H1 E1 S1 V1=>by
  obtain⟨d0,⟨hl,h2⟩,yU⟩:=iC S1 V1 h1
  have ty:xD K0 "list" v H1:=by
   cases d0 with
   |lst es=>obtain⟨a,vs,rfl,h3,_⟩:=yU;exact .inl ⟨rfl,vs,a8.of h3⟩
   |non=>cases hl
   |bl _=>cases hl
   |int _=>cases hl
   |str _=>cases hl
   |tup _=>cases hl
  refine⟨ty,F1,aK,δ1,_,S1,h2,fun xs δ2 h3 vs F2 bo H2 E2 S2 V2=>hr _ _ _ _ ?_⟩;obtain⟨d,h4,rd⟩:=iC S2 (V1.ext E2) h3;obtain⟨ds,h5,hU⟩:=n8 S2 V2 h4
  exact⟨F2,d,ds,_,S2.sub,rd,hU,h5,fun z v H' hz sm is=>k _ _ hz _ _ _ _ ((E1.trans E2).trans (Ext.al S2 sm)) (S2.al sm) is⟩⟩
theorem Od{f:WE}{fa:WA}{K0:PySem.W.Frag}:∀σ H Q,tD (lL f fa bQ) σ H Q->pf K0 "list" (Dp K0) (tD f) (bH fa) σ H Q:=Oc fun x xs H Q ⟨F,d,ds,K,sub,rd,hU,q,md⟩=>by
 unfold bQ at q;split at q
 ·rename_i es e
  obtain⟨a,vs,rfl,h1,h2⟩:=rd;obtain⟨w,rfl,h3⟩:=cA hU
  have h4:Is F e w:=by
   cases e with
   |lst _=>cases q.1.1
   |tup _=>exact h3
   |non=>exact h3
   |bl _=>exact h3
   |int _=>exact h3
   |str _=>exact h3
  obtain⟨g1,g2⟩:=Ey q.1.1 h4;obtain⟨g3,g4⟩:=count_is q.1.1 q.1.2 h2;refine⟨a,vs,w,rfl,rfl,a8.of h1,g2,g3,?_⟩;rw[g1,g4];exact md _ _ _ q.2 (fun _ _ e=>e) rfl
 ·exact q.elim
end
end L2
namespace L2
open PySem PySem.Spec PyProof.Rows PySem.W
abbrev LK:=List Int
def kle(a b:LK):Prop:=HT.lexLt b a=false
theorem rY:∀a:LK,HT.lexLt a a=false
 |[]=>rfl
 |x::r=>by rw[HT.mB,VB rfl];exact rY r
theorem rZ:∀{a b:LK},HT.lexLt a b=false->HT.lexLt b a=false->a=b
 |[],[],_,_=>rfl
 |[],_::_,h,_=>by cases h
 |_::_,[],_,h=>by cases h
 |x::r,y::s,h,q=>by
  rw[HT.mB] at h q
  by_cases c:x=y
  ·subst c
   rw[VB rfl] at h q;rw[rZ h q]
  ·rw[Uo c] at h
   rw[Uo (fun z=>c z.symm)] at q;simp at h q;omega
theorem uM:∀{a b c:LK},HT.lexLt a b=true->HT.lexLt b c=true->HT.lexLt a c=true
 |[],[],_,h,_=>by cases h
 |[],_::_,[],_,q=>by cases q
 |[],_::_,_::_,_,_=>rfl
 |_::_,[],_,h,_=>by cases h
 |_::_,_::_,[],_,q=>by cases q
 |x::r,y::s,z::t,h,q=>by
  rw[HT.mB] at h q ⊢
  by_cases c1:x=y
  ·subst c1
   rw[VB rfl] at h
   by_cases c2:x=z
   ·subst c2
    rw[VB rfl] at q ⊢;exact uM h q
   ·rw[Uo c2] at q ⊢;exact q
  ·rw[Uo c1] at h
   by_cases c2:y=z
   ·subst c2
    rw[Uo c1];exact h
   ·rw[Uo c2] at q
    have h1:x<y:=by simpa using h
    have h2:y<z:=by simpa using q
    rw[Uo (by omega)];simp;omega
theorem kle_refl(a:LK):kle a a:=rY a
theorem mL{a b:LK}(h:HT.lexLt a b=true):kle a b:=by
 unfold kle
 cases q:HT.lexLt b a with
 |false=>rfl
 |true=>have:=uM h q;rw[rY] at this;cases this
theorem kle_trans{a b c:LK}(h1:kle a b)(h2:kle b c):kle a c:=by
 unfold kle at *
 cases q:HT.lexLt c a with
 |false=>rfl
 |true =>
  cases q2:HT.lexLt a b with
  |true=>have:=uM q q2;rw[h2] at this;cases this
  |false =>
   have e:=rZ q2 h1;subst e;rw[h2] at q;cases q
theorem r9{a b:LK}(h1:kle a b)(h2:kle b a):a=b:=rZ h2 h1
section
variable{n:Nat}{k:Nat->LK}{I:Shared->Prop}{cmp:Nat->Nat->(Bool->Shared->Prop)->Shared->Prop}
def mM(n:Nat)(k:Nat->LK)(I:Shared->Prop)(cmp:Nat->Nat->(Bool->Shared->Prop)->Shared->Prop):Prop :=
 ∀(i j:Nat)(C:Bool->Shared->Prop)(s:Shared),i<n->j<n->I s->(∀s',I s'->C (HT.lexLt (k i) (k j)) s')->cmp i j C s
noncomputable def KA(k:Nat->LK)(p:Array Nat)(i:Nat):LK:=k (p.getD i 0)
structure c_(n:Nat)(p:Array Nat):Prop where
 perm:p.Perm (List.range n).toArray
theorem c_.size{p:Array Nat}(h:c_ n p):p.size=n:=by have:=h.perm.size_eq;simpa using this
theorem c_.lt{p:Array Nat}(h:c_ n p){i:Nat}(hi:i<n):p.getD i 0<n:=by
 have hs:=h.size;have e:p.getD i 0=p[i]:=by simp[Array.getD,hs,hi]
 rw[e];have:p[i]∈(List.range n).toArray:=(h.perm.mem_iff).mp (Array.getElem_mem _);simpa using this
theorem r_{p q:Array Nat}{i j:Nat}(h:p[i]?=q[j]?):p.getD i 0=q.getD j 0:=by
 rw[Wc,Wc,h]
theorem uN{p:Array Nat}{i j:Nat}(hj:j<=p.size)(t:Nat):KA k (kas_rev p i j) t=if i<=t/\t<j then KA k p (i+j-1-t) else KA k p t:=by
 have e:=getElem?_mirror_all (xs:=p) (i:=i) hj t;unfold KA kas_rev
 by_cases c:i<=t/\t<j
 ·rw[VB c] at e ⊢;rw[r_ e]
 ·rw[Uo c] at e ⊢;rw[r_ e]
theorem Oe{p:Array Nat}{src d:Nat}(hs:src<p.size)(hd:d<=src)(t:Nat):
  KA k (bubble p src d) t=if t=src-d then KA k p src else if src-d<t/\t<=src then KA k p (t-1) else KA k p t:=by
 have e:=getElem?_bubble hs d hd t;unfold KA
 by_cases c:t=src-d
 ·rw[VB c] at e ⊢;rw[r_ e]
 ·rw[Uo c] at e ⊢
  by_cases c2:src-d<t/\t<=src
  ·rw[VB c2] at e ⊢;rw[r_ e]
  ·rw[Uo c2] at e ⊢;rw[r_ e]
def Up(k:Nat->LK)(p:Array Nat)(m:Nat):Prop:=∀i j,i<=j->j<m->kle (KA k p i) (KA k p j)
def Dn(k:Nat->LK)(p:Array Nat)(m:Nat):Prop:=∀i j,i<=j->j<m->kle (KA k p j) (KA k p i)
theorem Up.snoc{p:Array Nat}{m:Nat}(h:Up k p m)(hm:1<=m)(q:kle (KA k p (m-1)) (KA k p m)):Up k p (m+1):=fun i j ja hj=>by
 by_cases c:j<m
 ·exact h i j ja c
 ·have e:j=m:=by omega
  subst e
  by_cases c2:i=j
  ·subst c2;exact kle_refl _
  ·exact kle_trans (h i (j-1) (by omega) (by omega)) q
theorem Dn.snoc{p:Array Nat}{m:Nat}(h:Dn k p m)(hm:1<=m)(q:kle (KA k p m) (KA k p (m-1))):Dn k p (m+1):=fun i j ja hj=>by
 by_cases c:j<m
 ·exact h i j ja c
 ·have e:j=m:=by omega
  subst e
  by_cases c2:i=j
  ·subst c2;exact kle_refl _
  ·exact kle_trans q (h i (j-1) (by omega) (by omega))
theorem Up.one{p:Array Nat}:Up k p 1:=fun i j ja hj=>by
 have:i=j:=by omega
 subst this;exact kle_refl _
theorem Dn.one{p:Array Nat}:Dn k p 1:=fun i j ja hj=>by
 have:i=j:=by omega
 subst this;exact kle_refl _
theorem c_.rev{p:Array Nat}(h:c_ n p)(i j:Nat):c_ n (kas_rev p i j):=⟨(mirror_perm _ _ _ _).trans h.perm⟩
theorem c_.Of{p:Array Nat}(h:c_ n p)(i j:Nat):c_ n (bubble p i j):=⟨(bubble_perm _ _ _).trans h.perm⟩
theorem Ez(hc:mM n k I cmp){p:Array Nat}(hp:c_ n p):∀(f m:Nat)(s:Shared)(Q:Nat->Shared->Prop),1<=m->m+f=n->Up k p m->I s →
  (∀m' s',m<=m'->m'<=n->Up k p m'->I s'->Q m' s')->(kas_asc p f m).kasWp cmp Q s
 |0,m,s,Q,h1,h2,up,hi,fin=>fin m s (ua _) (by omega) up hi
 |f+1,m,s,Q,h1,h2,up,hi,fin=>by
  show cmp _ _ _ s;refine hc _ _ _ s (hp.lt (by omega)) (hp.lt (by omega)) hi fun s' c7=>?_
  cases q:HT.lexLt (k (p.getD m 0)) (k (p.getD (m-1) 0)) with
  |true=>dsimp only;rw[VB rfl];exact fin m s' (ua _) (by omega) up c7
  |false =>
   dsimp only;rw[Uo VC];exact Ez hc hp f (m+1) s' Q (by omega) (by omega) (up.snoc h1 q) c7 fun m' g5 a b c d=>fin m' g5 (by omega) b c d
def yV(k:Nat->LK)(p:Array Nat)(m q:Nat):Prop:=∀t,m-(q+1)<=t->t<m->KA k p t=KA k p (m-1)
theorem EA{p:Array Nat}{m q:Nat}(hs:m<=p.size)(hq:q+1<=m)(e:yV k p m q)(t:Nat):KA k (kas_rev p (m-(q+1)) m) t=KA k p t:=by
 rw[uN hs];split
 ·rename_i c
  rw[e _ (by omega) (by omega),e t c.1 c.2]
 ·rfl
theorem Dn.congr{p p':Array Nat}{m:Nat}(h:Dn k p m)(e:∀t,KA k p' t=KA k p t):Dn k p' m:=fun i j a b=>by rw[e,e];exact h i j a b
theorem uO(hc:mM n k I cmp):∀(f:Nat)(p:Array Nat)(m q:Nat)(s:Shared)(Q:Array Nat×Nat×Nat->Shared->Prop),c_ n p->1<=m->m+f=n->q+1<=m->Dn k p m->yV k p m q->I s →
  (∀p' m' q' s',c_ n p'->m<=m'->m'<=n->q'+1<=m'->Dn k p' m'->yV k p' m' q'->I s'->Q (p',m',q') s')->(kas_desc f p m q).kasWp cmp Q s
 |0,p,m,q,s,Q,hp,h1,h2,hq,dn,es,hi,fin=>fin p m q s hp (ua _) (by omega) hq dn es hi
 |f+1,p,m,q,s,Q,hp,h1,h2,hq,dn,es,hi,fin=>by
  show cmp _ _ _ s;refine hc _ _ _ s (hp.lt (by omega)) (hp.lt (by omega)) hi fun s' c7=>?_;have sz:=hp.size
  cases c1:HT.lexLt (k (p.getD m 0)) (k (p.getD (m-1) 0)) with
  |true =>
   dsimp only;rw[VB rfl];have st:kle (KA k p m) (KA k p (m-1)):=mL c1
   by_cases EB:q>0
   ·rw[VB EB]
    have e:=EA (k:=k) (p:=p) (m:=m) (q:=q) (by omega) hq es;refine uO hc f _ (m+1) 0 s' Q (hp.rev _ _) (by omega) (by omega) (by omega) ((dn.snoc h1 st).congr e) (fun t a b=>?_) c7 fun p' m' q' g5 a b c d e g i=>fin p' m' q' g5 a (by omega) c d e g i;have:t=m+1-1:=by omega
    rw[this]
   ·rw[Uo EB]
    refine uO hc f p (m+1) 0 s' Q hp (by omega) (by omega) (by omega) (dn.snoc h1 st) (fun t a b=>?_) c7 fun p' m' q' g5 a b c d e g i=>fin p' m' q' g5 a (by omega) c d e g i;have:t=m+1-1:=by omega
    rw[this]
  |false =>
   dsimp only;rw[Uo VC];show cmp _ _ _ s';refine hc _ _ _ s' (hp.lt (by omega)) (hp.lt (by omega)) c7 fun s2 lM=>?_
   cases c2:HT.lexLt (k (p.getD (m-1) 0)) (k (p.getD m 0)) with
   |true=>dsimp only;rw[VB rfl];exact fin p m q s2 hp (ua _) (by omega) hq dn es lM
   |false =>
    dsimp only;rw[Uo VC];have eq:KA k p m=KA k p (m-1):=rZ c1 c2;refine uO hc f p (m+1) (q+1) s2 Q hp (by omega) (by omega) (by omega) (dn.snoc h1 (by rw[eq];exact kle_refl _)) (fun t a b=>?_) lM fun p' m' q' g5 a b c d e g i=>fin p' m' q' g5 a (by omega) c d e g i;show KA k p t=KA k p m
    by_cases z:t=m
    ·rw[z]
    ·rw[es t (by omega) (by omega),eq]
theorem Dn.rev{p:Array Nat}{m:Nat}(h:Dn k p m)(hs:m<=p.size):Up k (kas_rev p 0 m) m:=fun i j ja hj=>by
 rw[uN hs,uN hs,VB ⟨Ww _,by omega⟩,VB ⟨Ww _,hj⟩];exact h _ _ (by omega) (by omega)
theorem EC(hc:mM n k I cmp){p:Array Nat}(hp:c_ n p){m:Nat}{s:Shared}{Q:Nat×Array Nat->Shared->Prop}(h1:1<=m)(hm:m<=n)(dn:Dn k p m)(hi:I s)
  (fin:∀p' m' s',c_ n p'->1<=m'->m'<=n->Up k p' m'->I s'->Q (m',p') s'):(kas_tail3 m n p).kasWp cmp Q s:=by
 unfold kas_tail3;rw[KasT.kasWp_bind];have sz:=hp.size;refine Ez hc (hp.rev 0 m) (n-m) m s _ h1 (by omega) (dn.rev (by omega)) hi fun m' s' a b c d=>?_;exact fin _ m' s' (hp.rev 0 m) (by omega) b c d
theorem ED(hc:mM n k I cmp){p:Array Nat}(hp:c_ n p){m:Nat}{s:Shared}{Q:Nat×Array Nat->Shared->Prop}(h1:1<=m)(hm:m+1<=n)(dn:Dn k p (m+1))(hi:I s)
  (fin:∀p' m' s',c_ n p'->1<=m'->m'<=n->Up k p' m'->I s'->Q (m',p') s'):(kas_descPart m n p).kasWp cmp Q s:=by
 unfold kas_descPart;rw[KasT.kasWp_bind];refine uO hc (n-(m+1)) p (m+1) 0 s _ hp (by omega) (by omega) (by omega) dn (fun t a b=>?_) hi fun p' m' q' s' a b c d e g i=>?_
 ·have:t=m+1-1:=by omega
  rw[this]
 ·have sz:=a.size
  dsimp only
  by_cases hq:q'>0
  ·rw[VB hq]
   exact EC hc (a.rev _ _) (by omega) c (e.congr (EA (by omega) d g)) i fin
  ·rw[Uo hq]
   exact EC hc a (by omega) c e i fin
theorem Og(hc:mM n k I cmp){p:Array Nat}(hp:c_ n p){s:Shared}{Q:Nat×Array Nat->Shared->Prop}(h1:1<=n)(hi:I s)
  (fin:∀p' m' s',c_ n p'->1<=m'->m'<=n->Up k p' m'->I s'->Q (m',p') s'):(kas_count n p).kasWp cmp Q s:=by
 unfold kas_count;rw[KasT.kasWp_bind];have sz:=hp.size
 have key:∀(f m:Nat)(s:Shared)(Q':Nat->Shared->Prop),1<=m->m+f=n->Up k p m->I s →
   (∀m' s',m<=m'->m'<=n->Up k p m'->(m'<n->HT.lexLt (KA k p m') (KA k p (m'-1))=true)->I s'->Q' m' s')->(kas_asc p f m).kasWp cmp Q' s:=by
  intro f
  induction f with
  |zero=>intro m s Q' a b up hi fin;exact fin m s (ua _) (by omega) up (fun z=>absurd z (by omega)) hi
  |succ f ih =>
   intro m s Q' a b up hi fin;show cmp _ _ _ s;refine hc _ _ _ s (hp.lt (by omega)) (hp.lt (by omega)) hi fun s' c7=>?_
   cases q:HT.lexLt (k (p.getD m 0)) (k (p.getD (m-1) 0)) with
   |true=>dsimp only;rw[VB rfl];exact fin m s' (ua _) (by omega) up (fun _=>q) c7
   |false =>
    dsimp only;rw[Uo VC];exact ih (m+1) s' Q' (by omega) (by omega) (up.snoc a q) c7 fun m' g5 a b c d e=>fin m' g5 (by omega) b c d e
 refine key (n-1) 1 s _ (ua _) (by omega) Up.one hi fun m s' a b up nx c7=>?_
 by_cases c1:m=n
 ·subst c1
  rw[VB (by simp)];exact fin p m s' hp a (ua _) up c7
 ·rw[Uo (by simpa using c1)]
  have cB:m<n:=by omega
  have nx:=nx cB
  by_cases c2:m>1
  ·rw[VB c2]
   show cmp _ _ _ s';refine hc _ _ _ s' (hp.lt (by omega)) (hp.lt (by omega)) c7 fun s2 lM=>?_
   cases q:HT.lexLt (k (p.getD 0 0)) (k (p.getD (m-1) 0)) with
   |true=>dsimp only;rw[VB rfl];exact fin p m s2 hp a b up lM
   |false =>
    dsimp only;rw[Uo VC]
    have al:∀t,t<m->KA k p t=KA k p (m-1):=fun t ht=>by
     refine r9 (up t (m-1) (by omega) (by omega)) (kle_trans q (up 0 t (Ww _) ht))
    have e:∀t,KA k (kas_rev p 0 m) t=KA k p t:=fun t=>by
     rw[uN (by omega)];split
     ·rename_i c;rw[al _ (by omega),al t c.2]
     ·rfl
    refine ED hc (hp.rev 0 m) (by omega) (by omega) (Dn.congr (p:=p) ?_ e) lM fin;refine Dn.snoc (fun i j ja hj=>?_) (by omega) (mL nx);rw[al i (by omega),al j hj];exact kle_refl _
  ·rw[Uo c2]
   have:m=1:=by omega
   subst this;exact ED hc hp (by omega) (by omega) (Dn.one.snoc (ua _) (mL nx)) c7 fin
theorem yW(hc:mM n k I cmp){p:Array Nat}(hp:c_ n p){t:Nat}(ht:t<n)(up:Up k p t):∀(f l r:Nat)(s:Shared)(Q:Nat->Shared->Prop),l<=r->r<=t->r-l<=f →
  (∀i,i<l->kle (KA k p i) (KA k p t))->(∀i,r<=i->i<t->kle (KA k p t) (KA k p i))->I s →
  (∀l' s',l'<=t->(∀i,i<l'->kle (KA k p i) (KA k p t))->(∀i,l'<=i->i<t->kle (KA k p t) (KA k p i))->I s'->Q l' s')->(kas_place p t f l r).kasWp cmp Q s
 |0,l,r,s,Q,h1,h2,h3,lo,pU,hi,fin=>by
  have:l=r:=by omega
  subst this;exact fin l s h2 lo pU hi
 |f+1,l,r,s,Q,h1,h2,h3,lo,pU,hi,fin=>by
  unfold kas_place
  by_cases c:l ≥ r
  ·rw[VB c]
   have:l=r:=by omega
   subst this;exact fin l s h2 lo pU hi
  ·rw[Uo c]
   show cmp _ _ _ s;refine hc _ _ _ s (hp.lt ht) (hp.lt (by omega)) hi fun s' c7=>?_
   cases q:HT.lexLt (k (p.getD t 0)) (k (p.getD ((l+r) / 2) 0)) with
   |true =>
    dsimp only;rw[VB rfl];refine yW hc hp ht up f l ((l+r) / 2) s' Q (by omega) (by omega) (by omega) lo (fun i a b=>?_) c7 fin;exact kle_trans (mL q) (up _ _ a b)
   |false =>
    dsimp only;rw[Uo VC];refine yW hc hp ht up f ((l+r) / 2+1) r s' Q (by omega) h2 (by omega) (fun i a=>?_) pU c7 fin;exact kle_trans (up i ((l+r) / 2) (by omega) (by omega)) q
theorem EE(hc:mM n k I cmp):∀(f:Nat)(p:Array Nat)(t:Nat)(s:Shared)(Q:Array Nat->Shared->Prop),c_ n p->t+f=n->Up k p t->I s →
  (∀p' s',c_ n p'->Up k p' n->I s'->Q p' s')->(kas_bin f p t).kasWp cmp Q s
 |0,p,t,s,Q,hp,h2,up,hi,fin=>by
  have:t=n:=by omega
  subst this;exact fin p s hp up hi
 |f+1,p,t,s,Q,hp,h2,up,hi,fin=>by
  unfold kas_bin;rw[KasT.kasWp_bind];have sz:=hp.size;refine yW hc hp (by omega) up t 0 t s _ (Ww _) (ua _) (by omega) (fun i a=>absurd a (by omega)) (fun i a b=>absurd b (by omega)) hi fun l s' hl lo pU c7=>?_;refine EE hc f _ (t+1) s' Q (hp.Of _ _) (by omega) (fun i j ja hj=>?_) c7 fin;have kb:=fun x=>Oe (k:=k) (p:=p) (src:=t) (d:=t-l) (by omega) (by omega) x;have el:t-(t-l)=l:=by omega
  rw[kb i,kb j,el]
  by_cases c1:i=l
  ·subst c1
   rw[VB rfl]
   by_cases c2:j=i
   ·rw[VB c2];exact kle_refl _
   ·rw[Uo c2,VB ⟨by omega,by omega⟩]
    exact pU (j-1) (by omega) (by omega)
  ·rw[Uo c1]
   by_cases c2:j=l
   ·subst c2
    rw[VB rfl,Uo (by omega)];exact lo i (by omega)
   ·rw[Uo c2]
    by_cases c3:l<i/\i<=t
    ·rw[VB c3,VB ⟨by omega,by omega⟩]
     exact up _ _ (by omega) (by omega)
    ·rw[Uo c3]
     by_cases c4:l<j/\j<=t
     ·rw[VB c4];exact up _ _ (by omega) (by omega)
     ·rw[Uo c4];exact up _ _ ja (by omega)
theorem Oh(hc:mM n k I cmp){s:Shared}{Q:Array Nat->Shared->Prop}(h1:1<=n)(hi:I s)(fin:∀p s',c_ n p->Up k p n->I s'->Q p s'):(kas_sort n).kasWp cmp Q s:=by
 unfold kas_sort;rw[KasT.kasWp_bind];refine Og hc ⟨Array.Perm.refl _⟩ h1 hi fun p m s' a b c d e=>?_;dsimp only
 by_cases q:m<n
 ·rw[VB q]
  have:max m 1=m:=by omega
  rw[this];exact EE hc (n-m) p m s' Q a (by omega) d e fin
 ·rw[Uo q]
  have:m=n:=by omega
  subst this;exact fin p s' a d e
end
end L2
namespace L2
open PySem PySem.Spec PyProof.Rows
theorem EF{δ0:aD}{bc:aD->Prop}{g:WG}{b:WS}{K:KS}(I:Nat->aD->Prop):∀(items:List D)(i:Nat)(δ:aD),I i δ →
  (∀j d δ (L:aD->Prop),items[j]?=some d->I (i+j) δ->(∀δ',I (i+j+1) δ'->L δ')->bc δ/\g (.p d) δ fun δ1=>b {nx:=fun δ2=>L (δ0.trim δ2),ct:=fun δ2=>L (δ0.trim δ2),bk:=K.nx,rt:=K.rt} δ1) →
  (∀δ,I (i+items.length) δ->bc δ/\K.nx δ)->jw δ0 bc g b K items δ
 |[],i,δ,h,_,fin=>fin δ h
 |d::r,i,δ,h,st,fin=>by
  unfold jw;refine st 0 d δ (fun δ'=>jw δ0 bc g b K r δ') rfl h fun δ' hi=>?_;refine EF I r (i+1) _ hi (fun j e δ L hj hI hL=>?_) fun δ hI=>?_
  ·have e:i+1+j=i+(j+1):=by omega
   rw[e] at hI hL;exact st (j+1) _ δ L (by simpa using hj) hI hL
  ·exact fin δ (by rw[Lk];have e:i+1+r.length=i+(r.length+1):=by omega
                   rw[e] at hI;exact hI)
theorem jx{δ0:aD}{bc:aD->Prop}{g:WG}{b:WS}{K:KS}{items:List D}{δ:aD}(I:Nat->aD->Prop)(h0:I 0 δ)
  (st:∀j d δ (L:aD->Prop),items[j]?=some d->I j δ->(∀δ',I (j+1) δ'->L δ')->bc δ/\g (.p d) δ fun δ1=>b {nx:=fun δ2=>L (δ0.trim δ2),ct:=fun δ2=>L (δ0.trim δ2),bk:=K.nx,rt:=K.rt} δ1)
  (fin:∀δ,I items.length δ->bc δ/\K.nx δ):jw δ0 bc g b K items δ :=
 EF I items 0 δ h0 (fun j d δ L hj hI hL=>by rw[Wb] at hI hL;exact st j d δ L hj hI hL) fun δ hI=>by rw[Wb] at hI;exact fin δ hI
def sf(δ0:aD)(bc:aD->Prop)(g:WG)(t:WT)(f:WE)(d:D)(acc:List D)(δ:aD)(L:List D->aD->Prop):Prop :=
 bc δ/\g (.p d) δ fun δ1=>t δ1 fun b δ2=>if b=true then f δ2 fun x δ3=>jN x δ3 fun e δ4=>acc.length<1000/\L (acc++[e]) (δ0.trim δ4) else L acc (δ0.trim δ2)
theorem EG{δ0:aD}{bc:aD->Prop}{g:WG}{t:WT}{f:WE}{K:List D->aD->Prop}(I:Nat->List D->aD->Prop):∀(items:List D)(i:Nat)(acc:List D)(δ:aD),I i acc δ →
  (∀j d acc δ (L:List D->aD->Prop),items[j]?=some d->I (i+j) acc δ->(∀bG δ',I (i+j+1) bG δ'->L bG δ')->sf δ0 bc g t f d acc δ L) →
  (∀acc δ,I (i+items.length) acc δ->bc δ/\K acc δ)->iD δ0 bc g t f K items acc δ
 |[],i,acc,δ,h,_,fin=>fin acc δ h
 |d::r,i,acc,δ,h,st,fin=>by
  unfold iD;refine st 0 d acc δ (fun bG δ'=>iD δ0 bc g t f K r bG δ') rfl h fun bG δ' hi=>?_;refine EG I r (i+1) bG _ hi (fun j e acc δ L hj hI hL=>?_) fun acc δ hI=>?_
  ·have e:i+1+j=i+(j+1):=by omega
   rw[e] at hI hL;exact st (j+1) _ acc δ L (by simpa using hj) hI hL
  ·exact fin acc δ (by rw[Lk];have e:i+1+r.length=i+(r.length+1):=by omega
                       rw[e] at hI;exact hI)
theorem yX{δ0:aD}{bc:aD->Prop}{g:WG}{t:WT}{f:WE}{K:List D->aD->Prop}{items:List D}{δ:aD}(I:Nat->List D->aD->Prop)(h0:I 0 [] δ)
  (st:∀j d acc δ (L:List D->aD->Prop),items[j]?=some d->I j acc δ->(∀bG δ',I (j+1) bG δ'->L bG δ')->sf δ0 bc g t f d acc δ L)
  (fin:∀acc δ,I items.length acc δ->bc δ/\K acc δ):iD δ0 bc g t f K items [] δ :=
 EG I items 0 [] δ h0 (fun j d acc δ L hj hI hL=>by rw[Wb] at hI hL;exact st j d acc δ L hj hI hL) fun acc δ hI=>by rw[Wb] at hI;exact fin acc δ hI
theorem gU{δ0:aD}{bc:aD->Prop}{g:WG}{t:WT}{f:WE}{K:List D->aD->Prop}{items:List D}(p:D->Bool)(fn:D->D)(hl:items.length<=1000)(hc:bc δ0)
  (st:∀d∈items,∀acc (L:List D->aD->Prop),acc.length<1000->(p d=true->L (acc++[fn d]) δ0)->(p d=false->L acc δ0)->sf δ0 bc g t f d acc δ0 L)
  (fin:K ((items.filter p).map fn) δ0):iD δ0 bc g t f K items [] δ0:=by
 refine yX (fun i acc δ=>δ=δ0/\acc=((items.take i).filter p).map fn) ⟨rfl,rfl⟩ ?_ ?_
 ·rintro j d acc δ L hj ⟨rfl,rfl⟩ hL
  have cB:=(nV.mp hj).1;have hm:d∈items:=V0 hj
  have hn:(((items.take j).filter p).map fn).length<1000:=by
   rw[nU];have:=W8 p (items.take j);rw[We] at this;omega
  have e:items.take (j+1)=items.take j++[d]:=by rw[XC,hj];rfl
  refine st d hm _ L hn (fun q=>hL _ _ ⟨rfl,?_⟩) (fun q=>hL _ _ ⟨rfl,?_⟩)
  ·rw[e,XW,VI];simp[List.filter,q]
  ·rw[e,XW,VI];simp[List.filter,q]
 ·rintro acc δ ⟨rfl,rfl⟩
  rw[WB (ua _)];exact⟨hc,fin⟩
theorem gF{δ0:aD}{bc:aD->Prop}{g:WG}{t:WT}{f:WE}{K:List D->aD->Prop}{items:List D}(fn:D->D)(hl:items.length<=1000)(hc:bc δ0)
  (st:∀d∈items,∀acc (L:List D->aD->Prop),acc.length<1000->L (acc++[fn d]) δ0->sf δ0 bc g t f d acc δ0 L)
  (fin:K (items.map fn) δ0):iD δ0 bc g t f K items [] δ0 :=
 gU (fun _=>true) fn hl hc (fun d hd acc L ha h _=>st d hd acc L ha (h rfl)) (by rw[List.filter_eq_self.mpr fun _ _=>rfl];exact fin)
end L2
namespace LJ
open PySem L2
theorem yY:bootBuiltins "range" = some (.type "range"):=by decide +kernel
theorem EH:bootBuiltins "max" = some (.builtin "max"):=by decide +kernel
theorem EI:bootBuiltins "min" = some (.builtin "min"):=by decide +kernel
theorem uP:bootBuiltins "sorted" = some (.builtin "sorted"):=by decide +kernel
theorem Oi:bootBuiltins "any" = some (.builtin "any"):=by decide +kernel
structure BT(mg:Str->Option Value):Prop where
 len:mg "len" = none
 range:mg "range" = none
 list:mg "list" = none
 tuple:mg "tuple" = none
 set:mg "set" = none
 sorted:mg "sorted" = none
 min:mg "min" = none
 max:mg "max" = none
 sum:mg "sum" = none
 all:mg "all" = none
 any:mg "any" = none
 enumerate:mg "enumerate" = none
 zip:mg "zip" = none
 isinstance:mg "isinstance" = none
 int:mg "int" = none
 bool:mg "bool" = none
 str:mg "str" = none
end LJ
namespace L2
open PySem PySem.Spec PyProof.Rows
variable[aH]
def EJ(X:Cx)(f:Value)(g:List D->(List D->Prop)->Prop):Prop :=
 fc X f fun xs H Q=>∃F ds K,aE F H/\fX F H ds xs/\g ds K/\∀zs vs a,K zs->H a=none->ae F zs vs->Q (.ref a) (upd H a (.lst vs))
def uQ(fa:WA)(op:List D->(List D->Prop)->Prop):WE:=fun δ K=>fa δ fun xs δ1=>hJ xs δ1 fun ds=>op ds fun zs=>K (.o δ1.mu.length) ⟨δ1.sl,δ1.mu++[some (.lst zs)]⟩
def uR:List D->(List D->Prop)->Prop
 |[.lst ds],K=>match intsOf ds with
  |some ns=>ns.length<64/\K ((sortI ns).map D.int)
  |none=>False
 |_,_=>False
section
variable{X:Cx}{fa:WA}{pos:Pos}
theorem uS{F H:Hp}{ad:List Addr}{δ:aD}{σ:St}{p:Addr}(S:SR F ad δ σ H):eN F (ad++[p]) (.o δ.mu.length) (.ref p) :=
 ⟨p,by rw[<-S.bY,VF (ua _),Wr];rfl,rfl⟩
theorem Oj{r:List V->Hp->VK->Prop}{op:List D->(List D->Prop)->Prop}(hr:∀xs H Q,(∃F ds K,aE F H/\fX F H ds xs/\op ds K/\∀zs vs a,K zs->H a=none->ae F zs vs->Q (.ref a) (upd H a (.lst vs)))->r xs H Q):∀σ H Q,tD (uQ fa op) σ H Q->t7 r (bH fa) σ H Q:=by
 rintro σ H Q ⟨F,ad,δ,K,S,q,k⟩;refine⟨F,ad,δ,_,S,q,fun xs δ1 h1 vs F1 aK H1 E1 S1 V1=>hr _ _ _ ?_⟩;obtain⟨ds,h2,hU⟩:=n8 S1 V1 h1;refine⟨F1,ds,_,S1.sub,hU,h2,fun zs us a hz hp is=>?_⟩;have oi:dY F1 (.lst zs) (.lst us):=⟨us,rfl,is⟩;exact k _ _ hz _ _ _ _ (E1.trans (Ext.own S1 hp)) (S1.own hp oi) (uS S1)
theorem Ol{x:Str}{p:Pos}{e:Expr}{es:List Expr}{id:String}{o:List D->(List D->Prop)->Prop}(hc:EJ X (.builtin id) o)(hg:Gl X x)(hm:X.mg x=none)(hv:bootBuiltins x=some (.builtin id))(ha:JA X (e::es) (bH fa))(hn:x≠"__name__" := by decide)(fQ:bV x:=by decide)
  (he:dF X e es:=by rfl) (fB:eD X pos es:=by rfl):JE X (.Call (.Name x p) (e::es) [] pos) (tD (uQ fa o)) :=
 (pd hc hg hm hv ha hn fQ he fB).weak (Oj fun _ _ _ h=>h)
theorem Om:EJ X (.builtin "sorted") uR:=by
 rintro pins s σ H xs us Q I r ⟨F,ds,K,sub,rd,q,md⟩;unfold uR at q;split at q
 ·rename_i es
  split at q
  ·rename_i ns e
   obtain⟨v,rfl,a,vs,rfl,h1,h2⟩:=cA rd;rw[pN e] at h2;rw[lG h2] at h1;refine DI pins s σ H _ us Q I r ⟨a,ns,rfl,a8.of h1,q.1,fun l cb pm pw hl=>?_⟩;rw[pP pm pw];exact md _ _ _ q.2 hl mJ
  ·exact q.elim
 ·exact q.elim
def yZ(fa:WA):WE:=fun δ K=>fa δ fun xs δ1=>match xs with
 |[.p (.int j)]=>(0<=j/\j<=1000)/\K (.o δ1.mu.length) ⟨δ1.sl,δ1.mu++[some (.lst (bp 0 j.toNat))]⟩
 |_=>False
theorem Oo{a:Expr}{p1 p2 q1 q2:Pos}(hc:X.calm=true)(lI:Gl X "list")(hl:X.mg "list" = none)(lJ:bootBuiltins "list" = some (.type "list"))(i9:Gl X "range")(hr:X.mg "range" = none)(i_:bootBuiltins "range" = some (.type "range"))(ha:JA X [a] (bH fa))
  (he:starEach [a] X.env=[(false,eval a X.env)]:=by rfl) (lK:starEach [.Call (.Name "range" p2) [a] [] q2] X.env=[(false,eval (.Call (.Name "range" p2) [a] [] q2) X.env)]:=by rfl):JE X (.Call (.Name "list" p1) [.Call (.Name "range" p2) [a] [] q2] [] q1) (tD (yZ fa)) :=
 (kG (DH hc) lI hl lJ (g8 (kG yk i9 hr i_ ha (he:=he)) bx) (he:=lK)).weak fun σ H Q h0_=>el7 h0_ fun F ad δ K S q k =>⟨F,ad,δ,_,S,q,fun xs δ1 h1 vs F1 aK H1 E1 S1 V1=>by
  split at h1
  ·rename_i j
   obtain⟨v,r,e,W1,W2⟩:=V1;have W2:r=[]:=W2;have W1:v=.int j:=W1;subst W2 W1 e;refine⟨j,rfl,fun rr rW=>⟨rr,j.toNat,rfl,by rw[bE,Int.toNat_of_nonneg h1.1.1],by omega,fun l hl=>?_⟩⟩;have s1:aE H1 (upd H1 rr (.rng 0 j)):=cz rW;have S2:=S1.al s1;have E2:=Ext.al S1 s1;have oi:dY (Nw F1 H1 (upd H1 rr (.rng 0 j))) (.lst (bp 0 j.toNat)) (.lst ((aI j.toNat).map V.int)):=⟨_,rfl,by rw[jW];exact mJ⟩;exact k _ _ h1.2 _ _ _ _ ((E1.trans E2).trans (Ext.own S2 hl)) (S2.own hl oi) (uS S2)
  ·exact h1.elim⟩
def y0(f g:WE):WE:=fun δ K=>f δ fun x δ1=>g δ1 fun y δ2=>fW x δ2 fun d=>fW y δ2 fun e=>match d,e with
 |.lst a,.lst b=>a.length+b.length<=1000/\K (.o δ2.mu.length) ⟨δ2.sl,δ2.mu++[some (.lst (a++b))]⟩
 |_,_=>False
theorem Oq{a b:Expr}{f g:WE}(ha:JE X a (tD f))(hb:JE X b (tD g)):JE X (.BinOp a .Add b pos) (tD (y0 f g)) :=
 (qK C1 ha hb).weak fun σ H Q h0_=>el7 h0_ fun F ad δ K S q k =>⟨F,ad,δ,_,S,q,fun x δ1 h1 v1 F1 aK H1 E1 S1 V1=>⟨F1,aK,δ1,_,S1,h1,fun y δ2 h2 v2 F2 bo H2 E2 S2 V2=>by
  obtain⟨d,h3,rd⟩:=iC S2 (V1.ext E2) h2;obtain⟨e,h4,re⟩:=iC S2 V2 h3;split at h4
  ·rename_i as bs
   obtain⟨a,us,rfl,g1,g2⟩:=rd;obtain⟨b,ws,rfl,g3,g4⟩:=re;have oi:dY F2 (.lst (as++bs)) (.lst (us++ws)):=⟨_,rfl,pO g2 g4⟩;exact⟨a,b,us,ws,rfl,rfl,g1,g3,jO (by rw[g2.length,g4.length];exact h4.1),fun p hp=>k _ _ h4.2 _ _ _ _ ((E1.trans E2).trans (Ext.own S2 hp)) (S2.own hp oi) (uS S2)⟩
  ·exact h4.elim⟩⟩
theorem Ot[i0]{st:Stmt}:JS X st (cY uv):=⟨fun pins s D σ H I q=>by obtain⟨F,ad,δ,K,S,q,k⟩:=q;exact q.elim⟩
end
end L2
namespace LJS
open PySem PySem.SetTable PyProof.Rows
section
variable{prog:Program}{w:World}{A:Around}{S:Addr}{ks:List Int}
theorem ints_of:∀{l:List (Int×Value)},(∀e∈l,∃k tk,e=(hashInt k,Value.int k tk))->IntsAre (l.map (·.2)) (l.map keyOf)
 |[],_=>.nil
 |e::r,h=>by
  obtain⟨k,tk,rfl⟩:=h e My;exact .cons k tk (ints_of fun e he=>h e (C5 _ he))
theorem Ou{E:aP}{s:Shared}{Q:aP}(hh:A.handled=none)(hS:dB s.heap S (fL w) ks)(hn:ks.length<64)
  (h:∀(h':Heap)(tk:Nat)(r:Addr)(out:Array Value)(cb:List Int)(e:Nat),(∀b ob,s.heap.get? b=some ob->h'.get? b=some ob)->s.heap.objs.size<=r->h'.get? r=some (seqObj "list" out e)->IntsAre out.toList cb->cb.Perm ks->cb.Pairwise (· <= ·)->Q (.ref r) {s with heap:=h',toks:=tk}) :
  wpAny (model prog w) A (call (.builtin "sorted") [.ref S]) Q E s:=by
 obtain⟨o,es,ep,t,ho,hex,hd,T⟩:=hS;have hsz:=T.num;have lS:S<s.heap.objs.size:=Ul ho;refine Calls.call_function_entry kind_sorted plain_sorted entry_sorted (args_sorted1 _) ?_;unfold Builtin.«sorted»;refine lj (m:=checkCount "sorted" 1 1 _) (qV ?_);refine lj (IZ (by simp[hh]) ho hex hd T (by omega) fun h1 iQ pD le=>?_);have allI:∀e∈(gj w S ep es).toList,∃k tk,e=(hashInt k,Value.int k tk):=fun e he=>T.tP e ((wm w S ep es).mem_iff.mp he);have hI:IntsAre ((gj w S ep es).toList.map (·.2)) ((gj w S ep es).toList.map keyOf):=ints_of allI;have hP:((gj w S ep es).toList.map keyOf).Perm ks:=((wm w S ep es).map keyOf).trans T.keys
 have hL:((gj w S ep es).toList.map (·.2)).length=ks.length:=by rw[nU,Uk,tT,hsz]
 generalize(gj w S ep es).toList.map (·.2)=vs at hI hL ⊢;generalize(gj w S ep es).toList.map keyOf=ns at hI hP;refine lj (Zv ?_);have mf:(h1.push (seqObj "list" vs.toArray 0)).get? h1.objs.size=some (seqObj "list" vs.toArray 0):=Vy _ rfl;refine lj (VX (Xd (s:={s with heap:=h1.push (seqObj "list" vs.toArray 0),toks:=iQ}) slot_list_sort ⟨_,mf,rfl⟩ entry_list_sort (list_sort_tree mf hI (by omega) fun out cb a1 a2 a3=>⟨_,rfl,?_⟩) (args_list_sort _)));obtain⟨e,he⟩:=sortedHeap_at (out:=out) mf;refine qV ⟨_,rfl,h _ _ _ out cb e (fun b ob eb=>?_) le he a1 (a2.trans hP) a3⟩;have hb:b<h1.objs.size:=Ul (pD b ob eb)
 show(sortedHeap (h1.push (seqObj "list" vs.toArray 0)) h1.objs.size vs out).get? b=some ob;rw[sortedHeap_old (VD hb) (by rw[size_push'];exact Wh hb)];exact ph _ (pD b ob eb)
end
end LJS
namespace L2
open PySem PySem.Spec PyProof.Rows
noncomputable def oG(led:Bool)(S:Addr)(ks:List Int):HO:=.ext fun h=>LJS.dB h S led ks
theorem Ov{P:Program}{w:World}{H:Hp}{h:Heap}{S:Addr}{led:Bool}{ks:List Int}(e:LJS.dB h S led ks):aL P w H h S (oG led S ks) :=
 ⟨e,let⟨o,_,_,_,ho,_⟩:=e;⟨o,ho⟩,fun h1 h2 e1 k=>LJS.v_ e1 fun o eo=>k o eo⟩
noncomputable def fu(ns:List Int):List Int:=LJS.gi ns ns.length
section
variable{X:Cx}
theorem EK(hc:X.calm=true):fc X (.type "set") (fun xs H Q=>∃(l:Addr)(ns:List Int),xs=[.ref l]/\a8 X.K H l (ns.map V.int)/\ns.length<=40/\∀p,H p=none->Q (.ref p) (upd H p (oG (LJS.fL X.w) p (fu ns)))):=by
 intro pins s σ H xs us Q I r h;obtain⟨l,ns,rfl,hq,tR,q⟩:=h;obtain⟨u,rfl,rx⟩:=vals1 r;cases rx
 obtain⟨ar,r',pl,_⟩:=I.list hq;have hl:=r'.length;rw[nU] at hl;refine LJS.IK ns (I.ok.hd hc) pl.isList (fun i v hv=>?_) (by rw[xM];omega) fun h' tk se kp=>?_
 ·rw[XD] at hv
  have hi:=(nV.mp hv).1;obtain⟨x,hx,rv⟩:=rQ r' (j:=i) (by rw[xM];exact hi);rw[show ar.toArray[i]'(by rw[xM];exact hi)=v by simpa using(nV.mp hv).2] at rv;rw[Lq] at hx;obtain⟨n,hn,rfl⟩:=Vz.mp hx;obtain⟨t,rfl⟩:=rv;rw[C6,hn];exact⟨t,rfl⟩
 ·have Ox:LJS.dB h' s.heap.objs.size (LJS.fL X.w) (fu ns):=by
   have e:ar.toArray.size=ns.length:=by rw[xM];omega
   rw[e] at se;exact se
  exact⟨.ref s.heap.objs.size,upd H s.heap.objs.size (oG (LJS.fL X.w) s.heap.objs.size (fu ns)),I.laid (t':=tk) (fun b o e=>kp b o (Ul e) e) (ua _) (Ov Ox),rfl,q _ (I.aM.fresh (ua _))⟩
theorem Oy(hc:X.calm=true):fc X (.builtin "sorted") (fun xs H Q=>∃(p:Addr)(ks:List Int),xs=[.ref p]/\H p=some (oG (LJS.fL X.w) p ks)/\ks.length<64/\∀(r:Addr)(cb:List Int),cb.Perm ks->cb.Pairwise (· <= ·)->H r=none->Q (.ref r) (upd H r (.lst (cb.map V.int)))):=by
 intro pins s σ H xs us Q I r h;obtain⟨p,ks,rfl,hp,hn,q⟩:=h;obtain⟨u,rfl,rx⟩:=vals1 r;cases rx
 obtain⟨se,_⟩:=I.aM p _ hp;refine LJS.Ou (I.ok.hd hc) se hn fun h' tk r out cb e kp le he hI pm pw=>?_;refine⟨.ref r,_,I.laid (t':=tk) (o:=.lst (cb.map V.int)) kp le ?_,rfl,q _ cb pm pw (I.aM.fresh le)⟩;refine⟨WZ (nW (by rw[nU,pm.length_eq];omega)),out.toList,e,yn hI,?_⟩;simpa[seqObj] using he
end
end L2
namespace LJS
open PySem PySem.SetTable PyProof.Rows
section
variable{t:SetTable}{f:Nat->Int}{h:Int}
end
section
variable{hk:Nat->Int}{ad:Nat->Addr}{t:SetTable}{es:Array (Int×Value)}{js:List Nat}
end
section
variable{prog:Program}{w:World}{A:Around}{E:aP}{s:Shared}{ad:Nat->Addr}{ks:Nat->List Int}{js:List Nat}{S:Addr}
end
section
variable{prog:Program}{w:World}{A:Around}{R:Result->Shared->Prop}{I S:Addr}{fp wr:List Addr}{G:Array GenState->Array GenState->Prop}{n:Nat}{P:Nat->Value->Prop}{St:Nat->Shared->Prop}
end
section
variable{prog:Program}{w:World}{A:Around}{E:aP}{s:Shared}
end
end LJS
namespace L2
open PySem PySem.Spec PyProof.Rows
variable[aH]
def pV:List D->(D->Prop)->Prop
 |[.lst ds],K=>match intsOf ds with
  |some ns=>ns.length<=40/\K (.lst ((sortI (fu ns)).map D.int))
  |none=>False
 |_,_=>False
theorem y1(ns:List Int):(fu ns).length<=ns.length:=LJS.wa ns ns.length
section
variable{X:Cx}{fa:WA}
theorem Oz:fc X (.builtin "len") (fun xs H Q=>∃(p:Addr)(ks:List Int),xs=[.ref p]/\H p=some (oG (LJS.fL X.w) p ks)/\ks.length<1000/\Q (.int ks.length) H):=by
 intro pins s σ H xs us Q I r h;obtain⟨p,ks,rfl,hp,hn,q⟩:=h;obtain⟨u,rfl,rx⟩:=vals1 r;cases rx
 obtain⟨⟨o,es,ep,t,ho,hex,hd,T⟩,_⟩:=I.aM p _ hp;have e:es.size=ks.length:=T.num;refine call_len_set ho hex hd T.fits (by omega) ⟨.int ks.length,H,I.tok _,⟨_,by rw[e]⟩,q⟩
theorem OA{a:Expr}{p1 p2 q1 q2:Pos}(hc:X.calm=true)(lI:Gl X "sorted")(hl:X.mg "sorted" = none)(lJ:bootBuiltins "sorted" = some (.builtin "sorted"))(i9:Gl X "set")(hr:X.mg "set" = none)(i_:bootBuiltins "set" = some (.type "set"))(ha:JA X [a] (bH fa))
  (he:starEach [a] X.env=[(false,eval a X.env)]:=by rfl) (lK:starEach [.Call (.Name "set" p2) [a] [] q2] X.env=[(false,eval (.Call (.Name "set" p2) [a] [] q2) X.env)]:=by rfl):JE X (.Call (.Name "sorted" p1) [.Call (.Name "set" p2) [a] [] q2] [] q1) (tD (dN fa pV)) :=
 (pd (Oy hc) lI hl lJ (g8 (kG (EK hc) i9 hr i_ ha (he:=he)) bx) (he:=lK)).weak fun σ H Q h0_=>el7 h0_ fun F ad δ K S q k =>⟨F,ad,δ,_,S,q,fun xs δ1 h1 vs F1 aK H1 E1 S1 V1=>by
  obtain⟨ds,h2,hU⟩:=n8 S1 V1 h1;unfold pV at h2;split at h2
  ·split at h2
   ·rename_i es ns e
    obtain⟨v,rfl,a,vs,rfl,g1,g2⟩:=cA hU;rw[pN e] at g2;rw[lG g2] at g1;refine⟨a,ns,rfl,a8.of g1,h2.1,fun p hp=>⟨p,fu ns,rfl,bE,by have:=y1 ns;omega,fun r cb pm pw hr=>?_⟩⟩;have s1:aE H1 (upd H1 p (oG (LJS.fL X.w) p (fu ns))):=cz hp;have S2:=S1.al s1;have E2:=Ext.al S1 s1;refine k _ _ h2.2 _ _ _ _ ((E1.trans E2).trans (Ext.al S2 (cz hr))) (S2.al (cz hr)) ?_;rw[<-pP pm pw];exact mK S2.sub hr mJ
   ·exact h2.elim
  ·exact h2.elim⟩
theorem EL{F:Hp}:∀{ps:List (Int×Int)}{vs:List V},ae F (ps.map fun p=>D.tup [.int p.1,.int p.2]) vs->∃as:List Addr,vs=as.map V.ref/\as.length=ps.length/\∀(i:Nat)(a:Addr)(k:Int×Int),as[i]?=some a->ps[i]?=some k->F a=some (.tup [.int k.1,.int k.2])
 |[],vs,h=>by
  have h:vs=[]:=by simpa only [Xo,ae] using h
  subst h;exact⟨[],rfl,rfl,fun i a k e=>by simp at e⟩
 |p::r,vs,h=>by
  rw[VM] at h;simp only[ae] at h;obtain⟨v,r',rfl,h1,h2⟩:=h;obtain⟨as,rfl,hl,g⟩:=EL h2;simp only[Is] at h1;obtain⟨a,us,rfl,e1,e2⟩:=h1;simp only[ae,Is] at e2;obtain⟨_,_,rfl,rfl,_,_,rfl,rfl,rfl⟩:=e2;refine⟨a::as,rfl,by rw[Lk,Lk,hl],fun i b k eb ek=>?_⟩
  cases i with
  |zero =>
   cases(show some a=some b by simpa using eb)
   cases(show some p=some k by simpa using ek)
   exact e1
  |succ i=>exact g i b k (by simpa using eb) (by simpa using ek)
end
end L2
namespace HT
open PySem PySem.Spec PyProof.Rows
section
variable{prog:Program}{w:World}{A:Around}{E:aP}{s:Shared}
theorem OB{t b:Addr}{ws:List Value}{Q:aP}(ht:IsTup s.heap t #[])(hb:IsTup s.heap b ws.toArray)(h:Q (.ref b) s):wpAny (model prog w) A (binaryOp .Add (.ref t) (.ref b)) Q E s:=by
 obtain⟨⟨cls,dd,data,sl⟩,ho,hc,n,hd⟩:=id ht;obtain⟨⟨nL,jo,data2,jq⟩,eA,gz,n2,hd2⟩:=id hb;simp only at hc hd gz hd2;subst hc hd gz hd2
 exact concat_meets ⟨_,ho,rfl⟩ ⟨_,eA,rfl⟩ ZC seq_tuple_add YB Yo (Ye _ _)
  (tuple_addW0 t b #[] ws.toArray n n2 dd jo sl jq rfl) ⟨ho,eA,h⟩
theorem OC{t sl:Addr}{items:Array Value}{vl vu:Value}{lo hi:Option Int}{Q:aP}(ht:IsTup s.heap t items)(hs:s.heap.IsSliceOf sl vl vu .none)(pl:IsPart vl lo)(pu:IsPart vu hi)
  (hw:a0 items.size 0 lo=0/\a0 items.size items.size hi=items.size) (h:Q (.ref t) s):wpAny (model prog w) A (getItem (.ref t) (.ref sl)) Q E s:=by
 obtain⟨os,nM,pe,qP⟩:=id hs;have xr:s.TypeIs (.ref sl) "slice" := ⟨os,nM,pe⟩;unfold getItem
 try with_reducible refine VX ?_
 first|refine lj (qV ?_)|skip
 refine lj (wpAny_sequenceKey ht.typeIs (by decide) ?_)
 refine lj (Xc (name:=Str.ofString "__getitem__") ht.typeIs Wq
  (Xd Wq ht.typeIs entry_tuple_getitem ?_ (args_tuple_getitem _ _)))
 show wpAny _ _ (Builtin.Tuple.tupleItemsOf (.ref t) >>= _) _ _ s;refine lj (tupleItemsOf_ ht ?_);refine lj (Y1 xr ?_);rw[VB (by decide)];refine lj (CF hs pl pu ?_);show wpAny _ _ (if(((a0 items.size 0 lo:Nat):Int)==0&&(1:Int)==1&&(a0 items.size items.size hi-a0 items.size 0 lo)==items.size)=true then _ else _) _ _ s;rw[VB (by rw[hw.1,hw.2];simp)];unfold Builtin.Tuple.tupleIsExact;refine lj (lj (Y1 ht.typeIs (qV ?_)));rw[VB (by decide)];refine lj (Y5 ?_);exact qV ⟨_,rfl,qV h⟩
end
end HT
namespace L2
open PySem PySem.Spec PyProof.Rows
variable[aH]
section
variable{X:Cx}{e:Expr}{te:TE}{pos p2 p3 p4:Pos}
def OD(K:PySem.W.Frag):V->Option Int->Option Int->Hp->VK->Prop:=fun x lo hi H Q=>∃a xs,x=.ref a/\bw K H a xs ∧
 (HT.a0 xs.length 0 lo=0/\HT.a0 xs.length xs.length hi=xs.length->Q (.ref a) H)/\(¬ (HT.a0 xs.length 0 lo=0/\HT.a0 xs.length xs.length hi=xs.length)->∀p,H p=none->Q (.ref p) (upd H p (.tup (cD xs lo hi))))
theorem OE:mC X (OD X.K):=by
 intro pins s σ H x v vl vu lo hi sl Q I rx hs pl pu h;obtain⟨a,xs,rfl,hx,q1,q2⟩:=h
 by_cases hw:HT.a0 xs.length 0 lo=0/\HT.a0 xs.length xs.length hi=xs.length
 ·cases rx
  obtain⟨ar,r,ht,hz⟩:=I.tuple hx;have hlen:ar.toArray.size=xs.length:=by rw[xM];exact r.length.symm
  refine⟨"tuple",_,Wq.lookup,ht.typeIs,?_⟩;exact HT.OC ht hs pl pu (by rw[hlen];exact hw) ⟨.ref a,H,I,rfl,q1 hw⟩
 ·exact KZ pins s σ H _ v vl vu lo hi sl Q I rx hs pl pu ⟨a,xs,rfl,hx,hw,q2 hw⟩
theorem OF:cU X (binaryOp .Add) (fun x y H Q=>∃a b ys,x=.ref a/\y=.ref b/\bw X.K H a []/\bw X.K H b ys/\Q (.ref b) H):=by
 intro pins s σ H x y v u Q I rx ry h;obtain⟨a,b,ys,rfl,rfl,ha,hb,q⟩:=h;cases rx
 cases ry
 obtain⟨ar,r1,p1,_⟩:=I.tuple ha;obtain⟨a_,r2,p2,_⟩:=I.tuple hb;have:ar=[]:=r1.d7.mpr rfl;subst this;exact HT.OB p1 p2 ⟨.ref b,H,I,rfl,q⟩
theorem OG:cU X (compareOp .Is) (fun x y H Q=>∃a b,x=.bl a/\y=.bl b/\Q (.bl (a==b)) H):=by
 intro pins s σ H x y v u Q I rx ry h;obtain⟨a,b,rfl,rfl,q⟩:=h;cases rx
 cases ry
 exact qV ⟨.bl (a==b),H,I,by cases a<;>cases b<;>rfl,q⟩
theorem OH:cU X (compareOp .IsNot) (fun x y H Q=>∃a b,x=.bl a/\y=.bl b/\Q (.bl (!(a==b))) H):=by
 intro pins s σ H x y v u Q I rx ry h;obtain⟨a,b,rfl,rfl,q⟩:=h;cases rx
 cases ry
 exact qV ⟨.bl (!(a==b)),H,I,by cases a<;>cases b<;>rfl,q⟩
def cq:D->D->(D->Prop)->Prop
 |.int i,.int j,K=>K (.int (i+j))
 |.lst a,.lst b,K=>a.length+b.length<=1000/\K (.lst (a++b))
 |.tup a,.tup b,K=>a.length+b.length<=1000/\K (.tup (a++b))
 |.str a,.str b,K=>a.length+b.length<=1000/\K (.str (a++b))
 |_,_,_=>False
theorem OI:dP X (binaryOp .Add) cq:=by
 rintro pins s σ H x y v u Q I rx ry ⟨F,d,e,K,sub,rd,re,q,md⟩;unfold cq at q;split at q
 ·exact uF pins s σ H x y v u Q I rx ry ⟨F,_,_,K,sub,rd,re,q,md⟩
 ·exact uF pins s σ H x y v u Q I rx ry ⟨F,_,_,K,sub,rd,re,q,md⟩
 ·rename_i as bs
  by_cases c:as=[]
  ·subst c
   have cA:Is F (.tup []) x:=rd;have gE:Is F (.tup bs) y:=re;have OJ:=gE;simp only[Is] at cA gE;obtain⟨a,us,rfl,h1,h2⟩:=cA;obtain⟨b,ws,rfl,h3,h4⟩:=gE;have:us=[]:=by simpa only [ae] using h2
   subst this;exact OF pins s σ H _ _ v u Q I rx ry ⟨a,b,ws,rfl,rfl,bw.of (sub _ _ h1),bw.of (sub _ _ h3),md _ _ _ q.2 (fun _ _ e=>e) (rR sub OJ)⟩
  ·exact uF pins s σ H x y v u Q I rx ry ⟨F,_,_,K,sub,rd,re,⟨⟨c,q.1⟩,q.2⟩,md⟩
 ·exact uF pins s σ H x y v u Q I rx ry ⟨F,_,_,K,sub,rd,re,q,md⟩
 ·exact q.elim
def oH:D->Option Int->Option Int->(D->Prop)->Prop
 |.lst ds,lo,hi,K=>K (.lst (cutD ds lo hi))
 |.tup ds,lo,hi,K=>K (.tup (cutD ds lo hi))
 |_,_,_,_=>False
def fZ(f:WE)(l h:WO):WE:=fun δ K=>f δ fun x δ1=>l δ1 fun lo δ2=>h δ2 fun hi δ3=>fW x δ3 fun d=>oH d lo hi fun z=>K (.p z) δ3
theorem OK{ds:List D}{lo hi:Option Int}(h:HT.a0 ds.length 0 lo=0/\HT.a0 ds.length ds.length hi=ds.length):cutD ds lo hi=ds:=by
 unfold cutD;rw[h.1,h.2,Z9,Nat.sub_zero,WB (ua _)]
theorem OL{e:Expr}{f:WE}{lo hi:Option Expr}{l h:WO}{pos p2:Pos}(he:JE X e (tD f))(hl:PO X lo (uG l))(hh:PO X hi (uG h)):JE X (.Subscript e (.Slice lo hi none p2) pos) (tD (fZ f l h)) :=
 (xt (fR.or OE) he hl hh).weak fun σ H Q h0_=>el7 h0_ fun F ad δ K S q k =>⟨F,ad,δ,_,S,q,fun x δ1 h1 v F1 aK H1 E1 S1 V1=>⟨F1,aK,δ1,_,S1,h1,fun lo δ2 h2 F2 bo H2 E2 S2=>⟨F2,bo,δ2,_,S2,h2,fun hi δ3 h3 F3 oq H3 E3 S3=>by
  obtain⟨d,h4,rd⟩:=iC S3 ((V1.ext E2).ext E3) h3;have y2:=(E1.trans E2).trans E3;unfold oH at h4;split at h4
  ·rename_i ds
   obtain⟨a,vs,rfl,g1,g2⟩:=rd;refine .inl ⟨a,vs,rfl,a8.of g1,fun p hp=>?_⟩;exact k _ _ h4 _ _ _ _ (y2.trans (Ext.al S3 (cz hp))) (S3.al (cz hp)) (mK S3.sub hp (Er g2 _ _))
  ·rename_i ds
   have cA:Is F3 (.tup ds) v:=rd;have yU:=cA;simp only[Is] at cA;obtain⟨a,vs,rfl,g1,g2⟩:=cA;refine .inr ⟨a,vs,rfl,bw.of (S3.sub _ _ g1),fun hw=>?_,fun _ p hp=>?_⟩
   ·rw[g2.length] at hw
    rw[OK hw] at h4;exact k _ _ h4 _ _ _ _ y2 S3 yU
   ·exact k _ _ h4 _ _ _ _ (y2.trans (Ext.al S3 (cz hp))) (S3.al (cz hp)) (yO S3.sub hp (Er g2 _ _))
  ·exact h4.elim⟩⟩⟩
def jc:D->D->(D->Prop)->Prop
 |.bl a,.bl b,K=>K (.bl (a==b))
 |d,e,K=>i8 d e K
def sg:D->D->(D->Prop)->Prop
 |.bl a,.bl b,K=>K (.bl (!(a==b)))
 |d,e,K=>yQ d e K
theorem EM:dP X (compareOp .Is) jc:=by
 rintro pins s σ H x y v u Q I rx ry ⟨F,d,e,K,sub,rd,re,q,md⟩;unfold jc at q;split at q
 ·rename_i a b
  exact OG pins s σ H x y v u Q I rx ry ⟨a,b,rd,re,md _ _ _ q (fun _ _ e=>e) rfl⟩
 ·exact NL pins s σ H x y v u Q I rx ry ⟨F,_,_,K,sub,rd,re,q,md⟩
theorem EN:dP X (compareOp .IsNot) sg:=by
 rintro pins s σ H x y v u Q I rx ry ⟨F,d,e,K,sub,rd,re,q,md⟩;unfold sg at q;split at q
 ·rename_i a b
  exact OH pins s σ H x y v u Q I rx ry ⟨a,b,rd,re,md _ _ _ q (fun _ _ e=>e) rfl⟩
 ·exact NM pins s σ H x y v u Q I rx ry ⟨F,_,_,K,sub,rd,re,q,md⟩
end
end L2
open L2
open Lean in
local macro_rules
 | `(tactic| simp? only [$ls,*] $[$loc:location]?)=>do
  let a ← ("Xx dep bO Ww Nat.max_self Nat.max_zero Nat.zero_max Nat.reduceLeDiff ak ay dN uQ aj af d1 d2 dC aa hJ fW jN iZ aD.fix DP cm b9 kJ dT pG eJ mG dm rH mH yt bK i5 aC aR aV gq cP gC fh cI bU jP bI aZ pJ iE yH jU yI cF aq rM passes jS eQ lF ot aG oB cq oH fZ jc sg uv jV pV fm oI c9 oEq iG oLt i8 yQ dZ bz pQ uI rV uJ hX uK yZ y0 fY lH oF fq ft oE pT yR jQ sf aD.trim eO rK Option.join_some Option.join_none VM Xo List.cons_append List.nil_append WN List.replicate_zero Yq XQ List.getElem?_nil V6 V7 Lk Wi List.take_succ_cons Zf List.take_nil List.any_nil Xw Bool.not_false Bool.not_true Bool.and_true Bool.and_self Zt V8 Bool.true_eq_false XZ Xp true_and and_true and_self reduceCtorEq beq_self_eq_true Wb Nat.reduceAdd Nat.reduceLT Nat.reduceEqDiff Nat.reduceSub nU C4".splitOn " ").toArray.mapM fun s => `(Parser.Tactic.simpLemma| $(mkIdent s.toName):ident)
  let r ← `(Parser.Tactic.simpLemma| ↓reduceIte)
  let a:Syntax.TSepArray [`Lean.Parser.Tactic.simpStar, `Lean.Parser.Tactic.simpErase, `Lean.Parser.Tactic.simpLemma] "," := ⟨(Syntax.SepArray.ofElems (sep:=",") ((a.push r).map (·.raw)++ls.getElems.map (·.raw))).elemsAndSeps⟩
  `(tactic| simp only [$a,*] $[$loc]?)
set_option maxHeartbeats 8000000
namespace LJ
open PySem L2
variable[aH]
theorem EO{ns:List Int}{k:Int}(h0:0<=k)(h1:k<(ns.length:Int)):∃n,d8 (ns.map D.int) k=some (.int n):=by
 obtain⟨i,rfl⟩:∃i:Nat,k=i:=⟨k.toNat,by omega⟩;have hi:i<ns.length:=by omega
 refine⟨ns[i],lb ?_⟩;rw[Lq,nR hi];rfl
theorem cQ{α:Type}{x:α}{r:List α}:d8 (x::r) 0=some x:=lb (j:=0) rfl
theorem cG{α:Type}{x y:α}{r:List α}:d8 (x::y::r) 1=some y:=lb (j:=1) rfl
theorem at2{α:Type}{x y z:α}{r:List α}:d8 (x::y::z::r) 2=some z:=lb (j:=2) rfl
theorem sh{a b A B:Int}(h0:0<=a)(h1:a<=A)(h2:0<=b)(h3:b<=B):0<=a*b/\a*b<=A*B :=
 ⟨Int.mul_nonneg h0 h2,Int.mul_le_mul h1 h3 h2 (Int.le_trans h0 h1)⟩
noncomputable def gG:List Int:=[2147483629,2147483587,2147483579,2147483563,2147483549,2147483543,2147483497,2147483489,2147483477,2147483423,2147483399,2147483353,2147483323]
theorem y3(n:Int):∃q:Int,d8 (gG.map D.int) (n%13)=some (.int q)/\0<q/\q<2147483648:=by
 have h0:0<=n%13:=W_ _ (by decide);have h1:n%13<13:=Wz _ (by decide);generalize n%13=j at h0 h1;obtain⟨i,rfl⟩:∃i:Nat,j=i:=⟨j.toNat,by omega⟩;have hi:i<13:=by omega
 have hl:(gG.map D.int)[i]?=some (.int (gG[i]'(by show i<13;exact hi))):=by
  rw[Lq,nR (by show i<13;exact hi)];rfl
 refine⟨_,lb hl,?_⟩;have all:∀q∈gG,0<q/\q<2147483648:=by decide
 exact all _ (Wu _)
theorem OM:iU 3 1=some 1:=rfl
theorem ER:iU 3 2=some 2:=rfl
abbrev Sem(n m:Nat)(g:GD)(b:WS):Prop:=∀ys az K',ys.length=n->g ys az K'->b (jQ az.length K') ⟨ys.map some++List.replicate m none,az.map some⟩
theorem aJ{A B:WS}{K:KS}{δ:aD}(h:∀N:aD->Prop,N=B K->A {K with nx:=N} δ):ak A B K δ:=h _ rfl
theorem fF{t:WT}{G G':WS}{K:KS}{δ:aD}(h:∀A B:aD->Prop,A=G K->B=G' K->t δ fun b δ1=>if b=true then A δ1 else B δ1):aR t G G' K δ:=h _ _ rfl rfl
theorem jX{w:WI}{g:WG}{b:WS}{K:KS}{δ:aD}(h:∀g' b' K',g'=g->b'=b->K'=K->w δ fun it δ1=>jw δ1 it.bc g' b' K' it.items δ1):cI w g b K δ:=h _ _ _ rfl rfl rfl
theorem uT{f:WE}{g:WA}{δ:aD}{K:List DV->aD->Prop}(h:∀K',K'=(fun x δ1=>g δ1 fun xs δ2=>K (x::xs) δ2)->f δ K'):aj f g δ K:=h _ rfl
def y4:GD:=fun ys az K=>∃cell at_:Int,ys=[.p (.int cell),.p (.int at_)]/\az=[]/\0<=at_/\at_<2 ^ 30/\∀z:Int,K (.p (.int z)) []
def y6:WS:=(ak (aR (dT (d2 (aa 0) (d2 (dC (.int 10)) (dC (.int 18)) (c9 fP fun i j=>.int (i ^ j.toNat))) (oI fun i j=>.bl (decide (j<=i))))) (aC (aa 0)) bK) (ak (ay 2 (b9 (aj (dC (.int 2147483629)) (aj (dC (.int 2147483587)) (aj (dC (.int 2147483579)) (aj (dC (.int 2147483563)) (aj (dC (.int 2147483549)) (aj (dC (.int 2147483543)) (aj (dC (.int 2147483497)) (aj (dC (.int 2147483489)) af)))))))))) (ak (ay 2 (d2 (aa 2) (b9 (aj (dC (.int 2147483477)) (aj (dC (.int 2147483423)) (aj (dC (.int 2147483399)) (aj (dC (.int 2147483353)) (aj (dC (.int 2147483323)) af)))))) cq)) (ak (ay 3 (d2 (d2 (d2 (d2 (d2 (d2 (aa 0) (dC (.int 1000000007)) (c9 (fun _ j=>0<j) fun i j=>.int (i%j))) (d2 (d2 (dC (.int 2)) (aa 1) fm) (dC (.int 69069)) cq) fm) (d2 (aa 1) (dC (.int 40503)) fm) cq) (dC (.int 977)) cq) (dC (.int 3)) (c9 fP fun i j=>.int (i ^ j.toNat))) (d2 (aa 2) (d2 (aa 1) (dC (.int 13)) (c9 (fun _ j=>0<j) fun i j=>.int (i%j))) aG) (c9 (fun _ j=>0<j) fun i j=>.int (i%j)))) (ak (ay 4 (d2 (d2 (d2 (d2 (d2 (aa 3) (d2 (aa 1) (dC (.int 3)) cq) fm) (d2 (aa 0) (dC (.int 65537)) (c9 (fun _ j=>0<j) fun i j=>.int (i%j))) cq) (dC (.int 5)) cq) (dC (.int 5)) (c9 fP fun i j=>.int (i ^ j.toNat))) (d2 (aa 2) (d2 (d2 (aa 1) (dC (.int 5)) cq) (dC (.int 13)) (c9 (fun _ j=>0<j) fun i j=>.int (i%j))) aG) (c9 (fun _ j=>0<j) fun i j=>.int (i%j)))) (ak (ay 5 (d2 (d2 (d2 (d2 (aa 4) (d2 (aa 3) (dC (.int 1009)) (c9 (fun _ j=>0<j) fun i j=>.int (i%j))) cq) (aa 1) cq) (dC (.int 3)) (c9 fP fun i j=>.int (i ^ j.toNat))) (d2 (aa 2) (d2 (d2 (aa 1) (dC (.int 7)) cq) (dC (.int 13)) (c9 (fun _ j=>0<j) fun i j=>.int (i%j))) aG) (c9 (fun _ j=>0<j) fun i j=>.int (i%j)))) (aC (d2 (d2 (d2 (d2 (aa 3) (dC (.int 2147483647)) fm) (aa 4) cq) (dC (.int 2147483647)) fm) (aa 5) cq))))))))
theorem ON:Sem 2 4 y4 y6:=by
 rintro ys az K'-⟨cell,k,rfl,rfl,h0,h1,fin⟩;unfold y6;have si:∀(z:Int)(sl:List (Option DV)),gD 0 K' (.p (.int z)) ⟨sl,[]⟩:=fun z sl=>⟨[],rfl,rfl,fin z⟩;simp? only [];refine⟨⟨by decide,by decide,by decide⟩,?_⟩;split
 ·exact si _ _
 obtain⟨q1,e1,p1,b1⟩:=y3 k;obtain⟨q2,e2,p2,b2⟩:=y3 (k+5);obtain⟨q3,e3,p3,b3⟩:=y3 (k+7);simp only[gG,VM,Xo] at e1 e2 e3;simp only[e1,e2,e3];have c0:0<=cell%1000000007:=W_ _ (by decide);have c1:cell%1000000007<1000000007:=Wz _ (by decide);have m1:=sh c0 (Int.le_of_lt c1) (show(0:Int)<=2*k+69069 by omega) (show 2*k+69069<=2147552717 by omega);refine⟨by decide,.inl ⟨by decide,by decide⟩,.inl ⟨by omega,by omega⟩,.inr ⟨by decide,by decide⟩,⟨by decide,by decide,?cp1⟩,by decide,p1,?_⟩
 case cp1 =>
  generalize cell%1000000007*(2*k+69069)=m at m1 ⊢;omega
 generalize(cell%1000000007*(2*k+69069)+k*40503+977) ^ (3:Int).toNat=x1;have o0:0<=x1%q1:=W_ _ (by omega);have o1:x1%q1<q1:=Wz _ p1;have d0:0<=cell%65537:=W_ _ (by decide);have d1:cell%65537<65537:=Wz _ (by decide);have m2:=sh o0 (show x1%q1<=2147483648 by omega) (show(0:Int)<=k+3 by omega) (show k+3<=1073741827 by omega);refine⟨.inl ⟨by omega,by omega⟩,by decide,⟨by decide,by decide,?cp2⟩,by decide,p2,?_⟩
 case cp2 =>
  generalize x1%q1*(k+3)=m at m2 ⊢;omega
 have t0:0<=(x1%q1*(k+3)+cell%65537+5) ^ (5:Int).toNat%q2:=W_ _ (by omega);have t1:(x1%q1*(k+3)+cell%65537+5) ^ (5:Int).toNat%q2<q2:=Wz _ p2;have u0:0<=x1%q1%1009:=W_ _ (by decide);have u1:x1%q1%1009<1009:=Wz _ (by decide);generalize(x1%q1*(k+3)+cell%65537+5) ^ (5:Int).toNat%q2=m at t0 t1 ⊢;exact⟨by decide,⟨by decide,by decide,by omega⟩,by decide,p3,.inr ⟨by decide,by decide⟩,.inr ⟨by decide,by decide⟩,si _ _⟩
noncomputable def hZ(ns:List Int)(k z:Int):OV:=.lst [.lst (ns.map D.int),.int k,.int z]
structure aS(n:Int)(o:OV):Prop where
 out:∃ns k z,o=hZ ns k z/\ns.length<=63/\0<=k/\k<=n
theorem aS.mono{n m:Int}{o:OV}(h:aS n o)(l:n<=m):aS m o:=by
 obtain⟨ns,k,z,e,h1,h2,h3⟩:=h.out;exact⟨ns,k,z,e,h1,h2,by omega⟩
def y7:GD:=fun ys az K=>∃n o,ys=[.o 0]/\az=[o]/\aS n o/\∀o',aS n o'->K (.a 0) [o']
def y8:WS:=(ak (oF (dC (.int 0)) (aa 0) (dC (.int 2))) (aC (aa 0)))
theorem OO:Sem 1 0 y7 y8:=by
 rintro ys az K'-⟨n,o,rfl,rfl,P,fin⟩;obtain⟨ns,k,z,rfl,h1,h2,h3⟩:=P.out;unfold y8 hZ;simp? only [];exact⟨[hZ ns k 0],rfl,rfl,fin _ ⟨ns,k,0,rfl,h1,h2,h3⟩⟩
def fG:GD:=fun ys az K=>∃(n m:Int)(o:OV),ys=[.o 0,.p (.int m)]/\az=[o]/\aS n o/\n<2 ^ 30/\0<m/\m<1073741824/\∀r o',0<=r->r<m->aS (n+1) o'->K (.p (.int r)) [o']
def y9:WS:=(ak (aR (dT (d2 (d2 (aa 0) (dC (.int 2)) aG) (aa 1) oLt)) (ak (ay 2 (d2 (aa 0) (dC (.int 1)) aG)) (ak (ay 3 (dC (.int 0))) (ak (aR (dT (d2 (aa 2) (dN (aj (d2 (aa 0) (dC (.int 0)) aG) af) bz) oLt)) (ay 3 (d2 (d2 (aa 0) (dC (.int 0)) aG) (aa 2) aG)) (aR (dT (d2 (dN (aj (d2 (aa 0) (dC (.int 0)) aG) af) bz) (dC (.int 0)) (oI fun i j=>.bl (decide (j<i))))) (ay 3 (d2 (d2 (d2 (aa 0) (dC (.int 0)) aG) (d2 (d2 (d2 (aa 2) (dC (.int 5)) fm) (dC (.int 3)) cq) (dN (aj (d2 (aa 0) (dC (.int 0)) aG) af) bz) (c9 (fun _ j=>0<j) fun i j=>.int (i%j))) aG) (d2 (d2 (dC (.int 10)) (dC (.int 17)) (c9 fP fun i j=>.int (i ^ j.toNat))) (aa 2) cq) (c9 (fun _ j=>0<j) fun i j=>.int (i%j)))) bK)) (ak (oF (d2 (aa 2) (dC (.int 1)) cq) (aa 0) (dC (.int 1))) (oF (aq 2 y4 (aj (aa 3) (aj (aa 2) af))) (aa 0) (dC (.int 2))))))) bK) (ak (ay 4 (d2 (d2 (aa 0) (dC (.int 2)) aG) (aa 1) (c9 (fun _ j=>0<j) fun i j=>.int (i%j)))) (ak (oF (d2 (d2 (aa 0) (dC (.int 2)) aG) (aa 1) (c9 qM fun i j=>.int (i.fdiv j))) (aa 0) (dC (.int 2))) (aC (aa 4)))))
theorem OP:Sem 2 3 fG y9:=by
 rintro ys az K'-⟨n,m,o,rfl,rfl,P,hn,ES,Uy,fin⟩;obtain⟨ns,k,z,rfl,h1,h2,h3⟩:=P.out;unfold y9 hZ
 have last:∀(k' z':Int)(sl:List (Option DV)),0<=k'->k'<=n+1->gD 1 K' (.p (.int (z'%m))) ⟨sl,[some (.lst [.lst (ns.map D.int),.int k',.int (z'.fdiv m)])]⟩:=fun k' z' sl a b =>
  ⟨[hZ ns k' (z'.fdiv m)],rfl,rfl,fin _ _ (W_ _ (by omega)) (Wz _ ES) ⟨ns,k',_,rfl,h1,a,b⟩⟩
 have OQ:∀z,qM z m:=fun z=>⟨by omega,by omega⟩
 have rest:∀(k' z':Int)(s2 s3 s4:Option DV),0<=k'->k'<=n+1->(ak (ay 4 (d2 (d2 (aa 0) (dC (.int 2)) aG) (aa 1) (c9 (fun _ j=>0<j) fun i j=>.int (i%j)))) (ak (oF (d2 (d2 (aa 0) (dC (.int 2)) aG) (aa 1) (c9 qM fun i j=>.int (i.fdiv j))) (aa 0) (dC (.int 2))) (aC (aa 4)))) (jQ 1 K') ⟨[some (.o 0),some (.p (.int m)),s2,s3,s4],[some (.lst [.lst (ns.map D.int),.int k',.int z'])]⟩:=fun k' z' s2 s3 s4 a b=>by
  simp? only [at2,ER];exact⟨ES,OQ _,last _ _ _ a b⟩
 refine aJ fun N hN=>?_;refine fF fun A B hA hB=>?_;simp? only [at2];split
 ·subst hA
  refine aJ fun N2 bR=>?_;simp? only [cG];subst bR;refine aJ fun N2 bR=>?_;simp? only [];subst bR;refine aJ fun N2 bR=>?_
  have go:∀(c:Int)(s4:Option DV),N2 ⟨[some (.o 0),some (.p (.int m)),some (.p (.int k)),some (.p (.int c)),s4],[some (.lst [.lst (ns.map D.int),.int k,.int z])]⟩:=fun c s4=>by
   subst bR;simp? only [OM];refine⟨c,k,rfl,rfl,h2,by omega,fun z'=>?_⟩;simp? only [ER];subst hN;exact rest _ _ _ _ _ (by omega) (by omega)
  refine fF fun A B hA hB=>?_;simp? only [cQ];split
  ·rename_i cB
   obtain⟨c,ec⟩:=EO h2 (VS cB);subst hA;simp? only [cQ];rw[ec];exact go _ _
  ·subst hB
   refine fF fun A B hA hB=>?_;simp? only [cQ];split
   ·rename_i lN
    have lN:=VS lN;obtain⟨c,ec⟩:=EO (ns:=ns) (k:=(k*5+3)%(ns.length:Int)) (W_ _ (by omega)) (Wz _ lN);subst hA;simp? only [cQ];refine⟨.inr ⟨by decide,by decide⟩,lN,?_⟩;rw[ec];exact⟨⟨by decide,by decide,by decide⟩,by show(0:Int)<10 ^ 17+k;omega,go _ _⟩
   ·subst hB
    exact go _ _
 ·subst hB hN
  exact rest _ _ _ _ _ (by omega) (by omega)
noncomputable def cf(p:Int×Int):D:=.tup [.int p.1,.int p.2]
structure cR(many:Int)(ps:List (Int×Int)):Prop where
 ends:∀p∈ps,0<=p.1/\p.1<p.2/\p.2<many
 jA:ps.Nodup
 gs:ps.length<=66
theorem cR.sub{many:Int}{ps qs:List (Int×Int)}(h:cR many ps)(s:qs.Sublist ps):cR many qs :=
 ⟨fun p hp=>h.ends p (s.subset hp),h.jA.sublist s,V_ s.length_le h.gs⟩
def y_:GD:=fun ys az K=>∃(n kind many:Int)(o:OV),ys=[.o 0,.p (.int kind),.p (.int many)]/\az=[o]/\aS n o/\n+100<2 ^ 30/\1<=many/\many<=12/\∀ps o',cR many ps->aS (n+67) o'->K (.n (ps.map cf)) [o']
def za:WS:=(ak (ay 3 (kJ af)) (ak (cI (iE (aj (aa 2) af)) (aV 4) (i5 (oE (aa 3) (aj (bU (iE (aj (aa 4) af)) [none,some 4] (aV 0) bI (cm (aj (aa 0) (aj (aa 1) af)))) af)))) (ak (aR (dT (d2 (aa 1) (dC (.int 1)) oEq)) (aC (jP (yH (aj (dC (.int 1)) (aj (aa 2) af))) [none,some 0] (aV 0) bI (cm (aj (aq 2 fG (aj (aa 1) (aj (aa 0) af))) (aj (aa 0) af))))) bK) (ak (aR (dT (d2 (aa 1) (dC (.int 2)) oEq)) (ak (ay 5 (bU (iE (aj (d2 (aa 2) (dC (.int 1)) (oI fun i j=>.int (i-j))) af)) [none] (aV 0) bI (cm (aj (aa 0) (aj (d2 (aa 0) (dC (.int 1)) cq) af))))) (aC (y0 (aa 5) (bU (aZ (aa 3)) [none,some 2] (aV 0) (eJ (dT (d2 (aa 0) (cm (aj (dC (.int 0)) (aj (d2 (aa 1) (dC (.int 1)) (oI fun i j=>.int (i-j))) af))) oEq)) (dT (d2 (aa 1) (dC (.int 2)) (oI fun i j=>.bl (decide (j<i)))))) (aa 0))))) bK) (ak (aR (dT (d2 (aa 1) (dC (.int 3)) oEq)) (aC (aa 3)) bK) (ak (aR (dT (d2 (aa 1) (dC (.int 4)) oEq)) (aC (jP (aZ (aa 3)) [none,some 0] (aV 0) (dT (d2 (aq 2 fG (aj (aa 1) (aj (dC (.int 4)) af))) (dC (.int 0)) oEq)) (aa 0))) bK) (ak (aR (dT (d2 (aa 1) (dC (.int 5)) oEq)) (ak (ay 6 (aq 2 fG (aj (aa 0) (aj (d2 (aa 2) (dC (.int 1)) cq) af)))) (aC (jP (aZ (aa 3)) [none,some 6,some 0] (aV 0) (eJ (dT (d2 (d2 (d2 (aa 0) (dC (.int 0)) aG) (aa 1) oLt) (d2 (d2 (aa 0) (dC (.int 1)) aG) (aa 1) oLt) oEq)) (dT (d2 (aq 2 fG (aj (aa 2) (aj (dC (.int 3)) af))) (dC (.int 0)) (oI fun i j=>.bl (decide (j<i)))))) (aa 0)))) bK) (aC (jP (aZ (aa 3)) [none,some 0] (aV 0) (dT (d2 (aq 2 fG (aj (aa 1) (aj (dC (.int 2)) af))) (dC (.int 0)) oEq)) (aa 0))))))))))
theorem sub_snoc{α:Type}{zs ps:List α}{i:Nat}{x:α}(h:zs.Sublist (ps.take i))(e:ps[i]?=some x):(zs++[x]).Sublist (ps.take (i+1))/\zs.Sublist (ps.take (i+1)):=by
 have:ps.take (i+1)=ps.take i++[x]:=by rw[XC,e];rfl
 rw[this];exact⟨h.append (Zp _),h.trans (Zw _ _)⟩
theorem OR{α:Type}{l:List α}{c:α}(h:l.Nodup)(hc:∀x∈l,x=c):l.length<=1:=by
 match l,h,hc with
 |[],_,_=>exact Ww _
 |[_],_,_=>exact ua _
 |x::y::r,h,hc =>
  have:=(Wj.mp h).1 y (My);exact absurd ((hc x My).trans (hc y (C5 _ My)).symm) this
theorem zb{n:Int}{o:OV}{ps:List (Int×Int)}{t:WT}{K:List D->aD->Prop}{rest:List (Option DV)}{ev:Option OV}{bc:aD->Prop}(hc:∀sl o',bc ⟨sl,[some o',ev]⟩)(hw:ps.length<=66)(P:aS n o)(hn:n+70<2 ^ 30)
  (ht:∀(p:Int×Int)(i:Nat)(o':OV)(Q:Bool->aD->Prop),p∈ps->i<=66->aS (n+i) o'->(∀b jY,aS (n+i+1) jY->Q b ⟨some (.p (cf p))::rest,[some jY,ev]⟩)->t ⟨some (.p (cf p))::rest,[some o',ev]⟩ Q)
  (hr:eO 2 rest rest=rest)
  (fin:∀(zs:List (Int×Int)) o',zs.Sublist ps->aS (n+ps.length) o'->K (zs.map cf) ⟨none::rest,[some o',ev]⟩) :
  iD ⟨none::rest,[some o,ev]⟩ bc (aV 0) t (aa 0) K (ps.map cf) [] ⟨none::rest,[some o,ev]⟩:=by
 refine yX (fun i acc δ=>∃(zs:List (Int×Int))(o':OV),zs.Sublist (ps.take i)/\acc=zs.map cf/\aS (n+i) o'/\δ=⟨none::rest,[some o',ev]⟩) ⟨[],o,Zp _,rfl,P.mono (by omega),rfl⟩ ?_ ?_
 ·rintro j d acc δ L hj ⟨zs,o',hz,rfl,P',rfl⟩ hL
  rw[Lq] at hj;obtain⟨p,hp,rfl⟩:=Vz.mp hj;have Uz:j<ps.length:=(nV.mp hp).1;refine⟨hc _ _,?_⟩;show t ⟨some (.p (cf p))::rest,[some o',ev]⟩ _;refine ht p j o' _ (V0 hp) (by omega) P' fun b jY lO=>?_
  have hlen:(zs.map cf).length<1000:=by
   rw[nU];have:=hz.length_le;rw[We] at this;omega
  have P3:aS (n+((j+1:Nat):Int)) jY:=lO.mono (by omega)
  cases b with
  |true =>
   rw[VB rfl];refine⟨hlen,hL _ _ ⟨zs++[p],jY,(sub_snoc hz hp).1,by rw[VI];rfl,P3,?_⟩⟩;show(⟨none::eO 2 rest rest,_⟩:aD)=_;rw[hr];rfl
  |false =>
   rw[Uo (by decide)];refine hL _ _ ⟨zs,jY,(sub_snoc hz hp).2,rfl,P3,?_⟩;show(⟨none::eO 2 rest rest,_⟩:aD)=_;rw[hr];rfl
 ·rintro acc δ ⟨zs,o',hz,rfl,P',rfl⟩
  rw[nU] at P' hz;rw[WB (ua _)] at hz;exact⟨hc _ _,fin zs o' hz P'⟩
theorem OS:Sem 3 4 y_ za:=by
 rintro ys az K'-⟨n,kind,many,o,rfl,rfl,P,hn,m1,dj,fin⟩;obtain⟨mm,rfl⟩:∃mm:Nat,many=mm:=⟨many.toNat,by omega⟩;have zc:mm<=12:=by omega
 unfold za;have bM:cR mm (iA mm):=⟨fun p hp=>yj hp,DE mm,DF mm zc⟩;refine aJ fun N hN=>?_;simp? only [];subst hN;refine aJ fun N hN=>?_;simp? only [];refine⟨by omega,?_⟩;refine jx (fun i δ=>δ=⟨[some (.o 0),some (.p (.int kind)),some (.p (.int mm)),some (.o 1),none,none,none],[some o,some (.lst ((iA i).map cf))]⟩) rfl ?_ ?_
 ·rintro j d δ L hj rfl hL
  obtain⟨hj,rfl⟩:=iF hj;simp? only [];have e:(0+(j:Int))=j:=by omega
  rw[e];refine⟨by omega,?_⟩
  refine gF (fun d=>match d with
   |.int a=>cf (a,j)
   |_=>.non) (by rw[hW];omega) trivial ?_ ?_
  ·intro d hd acc L' ha h
   obtain⟨i,hi⟩:=Uq.mp hd;obtain⟨hi,rfl⟩:=iF hi;simp? only [];exact⟨ha,h⟩
  ·have e2:(iA j).map cf++(bp 0 (j:Int).toNat).map (fun d=>match d with
    |.int a=>cf (a,j)
    |_=>.non)=(iA (j+1)).map cf:=by
    show _=(iA j++_).map cf;unfold bp;rw[VI,VH,VH];congr 1;refine W5 fun a _=>?_;simp[Function.comp]
   simp? only [];have UA:=DF j (by omega);refine⟨by rw[hW];omega,?_⟩;rw[e2];exact hL _ rfl
 ·rintro δ rfl
  refine⟨trivial,?_⟩;subst hN;have eL:((mm:Int)).toNat=mm:=by omega
  rw[hW,eL];dsimp only
  have back:∀(ps:List (Int×Int))(o':OV)(sl:List (Option DV))(m:List (Option OV)),cR mm ps->aS (n+67) o'->gD 1 K' (.o (m.length+1)) ⟨sl,some o'::(m++[some (.lst (ps.map cf))])⟩:=fun ps o' sl m h1 h2=>by
   refine⟨[o'],rfl,rfl,?_⟩;show if m.length+1<1 then _ else _;rw[Uo (by omega)]
   have:(some o'::(m++[some (OV.lst (ps.map cf))]))[m.length+1]?=some (some (.lst (ps.map cf))):=by
    rw[XQ,VF (ua _),Wr];rfl
   dsimp only;rw[this];exact .inl (fin ps o' h1 h2)
  refine aJ fun N hN=>?_;simp? only [aB];split
  ·refine⟨by omega,?_⟩
   refine yX (fun i acc δ=>∃(zs:List (Int×Int))(o':OV),zs.length=i/\(∀(q:Nat)(p:Int×Int),zs[q]?=some p->p.2=q+1/\0<=p.1/\p.1<p.2)/\acc=zs.map cf/\aS (n+i) o'/\δ=⟨[none,some (.o 0)],[some o',some (.lst ((iA mm).map cf))]⟩) ⟨[],o,rfl,fun q p e=>by simp at e,rfl,P.mono (by omega),rfl⟩ ?_ ?_
   ·rintro j d acc δ L hj ⟨zs,o',hz,hq,rfl,P',rfl⟩ hL
    obtain⟨hj,rfl⟩:=iF hj;simp? only [];refine⟨n+j,1+j,o',rfl,rfl,P',by omega,by omega,by omega,fun r jY r0 r1 lO=>?_⟩;simp? only [];refine⟨by omega,hL _ _ ⟨zs++[(r,1+(j:Int))],jY,by rw[C4,hz];rfl,fun q p e=>?_,by rw[VI];rfl,lO.mono (by omega),rfl⟩⟩
    by_cases c:q<zs.length
    ·rw[VE c] at e
     exact hq q p e
    ·have hl:=(nV.mp e).1
     rw[C4,VU] at hl;have:q=zs.length:=by omega
     subst this;rw[VF (ua _),Wr] at e;cases(show some (r,1+(j:Int))=some p by simpa using e)
     exact⟨by show 1+(j:Int)=_;omega,r0,r1⟩
   ·rintro acc δ ⟨zs,o',hz,hq,rfl,P',rfl⟩
    rw[hW] at hz P';refine⟨trivial,?_⟩;refine back zs o' _ [_] ⟨fun p hp=>?_,?_,by omega⟩ (P'.mono (by omega))
    ·obtain⟨q,ET⟩:=Uq.mp hp
     have:=hq q p ET;have hl:=(nV.mp ET).1;omega
    ·refine Yc.mpr fun i j hi hj ja e=>?_
     have q1:=hq i _ (nR hi);have q2:=hq j _ (nR hj);rw[e] at q1;omega
  subst hN;refine aJ fun N hN=>?_;simp? only [aB];split
  ·clear hN
   refine⟨by omega,?_⟩
   refine gF (fun d=>match d with
    |.int a=>cf (a,a+1)
    |_=>.non) (by rw[hW];omega) trivial ?_ ?_
   ·intro d hd acc L' ha h
    obtain⟨i,hi⟩:=Uq.mp hd;obtain⟨hi,rfl⟩:=iF hi;simp? only [];exact⟨ha,h⟩
   ·simp? only []
    refine gU (fun d=>aB d (cf (0,mm-1))&&decide ((2:Int)<mm)) id (by rw[nU];have:=bM.gs;omega) rfl ?_ ?_
    ·intro d hd acc L' ha h h'
     obtain⟨p,hp,rfl⟩:=Lm.mp hd;simp only[cf] at h h';simp? only [cf];split
     ·rename_i q1
      split
      ·rename_i q2
       exact⟨ha,h (by rw[q1,q2];rfl)⟩
      ·rename_i q2
       exact h' (by rw[q1,Bool.not_eq_true _ |>.mp q2];rfl)
     ·rename_i q1
      exact h' (by rw[Bool.not_eq_true _ |>.mp q1];rfl)
    ·simp? only []
     have er:(bp 0 ((mm:Int)-1).toNat).map (fun d=>match d with
       |D.int a=>cf (a,a+1)
       |x=>D.non)=((List.range (mm-1)).map fun i:Nat=>((i:Int),(i:Int)+1)).map cf:=by
      unfold bp;rw[VH,VH];have:((mm:Int)-1).toNat=mm-1:=by omega
      rw[this];refine W5 fun a _=>?_;simp[Function.comp]
     have ef:(((iA mm).map cf).filter fun d=>aB d (cf (0,mm-1))&&decide ((2:Int)<mm))=((iA mm).filter fun p=>aB (cf p) (cf (0,mm-1))&&decide ((2:Int)<mm)).map cf:=by
      rw[Wl];rfl
     rw[er,WV,ef,<-VI]
     have hf:∀p∈(iA mm).filter (fun p=>aB (cf p) (cf (0,mm-1))&&decide ((2:Int)<mm)),p=(0,(mm:Int)-1)/\(2:Int)<mm:=fun p hp=>by
      have:=(VJ.mp hp).2;simp[cf,aB,bP] at this;obtain⟨a,b⟩:=p;simp at this ⊢;omega
     have h1:((iA mm).filter (fun p=>aB (cf p) (cf (0,mm-1))&&decide ((2:Int)<mm))).length<=1:=OR (bM.jA.sublist Xu) fun p hp=>(hf p hp).1;refine⟨by rw[hW,nU];omega,back _ o _ [_] ⟨fun p hp=>?_,?_,?_⟩ (P.mono (by omega))⟩
     ·rcases VA.mp hp with hp|hp
      ·obtain⟨i,hi,rfl⟩:=Lm.mp hp
       have:=VL.mp hi;exact⟨by omega,by omega,by show(i:Int)+1<mm;omega⟩
      ·exact bM.ends p (VJ.mp hp).1
     ·refine VZ.mpr ⟨?_,bM.jA.sublist Xu,fun a ha b hb e=>?_⟩
      ·refine Wm.mpr (YJ.imp fun{a b} ne e=>ne ?_)
       have:=congrArg Prod.fst e;exact Int.ofNat.inj this
      ·subst e
       obtain⟨i,hi,rfl⟩:=Lm.mp ha;have:=hf _ hb;have h2:=congrArg Prod.fst this.1;have h3:=congrArg Prod.snd this.1;simp at h2 h3;omega
     ·rw[C4,nU,Wg];omega
  subst hN;refine aJ fun N hN=>?_;simp? only [aB];split
  ·exact⟨[o],rfl,rfl,.inl (fin _ _ bM (P.mono (by omega)))⟩
  subst hN;refine aJ fun N hN=>?_;simp? only [aB];split
  ·refine zb (fun _ _=>rfl) bM.gs P (by omega) (fun p i o' Q hp hi P' hQ=>?_) rfl fun zs o' hz P'=>?_
   ·simp? only [aB]
    refine⟨n+i,4,o',rfl,rfl,P',by omega,by omega,by omega,fun r jY r0 r1 lO=>?_⟩;simp? only [];exact hQ _ _ lO
   ·exact back zs o' _ [_] (bM.sub hz) (P'.mono (by have:=bM.gs;omega))
  subst hN;refine aJ fun N hN=>?_;simp? only [aB];split
  ·refine⟨n,mm+1,o,rfl,rfl,P,by omega,by omega,by omega,fun half o1 r0 r1 P1=>?_⟩
   simp? only [];refine zb (n:=n+1) (fun _ _=>rfl) bM.gs P1 (by omega) (fun p i o' Q hp hi P' hQ=>?_) rfl fun zs o' hz P'=>?_
   ·simp? only [aB,cf,cQ,cG]
    split
    ·refine⟨n+1+i,3,o',rfl,rfl,P',by omega,by omega,by omega,fun r jY r0 r1 lO=>?_⟩
     simp? only [];exact hQ _ _ lO
    ·exact hQ _ _ (P'.mono (by omega))
   ·exact back zs o' _ [_] (bM.sub hz) (P'.mono (by have:=bM.gs;omega))
  subst hN;simp? only [aB];refine zb (fun _ _=>rfl) bM.gs P (by omega) (fun p i o' Q hp hi P' hQ=>?_) rfl fun zs o' hz P'=>?_
  ·simp? only [aB]
   refine⟨n+i,2,o',rfl,rfl,P',by omega,by omega,by omega,fun r jY r0 r1 lO=>?_⟩;simp? only [];exact hQ _ _ lO
  ·exact back zs o' _ [_] (bM.sub hz) (P'.mono (by have:=bM.gs;omega))
theorem EU{α:Type}:∀{l:List α}{j:Nat}(h:j<l.length),List.Perm (l[j]::l.eraseIdx j) l
 |x::r,0,h=>XN _
 |x::r,j+1,h=>by
  have hj:j<r.length:=by simpa using h
  show List.Perm (r[j]::x::r.eraseIdx j) (x::r);exact(List.Perm.swap x r[j] _).trans ((EU hj).cons x)
theorem ze{α β:Type}(f:α->β):∀(l:List α)(j:Nat),(l.map f).eraseIdx j=(l.eraseIdx j).map f
 |[],_=>rfl
 |_::_,0=>rfl
 |x::r,j+1=>by
  show f x::(r.map f).eraseIdx j=f x::(r.eraseIdx j).map f;rw[ze f r j]
noncomputable def a5(y:Int×Int×Int):D:=.tup [.int y.1,.int y.2.1,.int y.2.2]
noncomputable def aA(m:Int)(ys:List (Int×Int×Int)):D:=.tup [.int m,.tup (ys.map a5)]
noncomputable def lP(y:Int×Int×Int):Int×Int:=(y.1,y.2.1)
theorem cR.perm{many:Int}{ps qs:List (Int×Int)}(h:cR many ps)(p:qs.Perm ps):cR many qs :=
 ⟨fun x hx=>h.ends x (p.mem_iff.mp hx),p.nodup_iff.mpr h.jA,by rw[p.length_eq];exact h.gs⟩
def zg:GD:=fun ys az K=>∃(n cZ most:Int)(o:OV),ys=[.o 0,.p (.int cZ),.p (.int most)]/\az=[o]/\aS n o/\n+400<2 ^ 30/\1<=cZ/\cZ<=12/\0<=most/\most<=30 ∧
 ∀m ws o',ax m ws->m<=cZ->(ws.length:Int)<=most->aS (n+300) o'->K (.p (aA m ws)) [o']
def zi:WS:=(ak (ay 3 (aq 2 fG (aj (aa 0) (aj (dC (.int 8)) af)))) (ak (ay 4 (aq 2 fG (aj (aa 0) (aj (dC (.int 4)) af)))) (ak (ay 5 (d2 (dC (.int 1)) (aq 2 fG (aj (aa 0) (aj (aa 1) af))) cq)) (ak (ay 6 (rM 3 y_ (aj (aa 0) (aj (aa 3) (aj (aa 5) af))))) (ak (ay 7 (kJ af)) (ak (cI (iE (aj (dN (aj (aa 2) (aj (dN (aj (aa 6) af) bz) af)) rV) af)) (aV 8) (ak (fh (pT (aa 6) (aj (aq 2 fG (aj (aa 0) (aj (dN (aj (aa 6) af) bz) af))) af)) (gC 2 (cP (aV 9) (cP (aV 10) gq)))) (ak (ay 11 (d2 (b9 (aj (dC (.int 7)) (aj (aq 2 fG (aj (aa 0) (aj (dC (.int 3)) af))) (aj (d2 (d2 (dC (.int 10)) (dC (.int 9)) (c9 fP fun i j=>.int (i ^ j.toNat))) (aq 2 fG (aj (aa 0) (aj (dC (.int 2)) af))) (oI fun i j=>.int (i-j))) (aj (aq 2 fG (aj (aa 0) (aj (d2 (d2 (dC (.int 10)) (dC (.int 9)) (c9 fP fun i j=>.int (i ^ j.toNat))) (dC (.int 1)) cq) af))) af))))) (aa 4) aG)) (i5 (ft (aa 7) (aj (cm (aj (aa 9) (aj (aa 10) (aj (aa 11) af)))) af)))))) (aC (cm (aj (aa 5) (aj (dN (aj (aa 7) af) uI) af))))))))))
theorem OT:Sem 3 9 zg zi:=by
 rintro ys az K'-⟨n,cZ,most,o,rfl,rfl,P,hn,h1,EV,s0,UB,fin⟩;unfold zi;refine aJ fun N hN=>?_;simp? only [];refine⟨n,8,o,rfl,rfl,P,by omega,by omega,by omega,fun kind o1 _ _ P1=>?_⟩;simp? only [];subst hN;refine aJ fun N hN=>?_;simp? only [];refine⟨n+1,4,o1,rfl,rfl,P1,by omega,by omega,by omega,fun dI o2 p0 p4 P2=>?_⟩;simp? only [];subst hN;refine aJ fun N hN=>?_;simp? only [];refine⟨n+1+1,cZ,o2,rfl,rfl,P2,by omega,by omega,by omega,fun mm o3 m0 mh P3=>?_⟩;simp? only [];subst hN;refine aJ fun N hN=>?_;simp? only [];refine⟨n+1+1+1,kind,1+mm,o3,rfl,rfl,P3,by omega,by omega,by omega,fun ps o4 EW P4=>?_⟩
 simp? only [];subst hN;refine aJ fun N hN=>?_;simp? only [];subst hN;refine aJ fun N hN=>?_;have UC:=EW.gs;simp? only [];refine⟨by omega,?_⟩;have ek:(min most (ps.length:Int)).toNat=min most.toNat ps.length:=by omega
 rw[ek];generalize hk:min most.toNat ps.length=k
 refine jx (fun i δ=>∃(qs:List (Int×Int))(ws:List (Int×Int×Int))(o':OV),qs.length+i=ps.length/\ws.length=i/\cR (1+mm) (ws.map lP++qs)/\(∀y∈ws,0<=y.2.2/\y.2.2<=1000000000)/\aS (n+70+4*i) o' ∧
  δ=⟨[some (.o 0),some (.p (.int cZ)),some (.p (.int most)),some (.p (.int kind)),some (.p (.int dI)),some (.p (.int (1+mm))),some (.o 1),some (.o 2),none,none,none,none],[some o',some (.lst (qs.map cf)),some (.lst (ws.map a5))]⟩)
  ⟨ps,[],o4,by omega,rfl,EW,fun y hy=>absurd hy V9,P4.mono (by omega),rfl⟩ ?_ ?_
 ·rintro j d δ L hj ⟨qs,ws,o',hq,hw,hp,hy,P',rfl⟩ hL
  obtain⟨hj,rfl⟩:=iF hj;have q0:0<qs.length:=by omega
  have OU:=hp.gs;rw[C4,nU] at OU;refine⟨trivial,?_⟩;simp only[aV,V6,V7];refine aJ fun N2 bR=>?_;simp? only [];refine⟨n+70+4*j,qs.length,o',rfl,rfl,P',by omega,by omega,by omega,fun r o1 r0 r1 P1=>?_⟩;obtain⟨rn,rfl⟩:∃rn:Nat,r=rn:=⟨r.toNat,by omega⟩;have hr:rn<qs.length:=by omega
  have ix:seqIndex? (rn:Int) qs.length=some rn:=DG hr;have eq:(qs.map cf)[rn]?=some (.tup [.int qs[rn].1,.int qs[rn].2]):=by rw[Lq,nR hr];rfl
  simp? only [ix,eq];refine⟨⟨by omega,by omega⟩,?_⟩;subst bR;refine aJ fun N2 bR=>?_;simp only[ay,d2,b9];refine uT fun K3 oJ=>?_;simp? only [];subst oJ;refine uT fun K3 oJ=>?_;simp? only [];refine⟨n+70+4*j+1,3,o1,rfl,rfl,P1,by omega,by omega,by omega,fun a1 o2 UD UE P2=>?_⟩;simp? only [];subst oJ;refine uT fun K3 oJ=>?_;simp? only [];refine⟨⟨by decide,by decide,by decide⟩,n+70+4*j+1+1,2,o2,rfl,rfl,P2,by omega,by omega,by omega,fun a2 o3 UG UH P3=>?_⟩;simp? only [];subst oJ;refine uT fun K3 oJ=>?_;simp? only [];refine⟨⟨by decide,by decide,by decide⟩,n+70+4*j+1+1+1,10 ^ Int.toNat 9+1,o3,rfl,rfl,P3,by omega,by decide,by decide,fun a3 o4 UI OW P4=>?_⟩
  simp? only [];subst oJ;simp? only [];have e9:(10:Int) ^ Int.toNat 9=1000000000:=by decide
  rw[e9] at OW ⊢
  obtain⟨pr,OX,OY,OZ⟩:∃pr:Int,d8 [D.int 7,D.int a1,D.int (1000000000-a2),D.int a3] dI=some (.int pr)/\0<=pr/\pr<=1000000000:=by
   have:dI=0\/dI=1\/dI=2\/dI=3:=by omega
   rcases this with rfl|rfl|rfl|rfl
   ·exact⟨7,rfl,by omega,by omega⟩
   ·exact⟨a1,rfl,by omega,by omega⟩
   ·exact⟨1000000000-a2,rfl,by omega,by omega⟩
   ·exact⟨a3,rfl,by omega,by omega⟩
  rw[OX];show N2 _;subst bR;simp? only [];refine⟨by omega,hL _ ⟨qs.eraseIdx rn,ws++[(qs[rn].1,qs[rn].2,pr)],o4,?_,?_,?_,?_,P4.mono (by omega),?_⟩⟩
  ·rw[X1 hr];omega
  ·rw[C4,hw];rfl
  ·refine hp.perm ?_
   rw[VI,Xi];refine List.Perm.append_left _ ?_;exact EU hr
  ·intro y uU
   rcases VA.mp uU with h|h
   ·exact hy y h
   ·rw[Um.mp h];exact⟨OY,OZ⟩
  ·rw[VI,ze];rfl
 ·rintro δ ⟨qs,ws,o',hq,hw,hp,hy,P',rfl⟩
  refine⟨trivial,?_⟩;subst hN;simp? only [];rw[hW] at hw P';refine⟨[o'],rfl,rfl,?_⟩;refine fin (1+mm) ws o' ⟨by omega,by omega,by omega,fun y uU=>?_,?_⟩ (by omega) (by omega) (P'.mono (by omega))
  ·have:=hp.ends (lP y) (VQ _ (Lm.mpr ⟨y,uU,rfl⟩))
   have h2:=hy y uU;simp only[lP] at this;omega
  ·exact(VZ.mp hp.jA).1
end LJ
namespace L2
open PySem PySem.Spec PyProof.Rows
variable[aH]
section
variable{X:Cx}{fa:WA}
end
end L2
namespace LJ
open PySem L2
variable[aH]
noncomputable def EX:D->Bool
 |.int _=>true
 |_=>false
noncomputable def uV:D->Int->Int->Bool
 |.int i,lo,hi=>decide (lo<=i)&&decide (i<=hi)
 |_,_,_=>false
noncomputable def sj:D->Int->Bool
 |.tup ds,n=>(ds.length:Int)==n
 |_,_=>false
theorem f6{K:RV->List OV->Prop}{d:D}{sl:List (Option DV)}(h:K (.p d) []):gD 0 K (.p d) ⟨sl,[]⟩:=⟨[],rfl,rfl,h⟩
def zj:GD:=fun ys az K=>∃d,ys=[.p d]/\az=[]/\K (.p (.bl (EX d))) []
def zk:WS:=(aC (mH (d1 (aa 0) (hX "int")) (yt (d1 (aa 0) (hX "bool")))))
theorem O0:Sem 1 0 zj zk:=by
 rintro ys az K'-⟨d,rfl,rfl,k⟩;unfold zk;simp? only [];cases d<;>simp only[fU,dh]<;>exact f6 k
def oK:GD:=fun ys az K=>∃d lo hi,ys=[.p d,.p (.int lo),.p (.int hi)]/\az=[]/\K (.p (.bl (uV d lo hi))) []
def zm:WS:=(aC (mH (aq 1 zj (aj (aa 0) af)) (yR (aa 1) (aa 0) (aa 2) (oI fun i j=>.bl (decide (i<=j))) (oI fun i j=>.bl (decide (i<=j))))))
theorem O1:Sem 3 0 oK zm:=by
 rintro ys az K'-⟨d,lo,hi,rfl,rfl,k⟩;unfold zm;simp? only [];refine⟨d,rfl,rfl,?_⟩;cases d<;>simp? only [EX,uV] at k ⊢ <;> first|exact f6 k|skip
 rename_i i
 by_cases c:lo<=i
 ·rw[Ln c] at k ⊢
  simp only[Bool.true_and] at k;exact f6 k
 ·rw[C7 c] at k ⊢
  simp only[q0b] at k;exact f6 k
def sk:GD:=fun ys az K=>∃d n,ys=[.p d,.p (.int n)]/\az=[]/\K (.p (.bl (sj d n))) []
def zo:WS:=(aC (mH (d1 (aa 0) (hX "tuple")) (d2 (dN (aj (aa 0) af) bz) (aa 1) oEq)))
theorem O3:Sem 2 0 sk zo:=by
 rintro ys az K'-⟨d,n,rfl,rfl,k⟩;unfold zo;simp? only [];cases d<;>simp? only [fU,dh,sj,aB] at k ⊢ <;> exact f6 k
end LJ
namespace L2
open PySem PySem.Spec PyProof.Rows
variable[aH]
def EY:List D->(D->Prop)->Prop:=fun ds K=>∃ps:List (Int×Int),ds=[.lst (ps.map fun p=>.tup [.int p.1,.int p.2])]/\ps.length<=30/\(∀p∈ps,0<=p.1/\p.1<p.2/\p.2<12)/\ps.Nodup/\K (.int ps.length)
section
variable{X:Cx}{fa:WA}
theorem O4{a:Expr}{p1 p2 q1 q2:Pos}(hc:X.calm=true)(hu:X.A.units+64<cLine)(lI:Gl X "len")(hl:X.mg "len" = none)(lJ:bootBuiltins "len" = some (.builtin "len"))(i9:Gl X "set")(hr:X.mg "set" = none)(i_:bootBuiltins "set" = some (.type "set"))(ha:JA X [a] (bH fa))
  (he:starEach [a] X.env=[(false,eval a X.env)]:=by rfl) (lK:starEach [.Call (.Name "set" p2) [a] [] q2] X.env=[(false,eval (.Call (.Name "set" p2) [a] [] q2) X.env)]:=by rfl):JE X (.Call (.Name "len" p1) [.Call (.Name "set" p2) [a] [] q2] [] q1) (tD (dN fa EY)) :=
 (pd (Mt) lI hl lJ (g8 (kG (Mr hc hu) i9 hr i_ ha (he:=he)) bx) (he:=lK)).weak fun σ H Q h0_=>el7 h0_ fun F ad δ K S q k =>⟨F,ad,δ,_,S,q,fun xs δ1 h1 vs F1 aK H1 E1 S1 V1=>by
  obtain⟨ds,⟨ps,rfl,gu,bd,jA,h2⟩,hU⟩:=n8 S1 V1 h1;obtain⟨v,rfl,a,vs,rfl,g1,g2⟩:=cA hU;obtain⟨as,rfl,hl,g⟩:=EL g2;refine⟨a,as,ps,rfl,a8.of g1,hl,fun i b k' e1 e2=>S1.sub _ _ (g i b k' e1 e2),bd,jA,gu,fun p hp=>⟨p,ps.length,rfl,bE,by omega,?_⟩⟩;have s1:aE H1 (upd H1 p (jL p ps.length)):=cz hp
  exact k _ _ h2 _ _ _ _ (E1.trans (Ext.al S1 s1)) (S1.al s1) rfl⟩
end
end L2
namespace LJ
open PySem L2
variable[aH]
theorem uW{i lo hi:Int}(h:lo<=i)(h':i<=hi):uV (.int i) lo hi=true:=by
 show(decide (lo<=i)&&decide (i<=hi))=true;rw[Ln h,Ln h'];rfl
def zr:GD:=fun ys az K=>∃m i j:Int,ys=[.p (.int m),.p (.int i),.p (.int j)]/\az=[]/\0<=i/\i<j/\j<m/\K (.p (.bl true)) []
def zt:WS:=(aC (mH (aq 3 oK (aj (aa 1) (aj (dC (.int 0)) (aj (d2 (aa 0) (dC (.int 1)) (oI fun i j=>.int (i-j))) af)))) (aq 3 oK (aj (aa 2) (aj (d2 (aa 1) (dC (.int 1)) cq) (aj (d2 (aa 0) (dC (.int 1)) (oI fun i j=>.int (i-j))) af))))))
theorem O5:Sem 3 0 zr zt:=by
 rintro ys az K'-⟨m,i,j,rfl,rfl,h1,h2,h3,k⟩;unfold zt;simp? only [];refine⟨.int i,0,m-1,rfl,rfl,?_⟩;rw[uW h1 (by omega)];simp? only [];refine⟨.int j,i+1,m-1,rfl,rfl,?_⟩;rw[uW (by omega) (by omega)];simp? only [];exact f6 k
structure EZ(m:Int)(y:Int×Int×Int):Prop where
 low:0<=y.1
 up:y.1<y.2.1
 most:y.2.1<m
 pr:0<=y.2.2/\y.2.2<=1000000000
def zv:GD:=fun ys az K=>∃m y,EZ m y/\ys=[.p (.int m),.p (a5 y)]/\az=[]/\K (.p (.bl true)) []
def zw:WS:=(ak (aR (dm (dT (aq 2 sk (aj (aa 1) (aj (dC (.int 3)) af))))) (aC (dC (.bl false))) bK) (aC (mH (aq 3 zr (aj (aa 0) (aj (d2 (aa 1) (dC (.int 0)) aG) (aj (d2 (aa 1) (dC (.int 1)) aG) af)))) (aq 3 oK (aj (d2 (aa 1) (dC (.int 2)) aG) (aj (dC (.int 0)) (aj (dC (.int 1000000000)) af)))))))
theorem O6:Sem 2 0 zv zw:=by
 rintro ys az K'-⟨m,y,W,rfl,rfl,k⟩;unfold zw;refine aJ fun N hN=>?_;simp? only [];refine⟨a5 y,3,rfl,rfl,?_⟩;rw[show sj (a5 y) 3=true from rfl];simp? only [];subst hN;simp? only [a5,cQ,cG,at2];refine⟨m,_,_,rfl,rfl,W.low,W.up,W.most,?_⟩;simp? only [];refine⟨_,0,1000000000,rfl,rfl,?_⟩;rw[uW W.pr.1 W.pr.2];simp? only [];exact f6 k
theorem ax.way{m:Int}{ws:List (Int×Int×Int)}(W:ax m ws){y:Int×Int×Int}(h:y∈ws):EZ m y :=
 let⟨a,b,c,d,e⟩:=W.ends y h
 ⟨a,by omega,by omega,d,e⟩
def zy:GD:=fun ys az K=>∃m ws,ax m ws/\ys=[.p (.int m),.p (.tup (ws.map a5))]/\az=[]/\K (.p (.bl true)) []
def zz:WS:=(ak (aR (mG (dm (dT (d1 (aa 1) (hX "tuple")))) (dT (d2 (dN (aj (aa 1) af) bz) (dC (.int 30)) (oI fun i j=>.bl (decide (j<i)))))) (aC (dC (.bl false))) bK) (ak (aR (dm (dT (dN (aj (bU (aZ (aa 1)) [none,some 0] (aV 0) bI (aq 2 zv (aj (aa 1) (aj (aa 0) af)))) af) jV))) (aC (dC (.bl false))) bK) (aC (d2 (dN (aj (bU (aZ (aa 1)) [none] (aV 0) bI (fZ (aa 0) fY (lH (dC (.int 2))))) af) EY) (dN (aj (aa 1) af) bz) oEq))))
theorem O7:Sem 2 0 zy zz:=by
 rintro ys az K'-⟨m,ws,W,rfl,rfl,k⟩;have jZ:=W.gu;have dj:=W.dj;unfold zz;refine aJ fun N hN=>?_;simp? only [fU,show dh "tuple" "tuple" = true from rfl];rw[Uo (by rw[C7 (by omega)];decide)];subst hN;refine aJ fun N hN=>?_;simp? only [];refine gF (fun _=>.bl true) (by rw[nU];omega) trivial ?_ ?_
 ·intro d hd acc L ha h
  obtain⟨y,hy,rfl⟩:=Lm.mp hd;simp? only [];refine⟨m,y,W.way hy,rfl,rfl,?_⟩;simp? only [];exact⟨ha,h⟩
 rw[show(ws.map a5).map (fun _=>D.bl true)=(ws.map fun _=>true).map D.bl by rw[VH,VH];rfl];simp? only [yS];rw[show(ws.map fun _=>true).all id=true from WL.mpr fun b hb=>by obtain⟨_,_,rfl⟩:=Lm.mp hb;rfl];simp? only [];subst hN;simp? only []
 refine gF (fun d=>match d with
  |.tup [a,b,_]=>.tup [a,b]
  |_=>.non) (by rw[nU];omega) trivial ?_ ?_
 ·intro d hd acc L ha h
  obtain⟨y,hy,rfl⟩:=Lm.mp hd;have ec:cutD [D.int y.1,D.int y.2.1,D.int y.2.2] none (some 2)=[D.int y.1,D.int y.2.1]:=by unfold cutD;rfl
  simp? only [a5,ec] at h ⊢;exact⟨ha,h⟩
 simp? only [];refine⟨ws.map lP,by rw[VH,VH];rfl,by rw[nU];exact jZ,fun p hp=>?_,W.unlike,?_⟩
 ·obtain⟨y,hy,rfl⟩:=Lm.mp hp
  have Y:=W.way hy;have:=Y.most;exact⟨Y.low,Y.up,by show y.2.1<12;omega⟩
 rw[nU];simp? only [aB];exact f6 k
def zA:GD:=fun ys az K=>∃m ws,ax m ws/\ys=[.p (aA m ws)]/\az=[]/\K (.p (.bl true)) []
def zB:WS:=(ak (aR (dm (dT (aq 2 sk (aj (aa 0) (aj (dC (.int 2)) af))))) (aC (dC (.bl false))) bK) (aC (mH (aq 3 oK (aj (d2 (aa 0) (dC (.int 0)) aG) (aj (dC (.int 1)) (aj (dC (.int 12)) af)))) (aq 2 zy (aj (d2 (aa 0) (dC (.int 0)) aG) (aj (d2 (aa 0) (dC (.int 1)) aG) af))))))
theorem O8:Sem 1 0 zA zB:=by
 rintro ys az K'-⟨m,ws,W,rfl,rfl,k⟩;unfold zB;refine aJ fun N hN=>?_;simp? only [];refine⟨aA m ws,2,rfl,rfl,?_⟩;rw[show sj (aA m ws) 2=true from rfl];simp? only [];subst hN;simp? only [aA,cQ,cG];refine⟨.int m,1,12,rfl,rfl,?_⟩;rw[uW W.m1 W.dj];simp? only [];refine⟨m,ws,W,rfl,rfl,?_⟩;simp? only [];exact f6 k
noncomputable def aN(ns:List Int):D:=.lst (ns.map D.int)
noncomputable def eS(fs:List Int)(i j:Nat):List Int:=fs.map fun x=>if x=max (fs.getD i 0) (fs.getD j 0) then min (fs.getD i 0) (fs.getD j 0) else x
theorem pW(fs:List Int)(i j:Nat):(eS fs i j).length=fs.length:=by unfold eS;rw[nU]
theorem iI{ns:List Int}{i:Nat}(h:i<ns.length):d8 (ns.map D.int) (i:Int)=some (.int (ns.getD i 0)):=by
 refine lb ?_;rw[Lq,nR h,C6,nR h];rfl
theorem bq{K:RV->List OV->Prop}{d:D}{sl:List (Option DV)}{mu:List (Option OV)}(h:K (.p d) []):gD 0 K (.p d) ⟨sl,mu⟩:=⟨[],rfl,rfl,h⟩
def so:GD:=fun ys az K=>∃(fs:List Int)(i j:Nat),ys=[.p (aN fs),.p (.int i),.p (.int j)]/\az=[]/\i<fs.length/\j<fs.length/\fs.length<=12/\K (.p (aN (eS fs i j))) []
def zC:WS:=(ak (ay 3 (dN (aj (d2 (aa 0) (aa 1) aG) (aj (d2 (aa 0) (aa 2) aG) af)) uJ)) (ak (ay 4 (dN (aj (d2 (aa 0) (aa 1) aG) (aj (d2 (aa 0) (aa 2) aG) af)) rV)) (aC (bU (aZ (aa 0)) [none,some 4,some 3] (aV 0) bI (rH (dT (d2 (aa 0) (aa 2) oEq)) (aa 1) (aa 0))))))
theorem O9:Sem 3 2 so zC:=by
 rintro ys az K'-⟨fs,i,j,rfl,rfl,hi,hj,EV,k⟩;have a1:=iI hi;have a2:=iI hj;unfold zC aN;refine aJ fun N hN=>?_;simp? only [a1,a2];subst hN;refine aJ fun N hN=>?_;simp? only [a1,a2];subst hN;simp? only []
 refine gF (fun d=>match d with
  |.int x=>.int (if x=max (fs.getD i 0) (fs.getD j 0) then min (fs.getD i 0) (fs.getD j 0) else x)
  |_=>.non) (by rw[nU];omega) trivial ?_ ?_
 ·intro d hd acc L ha h
  obtain⟨x,_,rfl⟩:=Lm.mp hd;simp? only [];cases q:aB (.int x) (.int (max (fs.getD i 0) (fs.getD j 0)))
  ·have:¬ x=max (fs.getD i 0) (fs.getD j 0):=fun z=>by rw[z,kL] at q;cases q
   simp only[this,Xp] at h;exact⟨ha,h⟩
  ·have:x=max (fs.getD i 0) (fs.getD j 0):=by simp only[aB] at q;exact W7 q
   simp only[this,XZ] at h;exact⟨ha,h⟩
 ·refine bq ?_
  have e:(fs.map D.int).map (fun d=>match d with
   |.int x=>D.int (if x=max (fs.getD i 0) (fs.getD j 0) then min (fs.getD i 0) (fs.getD j 0) else x)
   |_=>.non)=(eS fs i j).map D.int:=by
   unfold eS;rw[VH,VH];rfl
  rw[e];exact k
noncomputable def bA(ws:List (Int×Int×Int))(n:Int):Nat×Nat:=((ws.getD n.toNat (0,0,0)).1.toNat,(ws.getD n.toNat (0,0,0)).2.1.toNat)
noncomputable def eT(ws:List (Int×Int×Int))(fs:List Int)(ns:List Int):List Int:=ns.foldl (fun fs n=>eS fs (bA ws n).1 (bA ws n).2) fs
theorem uX(ws:List (Int×Int×Int)):∀(ns:List Int)(fs:List Int),(eT ws fs ns).length=fs.length
 |[],fs=>rfl
 |n::r,fs=>by
  show(eT ws (eS fs _ _) r).length=_;rw[uX ws r,pW]
noncomputable def d4(m:Int)(ws:List (Int×Int×Int))(ns:List Int):List Int:=eT ws (aI m.toNat) ns
def Nums(ws:List (Int×Int×Int))(ns:List Int):Prop:=∀n∈ns,0<=n/\n<(ws.length:Int)
theorem lQ{m:Int}{ws:List (Int×Int×Int)}(W:ax m ws){n:Int}(h0:0<=n)(h1:n<(ws.length:Int)):∃y,ws.getD n.toNat (0,0,0)=y/\y∈ws/\d8 (ws.map a5) n=some (a5 y)/\∃i j:Nat,y.1=i/\y.2.1=j/\i<m.toNat/\j<m.toNat/\i<j:=by
 obtain⟨k,rfl⟩:∃k:Nat,n=k:=⟨n.toNat,by omega⟩;have hk:k<ws.length:=by omega
 refine⟨ws[k],?_,Wu hk,lb ?_,?_⟩
 ·rw[Vx,C6,nR hk];rfl
 ·rw[Lq,nR hk];rfl
 ·obtain⟨a,b,c,_,_⟩:=W.ends _ (Wu hk)
  exact⟨ws[k].1.toNat,ws[k].2.1.toNat,by omega,by omega,by omega,by omega,by omega⟩
def oM:GD:=fun ys az K=>∃(m:Int)(ws:List (Int×Int×Int))(ns:List Int),ax m ws/\Nums ws ns/\((ys=[.p (aA m ws),.p (aN ns)]/\az=[]/\K (.p (aN (d4 m ws ns))) [])\/(ys=[.p (aA m ws),.o 0]/\az=[.lst (ns.map D.int)]/\K (.p (aN (d4 m ws ns))) [.lst (ns.map D.int)]))
def uY:WS:=(ak (ay 2 (uK (aj (d2 (aa 0) (dC (.int 0)) aG) af))) (ak (cI (aZ (aa 1)) (aV 3) (ak (ay 4 (d2 (d2 (aa 0) (dC (.int 1)) aG) (aa 3) aG)) (ay 2 (aq 3 so (aj (aa 2) (aj (d2 (aa 4) (dC (.int 0)) aG) (aj (d2 (aa 4) (dC (.int 1)) aG) af))))))) (aC (aa 2))))
theorem O_:Sem 2 3 oM uY:=by
 rintro ys az K'-⟨m,ws,ns,W,hn,h⟩;have m1:=W.m1;have dj:=W.dj;have il:(aI m.toNat).length=m.toNat:=by unfold aI;simp
 have core:∀(x:DV)(mu:List (Option OV))(bc:aD->Prop)(K:KS),(∀sl,bc ⟨sl,mu⟩)->(∀fs,fs=d4 m ws ns->K.nx ⟨[some (.p (aA m ws)),some x,some (.p (aN fs)),none,none],mu⟩)->(∀k,x=.o k->k<mu.length) →
   jw ⟨[some (.p (aA m ws)),some x,some (.p (aN (aI m.toNat))),none,none],mu⟩ bc (aV 3) (ak (ay 4 (d2 (d2 (aa 0) (dC (.int 1)) aG) (aa 3) aG)) (ay 2 (aq 3 so (aj (aa 2) (aj (d2 (aa 4) (dC (.int 0)) aG) (aj (d2 (aa 4) (dC (.int 1)) aG) af)))))) K (ns.map D.int) ⟨[some (.p (aA m ws)),some x,some (.p (aN (aI m.toNat))),none,none],mu⟩:=by
  intro x mu bc K hc hK hx;refine jx (fun i δ=>δ=⟨[some (.p (aA m ws)),some x,some (.p (aN (eT ws (aI m.toNat) (ns.take i)))),none,none],mu⟩) rfl ?_ ?_
  ·rintro j d δ L hj rfl hL
   rw[Lq] at hj;obtain⟨n,sq,rfl⟩:=Vz.mp hj;obtain⟨n0,n1⟩:=hn n (V0 sq);obtain⟨y,ey,hy,ea,i,k,e1,e2,h1,h2,_⟩:=lQ W n0 n1;refine⟨hc _,?_⟩;simp only[aV,V6,V7];refine aJ fun N hN=>?_;simp? only [cG,aA,ea];subst hN;simp? only [cQ,cG,a5];have hlen:(eT ws (aI m.toNat) (ns.take j)).length=m.toNat:=by rw[uX,il]
   refine⟨eT ws (aI m.toNat) (ns.take j),i,k,by rw[e1,e2],rfl,by omega,by omega,by omega,?_⟩
   have ej:eS (eT ws (aI m.toNat) (ns.take j)) i k=eT ws (aI m.toNat) (ns.take (j+1)):=by
    have:ns.take (j+1)=ns.take j++[n]:=by rw[XC,sq];rfl
    rw[this];unfold eT;rw[YD];show _=eS _ (bA ws n).1 (bA ws n).2
    have:bA ws n=(i,k):=by
     unfold bA;rw[ey,e1,e2,Vx,Vx]
    rw[this]
   rw[ej]
   have eq:(aD.trim ⟨[some (.p (aA m ws)),some x,some (.p (aN (aI m.toNat))),none,none],mu⟩ ⟨[some (.p (aA m ws)),some x,some (.p (aN (eT ws (aI m.toNat) (ns.take (j+1))))),some (.p (.int n)),some (.p (a5 y))],mu⟩)=⟨[some (.p (aA m ws)),some x,some (.p (aN (eT ws (aI m.toNat) (ns.take (j+1))))),none,none],mu⟩:=by
    unfold aD.trim;rw[Xx]
    cases x with
    |p d=>rfl
    |o q =>
     have:=hx q rfl;simp only[eO,rK,this,XZ]
   have:=hL _ rfl;rw[<-eq] at this;exact this
  ·rintro δ rfl
   rw[nU,WB (ua _)];exact⟨hc _,hK _ rfl⟩
 have rg:bp 0 m.toNat=(aI m.toNat).map D.int:=jW m.toNat;rcases h with⟨rfl,rfl,k⟩|⟨rfl,rfl,k⟩
 ·unfold uY
  refine aJ fun N hN=>?_;simp? only [cQ,aA];refine⟨⟨by omega,by omega⟩,?_⟩;subst hN;rw[rg];refine aJ fun N hN=>jX fun g' b' K2 hg hb' hK=>?_;simp? only [aN];subst hg hb' hK;refine core (.p (aN ns)) [] _ _ (fun _=>trivial) (fun fs e=>?_) (fun k z=>by cases z);subst e;show N _;subst hN;simp? only [];exact bq k
 ·unfold uY
  refine aJ fun N hN=>?_;simp? only [cQ,aA];refine⟨⟨by omega,by omega⟩,?_⟩;subst hN;rw[rg];refine aJ fun N hN=>jX fun g' b' K2 hg hb' hK=>?_;simp? only [];subst hg hb' hK;refine core (.o 0) [some (.lst (ns.map D.int))] _ _ (fun _=>rfl) (fun fs e=>?_) (fun k z=>by cases z;exact Nat.zero_lt_one);subst e;show N _;subst hN;simp? only [];exact⟨[.lst (ns.map D.int)],rfl,rfl,k⟩
theorem Pa(a b:Int):sortI [a,b]=[min a b,max a b]:=by
 refine(pP (as:=[min a b,max a b]) ?_ ?_).symm
 ·by_cases c:a<=b
  ·rw[ZY c,ZF c]
  ·rw[ZG (by omega),ZZ (by omega)]
   exact List.Perm.swap ..
 ·refine List.Pairwise.cons (fun x hx=>?_) (List.pairwise_singleton _ _)
  rw[Um.mp hx];omega
def uZ:GD:=oM
def u4:WS:=(ak (ay 2 (uK (aj (d2 (aa 0) (dC (.int 0)) aG) af))) (ak (cI (aZ (aa 1)) (aV 3) (ak (fh (dN (aj (bU (aZ (fZ (d2 (d2 (aa 0) (dC (.int 1)) aG) (aa 3) aG) fY (lH (dC (.int 2))))) [none,some 2] (aV 0) bI (d2 (aa 1) (aa 0) aG)) af) iH) (gC 2 (cP (aV 4) (cP (aV 5) gq)))) (ay 2 (bU (aZ (aa 2)) [none,some 4,some 5] (aV 0) bI (rH (dT (d2 (aa 0) (aa 2) oEq)) (aa 1) (aa 0)))))) (aC (aa 2))))
theorem Pb:Sem 2 4 uZ u4:=by
 rintro ys az K'-⟨m,ws,ns,W,hn,h⟩;have m1:=W.m1;have dj:=W.dj;have il:(aI m.toNat).length=m.toNat:=by unfold aI;simp
 have core:∀(x:DV)(mu:List (Option OV))(bc:aD->Prop)(K:KS),(∀sl,bc ⟨sl,mu⟩)->(∀fs,fs=d4 m ws ns->K.nx ⟨[some (.p (aA m ws)),some x,some (.p (aN fs)),none,none,none],mu⟩)->(∀k,x=.o k->k<mu.length) →
   jw ⟨[some (.p (aA m ws)),some x,some (.p (aN (aI m.toNat))),none,none,none],mu⟩ bc (aV 3) (ak (fh (dN (aj (bU (aZ (fZ (d2 (d2 (aa 0) (dC (.int 1)) aG) (aa 3) aG) fY (lH (dC (.int 2))))) [none,some 2] (aV 0) bI (d2 (aa 1) (aa 0) aG)) af) iH) (gC 2 (cP (aV 4) (cP (aV 5) gq)))) (ay 2 (bU (aZ (aa 2)) [none,some 4,some 5] (aV 0) bI (rH (dT (d2 (aa 0) (aa 2) oEq)) (aa 1) (aa 0))))) K (ns.map D.int) ⟨[some (.p (aA m ws)),some x,some (.p (aN (aI m.toNat))),none,none,none],mu⟩:=by
  intro x mu bc K hc hK hx;refine jx (fun i δ=>δ=⟨[some (.p (aA m ws)),some x,some (.p (aN (eT ws (aI m.toNat) (ns.take i)))),none,none,none],mu⟩) rfl ?_ ?_
  ·rintro j d δ L hj rfl hL
   rw[Lq] at hj;obtain⟨n,sq,rfl⟩:=Vz.mp hj;obtain⟨n0,n1⟩:=hn n (V0 sq);obtain⟨y,ey,hy,ea,i,k,e1,e2,h1,h2,_⟩:=lQ W n0 n1;refine⟨hc _,?_⟩;have hlen:(eT ws (aI m.toNat) (ns.take j)).length=m.toNat:=by rw[uX,il]
   have ej:eS (eT ws (aI m.toNat) (ns.take j)) i k=eT ws (aI m.toNat) (ns.take (j+1)):=by
    have:ns.take (j+1)=ns.take j++[n]:=by rw[XC,sq];rfl
    rw[this];unfold eT;rw[YD];show _=eS _ (bA ws n).1 (bA ws n).2
    have:bA ws n=(i,k):=by
     unfold bA;rw[ey,e1,e2,Vx,Vx]
    rw[this]
   generalize UJ:eT ws (aI m.toNat) (ns.take j)=fs at hlen ej;have a1:=iI (ns:=fs) (i:=i) (by omega);have a2:=iI (ns:=fs) (i:=k) (by omega);simp only[aV,V6,V7];refine aJ fun N hN=>?_;have ec:cutD [D.int y.1,D.int y.2.1,D.int y.2.2] none (some 2)=[D.int i,D.int k]:=by rw[<-e1,<-e2];rfl
   simp? only [cG,aA,ea,a5,ec]
   refine L2.gF (fun d=>match d with
    |.int z=>.int (fs.getD z.toNat 0)
    |_=>.non) (by show 2<=1000;decide) trivial ?_ ?_
   ·intro d hd acc L' ha h'
    simp only[Lp,V9,X7] at hd;rcases hd with rfl|rfl
    ·simp? only [aN,a1]
     simp only[Vx] at h';exact⟨ha,h'⟩
    ·simp? only [aN,a2]
     simp only[Vx] at h';exact⟨ha,h'⟩
   ·have es:intsOf [D.int (fs.getD i 0),D.int (fs.getD k 0)]=some [fs.getD i 0,fs.getD k 0]:=rfl
    simp? only [Vx,iH,es,Pa];subst hN;simp? only [aN]
    refine L2.gF (fun d=>match d with
     |.int x=>.int (if x=max (fs.getD i 0) (fs.getD k 0) then min (fs.getD i 0) (fs.getD k 0) else x)
     |_=>.non) (by rw[nU];omega) trivial ?_ ?_
    ·intro d hd acc L' ha h'
     obtain⟨z,_,rfl⟩:=Lm.mp hd;simp? only [];cases q:aB (.int z) (.int (max (fs.getD i 0) (fs.getD k 0)))
     ·have:¬ z=max (fs.getD i 0) (fs.getD k 0):=fun w=>by rw[w,kL] at q;cases q
      simp only[this,Xp] at h';exact⟨ha,h'⟩
     ·have:z=max (fs.getD i 0) (fs.getD k 0):=by simp only[aB] at q;exact W7 q
      simp only[this,XZ] at h';exact⟨ha,h'⟩
    ·have e:(fs.map D.int).map (fun d=>match d with
      |.int x=>D.int (if x=max (fs.getD i 0) (fs.getD k 0) then min (fs.getD i 0) (fs.getD k 0) else x)
      |_=>.non)=(eS fs i k).map D.int:=by
      unfold eS;rw[VH,VH];rfl
     rw[e,ej]
     have eq:(aD.trim ⟨[some (.p (aA m ws)),some x,some (.p (aN (aI m.toNat))),none,none,none],mu⟩ ⟨[some (.p (aA m ws)),some x,some (.p (aN (eT ws (aI m.toNat) (ns.take (j+1))))),some (.p (.int n)),some (.p (.int (min (fs.getD i 0) (fs.getD k 0)))),some (.p (.int (max (fs.getD i 0) (fs.getD k 0))))],mu⟩)=⟨[some (.p (aA m ws)),some x,some (.p (aN (eT ws (aI m.toNat) (ns.take (j+1))))),none,none,none],mu⟩:=by
      unfold aD.trim;rw[Xx]
      cases x with
      |p d=>rfl
      |o q =>
       have:=hx q rfl;simp only[eO,rK,this,XZ]
     have:=hL _ rfl;rw[<-eq] at this;exact this
  ·rintro δ rfl
   rw[nU,WB (ua _)];exact⟨hc _,hK _ rfl⟩
 have rg:bp 0 m.toNat=(aI m.toNat).map D.int:=jW m.toNat;rcases h with⟨rfl,rfl,k⟩|⟨rfl,rfl,k⟩
 ·unfold u4
  refine aJ fun N hN=>?_;simp? only [cQ,aA];refine⟨⟨by omega,by omega⟩,?_⟩;subst hN;rw[rg];refine aJ fun N hN=>jX fun g' b' K2 hg hb' hK=>?_;simp? only [aN];subst hg hb' hK;refine core (.p (aN ns)) [] _ _ (fun _=>trivial) (fun fs e=>?_) (fun k z=>by cases z);subst e;show N _;subst hN;simp? only [];exact bq k
 ·unfold u4
  refine aJ fun N hN=>?_;simp? only [cQ,aA];refine⟨⟨by omega,by omega⟩,?_⟩;subst hN;rw[rg];refine aJ fun N hN=>jX fun g' b' K2 hg hb' hK=>?_;simp? only [];subst hg hb' hK;refine core (.o 0) [some (.lst (ns.map D.int))] _ _ (fun _=>rfl) (fun fs e=>?_) (fun k z=>by cases z;exact Nat.zero_lt_one);subst e;show N _;subst hN;simp? only [];exact⟨[.lst (ns.map D.int)],rfl,rfl,k⟩
def u5:GD:=fun ys az K=>∃(m:Int)(ws:List (Int×Int×Int)),ax m ws/\ys=[.p (aA m ws)]/\az=[]/\K (.n ((aI ws.length).map D.int)) []
def zD:WS:=(aC (yZ (aj (dN (aj (d2 (aa 0) (dC (.int 1)) aG) af) bz) af)))
theorem Pc:Sem 1 0 u5 zD:=by
 rintro ys az K'-⟨m,ws,W,rfl,rfl,k⟩;have:=W.gu;unfold zD;simp? only [cG,aA];refine⟨⟨by omega,by omega⟩,[],rfl,rfl,.inl ?_⟩;rw[Vx,jW];exact k
noncomputable def pX(marks:List Int)(f:Int):List Int:=(aI marks.length).filter fun h=>decide (marks.getD h.toNat 0=f)
noncomputable def oN(marks:List Int):List (List Int):=(sortI (fu marks)).map (pX marks)
noncomputable def u6(ls:List (List Int)):D:=.lst (ls.map aN)
def zE:GD:=fun ys az K=>∃(m:Int)(ws:List (Int×Int×Int))(ns:List Int),ax m ws/\Nums ws ns/\((ys=[.p (aA m ws),.p (aN ns)]/\az=[]/\K (.p (u6 (oN (d4 m ws ns)))) [])\/(ys=[.p (aA m ws),.o 0]/\az=[.lst (ns.map D.int)]/\K (.p (u6 (oN (d4 m ws ns)))) [.lst (ns.map D.int)]))
def u7:WS:=(ak (ay 2 (aq 2 uZ (aj (aa 0) (aj (aa 1) af)))) (aC (bU (aZ (dN (aj (aa 2) af) pV)) [none,some 0,some 2] (aV 0) bI (bU (iE (aj (d2 (aa 1) (dC (.int 0)) aG) af)) [none,some 0,some 2] (aV 0) (dT (d2 (d2 (aa 2) (aa 0) aG) (aa 1) oEq)) (aa 0)))))
theorem E5{m:Int}{ws:List (Int×Int×Int)}{ns:List Int}:(d4 m ws ns).length=m.toNat:=by
 unfold d4;rw[uX];unfold aI;simp
theorem Pd:Sem 2 1 zE u7:=by
 rintro ys az K'-⟨m,ws,ns,W,hn,h⟩;have m1:=W.m1;have dj:=W.dj;have ml:=E5 (m:=m) (ws:=ws) (ns:=ns)
 have core:∀(x:DV)(mu:List (Option OV))(K:KS),K.rt (.p (u6 (oN (d4 m ws ns)))) ⟨[some (.p (aA m ws)),some x,some (.p (aN (d4 m ws ns)))],mu⟩ →
   (aC (bU (aZ (dN (aj (aa 2) af) pV)) [none,some 0,some 2] (aV 0) bI (bU (iE (aj (d2 (aa 1) (dC (.int 0)) aG) af)) [none,some 0,some 2] (aV 0) (dT (d2 (d2 (aa 2) (aa 0) aG) (aa 1) oEq)) (aa 0)))) K ⟨[some (.p (aA m ws)),some x,some (.p (aN (d4 m ws ns)))],mu⟩:=by
  intro x mu K k;generalize d4 m ws ns=marks at ml k;have ei:intsOf (marks.map D.int)=some marks:=oA marks;have ol:=y1 marks;simp only[aC,bU,aZ,dN,aj,af,aa,Yq,XQ,hJ,fW,pV,aN,ei,pJ,cF,VM,Xo,Option.join_some];refine⟨by omega,?_⟩
  refine L2.gF (fun d=>match d with
   |.int f=>aN (pX marks f)
   |_=>.non) (by rw[nU,kM];omega) trivial ?_ ?_
  ·intro d hd acc L ha h
   obtain⟨f,_,rfl⟩:=Lm.mp hd;simp? only [cQ,aA];refine⟨by omega,?_⟩
   refine L2.gU (fun d=>match d with
    |.int z=>decide (marks.getD z.toNat 0=f)
    |_=>false) id (by rw[hW];omega) trivial ?_ ?_
   ·intro d hd bG L' ha' h1 h2
    obtain⟨i,hi⟩:=Uq.mp hd;obtain⟨hi,rfl⟩:=iF hi;have e0:(0+(i:Int))=i:=by omega
    rw[e0] at h1 h2 ⊢;have ai:=iI (ns:=marks) (i:=i) (by omega);simp? only [ai];cases q:aB (.int (marks.getD i 0)) (.int f)
    ·refine h2 ?_
     show decide (marks.getD (i:Int).toNat 0=f)=false;rw[Vx];refine C7 fun z=>?_;rw[z,kL] at q;cases q
    ·refine⟨ha',h1 ?_⟩
     show decide (marks.getD (i:Int).toNat 0=f)=true;rw[Vx];simp only[aB] at q;exact Ln (W7 q)
   ·simp? only []
    refine⟨ha,?_⟩
    have e:((bp 0 m.toNat).filter fun d=>match d with
     |.int z=>decide (marks.getD z.toNat 0=f)
     |_=>false).map id=(pX marks f).map D.int:=by
     rw[WV,jW,Wl];unfold pX;rw[ml];rfl
    rw[e];exact h
  ·have e:((sortI (fu marks)).map D.int).map (fun d=>match d with
    |.int f=>aN (pX marks f)
    |_=>.non)=(oN marks).map aN:=by
    unfold oN;rw[VH,VH];rfl
   rw[e];exact k
 rcases h with⟨rfl,rfl,k⟩|⟨rfl,rfl,k⟩
 ·unfold u7
  refine aJ fun N hN=>?_;simp? only [];refine⟨m,ws,ns,W,hn,.inl ⟨rfl,rfl,?_⟩⟩;simp? only [];subst hN;exact core _ _ _ (bq k)
 ·unfold u7
  refine aJ fun N hN=>?_;simp? only [];refine⟨m,ws,ns,W,hn,.inr ⟨rfl,rfl,?_⟩⟩;simp? only [];subst hN;exact core _ _ _ ⟨[.lst (ns.map D.int)],rfl,rfl,k⟩
theorem Pe{n:Nat}{z:Int}(h:z∈aI n):0<=z/\z<(n:Int):=by
 unfold aI at h;obtain⟨i,hi,rfl⟩:=Lm.mp h;have:=VL.mp hi;simp;omega
theorem pY(n:Nat):(aI n).Nodup:=by
 unfold aI;refine Wm.mpr (YJ.imp fun{a b} ne e=>ne ?_);exact Int.ofNat.inj e
theorem pZ{H:Hp}{a:Addr}{o:HO}(h:H a=none):aE H (upd H a o):=fun b u e=>by rw[aU (cL e h)];exact e
structure u9(H:Hp)(p c:Addr)(at_ z:Int):Prop where
 lst:H p=some (.lst [.ref c,.int at_,.int z])
 cells:∃ns:List Int,H c=some (.lst (ns.map V.int))/\ns.length<=63
 pos:0<=at_
theorem u9.ne{H:Hp}{p c:Addr}{k z:Int}(P:u9 H p c k z):c≠p:=by
 obtain⟨ns,h,_⟩:=P.cells;intro e;subst e;rw[P.lst] at h;have h':=VY h;injection h' with pE
 cases ns with
 |nil=>cases pE
 |cons n r=>injection pE with h1 _;cases h1
theorem Pf{ns:List Int}{k:Int}(h0:0<=k)(h1:k<(ns.length:Int)):∃n,d8 (ns.map V.int) k=some (.int n):=by
 obtain⟨i,rfl⟩:∃i:Nat,k=i:=⟨k.toNat,by omega⟩;have hi:i<ns.length:=by omega
 refine⟨ns[i],lb ?_⟩;rw[Lq,nR hi];rfl
def E6(K:PySem.W.Frag):Sp:=fun vs H Q _=>∃(a:Addr)(ns:List Int),vs=[.ref a]/\a8 K H a (ns.map V.int)/\ns.length<=63/\∀(p c:Addr)(H':Hp),aE H H'->H p=none->u9 H' p c 0 0->Q (.ref p) H'
def u_(K:PySem.W.Frag):Sp:=fun vs H Q _=>∃(a:Addr)(ns:List Int),vs=[.ref a]/\a8 K H a (ns.map V.int)/\ns.length<=63/\aH.ok H/\∀H',Q (.bl true) H'
theorem zF(ns:List Int)(lo hi:Option Int):cD (ns.map V.int) lo hi=((ns.drop (HT.a0 ns.length 0 lo)).take (HT.a0 ns.length ns.length hi-HT.a0 ns.length 0 lo)).map V.int:=by
 unfold cD;rw[nU,List.map_take,List.map_drop]
theorem Pg{H:Hp}{p c a:Addr}{n:Nat}(hT:aH.ok H)(N:u9 H p c 0 0):∃(F:Hp)(ns:List Int),ns.length<=63/\SR F [p] ⟨none::some (.o 0)::List.replicate n none,[some (.lst [.lst (ns.map D.int),.int 0,.int 0])]⟩ (some (.ref a)::some (.ref p)::List.replicate n none) H:=by
 obtain⟨ns,hc,hn⟩:=N.cells;have ne:=N.ne
 refine⟨upd (fun _=>none) c (.lst (ns.map V.int)),ns,hn,⟨fun b o e=>?_,fun b ⟨k,ov,e1,e2⟩=>?_,rfl,fun k l a ov ow e1 e2 _ _=>?_,fun k ov e=>?_,fun i x e=>?_,by simp,hT,fun b hb=>by
  obtain⟨ps,q⟩:=aH.tb hT hb
  rw[aU fun z=>by subst z;rw[hc] at q;cases q]⟩⟩
 ·by_cases z:b=c
  ·subst z;rw[bE] at e;cases e;exact hc
  ·rw[aU z] at e;cases e
 ·cases k with
  |zero=>cases(show some p=some b by simpa using e1);rw[aU (Xv ne)]
  |succ k=>simp at e1
 ·cases k with
  |zero =>
   cases l with
   |zero=>rfl
   |succ l=>simp at e2
  |succ k=>simp at e1
 ·cases k with
  |zero =>
   cases(show OV.lst [.lst (ns.map D.int),.int 0,.int 0]=ov by simpa using e)
   refine⟨p,_,rfl,N.lst,_,rfl,?_⟩;refine .cons ?_ (.cons rfl (.cons rfl .nil));simp only[Is];exact⟨c,_,rfl,bE,mJ⟩
  |succ k=>simp at e
 ·cases i with
  |zero=>simp at e
  |succ i =>
   cases i with
   |zero =>
    cases(show DV.o 0=x by simpa using e)
    exact⟨_,rfl,p,rfl,rfl⟩
   |succ i =>
    exfalso;have e:(List.replicate n (none:Option DV))[i]?=some (some x):=by simpa using e
    rw[Yn] at e;split at e<;>cases e
theorem Ph{B:WS}{F:Hp}{ad:List Addr}{δ:aD}{σ:St}{H:Hp}{Q:VK}(S:SR F ad δ σ H)(h:B ⟨fun _=>False,fun x _=>x=.p (.bl true),fun _=>False,fun _=>False⟩ δ)(q:∀H',Q (.bl true) H'):cY B {nx:=fun _ H'=>Q .non H',rt:=Q} σ H :=
 ⟨F,ad,δ,_,S,h,⟨fun δ' h=>h.elim,fun δ' h=>h.elim,fun δ' h=>h.elim,fun x δ' h v F' aF σ' H' E' S' V=>by
  have h:x=.p (.bl true):=h;subst h;have V:v=.bl true:=V;subst V
  exact q H',trivial⟩⟩
end LJ
namespace L2
open PySem PySem.Spec PyProof.Rows
def zG(Ts:List (Addr×Array Value))(H:Hp):Prop:=∀b,(∃ps,Ts.lookup b=some ps/\H b=some (.tbl ps))\/(Ts.lookup b=none/\(H b=none\/∃o xs,H b=some (.frz o (.lst xs))))
theorem Pj{P:Program}{w:World}{K:PySem.W.Frag}{mg mb:Str->Option Value}{CX:jn}{k:Nat}{fa a:Addr}{fd:FuncData}{x:Str}{sp:Sp}{s₁:Shared}{vs:List Value}{ns:List Int}(Ts:List (Addr×Array Value))
  (hT:∀b ps,Ts.lookup b=some ps->s₁.heap.get? b=some {cls:=.none,data:=.fields ps}/\isCodeTable s₁.heap b/\K.lookup b=none)
  (KX:K.In s₁.heap) (sv:s₁.heap.Ns mainGlobals mg) (hb:s₁.heap.Ns builtinsNs mb) (Pk:∀x:Str,x≠"__name__" -> mb x=bootBuiltins x) (zH:s₁.heap.NoLimit) (hg:s₁.gens = #[])
  (ha:s₁.heap.get? a=some {cls:=.type "list",data:=.seq vs.toArray}) (hi:IntsAre vs ns) (hl:ns.length<=sizeLine) (hr:a7 k callerA)
  (hB:∃bm ob,mg "__builtins__" = some (.ref bm)/\bm≠builtinsNs/\s₁.heap.get? bm=some ob/\ob.cls=.type "module" /\ ob.dict=some builtinsNs/\ob.data=.plain)
  (F:∀base:Heap,K.In base->base.Ns mainGlobals mg->(∀b ps,Ts.lookup b=some ps->base.BuiltinsAt mg b)->cV P w K mg base CX k fa fd [x] sp) (sx:∀(s:Shared)(u:Value),BindsTo s fd ⟨[u],[]⟩ [(x,u)])
  (mz:∀H:Hp,zG Ts H->a8 K H a (ns.map V.int)->sp [.ref a] H (fun v _=>v=.bl true) fun _ _ _=>False)
  (zI:∀H e s',CX [] H s₁ (fun _ _ _=>False) e s'->False) :
  codeAny (model P w) callerA (.call (.ref fa) ⟨[.ref a],[]⟩) (fun r s'=>r=.ok (.ret (.bool true))/\OldK s₁.heap s'.heap/\s'.os=s₁.os/\AllBare s'.gens) s₁:=by
 have rv:=C3 hi;have zJ:=hi.length
 have aT:Ts.lookup a=none:=by
  cases q:Ts.lookup a with
  |none=>rfl
  |some ps =>
   have:=(hT a ps q).1;rw[ha] at this;have z:=congrArg Obj.cls (VY this);cases(show Value.type "list" = Value.none from z)
 have core:∀H:Hp,zG Ts H->a8 K H a (ns.map V.int)->c8 P w H s₁.heap->(∀b,Ts.lookup b=none->H b≠none->b=a)->(H a≠none->K.lookup a=none) →
   codeAny (model P w) callerA (.call (.ref fa) ⟨[.ref a],[]⟩) (fun r s'=>r=.ok (.ret (.bool true))/\OldK s₁.heap s'.heap/\s'.os=s₁.os/\AllBare s'.gens) s₁:=by
  intro H hO hS aM hA hK;have f7:∀{b:Addr}{o:Obj},s₁.heap.get? b=some o->H b=none->(e8 s₁.heap H).get? b=some o:=fun e n=>Jp e n
  have k9:∀{b:Addr}{o:Obj}{es:Array DictEntry}{ep:Nat},s₁.heap.get? b=some o->o.data=.dict es ep->H b=none:=fun{b o es ep} e d=>by
   cases q:H b with
   |none=>rfl
   |some u =>
    cases t:Ts.lookup b with
    |some ps =>
     have:=(hT b ps t).1;rw[e] at this;cases this;cases d
    |none =>
     have e':b=a:=hA b t (by rw[q];simp);subst e';rw[ha] at e;cases e;have d':Data.seq vs.toArray _=Data.dict es ep:=d;cases d'
  have va:∀{b:Addr}{m:Str->Option Value},s₁.heap.Ns b m->(e8 s₁.heap H).Ns b m:=fun{b m} ⟨o,es,ep,e,d,r⟩=>⟨o,es,ep,f7 e (k9 e d),d,r⟩
  have E7:K.In (e8 s₁.heap H):=fun b o e=>f7 (KX b o e) (by
   cases q:H b with
   |none=>rfl
   |some u =>
    cases t:Ts.lookup b with
    |some ps=>rw[(hT b ps t).2.2] at e;cases e
    |none =>
     have e':b=a:=hA b t (by rw[q];simp);subst e'
     rw[hK (by rw[q];simp)] at e;cases e)
  have Pl:∀b ps,Ts.lookup b=some ps->(e8 s₁.heap H).BuiltinsAt mg b:=fun b ps t=>by
   obtain⟨bm,ob,b1,b2,b3,b4,b5,b6⟩:=hB;refine⟨bm,ob,b1,b2,fun z=>?_,fun z=>?_,f7 b3 ?_,b4,b5,b6⟩
   ·obtain⟨o,es,ep,e1,e2,_⟩:=sv
    rw[z,e1] at b3;cases b3;rw[e2] at b6;cases b6
   ·have:=(hT b ps t).1
    rw[z,this] at b3;cases b3;cases b6
   ·cases q:H bm with
    |none=>rfl
    |some u =>
     cases t':Ts.lookup bm with
     |some d_ =>
      have:=(hT bm d_ t').1;rw[b3] at this;cases this;cases b6
     |none =>
      have e':bm=a:=hA bm t' (by rw[q];simp);rw[e',ha] at b3;cases b3;cases b6
  have hM:Mod K mg (e8 s₁.heap H):=⟨E7,va sv,⟨mb,va hb,Pk⟩,let⟨mc,h1,h2⟩:=zH;⟨mc,va h1,h2⟩⟩;have e0:k8 P w K mg (e8 s₁.heap H) callerA [] s₁ H:=⟨rfl,hM,fun b o e=>Jq e,Nat.le_of_eq (Jo _ _),trivial,fun b hb=>absurd (show b∈([]:List Addr) from hb) (by simp),aM,.of_eq hg⟩;refine X9 ((F _ E7 (va sv) Pl).run callerA [] s₁ H ⟨[.ref a],[]⟩ [.ref a] [.ref a] _ _ hr e0 (sx s₁ (.ref a)) (.cons rfl .nil) (mz H hO hS)) fun r s' h=>?_
  cases r with
  |error e=>exact(zI H e s' h).elim
  |ok fl =>
   cases fl with
   |next=>exact False.elim h
   |brk=>exact False.elim h
   |cont=>exact False.elim h
   |ret u =>
    obtain⟨v,H',os,bare,un,sy,r',q⟩:=h;have q':v=.bl true:=q;subst q';obtain rfl:u=Value.bool true:=r'
    have all:∀b o,s₁.heap.get? b=some o->asItWas s₁.heap s'.heap b o/\∃o',s'.heap.get? b=some o':=fun b o e=>by
     rcases hO b with⟨ps,t,z⟩|⟨t,z|⟨ob,xs,z⟩⟩
     ·obtain⟨more,z2⟩:=un.e7 b ps z
      have e2:s'.heap.get? b=some {cls:=.none,data:=.fields (ps++more)}:=sy b _ z2;have e1:=(hT b ps t).1;rw[e] at e1;cases e1;exact⟨.inr (.inl ⟨(hT b ps t).2.1,rfl,ps,more,rfl,e2⟩),_,e2⟩
     ·have e2:=un.keep b o e z (by intro z;exact absurd (show b∈([]:List Addr) from z) (by simp)) (by simp)
      exact⟨.inl e2,_,e2⟩
     ·have z2:=un.eZ b ob _ z
      obtain⟨e1,_⟩:=aM b _ z;obtain⟨e2,_⟩:=sy b _ z2;rw[e] at e1;cases e1;exact⟨.inl e2,_,e2⟩
    exact⟨rfl,⟨fun b o e=>(all b o e).1,fun b o e=>(all b o e).2⟩,os,bare⟩
 have mN:∀(H:Hp) b ps,Ts.lookup b=some ps->aL P w H s₁.heap b (.tbl ps):=fun H b ps t=>(hT b ps t).1
 cases hk:K.lookup a with
 |some o =>
  have e:=KX a o hk;rw[ha] at e;cases e
  have hv:∀b,(fun b=>(Ts.lookup b).map HO.tbl:Hp) b=(Ts.lookup b).map HO.tbl:=fun _=>rfl;refine core (fun b=>(Ts.lookup b).map HO.tbl) (fun b=>?_) (.inr ⟨_,vs.toArray,_,hk,rfl,rfl,rfl,by rw[xM,zJ];exact hl,by simpa using rv⟩) (fun b u z=>?_) (fun b t z=>?_) fun z=>?_
  ·cases t:Ts.lookup b with
   |some ps=>exact .inl ⟨ps,rfl,by show(Ts.lookup b).map HO.tbl=_;rw[t];rfl⟩
   |none=>exact .inr ⟨rfl,.inl (by show(Ts.lookup b).map HO.tbl=_;rw[t];rfl)⟩
  ·obtain⟨ps,t,rfl⟩:=Vz.mp (show(Ts.lookup b).map HO.tbl=some u from z)
   exact mN _ b ps t
  ·exact absurd (show(Ts.lookup b).map HO.tbl=none by rw[t];rfl) z
  ·exact absurd (show(Ts.lookup a).map HO.tbl=none by rw[aT];rfl) z
 |none =>
  refine core (fun b=>if b=a then some (.frz {cls:=.type "list",data:=.seq vs.toArray} (.lst (ns.map V.int))) else(Ts.lookup b).map HO.tbl) (fun b=>?_) (.inl (.inr ⟨{cls:=.type "list",data:=.seq vs.toArray},VB rfl⟩)) (fun b u z=>?_) (fun b t z=>?_) fun _=>hk
  ·by_cases hb:b=a
   ·subst hb
    exact .inr ⟨aT,.inr ⟨_,_,VB rfl⟩⟩
   ·cases t:Ts.lookup b with
    |some ps=>exact .inl ⟨ps,rfl,(Uo hb).trans (by rw[t];rfl)⟩
    |none=>exact .inr ⟨rfl,.inl ((Uo hb).trans (by rw[t];rfl))⟩
  ·by_cases hb:b=a
   ·have z':=(VB hb).symm.trans z
    cases z'
    subst hb;exact⟨ha,by rw[nU];exact hl,vs,_,rv,ha⟩
   ·have z':=(Uo hb).symm.trans z
    obtain⟨ps,t,rfl⟩:=Vz.mp z';exact mN _ b ps t
  ·by_cases hb:b=a
   ·exact hb
   ·exact absurd ((Uo hb).trans (by rw[t];rfl)) z
theorem Pn{l:PySem.W.OpenLaw}{n k:Nat}{q:Program}{loose:List Str}{XP:(Str->Option Value)->Heap->Prop}{YP:World->Heap->Prop}{d:DefRec}{K:World->PySem.W.Frag}{CX:World->jn}{sp:World->Sp}{x:Str}{Ts:World->List (Addr×Array Value)}
  (hn:l.most=some n) (Po:n<=sizeLine) (qX:d.params.defaults=[]) (hr:a7 k callerA)
  (hY:∀(w:World)(h:Heap),YP w h->(K w).In h)
  (hT:∀(w:World)(h:Heap),YP w h->∀b ps,(Ts w).lookup b=some ps->h.get? b=some {cls:=.none,data:=.fields ps}/\isCodeTable h b/\(K w).lookup b=none)
  (F:∀(w:World)(mg:Str->Option Value)(fa:Addr)(h:Heap),(K w).In h->h.Ns mainGlobals mg->mg d.name=some (.ref fa) →
   ∃fd:FuncData,(∀(s:Shared)(u:Value),BindsTo s fd ⟨[u],[]⟩ [(x,u)]) ∧
    ∀base:Heap,(K w).In base->base.Ns mainGlobals mg->(∀b ps,(Ts w).lookup b=some ps->base.BuiltinsAt mg b)->cV l.prog w (K w) mg base (CX w) k fa fd [x] (sp w))
  (mz:∀(w:World)(H:Hp)(a:Addr)(ns:List Int),ns.length<=n->zG (Ts w) H->a8 (K w) H a (ns.map V.int)->sp w [.ref a] H (fun v _=>v=.bl true) fun _ _ _=>False)
  (zI:∀(w:World)(H:Hp)(s:Shared)(e:Value)(s':Shared),CX w [] H s (fun _ _ _=>False) e s'->False) :
  PySem.W.WalkO q loose XP YP l.row.toRowW d [] (fun f vs=>PySem.call f vs):=by
 refine Att.gA hn qX fun w s₀ s₁ mg mb fa o pm cd doc a vs ns G Y ho hd fN lh nQ hints hlen hg=>?_;have KX:=hY w _ Y;obtain⟨fd,hb,hF⟩:=F w mg fa _ KX G.T.g lh;exact Pj (Ts w) (hT w _ Y) KX G.T.g G.T.b G.T.builtins G.T.nolimit hg nQ hints (V_ hlen Po) hr G.T.bmain hF hb (fun H hO hS=>mz w H a ns hlen hO hS) fun H e s'=>zI w H s₁ e s'
section
variable{X:Cx}{pins:av}{σ:St}{H:Hp}{s:Shared}{h':Heap}
theorem Inv.grow{T c f:Addr}{ps more:Array Value}{oc of:HO}{t':Nat}(I:Inv X pins σ H s)(hT:H T=some (.tbl ps))(k:∀b u,b≠T->s.heap.get? b=some u->h'.get? b=some u)(E8:h'.get? T=some {cls:=.none,data:=.fields (ps++more)})
  (hc:s.heap.objs.size<=c) (hf:s.heap.objs.size<=f) (zK:c≠f) (Pp:∀H2,aL X.prog X.w H2 h' c oc) (Pq:∀H2,aL X.prog X.w H2 h' f of) :
  Inv X pins σ (upd (upd (upd H T (.tbl (ps++more))) c oc) f of) {s with heap:=h',toks:=t'}:=by
 have tl:T<s.heap.objs.size:=(I.aM T _ hT).lt;have cT:c≠T:=Xn (VG tl hc);have fT:f≠T:=Xn (VG tl hf);have UK:H c=none:=I.aM.fresh hc;have E9:H f=none:=I.aM.fresh hf
 have old:∀b,b<s.heap.objs.size->b≠T->upd (upd (upd H T (.tbl (ps++more))) c oc) f of b=H b:=fun b hb nT=>by
  rw[aU (VD (VG hb hf)),aU (VD (VG hb hc)),aU nT]
 have atT:upd (upd (upd H T (.tbl (ps++more))) c oc) f of T=some (.tbl (ps++more)):=by
  rw[aU (Xv fT),aU (Xv cT),bE]
 have lt:∀b u,H b=some u->b<s.heap.objs.size:=fun b u e=>(I.aM b u e).lt
 have dr:∀b u,H b=some u->(∀qs,u≠.tbl qs)->upd (upd (upd H T (.tbl (ps++more))) c oc) f of b=some u:=fun b u e n=>by
  rw[old b (lt b u e) (fun z=>by subst z;rw[hT] at e;cases e;exact n _ rfl)];exact e
 refine I.un (t':=t') ⟨fun b o e n _ _=>k b o (fun z=>by subst z;rw[hT] at n;cases n) e,fun b o e n _ _=>⟨o.slots,k b o (fun z=>by subst z;rw[hT] at n;cases n) e⟩,fun b o e n _=>?_,fun b o e _=>?_,fun b xs e=>dr b _ e (fun _ z=>by cases z),fun b o u e=>dr b _ e (fun _ z=>by cases z),fun b qs e=>?_⟩ fun b u e=>?_
 ·rw[old b (Ul e) (fun z=>by subst z;rw[hT] at n;cases n)];exact n
 ·by_cases z:b=T
  ·subst z;exact⟨_,E8⟩
  ·exact⟨o,k b o z e⟩
 ·by_cases z:b=T
  ·subst z;rw[hT] at e;cases e;exact⟨more,atT⟩
  ·exact⟨#[],by rw[old b (lt b _ e) z,e];simp⟩
 ·by_cases z1:b=f
  ·subst z1;rw[bE] at e;cases e;exact Pq _
  ·rw[aU z1] at e
   by_cases z2:b=c
   ·subst z2;rw[bE] at e;cases e;exact Pp _
   ·rw[aU z2] at e
    by_cases z3:b=T
    ·subst z3;rw[bE] at e;cases e;exact E8
    ·rw[aU z3] at e
     refine aL.eY (I.aM b u e) (fun d v hd q=>?_) (fun d q=>dr d _ q (fun _ z=>by cases z)) (fun d xs q=>dr d _ q (fun _ z=>by cases z))
     ·refine k d v (fun y=>?_) q
      subst y;rcases hd with y|y
      ·exact z3 y.symm
      ·rw[hT] at y;cases y
noncomputable def j3(c:Addr)(q:Str):HO:=.ext fun h=>∃o vs tq,h.get? c=some o/\o.data=.fields vs/\vs[1]?=some (.str q tq)
theorem Pr{P:Program}{w:World}{H:Hp}{h:Heap}{c:Addr}{q:Str}(e:h.CodeRec (.ref c) q):aL P w H h c (j3 c q):=by
 obtain⟨c',o,vs,tq,z,ho,hd,hq⟩:=e;cases z
 exact⟨⟨o,vs,tq,ho,hd,hq⟩,⟨o,ho⟩,fun h1 h2 ⟨o,vs,tq,e1,e2,e3⟩ k=>⟨o,vs,tq,k o e1,e2,e3⟩⟩
theorem Pt{P:Program}{w:World}{H:Hp}{h:Heap}{c:Addr}{q:Str}(x:aL P w H h c (j3 c q)):h.CodeRec (.ref c) q:=by
 obtain⟨⟨o,vs,tq,ho,hd,hq⟩,_⟩:=x;exact⟨c,o,vs,tq,rfl,ho,hd,hq⟩
end
end L2
namespace L2
open PySem PySem.Spec PyProof.Rows PySem.W
section
variable{X:Cx}{pins:av}{σ:St}{H:Hp}{s:Shared}{params:Arguments}{body:Expr}{scope:Scope}{pos:Pos}{gH:List (Str×Addr)}{cc T:Addr}{ps:Array Value}{E:aP}{Q:aP}
noncomputable def gJ(f:Addr)(name qual:Str)(params:Arguments)(body:Expr)(scope:Scope)(gH:List (Str×Addr))(pm cd:Value):HO:=.ext fun h=>∃sA,h.get? f=some {cls:=.type "function",data:=.func (kla_fn name qual params body scope gH pm cd sA)}
def du(H:Hp)(T:Addr)(pos:Pos)(qual:Str):Prop:=∃ps,H T=some (.tbl ps)/\TriplesOk ps.toList/\(codeAmong pos ps.toList=none\/∃c,codeAmong pos ps.toList=some (.ref c)/\H c=some (j3 c qual))
theorem E_(I:Inv X pins σ H s)(hT:du H T pos (X.env.qual++"<lambda>"))(zL:defaultsOf params X.env=([],[]))(kI:closureFor scope X.env=pure gH)(fH:X.env.code=.ref cc)(C:CodeHd s.heap cc T)(Pu:mainGlobals≠T)(hg:s.heap.Ns mainGlobals X.mg)(hb:s.heap.BuiltinsAt X.mg T)
  (h:∀f H' s' c,Inv X pins σ H' s'->du H' T pos (X.env.qual++"<lambda>")->(∀b o,H b=some o->b≠T->H' b=some o)->H f=none->H' f=some (gJ f "<lambda>" (X.env.qual++"<lambda>") params body scope gH ((X.mg "__name__").getD .none) (.ref c))->H' c=some (j3 c (X.env.qual++"<lambda>"))->Q (.ref f) s') :
  wpAny (model X.prog X.w) X.A (eval (.Lambda params body scope pos) X.env) Q E s:=by
 obtain⟨ps,hP,ht,hf⟩:=hT;have zM:s.heap.get? T=some {cls:=.none,data:=.fields ps}:=I.aM T _ hP;refine kla_eval zL ?_;rcases hf with Fb|⟨c,hf,vc⟩
 ·refine kla_makeFunction kI I.ok.glob hg fH C zM ht Fb Pu hb fun c' sA h' tk hx vd cB zN Pw=>?_
  have hsz:s.heap.objs.size<=h'.objs.size:=WZ (Yk vd cB);have tl:T<s.heap.objs.size:=Ul zM;have Px:T≠h'.objs.size:=VD (VG tl hsz);have Py:T≠c':=VD (VG tl vd);have zK:c'≠h'.objs.size:=VD cB;have Fc:(ps ++ #[rawInt pos.line,rawInt pos.col,Value.ref c']).toList=ps.toList++[rawInt pos.line,rawInt pos.col,Value.ref c']:=by simp
  have atT:upd (upd (upd H T (.tbl (ps ++ #[rawInt pos.line,rawInt pos.col,.ref c']))) c' (j3 c' (X.env.qual++"<lambda>"))) h'.objs.size (gJ h'.objs.size "<lambda>" (X.env.qual++"<lambda>") params body scope gH ((X.mg "__name__").getD .none) (.ref c')) T=some (.tbl (ps ++ #[rawInt pos.line,rawInt pos.col,.ref c'])):=by
   rw[aU Px,aU Py,bE]
  have atC:upd (upd (upd H T (.tbl (ps ++ #[rawInt pos.line,rawInt pos.col,.ref c']))) c' (j3 c' (X.env.qual++"<lambda>"))) h'.objs.size (gJ h'.objs.size "<lambda>" (X.env.qual++"<lambda>") params body scope gH ((X.mg "__name__").getD .none) (.ref c')) c'=some (j3 c' (X.env.qual++"<lambda>")):=by
   rw[aU zK,bE]
  refine h h'.objs.size _ _ c' (I.grow (t':=tk) (oc:=j3 c' (X.env.qual++"<lambda>")) (of:=gJ h'.objs.size "<lambda>" (X.env.qual++"<lambda>") params body scope gH ((X.mg "__name__").getD .none) (.ref c')) hP (fun b u nb e=>ph _ (hx b u nb e)) (ph _ Pw) vd hsz zK (fun _=>Pr (zN.push _)) fun _=>?_) ⟨_,atT,?_,.inr ⟨c',?_,atC⟩⟩ (fun b o e nb=>?_) (I.aM.fresh hsz) bE atC
  ·exact⟨⟨sA,Vy _ rfl⟩,⟨_,Vy _ rfl⟩,fun h1 h2 ⟨v,e⟩ k=>⟨v,k _ e⟩⟩
  ·rw[Fc];exact TriplesOk_snoc _ _ _ _ ht
  ·rw[Fc];exact codeAmong_snoc _ ht Fb
  ·have bl:b<s.heap.objs.size:=(I.aM b o e).lt
   rw[aU (VD (VG bl hsz)),aU (VD (VG bl vd)),aU nb];exact e
 ·refine kla_makeFunctionHit kI I.ok.glob hg fH C zM ht hf hb fun sA h' tk hk hsz=>?_
  have hn:H h'.objs.size=none:=I.aM.fresh hsz;refine h h'.objs.size _ _ c (I.laid (a:=h'.objs.size) (o:=gJ h'.objs.size "<lambda>" (X.env.qual++"<lambda>") params body scope gH ((X.mg "__name__").getD .none) (.ref c)) (t':=tk) (fun b u e=>ph _ (hk b u e)) hsz ?_) ⟨ps,?_,ht,.inr ⟨c,hf,?_⟩⟩ (fun b o e _=>?_) hn bE ?_
  ·exact⟨⟨sA,Vy _ rfl⟩,⟨_,Vy _ rfl⟩,fun h1 h2 ⟨v,e⟩ k=>⟨v,k _ e⟩⟩
  ·rw[aU (cL hP hn)];exact hP
  ·rw[aU (cL vc hn)];exact vc
  ·rw[aU (cL e hn)];exact e
  ·rw[aU (cL vc hn)];exact vc
end
structure LD where
 A:Around
 cl:List (Str×Addr)
 f:Addr
 cd:Value
 s:Shared
 H:Hp
@[reducible] noncomputable def lR (X:Cx) (qual:Str) (scope:Scope) (Nb:List Str) (d:LD):Cx where
 prog:=X.prog
 w:=X.w
 K:=X.K
 mg:=X.mg
 base:=X.base
 A:=d.A.deeper (envX qual scope d.s.heap.objs.size d.f d.cd d.cl)
 N:=Nb
 s₀:=d.s
 H₀:=d.H
 env:=envX qual scope d.s.heap.objs.size d.f d.cd d.cl
 outer:=X.stack
 stack:=envX qual scope d.s.heap.objs.size d.f d.cd d.cl::X.stack
 ex:=[]
 fn:=fun _=>false
 calm:=true
 pn:=[]
 xe:=fun _ _=>False
noncomputable def sC(N:List Str)(ub scope:Scope)(x:Str)(Nb:List Str)(cp:List (Option Nat)):Bool :=
 iY N ub scope (x::Nb) (none::cp)&&(scope.names.all fun y=>decide (y.2≠.cell))&&decide (scope.names.lookup x=some .local)&&cp.all (·.isSome)
section
variable{X:Cx}{pins:av}{σ:St}{H:Hp}{s:Shared}{params:Arguments}{body:Expr}{scope:Scope}{cl:List (Str×Addr)}{E:aP}{Q:VK}{name qual x:Str}{f c:Addr}{pm:Value}{A:Around}{v:V}{u:Value}{Nb:List Str}{cp:List (Option Nat)}{t:TE}
theorem Fd(I:Inv X pins σ H s)(hf:H f=some (gJ f name qual params body scope cl pm (.ref c)))(hc:H c=some (j3 c qual))(hA:A.frames=some X.stack)(hh:A.handled=none)(hd:A.depth<recursionLimit)
  (hk:scope.kind=.function) (ho:sC X.N X.env.scope scope x Nb cp=true) (Pz:scope.isCoroutine=false) (zO:scope.isGenerator=false)
  (lT:∀y c,cl.lookup y=some c->X.env.cells.lookup y=some c) (p8:∀y∈scope.names,y.2=.free->∃c,cl.lookup y.1=some c)
  (hb:∀(ct:Value),bindArgs (kla_fn name qual params body scope cl pm (.ref c) ct) ⟨[u],[]⟩=pure [(x,u)]) (r:RelV v u)
  (J:JE (lR X qual scope (x::Nb) ⟨A,cl,f,.ref c,s,H⟩) body t) (h:t (some v::gQ cp σ) H Q):wpAny (model X.prog X.w) A (call (.ref f) [u]) (EP X pins σ Q) E s:=by
 unfold sC at ho;simp only[Wa,WL,VR] at ho;obtain⟨⟨⟨ho,Fe⟩,hx⟩,cps⟩:=ho;have S:=q8M hk ho;obtain⟨⟨ct,PA⟩,_⟩:=I.aM f _ hf;have fN:=Pt (I.aM c _ hc);refine wpAny_call (kla_callFunE hd PA rfl Pz zO rfl fN ?_);rw[hb ct];refine qV (wpAny_newFunctionEnv (fun y hy=>Fe y hy) (fun y hy=>by rw[Um.mp hy];exact hx) (fun h₁ sv rh=>?_) hk);have sD:∀b o,s.heap.get? b=some o->h₁.get? b=some o:=fun b o e=>rh.extBut b o (VD (Ul e)) (ph _ e);refine⟨I.nolimit.keeps sD,?_⟩;have e0:=I.qN;show codeAny _ _ (.expr body (envX qual scope s.heap.objs.size f (.ref c) cl)) _ _;have k9:∀b:Addr,b∉(lR X qual scope (x::Nb) ⟨A,cl,f,.ref c,s,H⟩).ex:=fun b z=>absurd (show b∈([]:List Addr) from z) (by simp)
 have mem:∀{y:Str}{k:NameKind},scope.names.lookup y=some k->(y,k)∈scope.names:=fun e=>WM e
 have I1:Inv (lR X qual scope (x::Nb) ⟨A,cl,f,.ref c,s,H⟩) [] (some v::gQ cp σ) H {s with heap:=h₁,toks:=s.toks+[(x,u)].length}:=by
  refine⟨⟨e0.mod,hk,rfl,rfl,ua _,fun y z d h1 h2=>I.ok.inj y z d (lT y d h1) (lT z d h2),fun y hy=>?_,fun y d z _=>(by cases z),fun _=>hh,Around.frames_deeper hA,.inr ⟨rfl,rfl⟩,fun b z=>absurd z (k9 b),e0.bs,e0.l_,fun b _ _=>k9 b,fun b z=>absurd z (k9 b),e0.dW,e0.nh⟩,
   rfl,e0.bare,Un.kept sD,⟨_,sv,fun i y w h1 h2 h3=>?_⟩,fun y d hy=>?_,e0.aM.fresh (ua _),fun y d hy=>I.b_ y d (lT y d hy),fun p hp=>absurd (show p∈([]:av) from hp) (by simp),e0.aM.kept sD,?_⟩
  ·have hy:scope.names.lookup y=some .cell\/scope.names.lookup y=some .free:=hy
   rcases hy with hy|hy
   ·exact absurd rfl (Fe _ (mem hy))
   ·exact p8 _ (mem hy) rfl
  ·cases i with
   |zero =>
    cases(show some x=some y by simpa using h1)
    cases(show v=w by simpa using h2)
    exact⟨u,r,.inl ⟨hx,by simp⟩⟩
   |succ j =>
    have h1:Nb[j]?=some y:=by simpa using h1
    have h2:(gQ cp σ)[j]?=some (some w):=by simpa using h2
    unfold gQ at h2;rw[Lq] at h2;obtain⟨o,q1,q2⟩:=Vz.mp h2
    match o,q2 with
    |none,q2=>cases q2
    |some i',q2 =>
     have q2:(σ[i']?).join=some w:=q2;obtain⟨n1,n2⟩:=S.qY (j+1) i' y (by simpa using q1) (by simpa using h1)
     have hs:σ[i']?=some (some w):=by
      cases q:σ[i']? with
      |none=>rw[q] at q2;cases q2
      |some z=>rw[q] at q2;cases(show z=some w from q2);rfl
     have kd:=S.free _ (mem n2) rfl;obtain⟨m,hn,hl⟩:=I.loc;obtain⟨u',rv,lk⟩:=hl i' y w n1 hs (by rcases kd with z|z;exact .inr (.inl z);exact .inr (.inr z));refine⟨u',rv,?_⟩;rcases lk with⟨z,_⟩|⟨_,d,e1,o,e2,e3⟩
     ·rcases kd with k|k<;>(rw[show X.env.kindOf y=some .local from z] at k;cases k)
     ·obtain⟨d',e4⟩:=p8 _ (mem n2) rfl
      have:=lT _ _ e4;rw[e1] at this;cases this;exact .inr ⟨.inr n2,d,e4,o,sD _ _ e2,e3⟩
  ·obtain⟨z,o,e2,e3⟩:=I.cell y d (lT y d hy)
   exact⟨z,o,sD _ _ e2,e3⟩
  ·have:=S.len
   show(some v::gQ cp σ).length=(x::Nb).length;unfold gQ;rw[Lk,nU];simpa using this
 refine kla_codeExpr (Xa (J [] _ _ H Q I1 h) (fun u' s' hs=>?_) fun e s' hs=>hs.elim);obtain⟨w,H',J',rv,q⟩:=hs;exact I.after ⟨w,H',J'.os,J'.bare,J'.base,J'.aM,rv,q⟩
end
def j4(h:Heap)(k:LK)(v:Value):Prop:=∃a o xs n,v=.ref a/\h.get? a=some o/\o.cls=.type "tuple" /\ o.data=.seq xs n/\IntsAre xs.toList k
section
variable{prog:Program}{w:World}{A:Around}{E:aP}{s:Shared}{Q:Bool->Shared->Prop}
theorem Ff{fin:Bool}:∀{us ws:List Value}{ks ls:LK}(i:Nat),IntsAre us ks->IntsAre ws ls->fin=decide (us.length<ws.length)->Q (HT.lexLt ks ls) s->KatLex prog w A true fin Q (us.zip ws) i s
 |_,_,_,_,i,.nil,.nil,hf,h=>by
  rw[YA];subst hf;exact h
 |_,_,_,_,i,.nil,.cons m u r,hf,h=>by
  rw[YA];have:fin=true:=by rw[hf];simp
  subst this;exact h
 |_,_,_,_,i,.cons n t r,.nil,hf,h=>by
  rw[Zc];have:fin=false:=by rw[hf];simp
  subst this;exact h
 |_,_,_,_,i,.cons n t r,.cons m u r',hf,h=>by
  rw[XT];refine kat_cons (wpAny_eqBool_int (kat_go (fun e=>?_) fun e=>?_))
  ·have e:n=m:=W7 e
   subst e;rw[HT.mB,VB rfl] at h;exact kat_yes (Ff (i+1) r r' (by rw[hf];simp) h)
  ·have e:¬ n=m:=fun z=>by subst z;simp at e
   rw[HT.mB,Uo e] at h;refine kat_no ?_
   cases q:(true&&i==0) with
   |true=>exact oneLt_int h
   |false=>exact kat_one _ _ (PyProof.Rows.lt_int h)
theorem PB{k l:LK}{x y:Value}(hx:j4 s.heap k x)(hy:j4 s.heap l y)(h:Q (HT.lexLt k l) s):wpAny (model prog w) A (keyLt' (tuples' true) x y) Q E s:=by
 obtain⟨a,o,xs,n,rfl,h1,_,h2,h3⟩:=hx;obtain⟨b,o',ys,n',rfl,g1,_,g2,g3⟩:=hy;exact kat_lt h1 h2 g1 g2 (Ff 0 h3 g3 (by rw[Uk,Uk]) h)
theorem Fg{h:Heap}:∀{keys:List Value}{ks:List LK},(∀k∈ks,k≠[])->keys.length=ks.length->(∀(i:Nat)(k:LK)(v:Value),ks[i]?=some k->keys[i]?=some v->j4 h k v)->∃fs,KatTups h keys fs/\fs.length=keys.length/\∀v∈fs,∃n t,v=Value.int n t
 |[],[],_,_,_=>⟨[],.nil,rfl,fun v hv=>nomatch hv⟩
 |[],_::_,_,hl,_=>by simp at hl
 |_::_,[],_,hl,_=>by simp at hl
 |v::keys,k::ks,fz,hl,ht=>by
  obtain⟨fs,t,hf,hi⟩:=Fg (h:=h) (keys:=keys) (ks:=ks) (fun k hk=>fz k (C5 _ hk)) (by simpa using hl) fun i k v e1 e2=>ht (i+1) k v (by simpa using e1) (by simpa using e2);obtain⟨a,o,xs,n,rfl,h1,hc,h2,h3⟩:=ht 0 k v rfl rfl;have hk:=fz k My;generalize hx:xs.toList=xl at h3
  cases h3 with
  |nil=>exact absurd rfl hk
  |cons m t' r =>
   have h0:xs[0]?=some (.int m t'):=by rw[<-VT,hx];rfl
   refine⟨.int m t'::fs,.cons h1 hc h2 h0 t,by rw[Lk,Lk,hf],fun v hv=>?_⟩;rcases Lp.mp hv with rfl|hv
   ·exact⟨m,t',rfl⟩
   ·exact hi v hv
theorem PC{M:Model}{keys:List Value}{ks:List LK}{Q:SortKind->Shared->Prop}(h0:0<keys.length)(fz:∀k∈ks,k≠[])(hl:keys.length=ks.length)(ht:∀(i:Nat) (k:LK) (v:Value),ks[i]?=some k->keys[i]?=some v->j4 s.heap k v)(h:Q (tuples' true) s):
  wpAny M A (keyKind' keys.toArray) Q E s:=by
 obtain⟨fs,t,hf,hi⟩:=Fg fz hl ht;refine kat_kind (T:=.type "int") t (by omega) (fun v hv=>?_) (by decide) ?_
 ·obtain⟨n,t',rfl⟩:=hi v hv
  exact .now
 ·exact h
theorem getD_some{α:Type}{l:List α}{i:Nat}{d:α}(h:i<l.length):l[i]?=some (l.getD i d):=by
 rw[nR h,C6,nR h];rfl
theorem PD{a kS:Addr}{e1:Nat}{vs keys:List Value}{ks:List LK}{P:PySem.Fin->Shared->Prop}(hv:keys.length=vs.length)(mE:vs.length<64)(fz:∀k∈ks,k≠[])(hl:keys.length=ks.length)(ht:∀(i:Nat) (k:LK) (v:Value),ks[i]?=some k->keys[i]?=some v->j4 s.heap k v)
  (fin:∀st (p:Array Nat),(arrOf st).map (·.2)=List.toArray (p.toList.map fun i=>vs.getD i Value.none)->failedOf st=none->c_ vs.length p->Up (fun i=>ks.getD i []) p vs.length->wpAny (model prog w) A (ksk_tail a false e1 (.ref kS) st) P E s) :
  wpAny (model prog w) A (ksk_end a false vs.toArray e1 (.ref kS) (List.toArray keys)) P E s:=by
 unfold ksk_end
 try dsimp only
 simp only[V8,Xp]
 by_cases h2:vs.toArray.size<2
 ·rw[VB h2,VB h2]
  refine lj (qV ?_);rw[StateT.run_pure];refine lj (qV ?_)
  try dsimp only
  rw[xM] at h2;refine fin _ (List.range vs.length).toArray ?_ rfl ⟨Array.Perm.refl _⟩ fun i j ja hj=>?_
  ·have PE:arrOf (SortSt.mk' general' (keys.toArray.zip vs.toArray) #[] 7 none)=(List.toArray (List.range vs.length)).map (kas_item (keys.toArray.zip vs.toArray)):=by
    have e:=kas_range (keys.toArray.zip vs.toArray);rw[show(keys.toArray.zip vs.toArray).size=vs.length by simp[hv]] at e;rw[e]
   exact kat_snds hv PE
  ·have:i=j:=by omega
   subst this;exact kle_refl _
 ·rw[Uo h2,Uo h2]
  rw[xM] at h2;refine lj (PC (by omega) fz hl ht ?_)
  refine lj (Xa (kat_run (κ:=tuples' true) (E:=E) (Q:=fun iy s'=>s'=s/\∃p:Array Nat,arrOf iy=p.map (kas_item (keys.toArray.zip vs.toArray))/\failedOf iy=none/\c_ vs.length p/\Up (fun i=>ks.getD i []) p vs.length)
   (G:=fun p s'=>s'=s/\c_ vs.length p/\Up (fun i=>ks.getD i []) p vs.length) hv (by omega) mE (fun p iy s' a1 a2 a3 a4=>⟨a4.1,p,a2,a3,a4.2.1,a4.2.2⟩) ?_) ?_ fun _ _ x=>x)
  ·refine Oh (k:=fun i=>ks.getD i []) (I:=fun s'=>s'=s) (fun i j C s' hi hj e hC=>?_) (by omega) rfl fun p s' a1 a2 a3=>⟨a3,a1,a2⟩
   subst e;exact PB (ht i _ _ (getD_some (by omega)) (getD_some (by omega))) (ht j _ _ (getD_some (by omega)) (getD_some (by omega))) (hC _ rfl)
  ·rintro⟨⟨⟩,iy⟩ s' ⟨rfl,p,a1,a2,a3,a4⟩
   try dsimp only
   exact fin iy p (kat_snds hv a1) a2 a3 a4
end
theorem a9.at{X:Cx}{pins:av}{H H':Hp}{b:Addr}(f:a9 X pins H b)(h:H' b=none):a9 X pins H' b:=⟨h,f.2⟩
section
variable{X:Cx}{pins:av}{σ:St}{H:Hp}{s:Shared}{A:Around}{E:aP}{a:Addr}{vs:List Value}{f:Value}
theorem Inv.dR{h':Heap}{t':Nat}{b:Addr}(I:Inv X pins σ H s)(fb:a9 X pins H b)(k:∀c o,c≠b->s.heap.get? c=some o->h'.get? c=some o):Inv X pins σ H {s with heap:=h',toks:=t'} :=
 I.turned k fb.1 fb.2.1 fb.2.2.2.1 fb.2.2.2.2.1 fb.2.2.2.2.2
theorem Inv.fw{b:Addr}{o:Obj}(I:Inv X pins σ H s)(fb:a9 X pins H b)(e:s.heap.get? b=some o)(hc:∀v,o.data≠.cell v):Inv X ((b,o)::pins) σ H s :=
 I.d6 fun p hp=>by
  rcases Lp.mp hp with rfl|hp
  ·exact⟨e,fb.1,fb.2.1,fb.2.2.1,hc⟩
  ·exact I.pin p (Uj _ hp)
theorem Inv.bS{p:Addr×Obj}(I:Inv X (p::pins) σ H s):Inv X pins σ H s:=I.d6 fun q hq=>I.pin q (Uj _ (C5 _ hq))
theorem a9.cons{b:Addr}{p:Addr×Obj}(f:a9 X pins H b)(n:p.1≠b):a9 X (p::pins) H b :=
 ⟨f.1,f.2.1,f.2.2.1,f.2.2.2.1,f.2.2.2.2.1,fun q hq=>by
  rcases VA.mp hq with z|z
  ·exact f.2.2.2.2.2 q (VQ _ z)
  ·rcases Lp.mp z with rfl|z
   ·exact n
   ·exact f.2.2.2.2.2 q (Uj _ z)⟩
theorem oO{c:String}{xs:Array Value}{n:Nat}:∀v,(seqObj c xs n).data≠.cell v:=fun v z=>by cases z
theorem PF{P:List V->Hp->Prop}{n0:Nat}{R:PySem.Fin->Shared->Prop}(I:Inv X pins σ H s)(fa:a9 X pins H a)(ha:s.heap.get? a=some (seqObj "list" vs.toArray n0))(mE:vs.length<64)(p0:P [] H)
  (h8:∀(bh:av)(v:Value)(ah:List V)(H':Hp)(s':Shared),vs[ah.length]?=some v->Inv X bh σ H' s'->P ah H'->wpAny (model X.prog X.w) A (call f [v]) (EP X bh σ fun k g_=>P (ah++[k]) g_) (fun _ _=>False) s')
  (fin:∀ah H',ah.length=vs.length->P ah H'->∃ks:List LK,ks.length=vs.length/\(∀k∈ks,k≠[])/\(∀(i:Nat)(k:LK),ks[i]?=some k->∃t,ah[i]?=some (.ref t)/\H' t=some (.tup (k.map V.int))) ∧
   ∀(p:Array Nat)(s':Shared)(c:Nat),c_ vs.length p->Up (fun i=>ks.getD i []) p vs.length->Inv X pins σ H' s'->a9 X pins H' a->s'.heap.get? a=some (seqObj "list" (List.toArray (p.toList.map fun i=>vs.getD i Value.none)) c)->R (.done (.ret .none)) s') :
  wpAny (model X.prog X.w) A (ksk_tree a f false) R E s:=by
 unfold ksk_tree;refine lj (listItems_at ha rfl ?_);refine lj (Zx ha rfl ?_ (by rw[xM,WU];omega) (Ww _));have sb:=VW s.heap a (Obj.mapSeq fun _=>(#[]:Array Value));obtain⟨e1,fK⟩:∃e1,(s.heap.update a (Obj.mapSeq fun _=>(#[]:Array Value))).get? a=some (seqObj "list" #[] e1):=⟨_,YX ha fun _ => #[]⟩;have I1:Inv X pins σ H {s with heap:=s.heap.update a (Obj.mapSeq fun _=>(#[]:Array Value))}:=I.dR (t':=s.toks) fa fun c o n e=>(sb.2 c n).trans e;refine lj (seqEpoch_at fK rfl ?_);refine lj (wpAny_newTuple ?_ (by show vs.length<=_;rw[WU];omega));refine lj (Zv ?_ (Ww _));refine VX ?_;generalize UL:s.heap.update a (Obj.mapSeq fun _=>(#[]:Array Value))=g0 at fK I1
 show wpAny _ _ (ksk_rest a f false vs.toArray e1 (.ref (g0.push (seqObj "tuple" vs.toArray 0)).objs.size)) R E {s with heap:=(g0.push (seqObj "tuple" vs.toArray 0)).push (seqObj "list" #[] 0)};have I2:Inv X pins σ H {s with heap:=(g0.push (seqObj "tuple" vs.toArray 0))}:=I1.kept (h':=g0.push (seqObj "tuple" vs.toArray 0)) (t':=s.toks) fun b u e=>ph _ e;have eA:(g0.push (seqObj "tuple" vs.toArray 0)).get? a=some (seqObj "list" #[] e1):=ph _ fK;generalize g0.push (seqObj "tuple" vs.toArray 0)=g1 at I2 eA;have fk:a9 X pins H g1.objs.size:=I2.fO (ua _) (I2.aM.fresh (ua _));have I3:Inv X pins σ H {s with heap:=g1.push (seqObj "list" #[] 0)}:=I2.kept (h':=g1.push (seqObj "list" #[] 0)) (t':=s.toks) fun b u e=>ph _ e
 have sE:g1.objs.size≠a:=Xn (Ul eA);have I4:=(I3.fw fk (Vy _ rfl) oO).fw (fa.cons (p:=(g1.objs.size,seqObj "list" #[] 0)) sE) (ph _ eA) oO;generalize g1.objs.size=kS at I4 sE fk;unfold ksk_rest;refine lj (Y5 ?_)
 first
  |rw[List.forIn_toArray]
  |(rw[<-Y6];simp only[List.toList_toArray])
  |rw[<-Y6]
 refine lj (ksk_fold (fun i s'=>∃H' ah ks e,Inv X ((a,seqObj "list" #[] e1)::(kS,seqObj "list" (List.toArray ks) e)::pins) σ H' s'/\P ah H'/\Vals ah ks/\ah.length=i) vs 0 _ ⟨H,[],[],0,I4,p0,.nil,rfl⟩ ?step ?done)
 case step =>
  rintro j x s' hx ⟨H',ah,ks,e,J,pk,rv,hl⟩;rw[Wb] at hl;have hj:j<vs.length:=(nV.mp hx).1;refine lj (wpAny_attempt (Xa (h8 _ x ah H' s' (by rw[hl];exact hx) J pk) (fun u s2 hs=>?_) fun _ _ z=>z.elim));obtain⟨k,H2,J2,r2,p2⟩:=hs
  try dsimp only
  have pa:=J2.pin (a,seqObj "list" #[] e1) (Uj _ (.head _));have jd:=J2.pin (kS,seqObj "list" (List.toArray ks) e) (Uj _ (.tail _ (.head _)));have lk:ks.length=j:=by rw[<-rv.length];exact hl
  refine lj (Zx jd.1 rfl ?_ (by rw[xM,WU];omega) (V_ (Nat.le_of_eq (ZV ..)) (by rw[xM,WU];omega)));have s1:=VW s2.heap kS (Obj.mapSeq (·.push u));have ea:(List.toArray ks).push u=List.toArray (ks++[u]):=by simp
  obtain⟨c2,gz⟩:∃c2,(s2.heap.update kS (Obj.mapSeq (·.push u))).get? kS=some (seqObj "list" (List.toArray (ks++[u])) c2):=⟨_,by rw[<-ea];exact YX jd.1 (·.push u)⟩;have J3:=J2.bS.bS;have J4:Inv X pins σ H2 {s2 with heap:=s2.heap.update kS (Obj.mapSeq (·.push u))}:=J3.dR (t':=s2.toks) (fk.at jd.2.1) fun c o n e=>(s1.2 c n).trans e;refine qV ⟨rfl,H2,ah++[k],ks++[u],c2,?_,p2,rv.append (.cons r2 .nil),by rw[C4,hl,Wb];rfl⟩;exact(J4.fw (fk.at jd.2.1) gz oO).fw ((fa.at pa.2.1).cons sE) ((s1.2 a sE.symm).trans pa.1) oO
 case done =>
  rintro s' ⟨H',ah,ks,e,J,pk,rv,hl⟩;rw[Wb] at hl;have pa:=J.pin (a,seqObj "list" #[] e1) (Uj _ (.head _));have jd:=J.pin (kS,seqObj "list" (List.toArray ks) e) (Uj _ (.tail _ (.head _)));have lk:ks.length=vs.length:=by rw[<-rv.length];exact hl
  obtain⟨kk,k1,k2,k3,k4⟩:=fin ah H' hl pk
  try dsimp only
  refine lj (listItems_at jd.1 rfl ?_);refine PD (ks:=kk) lk mE k2 (by rw[lk,k1]) (fun i k v e1 e2=>?_) fun st p zP hf hp up=>?_
  ·obtain⟨t,e3,e4⟩:=k3 i k e1
   obtain⟨u,e5,e6⟩:=rv.get e3;rw[e2] at e5;cases e5;cases e6
   obtain⟨ar,r',it,_⟩:=J.tuple (bw.of e4);obtain⟨o,o1,o2,n,o3⟩:=it;exact⟨t,o,_,n,rfl,o1,o2,o3,by simpa using intsAre_of r'⟩
  ·have hz:(p.toList.map fun i=>vs.getD i Value.none).length=vs.length:=by rw[nU,Uk,hp.size]
   unfold ksk_tail
   try dsimp only
   rw[zP];refine lj (Zx jd.1 rfl ?_ (by rw[xM,WU];omega) (Ww _));refine lj (Zq ?_);have s1:=VW s'.heap kS (Obj.mapSeq fun _=>(#[]:Array Value));have na:(s'.heap.update kS (Obj.mapSeq fun _=>(#[]:Array Value))).get? a=some (seqObj "list" #[] e1):=(s1.2 a sE.symm).trans pa.1;refine lj (seqEpoch_at na rfl ?_);simp only[V8,Xp];refine lj (Zx na rfl ?_ (Ww _) (V_ (Nat.le_of_eq (by rw[xM,hz])) (by rw[WU];omega)));rw[hf];simp only[bne_self_eq_false,V8,Xp];have J1:Inv X pins σ H' {s' with heap:=s'.heap.update kS (Obj.mapSeq fun _=>(#[]:Array Value))}:=J.bS.bS.dR (t':=s'.toks) (fk.at jd.2.1) fun c o n e=>(s1.2 c n).trans e
   have s2:=VW (s'.heap.update kS (Obj.mapSeq fun _=>(#[]:Array Value))) a (Obj.mapSeq fun _=>List.toArray (p.toList.map fun i=>vs.getD i Value.none));have J2:Inv X pins σ H' {s' with heap:=(s'.heap.update kS (Obj.mapSeq fun _=>(#[]:Array Value))).update a (Obj.mapSeq fun _=>List.toArray (p.toList.map fun i=>vs.getD i Value.none))}:=J1.dR (t':=s'.toks) (fa.at pa.2.1) fun c o n e=>(s2.2 c n).trans e;obtain⟨c2,gz⟩:∃c2,((s'.heap.update kS (Obj.mapSeq fun _=>(#[]:Array Value))).update a (Obj.mapSeq fun _=>List.toArray (p.toList.map fun i=>vs.getD i Value.none))).get? a=some (seqObj "list" (List.toArray (p.toList.map fun i=>vs.getD i Value.none)) c2):=⟨_,YX na fun _=>List.toArray (p.toList.map fun i=>vs.getD i Value.none)⟩
   exact qV (k4 p _ c2 hp up J2 (fa.at pa.2.1) gz)
end
section
variable{prog:Program}{w:World}{A:Around}{E:aP}{s:Shared}
theorem PG{Q:List Value->Shared->Prop}{r:Addr}{a b c:Int}{t u v:Tok}{n:Nat}(hh:A.handled=none)(hr:IsRange s.heap r a b c t u v)(oP:Builtin.Range.small a b c=true)
  (hn:Builtin.Range.rangeSize a b c=n) (hlen:n<=2 ^ 24)
  (hQ:∀h' tk bG,(∀b o,s.heap.get? b=some o->h'.get? b=some o)->ItemsOf (fun i v=>∃t,v=.int (a+i*c) t) bG n->Q bG.toList {s with heap:=h',toks:=tk}):wpAny (model prog w) A (collect (.ref r)) Q E s:=by
 have key:∀R:Result->Shared->Prop,(∀h' tk bG c',(∀b o,s.heap.get? b=some o->h'.get? b=some o)->h'.get? s.heap.objs.size=some {cls:=.type "list",dict:=none,data:=.seq bG c',slots := #[]}->ItemsOf (fun i v=>∃t,v=.int (a+i*c) t) bG n->R (.ok (.ret (.ref s.heap.objs.size))) {s with heap:=h',toks:=tk})->codeAny (model prog w) A (.builtin "proto.collect" ⟨[.ref r],[]⟩) R s:=by
  intro R hR;refine Ws F.entry_proto_collect ?_;rw[Wd F.plain_proto_collect _];show wpAny _ A.in1 (newList [] >>= fun l=>again (.builtin "list.__iadd__" ⟨[l,.ref r],[]⟩)) _ _ s;refine lj (Wn ?_);refine qV ⟨Xf Yy _,Ws F.entry_list_iadd ?_⟩;rw[Wd Yy _];show wpAny _ A.in1 (Builtin.List.listExtendWith (.ref s.heap.objs.size) (.ref r) (.ref s.heap.objs.size)) _ _ _;have PH:(s.heap.push {cls:=.type "list",data:=.seq ([]:List Value).toArray}).get? s.heap.objs.size=some {cls:=.type "list",data:=.seq #[] 0}:=Vy _ rfl;refine wpAny_extend_range (R:=R) (s:={s with heap:=s.heap.push {cls:=.type "list",data:=.seq ([]:List Value).toArray}}) hh (ph _ hr) oP hn hlen s.heap.objs.size (.ref s.heap.objs.size) 0 PH fun h' tk bG c' hk kB gY=>?_
  exact hR h' tk bG c' (fun b o e=>hk b o (VD (Ul e)) (ph _ e)) kB gY
 unfold collect;refine lj (Y7 (key _ fun h' tk bG c' hk kB gY=>?_));show wpAny _ A (load s.heap.objs.size >>= _) _ _ _;refine lj (wpAny_load kB ?_);exact qV (hQ h' tk bG hk gY)
end
section
variable{X:Cx}{pins:av}{σ:St}{H:Hp}{s:Shared}{E:aP}
theorem Inv.sF{a:Addr}{o:HO}(I:Inv X pins σ H s)(fa:a9 X pins H a)(ha:X.s₀.heap.objs.size<=a)(new:aL X.prog X.w (upd H a o) s.heap a o):Inv X pins σ (upd H a o) s:=by
 obtain⟨f0,f1,f2,_,f4,f5⟩:=fa;have ne:∀{b u},H b=some u->b≠a:=fun e z=>by rw[z,f0] at e;cases e
 refine⟨I.ok,I.os,I.bare,⟨I.base.keep,I.base.slot,fun b u e n hx=>?_,I.base.there,fun b xs e=>?_,fun b u v e=>?_,fun b ps e=>?_⟩,I.loc,I.cell,?_,fun x c e=>?_,fun p hp=>?_,fun b u e=>?_,I.len⟩
 ·rw[aU (VD (VG (Ul e) ha))];exact I.base.free b u e n hx
 ·have:=I.base.eB b xs e
  rw[aU (ne this)];exact this
 ·have:=I.base.eZ b u v e
  rw[aU (ne this)];exact this
 ·obtain⟨more,this⟩:=I.base.e7 b ps e
  exact⟨more,by rw[aU (ne this)];exact this⟩
 ·rw[aU (Xv f1)];exact I.free
 ·rw[aU (f4 x c e)];exact I.b_ x c e
 ·obtain⟨e1,e2,e3⟩:=I.pin p hp
  exact⟨e1,by rw[aU (f5 p hp)];exact e2,e3⟩
 ·by_cases z:b=a
  ·subst z;rw[bE] at e;cases e;exact new
  ·rw[aU z] at e
   refine(I.aM b u e).eY (fun c v _ q=>q) (fun c q=>?_) fun c xs q=>?_
   ·rw[aU (ne q)];exact q
   ·rw[aU (ne q)];exact q
theorem PJ{xs:List V}{vs:List Value}(r:Vals xs vs){p:List Nat}(hp:∀i∈p,i<vs.length):Vals (p.map fun i=>xs.getD i .non) (p.map fun i=>vs.getD i Value.none):=by
 induction p with
 |nil=>exact .nil
 |cons i q ih =>
  refine .cons ?_ (ih fun j hj=>hp j (C5 _ hj));have hi:=hp i My;obtain⟨u,e1,e2⟩:=r.get (getD_some (l:=xs) (d:=V.non) (by rw[r.length];exact hi));have:=getD_some (l:=vs) (d:=Value.none) hi;rw[this] at e1;cases e1;exact e2
theorem c_.mem{n:Nat}{p:Array Nat}(h:c_ n p){i:Nat}(hi:i∈p.toList):i<n:=by
 have:=(Zg.mp h.perm).mem_iff.mp hi;simpa using this
theorem PK{l q:Addr}{P:List V->Hp->Prop}{xs:List V}{Q:aP}(I:Inv X pins σ H s)
  (col:∀Q':List Value->Shared->Prop,(∀h' tk vs,(∀b o,s.heap.get? b=some o->h'.get? b=some o)->Vals xs vs->Q' vs {s with heap:=h',toks:=tk})->wpAny (model X.prog X.w) X.A.in1 (collect (.ref l)) Q' E s)
  (mE:xs.length<64) (p0:P [] H)
  (h8:∀(bh:av)(x:V)(u:Value)(ah:List V)(H':Hp)(s':Shared),xs[ah.length]?=some x->RelV x u->Inv X bh σ H' s'->P ah H'->wpAny (model X.prog X.w) X.A.in1.in1 (call (.ref q) [u]) (EP X bh σ fun k g_=>P (ah++[k]) g_) (fun _ _=>False) s')
  (fin:∀ah H',ah.length=xs.length->P ah H'->∃ks:List LK,ks.length=xs.length/\(∀k∈ks,k≠[])/\(∀(i:Nat)(k:LK),ks[i]?=some k->∃t,ah[i]?=some (.ref t)/\H' t=some (.tup (k.map V.int))) ∧
   ∀(p:Array Nat)(s':Shared)(a:Addr),c_ xs.length p->Up (fun i=>ks.getD i []) p xs.length->H' a=none->Inv X pins σ (upd H' a (.lst (p.toList.map fun i=>xs.getD i .non))) s'->Q (.ref a) s') :
  wpAny (model X.prog X.w) X.A (call (.builtin "sorted") [.ref l] [(Str.ofString "key",.ref q)]) Q E s:=by
 refine call_function_entry_kw kind_sorted plain_sorted entry_sorted (ksk_s1 _ _) ?_;unfold Builtin.«sorted»;refine lj (m:=checkCount "sorted" 1 1 _) (qV ?_);refine lj (col _ fun h' tk vs kp rv=>?_);have lv:vs.length=xs.length:=rv.length.symm;refine lj (Zv ?_ (by rw[WU];omega));have I1:Inv X pins σ H {s with heap:=h',toks:=tk}:=I.kept kp;have fa:a9 X pins H h'.objs.size:=I1.fO (ua _) (I1.aM.fresh (ua _));have PL:X.s₀.heap.objs.size<=h'.objs.size:=I1.sz;have I2:Inv X pins σ H {s with heap:=h'.push (seqObj "list" vs.toArray 0),toks:=tk}:=I1.kept (h':=h'.push (seqObj "list" vs.toArray 0)) (t':=tk) fun b u e=>ph _ e
 have mf:(h'.push (seqObj "list" vs.toArray 0)).get? h'.objs.size=some (seqObj "list" vs.toArray 0):=Vy _ rfl;refine lj (VX (wpAny_call_entry_kw slot_list_sort ⟨_,mf,rfl⟩ entry_list_sort ?body (ksk_l1 _ _)))
 case body =>
  show wpAny (model X.prog X.w) X.A.in1.in1 (Builtin.«list.sort» ⟨[.ref h'.objs.size],[(Str.ofString "key",.ref q)]⟩) _ _ _;rw[ksk_t1];refine PF (P:=P) I2 fa mf (by omega) p0 (fun bh v ah H' s' hv J pk=>?_) fun ah H' hl pk=>?_
  ·have hi:ah.length<xs.length:=by rw[<-lv];exact(nV.mp hv).1
   obtain⟨u,e1,e2⟩:=rv.get (nR hi);rw[hv] at e1;cases e1;exact h8 bh _ v ah H' s' (nR hi) e2 J pk
  ·obtain⟨ks,k1,k2,k3,k4⟩:=fin ah H' (by omega) pk
   refine⟨ks,by omega,k2,k3,fun p s' c hp up J fj e=>⟨_,rfl,?_⟩⟩;rw[lv] at hp up;refine qV ⟨_,rfl,k4 p s' h'.objs.size hp up fj.1 (J.sF fj PL ?_)⟩;have hz:(p.toList.map fun i=>xs.getD i V.non).length=xs.length:=by rw[nU,Uk,hp.size]
   exact⟨by rw[hz,WU];omega,_,c,PJ rv fun i hi=>by rw[lv];exact hp.mem hi,e⟩
end
theorem ae.at{H:Hp}{ds:List D}{vs:List V}{i:Nat}{d:D}{v:V}(h:ae H ds vs)(e1:ds[i]?=some d)(e2:vs[i]?=some v):Is H d v:=by
 obtain⟨d',e3,h'⟩:=h.get e2;rw[e1] at e3;cases e3;exact h'
theorem ae.sG{H:Hp}:∀{ds:List D}{vs:List V},vs.length=ds.length->(∀(i:Nat)(d:D),ds[i]?=some d->∃v,vs[i]?=some v/\Is H d v)->ae H ds vs
 |[],[],_,_=>.nil
 |[],_::_,h,_=>by simp at h
 |_::_,[],h,_=>by simp at h
 |d::ds,v::vs,h,g=>by
  obtain⟨v',e,h1⟩:=g 0 d rfl;cases(show some v=some v' from e)
  exact .cons h1 (ae.sG (by simpa using h) fun i d e=>by simpa using g (i+1) d (by simpa using e))
structure j5 where
 T:Addr
 pos:Pos
 qual:Str
theorem du.same{H H':Hp}{T:Addr}{pos:Pos}{q:Str}(h:du H T pos q)(s:aE H H'):du H' T pos q:=by
 obtain⟨ps,e,t,c⟩:=h;exact⟨ps,s _ _ e,t,c.imp id fun⟨c,e1,e2⟩=>⟨c,e1,s _ _ e2⟩⟩
theorem du.keep{H H':Hp}{T T':Addr}{pos:Pos}{q:Str}(h:du H T pos q)(ne:T≠T')(hT:∃ps,H T'=some (.tbl ps))(s:∀b o,H b=some o->b≠T'->H' b=some o):du H' T pos q:=by
 obtain⟨ps,e,t,c⟩:=h;refine⟨ps,s _ _ e ne,t,c.imp id fun⟨c,e1,e2⟩=>⟨c,e1,s _ _ e2 fun z=>?_⟩⟩;obtain⟨qs,hT⟩:=hT;rw[z,hT] at e2;cases e2
theorem du.put{H:Hp}{T a:Addr}{pos:Pos}{q:Str}{o o':HO}(h:du H T pos q)(ha:H a=some o)(hk:(∃vs,o=.lst vs)\/∃ws,o=.dK ws):du (upd H a o') T pos q:=by
 obtain⟨ps,e,t,c⟩:=h
 have ne:∀{b u},H b=some u->(∀vs,u≠.lst vs)->(∀ws,u≠.dK ws)->b≠a:=fun{b u} e n1 n2 z=>by
  subst z;rw[ha] at e;cases e;rcases hk with⟨_,z⟩|⟨_,z⟩
  ·exact n1 _ z
  ·exact n2 _ z
 refine⟨ps,by rw[aU (ne e (fun _ z=>by cases z) fun _ z=>by cases z)];exact e,t,c.imp id fun⟨c,e1,e2⟩=>⟨c,e1,?_⟩⟩;rw[aU (ne e2 (fun _ z=>by cases z) fun _ z=>by cases z)];exact e2
@[reducible] noncomputable def lU (ls:List j5):aH where
 ad:=ls.map (·.T)
 ok:=fun H=>∀l∈ls,du H l.T l.pos l.qual
 same:=fun h s l hl=>(h l hl).same s
 put:=fun h ha hk l hl=>(h l hl).put ha hk
 tb:=fun h ha=>by
  obtain⟨l,hl,rfl⟩:=Lm.mp ha;obtain⟨ps,e,_⟩:=h l hl;exact⟨ps,e⟩
variable[aH]
structure zQ(T:Addr)(pos:Pos)(q:Str):Prop where
 mem:T∈aH.ad
 get:∀H:Hp,aH.ok H->du H T pos q
 put:∀H H':Hp,aH.ok H->du H' T pos q->(∀b o,H b=some o->b≠T->H' b=some o)->aH.ok H'
omit [aH] in
theorem PM {ls:List j5} {l:j5} (hl:l∈ls) (nd:∀a∈ls,∀b∈ls,a.T=b.T->a=b):@zQ (lU ls) l.T l.pos l.qual:=by
 letI:aH:=lU ls;refine⟨WQ hl,fun H h=>h l hl,fun H H' h t k l' d9=>?_⟩
 by_cases z:l'.T=l.T
 ·rw[nd _ d9 _ hl z];exact t
 ·obtain⟨ps,e,_⟩:=h l hl
  exact(h l' d9).keep z ⟨ps,e⟩ k
structure PN(X:Cx)(T:Addr):Prop where
 code:∃cc,X.env.code=.ref cc/\CodeHd X.base cc T
 ng:mainGlobals≠T
 blt:X.base.BuiltinsAt X.mg T
section
variable{F H H':Hp}{ad:List Addr}{δ:aD}{σ:St}
theorem SR.sH(S:SR F ad δ σ H)(k:∀b o,H b=some o->b∉aH.ad->H' b=some o)(tk:aH.ok H'):SR (Nw F H H') ad δ σ H':=by
 have sm:=Nw.same (H':=H') S.sub;have nF:∀{a o},F a=some o->a∉aH.ad:=fun{a o} e t=>by rw[S.nt a t] at e;cases e
 have nO:∀{i a ov},ad[i]?=some a->δ.mu[i]?=some (some ov)->a∉aH.ad:=fun{i a ov} e1 e2 t=>by
  obtain⟨a',o,e3,e4,h⟩:=S.mu i ov e2;rw[e1] at e3;cases e3;obtain⟨ps,q⟩:=aH.tb S.tab t;rw[e4] at q;cases q;rcases h.kind with⟨_,z⟩|⟨_,z⟩<;>cases z
 refine⟨fun a o e=>?_,fun a l=>?_,S.bY,S.inj,fun i ov e=>?_,fun i x e=>?_,S.len,tk,fun a ha=>?_⟩
 ·unfold Nw at e
  cases q:H a with
  |none=>rw[q] at e;exact e
  |some u=>rw[q] at e;exact k a o (S.sub a o e) (nF e)
 ·obtain⟨i,ov,e1,e2⟩:=l
  obtain⟨a',o,e3,e4,_⟩:=S.mu i ov e2;rw[e1] at e3;cases e3;unfold Nw;rw[e4];exact S.off a ⟨i,ov,e1,e2⟩
 ·obtain⟨a,o,e1,e2,h⟩:=S.mu i ov e
  exact⟨a,o,e1,k a o e2 (nO e1 e),h.same sm⟩
 ·obtain⟨v,e1,h⟩:=S.sl i x e
  refine⟨v,e1,?_⟩
  cases x with
  |p d=>exact Is.same sm h
  |o k=>exact h
 ·obtain⟨ps,q⟩:=aH.tb S.tab ha
  unfold Nw;rw[q];exact S.nt a ha
theorem Ext.sH(S:SR F ad δ σ H)(k:∀b o,H b=some o->b∉aH.ad->H' b=some o)(tk:aH.ok H'):Ext F ad δ.mu H (Nw F H H') ad δ.mu H' where
 same:=Nw.same S.sub
 new:=fun a o e=>by
  unfold Nw at e
  cases q:H a with
  |none=>exact .inr (.inl rfl)
  |some u=>rw[q] at e;exact .inl e
 keep:=fun a o e _ t=>k a o e t
 pre:=fun _ _ e=>e
 bW:=fun _ l=>.inl l
 iB:=fun a o e=>by
  by_cases t:a∈aH.ad
  ·obtain⟨ps,q⟩:=aH.tb tk t
   exact⟨_,q⟩
  ·exact⟨o,k a o e t⟩
theorem SR.mO{sl:List (Option DV)}{mu:List (Option OV)}{τ:St}{d:D}{v:V}(S:SR F ad ⟨sl,mu⟩ τ H)(h:Is F d v):SR F ad ⟨some (.p d)::sl,mu⟩ (some v::τ) H:=by
 refine⟨S.sub,S.off,S.bY,S.inj,S.mu,fun i x e=>?_,by have:=S.len;simp only[Lk];exact congrArg (· + 1) this,S.tab,S.nt⟩
 cases i with
 |zero=>cases(show some (some (DV.p d))=some (some x) from e);exact⟨v,rfl,h⟩
 |succ i=>exact S.sl i x e
theorem Ext.iJ{F' H':Hp}{aF:List Addr}{cy:List (Option OV)}{a:Addr}{o:HO}(S:SR F ad δ σ H)(e:Ext F ad δ.mu H F' aF cy H')(h:H a=some o)(n1:∀vs,o≠.lst vs)(n2:∀ws,o≠.dK ws)(n3:∀ps,o≠.tbl ps):H' a=some o:=by
 refine e.keep a o h (fun⟨i,ov,e1,e2⟩=>?_) fun t=>?_
 ·obtain⟨a',u,e3,e4,q⟩:=S.mu i ov e2
  rw[e1] at e3;cases e3;rw[h] at e4;cases e4;rcases q.kind with⟨_,z⟩|⟨_,z⟩
  ·exact n1 _ z
  ·exact n2 _ z
 ·obtain⟨ps,q⟩:=aH.tb S.tab t
  rw[h] at q;exact n3 _ (VY q)
end
def Fh(cp:List (Option Nat))(fb:WE)(δ:aD)(ds:List D)(key:D->LK):Prop :=
 ∀d∈ds,key d≠[]/\fb ⟨some (.p d)::cF cp δ.sl,δ.mu⟩ fun y δ'=>y=.p (.tup ((key d).map D.int))/\δ'.mu=δ.mu
def sortBy(cp:List (Option Nat))(fb:WE)(δ:aD)(ds:List D)(K:List D->Prop):Prop :=
 ds.length<64/\∃key:D->LK,Fh cp fb δ ds key/\∀out:List D,out.Perm ds->(out.map key).Pairwise kle->K out
section
variable{X:Cx}{params:Arguments}{body:Expr}{scope:Scope}{cu:Pos}{x:Str}{Nb:List Str}{cp:List (Option Nat)}{fb:WE}{T:Addr}
structure dS(X:Cx)(params:Arguments)(body:Expr)(scope:Scope)(cu:Pos)(T:Addr)(x:Str)(Nb:List Str)(cp:List (Option Nat))(fb:WE):Prop where
 env:PN X T
 tbl:zQ T cu (X.env.qual++"<lambda>")
 Fi:defaultsOf params X.env=([],[])
 kind:scope.kind=.function
 names:sC X.N X.env.scope scope x Nb cp=true
 co:scope.isCoroutine=false
 gen:scope.isGenerator=false
 bind:∀(cl:List (Str×Addr))(pm cd ct u:Value),bindArgs (kla_fn "<lambda>" (X.env.qual++"<lambda>") params body scope cl pm cd ct) ⟨[u],[]⟩=pure [(x,u)]
 room:∃k,a7 (k+3) X.A/\∀d:LD,a7 k (d.A.deeper (envX (X.env.qual++"<lambda>") scope d.s.heap.objs.size d.f d.cd d.cl))->JE (lR X (X.env.qual++"<lambda>") scope (x::Nb) d) body (tD fb)
theorem PQ{pins:av}{σ:St}{H:Hp}{s:Shared}{E:aP}{l:Addr}{F:Hp}{ad:List Addr}{δ:aD}{ds:List D}{xs:List V}{eE pos:Pos}{Q:VK}(L:dS X params body scope cu T x Nb cp fb)
  (I:Inv X pins σ H s) (S:SR F ad δ σ H) (hx:ae F ds xs)
  (col:∀(s:Shared)(H':Hp),Inv X pins σ H' s->(∀b o,H b=some o->b∉aH.ad->H' b=some o)->∀Q':List Value->Shared->Prop,(∀h' tk vs,(∀b o,s.heap.get? b=some o->h'.get? b=some o)->Vals xs vs->Q' vs {s with heap:=h',toks:=tk})->wpAny (model X.prog X.w) X.A.in1 (collect (.ref l)) Q' E s)
  (hs:sortBy cp fb δ ds fun out=>∀a F' H' us,Ext F ad δ.mu H F' ad δ.mu H'->SR F' ad δ σ H'->H' a=none->ae F' out us->Q (.ref a) (upd H' a (.lst us))) :
  wpAny (model X.prog X.w) X.A (evalAll ((backToKw pos (keywordEach [⟨some "key",.Lambda params body scope cu,eE⟩] X.env)).map (·.2))) (fun ah s₂=>wpAny (model X.prog X.w) X.A (call (.builtin "sorted") [.ref l] (((backToKw pos (keywordEach [⟨some "key",.Lambda params body scope cu,eE⟩] X.env)).filterMap (·.1)).zip ah)) (EP X pins σ Q) E s₂) E s:=by
 obtain⟨mE,key,hk,K⟩:=hs;obtain⟨k,j6,J⟩:=L.room;obtain⟨cc,fH,hC⟩:=L.env.code;show wpAny _ _ (evalAll [do let v <- eval (.Lambda params body scope cu) X.env;standAt pos;pure v]) _ _ _;refine evalAll_cons (lj ?_);have oQ:=L.names;unfold sC at oQ;simp only[Wa,WL,VR] at oQ;have SC:=q8M L.kind oQ.1.1.1;obtain⟨cl,kI,lT,p8⟩:=xQ (scope:=scope) (env:=X.env) fun y hy e=>I.ok.has y.1 (SC.free y hy e);refine E_ I (L.tbl.get H S.tab) L.Fi kI fH (hC.keeps I.bk) L.env.ng (I.mod.glob.keeps I.bk) (L.env.blt.keeps I.bk) fun f H1 s1 c I1 t1 k1 E9 hf hc=>?_;refine lj (XY (qV ?_));refine evalAll_nil ?_;show wpAny _ _ (call (.builtin "sorted") [.ref l] [(Str.ofString "key",.ref f)]) _ _ _
 have kT:∀b o,H b=some o->b∉aH.ad->H1 b=some o:=fun b o e t=>k1 b o e fun z=>t (by rw[z];exact L.tbl.mem);have iQ:=L.tbl.put H H1 S.tab t1 k1;have S1:=S.sH kT iQ;have E1:=Ext.sH S kT iQ;have lx:=hx.length
 refine PK (xs:=xs) (P:=fun ah H'=>∃F',Ext F ad δ.mu H F' ad δ.mu H'/\SR F' ad δ σ H'/\H' f=some (gJ f "<lambda>" (X.env.qual++"<lambda>") params body scope cl ((X.mg "__name__").getD .none) (.ref c))/\H' c=some (j3 c (X.env.qual++"<lambda>"))/\∀(i:Nat)(d:D)(kv:V),ds[i]?=some d->ah[i]?=some kv->Is F' (.tup ((key d).map D.int)) kv)
  I1 (col s1 H1 I1 kT) (by omega) ⟨_,E1,S1,hf,hc,fun i d kv _ e=>by simp at e⟩ (fun bh v u ah H' s' hv rv I' ⟨F',E',S',mP,gx,mQ⟩=>?_) fun ah H' hl ⟨F',E',S',mP,gx,mQ⟩=>?_
 ·have hi:ah.length<ds.length:=by rw[<-lx];exact(nV.mp hv).1
  have hd:=nR hi;have zR:Is F' ds[ah.length] v:=ae.at (hx.same E'.same) hd hv;obtain⟨PR,zS⟩:=hk _ (Wu hi);have r2:a7 (k+1) X.A.in1.in1:=(a7.in1 (a7.in1 (k:=k+2) j6));refine Fd I' mP gx (by rw[show X.A.in1.in1.frames=X.A.frames from rfl];exact I'.ok.frames) r2.hd r2.depth L.kind L.names L.co L.gen lT p8 (fun ct=>L.bind cl _ _ ct u) rv (J ⟨X.A.in1.in1,cl,f,.ref c,s',H'⟩ (r2.deeper _)) ?_;refine⟨F',ad,_,_,(S'.oo (cp:=cp)).mO zR,zS,fun y δ' ⟨ey,em⟩ w F2 bo H2 E2 S2 V2=>?_⟩;subst ey
  have ea:bo=ad:=by
   have l2:bo.length=ad.length:=by rw[S2.bY,em,S'.bY]
   refine XG fun i=>?_
   by_cases hi:i<ad.length
   ·rw[nR hi];exact E2.pre i _ (nR hi)
   ·rw[WR (by omega),WR (by omega)]
  subst ea;obtain⟨qz,cy⟩:=δ';have em:cy=δ.mu:=em;subst em;refine⟨F2,E'.trans E2,SR.back S' E2 S2,E2.iJ S' mP (fun _ z=>by cases z) (fun _ z=>by cases z) (fun _ z=>by cases z),E2.iJ S' gx (fun _ z=>by cases z) (fun _ z=>by cases z) (fun _ z=>by cases z),fun i d kv e1 e2=>?_⟩
  by_cases lM:i<ah.length
  ·rw[VE lM] at e2
   exact Is.same E2.same (mQ i d kv e1 e2)
  ·have:i=ah.length:=by
    have:=(nV.mp e2).1;rw[C4,VU] at this;omega
   subst this;rw[VF (ua _),Wr] at e2;cases(show some w=some kv from e2)
   rw[hd] at e1;cases e1;exact V2
 ·refine⟨ds.map key,by rw[nU];omega,fun k i7=>?_,fun i k' e=>?_,fun p s' a hp up ha I'=>?_⟩
  ·obtain⟨d,hd,rfl⟩:=Lm.mp i7
   exact(hk d hd).1
  ·rw[Lq] at e
   obtain⟨d,hd,rfl⟩:=Vz.mp e;have hi:i<ah.length:=by rw[hl,lx];exact(nV.mp hd).1
   have is:=mQ i d _ hd (nR hi);simp only[Is] at is;obtain⟨t,us,e1,e2,e3⟩:=is;refine⟨t,by rw[nR hi,e1],?_⟩;rw[<-lG e3];exact S'.sub _ _ e2
  ·have pm:(p.toList.map fun i=>ds.getD i .non).Perm ds:=by
    have h1:=(Zg.mp hp.perm).map fun i=>ds.getD i .non
    have h2:(List.range xs.length).map (fun i=>ds.getD i D.non)=ds:=by
     refine XG fun i=>?_;rw[Lq]
     by_cases hi:i<ds.length
     ·rw[W0 (by omega),ZU,nR hi,C6,nR hi];rfl
     ·rw[WR (by rw[Wg];omega),WR (by omega)];rfl
    rw[show(List.range xs.length).toArray.toList=List.range xs.length from rfl,h2] at h1;exact h1
   refine⟨.ref a,_,I',rfl,K _ pm ?_ a _ _ _ E' S' ha ?_⟩
   ·rw[VH,Yc]
    intro i j hi hj ja;rw[nU,Uk,hp.size] at hi hj;have:=up i j (WZ ja) hj;unfold KA at this;rw[Ya,Ya]
    have gp:∀{i:Nat}(h:i<p.toList.length),p.getD i 0=p.toList[i]:=fun{i} h=>by
     have h':i<p.size:=by rw[<-Uk];exact h
     simp[Array.getD,h']
    have gk:∀{i:Nat},i<ds.length->(ds.map key).getD i []=key (ds.getD i .non):=fun{i} h=>by
     rw[C6,Lq,nR h,C6,nR h];rfl
    have pi:=hp.lt hi;have pj:=hp.lt hj;dsimp only at this;rw[gk (by omega),gk (by omega),gp (by rw[Uk,hp.size];exact hi),gp (by rw[Uk,hp.size];exact hj)] at this;exact this
   ·refine ae.sG ?_ fun i d e=>?_
    ·rw[nU,nU]
    ·rw[Lq] at e ⊢
     obtain⟨z,e1,rfl⟩:=Vz.mp e;rw[e1];have hz:=hp.mem (V0 e1);refine⟨_,rfl,ae.at (hx.same E'.same) (getD_some (by omega)) (getD_some (by omega))⟩
end
structure f9(mg:Str->Option Value)(base:Heap)(fd:FuncData)(T:Addr)(pos:Pos)(q:Str):Prop where
 code:∃cc,fd.code=.ref cc/\CodeHd base cc T
 ng:mainGlobals≠T
 blt:base.BuiltinsAt mg T
 tbl:zQ T pos q
theorem g7.zT{P:Program}{w:World}{K:PySem.W.Frag}{mg:Str->Option Value}{base:Heap}{x qual:Str}{st:Stmt}{f:Addr}{fd:FuncData}{N ps:List Str}{k:Nat}{G:GD}(F:g7 K x qual st f fd)(S:my N ps (cN st))
  (eG:∀(a6:Value)(A:Around)(outer:List Env)(s:Shared)(H:Hp)(E:XK),fd.code=a6->a7 k (A.deeper (envOfC qual (cN st) s.heap.objs.size f a6)) →
   ∃B:WS,cM (eF gn P w K mg base N qual (cN st) f a6 A outer s H E).kF (gm st) (cY B)/\∀ys az K',ys.length=ps.length->G ys az K'->B (jQ az.length K') ⟨ys.map some++List.replicate (N.length-ps.length) none,az.map some⟩) :
  cV P w K mg base gn (k+1) f fd ps (lE G ps.length):=by
 obtain⟨oc,od,kV,doc,pm,an,a6,ct,k_,rfl,lk,fN⟩:=F.ex;refine Cv lk fN S (fun vs H Q E h=>h.1) fun A outer s H vs Q E hr h=>?_;obtain⟨hl,Fz,ad,ys,az,K',S0,g,kk⟩:=h;obtain⟨B,jb,hb⟩:=eG a6 A outer s H E rfl hr
 have hy:ys.length=ps.length:=by
  have:=S0.len;rw[nU] at this;rw[<-hl,this];show _=(ys.map some).length;rw[nU]
 refine⟨_,jb.kF,Fz,ad,⟨ys.map some++List.replicate (N.length-ps.length) none,az.map some⟩,jQ az.length K',by rw[<-hl];exact S0.start,hb ys az K' hy g,⟨fun δ' h F' aF σ' H' E' S'=>?_,fun δ' h=>h.elim,fun δ' h=>h.elim,fun y δ' h v F' aF σ' H' E' S' V=>?_,trivial⟩⟩
 ·exact uz (σ':=σ') S0 E' S' (x:=.p .non) (v:=.non) rfl h kk
 ·exact uz (σ':=σ') S0 E' S' V h kk
section
variable{X:Cx}{params:Arguments}{body a e:Expr}{scope:Scope}{cu p1 p2 q1 q2 eE:Pos}{x:Str}{Nb:List Str}{cp:List (Option Nat)}{fb f:WE}{fa:WA}{T:Addr}
def zU(fa:WA)(cp:List (Option Nat))(fb:WE):WE:=fun δ K=>fa δ fun xs δ1=>match xs with
 |[.p (.int j)]=>(0<=j/\j<=60)/\sortBy cp fb δ1 (bp 0 j.toNat) fun out=>K (.o δ1.mu.length) ⟨δ1.sl,δ1.mu++[some (.lst out)]⟩
 |_=>False
theorem PS(L:dS X params body scope cu T x Nb cp fb)(hc:X.calm=true)(sI:Gl X "sorted")(hs:X.mg "sorted" = none)(sJ:bootBuiltins "sorted" = some (.builtin "sorted"))(i9:Gl X "range")(hr:X.mg "range" = none)(i_:bootBuiltins "range" = some (.type "range"))(ha:JA X [a] (bH fa))
  (he:starEach [a] X.env=[(false,eval a X.env)]) (M:aD->List D->Prop)
  {pins:av} {s:Shared} {σ:St} {H:Hp} {Q:VK} {F:Hp} {ad:List Addr} {δ:aD} (I:Inv X pins σ H s) (S:SR F ad δ σ H)
  (q:fa δ fun xs δ1=>match xs with
   |[.p (.int j)]=>(0<=j/\j<=60)/\sortBy cp fb δ1 (bp 0 j.toNat) (M δ1)
   |_=>False)
  (fin:∀δ1 out,M δ1 out->∀a F' aF H' us,Ext F ad δ.mu H F' aF δ1.mu H'->SR F' aF δ1 σ H'->H' a=none->ae F' out us->Q (.ref a) (upd H' a (.lst us))) :
  wpAny (model X.prog X.w) X.A (eval (.Call (.Name "sorted" p1) [.Call (.Name "range" p2) [a] [] q2] [⟨some "key",.Lambda params body scope cu,eE⟩] q1) X.env) (EP X pins σ Q) X.xe s:=by
 refine XS (kW I sI hs sJ ?_);refine callWith_kw ?_;refine aY ((g8 (kG yk i9 hr i_ ha (he:=he)) bx) q1 pins s σ H (fun vs H2=>∃(r:Addr)(j:Int)(F1:Hp)(aK:List Addr)(δ1:aD)(H1:Hp),vs=[.ref r]/\H2=upd H1 r (.rng 0 j)/\H1 r=none/\Ext F ad δ.mu H F1 aK δ1.mu H1/\SR F1 aK δ1 σ H1/\(0<=j/\j<=60)/\sortBy cp fb δ1 (bp 0 j.toNat) (M δ1)) I ?_) fun us s1 zV=>?_
 ·refine⟨F,ad,δ,_,S,q,fun xs δ1 h1 vs F1 aK H1 E1 S1 V1=>?_⟩
  split at h1
  ·rename_i j
   obtain⟨v,r,e,W1,W2⟩:=V1;have W2:r=[]:=W2;have W1:v=.int j:=W1;subst W2 W1 e;exact⟨j,rfl,fun rr rW=>⟨rr,j,F1,aK,δ1,H1,rfl,rfl,rW,E1,S1,h1.1,h1.2⟩⟩
  ·exact h1.elim
 ·obtain⟨vs,H2,I2,r2,r,j,F1,aK,δ1,H1,ev,eH,PT,E1,S1,hj,ve⟩:=zV
  subst ev eH;obtain⟨u,rfl,rx⟩:=vals1 r2;cases rx
  have sm:aE H1 (upd H1 r (.rng 0 j)):=cz PT;have S2:=S1.al sm;have E2:=Ext.al S1 sm;obtain⟨n,rfl⟩:∃n:Nat,j=n:=⟨j.toNat,by omega⟩;rw[Vx,jW] at ve;refine PQ L I2 S2 (ds:=(aI n).map D.int) (xs:=(aI n).map V.int) mJ (fun s' H' I' kp Q' hQ=>?_) ?_
  ·have PU:H' r=some (.rng 0 (n:Int)):=kp r _ bE fun t=>by
    obtain⟨ps,z⟩:=aH.tb S2.tab t;rw[bE] at z;cases z
   obtain⟨t,u,v,e⟩:=(show ∃t u v,s'.heap.get? r=some {cls:=.type "range",data:=.fields #[.int 0 t,.int (n:Int) u,.int 1 v]} from I'.aM r _ PU);have hsz:Builtin.Range.rangeSize 0 (n:Int) 1=n:=by rw[rangeSize_one];split<;>omega
   refine PG (n:=n) (by rw[XU];exact I'.ok.hd hc) e (small_one (by omega) (by omega) (by omega) (by omega)) hsz (by omega) fun h' tk acc PV it=>hQ h' tk _ PV ?_;refine ym ?_ fun i u e=>?_
   ·rw[Uk,it.1,aI,nU,Wg]
   ·rw[VT] at e
    obtain⟨t',e2⟩:=it.2 i u e;have hi:i<n:=by rw[<-it.1];exact(X0.mp e).1
    refine⟨t',e2.trans ?_⟩;rw[aI,C6,Lq,W0 hi];show Value.int (0+(i:Int)*1) t'=Value.int (i:Int) t';rw[ZQ,Int.mul_one]
  ·obtain⟨mE,key,hk,hK⟩:=ve
   exact⟨mE,key,hk,fun out pm pw a F' H' us E' S' hn is=>fin δ1 out (hK out pm pw) a F' aK H' us ((E1.trans E2).trans E') S' hn is⟩
theorem PW(L:dS X params body scope cu T x Nb cp fb)(hc:X.calm=true)(sI:Gl X "sorted")(hs:X.mg "sorted" = none)(sJ:bootBuiltins "sorted" = some (.builtin "sorted"))(i9:Gl X "range")(hr:X.mg "range" = none)(i_:bootBuiltins "range" = some (.type "range"))(ha:JA X [a] (bH fa))
  (he:starEach [a] X.env=[(false,eval a X.env)]:=by rfl):JE X (.Call (.Name "sorted" p1) [.Call (.Name "range" p2) [a] [] q2] [⟨some "key",.Lambda params body scope cu,eE⟩] q1) (tD (zU fa cp fb)) :=
 ⟨fun pins s σ H Q I h0_=>el7 h0_ fun F ad δ K S q k =>PS L hc sI hs sJ i9 hr i_ ha he (fun δ1 out=>K (.o δ1.mu.length) ⟨δ1.sl,δ1.mu++[some (OV.lst out)]⟩) I S q fun δ1 out hM a F' aF H' us E' S' hn is=>by
  have oi:dY F' (.lst out) (.lst us):=⟨us,rfl,is⟩
  exact k _ _ hM _ _ _ _ (E'.trans (Ext.own S' hn)) (S'.own hn oi) (uS S')⟩
end
end L2
namespace L2
open PySem PySem.Spec PyProof.Rows PySem.W
section
variable{prog:Program}{w:World}{A:Around}{E:aP}{s:Shared}{Q:Bool->Shared->Prop}
end
section
variable{X:Cx}{pins:av}{σ:St}{H:Hp}{s:Shared}{A:Around}{E:aP}{a:Addr}{vs:List Value}{ks:List LK}{κ:SortKind}
end
section
variable[aH]{X:Cx}
end
end L2
namespace LJ
open PySem L2 PySem.W
theorem PX{ls:List j5}{b:Addr}{ps:Array Value}:(ls.map fun l=>(l.T,(#[]:Array Value))).lookup b=some ps->(∃l∈ls,l.T=b)/\ps = #[]:=by
 induction ls with
 |nil=>intro h;cases h
 |cons l ls ih =>
  intro h;rw[VM,VP] at h
  cases q:b==l.T with
  |true =>
   rw[q] at h;exact⟨⟨l,My,(W7 q).symm⟩,(VY h).symm⟩
  |false =>
   rw[q] at h;obtain⟨⟨l',h1,h2⟩,h3⟩:=ih h;exact⟨⟨l',C5 _ h1,h2⟩,h3⟩
theorem zW{ls:List j5}{l:j5}(h:l∈ls):(ls.map fun l=>(l.T,(#[]:Array Value))).lookup l.T=some #[]:=by
 induction ls with
 |nil=>cases h
 |cons l' ls ih =>
  rw[VM,VP]
  cases q:l.T==l'.T with
  |true=>rfl
  |false =>
   rcases Lp.mp h with rfl|h
   ·simp at q
   ·exact ih h
theorem PY{l:OpenLaw}{q:Program}{loose:List Str}{XP:(Str->Option Value)->Heap->Prop}{d:DefRec}{K:Params->Frag}{as:List Addr}{e:∀P,as=(K P).map (·.1)}{ts:List Addr}{kk:Nat}(ls:List j5)(PZ:ls.map (·.T)=ts)(hn:l.most=some 63)(qX:d.params.defaults=[])(hr:a7 kk callerA)
  (fN:∀(w:World)(h:Heap),(K w.params).In h->∀t∈ls,∃cc,CodeHd h cc t.T) (P0:∀P,noTabs (K P)=true)
  (F:∀(w:World)(mg:Str->Option Value)(fa:Addr)(h:Heap),(K w.params).In h->h.Ns mainGlobals mg->mg d.name=some (.ref fa) →
   ∃fd:FuncData,(∀(s:Shared)(u:Value),BindsTo s fd ⟨[u],[]⟩ [("script",u)])/\∀base:Heap,(K w.params).In base->base.Ns mainGlobals mg->(∀t∈ls,base.BuiltinsAt mg t.T)->cV l.prog w (K w.params) mg base gn kk fa fd ["script"] (@u_ (lU ls) (K w.params))) :
  WalkO q loose XP (kmHook K as e ts).says l.row.toRowW d [] (fun f vs=>PySem.call f vs) :=
 L2.Pn (n:=63) (k:=kk) (x:="script") (K:=fun w=>K w.params) (CX:=fun _=>gn) (sp:=fun w=>@u_ (lU ls) (K w.params)) (Ts:=fun _=>ls.map fun l=>(l.T,#[])) hn (by decide) qX hr (fun w h Y=>km_in_of Y)
  (fun w h Y b ps hl=>by
   obtain⟨⟨t,ht,rfl⟩,rfl⟩:=PX hl;have e1:h.get? t.T=some (tabObj #[]):=km_tabs_of Y t.T (by rw[<-PZ];exact WQ ht);refine⟨e1,?_,?_⟩
   ·obtain⟨cc,o,vs,_,_,_,_,_,_,_,c1,c2,c3,c4,_⟩:=fN w h (km_in_of Y) t ht
    exact⟨cc,o,vs,c1,c2,c3,c4⟩
   ·cases z:(K w.params).lookup t.T with
    |none=>rfl
    |some o =>
     have e2:=km_in_of Y t.T o z;rw[e1] at e2;cases e2;have h2:=WL.mp (P0 w.params) (t.T,tabObj #[]) (mem_of_lookupK z)
     exact absurd (show false=true from h2) VC)
  (fun w mg fa h KX G lh=>by
   obtain⟨fd,hb,hF⟩:=F w mg fa h KX G lh
   exact⟨fd,hb,fun base k1 k2 k3=>hF base k1 k2 fun t ht=>k3 t.T #[] (zW ht)⟩)
  (fun w H a ns hl hO hS=>by
   letI:aH:=lU ls;refine⟨a,ns,rfl,hS,hl,fun t ht=>?_,fun _=>rfl⟩;rcases hO t.T with⟨ps,z1,z2⟩|⟨z1,_⟩
   ·rw[zW ht] at z1;cases z1
    exact⟨#[],z2,trivial,.inl rfl⟩
   ·rw[zW ht] at z1;cases z1)
  fun _ _ _ _ _ z=>z
end LJ
namespace LJ
open PySem L2
variable[aH]
def vf:GD:=fun ys az K=>∃(m:Int)(ws:List (Int×Int×Int)),ax m ws/\ys=[.p (aA m ws)]/\az=[]/\K (.p .non) []
def zX:WS:=(aR (dm (dT (aq 1 zA (aj (aa 0) af)))) uv bK)
theorem P7:Sem 1 0 vf zX:=by
 rintro ys az K'-⟨m,ws,W,rfl,rfl,k⟩;unfold zX;simp? only [];refine⟨m,ws,W,rfl,rfl,?_⟩;simp? only [];exact bq k
def sL:GD:=fun ys az K=>∃y:Int×Int×Int,ys=[.p (a5 y)]/\az=[]/\K (.p (.tup [.int y.2.2,.int y.1,.int y.2.1])) []
def zY:WS:=(aC (cm (aj (d2 (aa 0) (dC (.int 2)) aG) (aj (d2 (aa 0) (dC (.int 0)) aG) (aj (d2 (aa 0) (dC (.int 1)) aG) af)))))
theorem P8:Sem 1 0 sL zY:=by
 rintro ys az K'-⟨y,rfl,rfl,k⟩;unfold zY;simp? only [a5,cQ,cG,at2];exact bq k
noncomputable def cH(ws:List (Int×Int×Int))(n:Int):LK:=[(ws.getD n.toNat (0,0,0)).2.2,(ws.getD n.toNat (0,0,0)).1,(ws.getD n.toNat (0,0,0)).2.1]
structure bB(ws:List (Int×Int×Int))(ns:List Int):Prop where
 perm:ns.Perm (aI ws.length)
 up:(ns.map (cH ws)).Pairwise kle
theorem bB.nums{ws:List (Int×Int×Int)}{ns:List Int}(h:bB ws ns):Nums ws ns:=fun n hn=>Pe (h.perm.mem_iff.mp hn)
theorem bB.len{ws:List (Int×Int×Int)}{ns:List Int}(h:bB ws ns):ns.length=ws.length:=by rw[h.perm.length_eq];unfold aI;simp
theorem sM{m:Int}{ws:List (Int×Int×Int)}(W:ax m ws){a b:Int}(ha:0<=a/\a<(ws.length:Int))(hb:0<=b/\b<(ws.length:Int))(e:cH ws a=cH ws b):a=b:=by
 obtain⟨i,rfl⟩:∃i:Nat,a=i:=⟨a.toNat,by omega⟩;obtain⟨j,rfl⟩:∃j:Nat,b=j:=⟨b.toNat,by omega⟩;have hi:i<ws.length:=by omega
 have hj:j<ws.length:=by omega
 unfold cH at e;rw[Vx,Vx,C6,nR hi,C6,nR hj] at e;simp only[Option.getD_some,List.cons.injEq,and_true] at e
 have q:(ws.map fun y=>(y.1,y.2.1))[i]'(by rw[nU];exact hi)=(ws.map fun y=>(y.1,y.2.1))[j]'(by rw[nU];exact hj):=by
  rw[Ya,Ya,e.2.1,e.2.2]
 have:=(YO W.unlike).mp q;rw[this]
theorem P9{out:List D}{l:List Int}(h:out.Perm (l.map D.int)):∃ns:List Int,out=ns.map D.int/\ns.Perm l:=by
 refine⟨out.map fun d=>match d with
  |.int n=>n
  |_=>0,?_,?_⟩
 ·rw[VH]
  refine(WV out).symm.trans (W5 fun d hd=>?_);obtain⟨n,_,rfl⟩:=Lm.mp (h.mem_iff.mp hd);rfl
 ·have:=h.map fun d=>match d with
   |.int n=>n
   |_=>0
  rw[VH] at this;exact this.trans (List.Perm.of_eq ((W5 fun n _=>rfl).trans (WV l)))
def zZ:GD:=fun ys az K=>∃(m:Int)(ws:List (Int×Int×Int)),ax m ws/\ys=[.p (aA m ws)]/\az=[]/\∀ns,bB ws ns->K (.n (ns.map D.int)) []
def z0:WS:=(ak (i5 (aq 1 vf (aj (aa 0) af))) (ak (ay 1 (d2 (aa 0) (dC (.int 1)) aG)) (aC (zU (aj (dN (aj (aa 1) af) bz) af) [some 1] (aq 1 sL (aj (d2 (aa 1) (aa 0) aG) af))))))
theorem P_:Sem 1 1 zZ z0:=by
 rintro ys az K'-⟨m,ws,W,rfl,rfl,k⟩;have jZ:=W.gu;unfold z0;refine aJ fun N hN=>?_;simp? only [];refine⟨m,ws,W,rfl,rfl,?_⟩;simp? only [];subst hN;refine aJ fun N hN=>?_;simp? only [cG,aA];subst hN;simp? only [zU]
 refine⟨⟨by omega,by omega⟩,by rw[hW];omega,fun d=>match d with
  |.int n=>cH ws n
  |_=>[],fun d hd=>?_,fun out pm pw=>?_⟩
 ·obtain⟨i,hi⟩:=Uq.mp hd
  obtain⟨hi,rfl⟩:=iF hi;have e0:(0+(i:Int))=i:=by omega
  rw[e0];obtain⟨y,ey,hy,ea,_⟩:=lQ W (n:=(i:Int)) (by omega) (by omega);refine⟨(by intro z;cases z),?_⟩;simp? only [ea];refine⟨y,rfl,rfl,?_⟩;simp? only [];unfold cH;rw[ey];rfl
 ·rw[Vx,jW] at pm
  obtain⟨ns,rfl,pn⟩:=P9 pm;refine⟨[],rfl,rfl,.inl (k ns ⟨pn,?_⟩)⟩;rw[VH] at pw;exact pw
end LJ
namespace L2
open PySem PySem.Spec PyProof.Rows
variable[aH]
noncomputable def bj(ah:List (Key×D))(k:Key):Option D:=(ah.find? fun kv=>decide (kv.1=k)).map (·.2)
noncomputable def putD(ah:List (Key×D))(k:Key)(d:D):List (Key×D) :=
 if(ah.any fun kv=>decide (kv.1=k))=true then ah.map (fun kv=>if kv.1=k then(kv.1,d) else kv) else ah++[(k,d)]
theorem eI.val{F:Hp}(k:Key):∀{fg:List (Key×D)}{ws:List (Key×V)},eI F fg ws->(bj fg k=none/\di ws k=none)\/∃d v,bj fg k=some d/\di ws k=some v/\Is F d v
 |[],_,h=>by have h:_=[]:=h;subst h;exact .inl ⟨rfl,rfl⟩
 |kd::r,_,⟨v,t,e,h1,h2⟩=>by
  subst e
  by_cases c:kd.1=k
  ·refine .inr ⟨kd.2,v,?_,ue c,h1⟩
   unfold bj;rw[List.find?_cons_of_pos (by simpa using c)];rfl
  ·rw[uf c]
   have e:bj (kd::r) k=bj r k:=by unfold bj;rw[List.find?_cons_of_neg (by simpa using c)]
   rw[e];exact eI.val k h2
theorem eI.length{F:Hp}:∀{fg:List (Key×D)}{ws:List (Key×V)},eI F fg ws->ws.length=fg.length
 |[],_,h=>by have h:_=[]:=h;subst h;rfl
 |kd::r,_,⟨v,t,e,h1,h2⟩=>by subst e;rw[Lk,Lk,h2.length]
theorem eI.any{F:Hp}(k:Key):∀{fg:List (Key×D)}{ws:List (Key×V)},eI F fg ws->(ws.any fun kv=>decide (kv.1=k))=fg.any fun kv=>decide (kv.1=k)
 |[],_,h=>by have h:_=[]:=h;subst h;rfl
 |kd::r,_,⟨v,t,e,h1,h2⟩=>by subst e;rw[Xw,Xw,h2.any k]
theorem eI.g9{F:Hp}(k:Key){d:D}{v:V}(hd:Is F d v):∀{fg:List (Key×D)}{ws:List (Key×V)},eI F fg ws->eI F (fg.map fun kv=>if kv.1=k then(kv.1,d) else kv) (ws.map fun kv=>if kv.1=k then(kv.1,v) else kv)
 |[],_,h=>by have h:_=[]:=h;subst h;rfl
 |kd::r,_,⟨u,t,e,h1,h2⟩=>by
  subst e
  by_cases c:kd.1=k
  ·rw[VM,VM,VB c,VB c]
   exact⟨v,_,rfl,hd,h2.g9 k hd⟩
  ·rw[VM,VM,Uo c,Uo c]
   exact⟨u,_,rfl,h1,h2.g9 k hd⟩
theorem eI.snoc{F:Hp}{k:Key}{d:D}{v:V}(hd:Is F d v):∀{fg:List (Key×D)}{ws:List (Key×V)},eI F fg ws->eI F (fg++[(k,d)]) (ws++[(k,v)])
 |[],_,h=>by have h:_=[]:=h;subst h;exact⟨v,[],rfl,hd,rfl⟩
 |kd::r,_,⟨u,t,e,h1,h2⟩=>by subst e;exact⟨u,_,rfl,h1,h2.snoc hd⟩
theorem eI.put{F:Hp}{fg:List (Key×D)}{ws:List (Key×V)}{k:Key}{d:D}{v:V}(h:eI F fg ws)(hd:Is F d v):eI F (putD fg k d) (putK ws k v):=by
 unfold putD putK;rw[h.any k];split
 ·exact h.g9 k hd
 ·exact h.snoc hd
def dJ(x:DV)(δ:aD)(K:Nat->List (Key×D)->Prop):Prop:=match x with
 |.o k=>match δ.mu[k]? with
  |some (some (.dct ah))=>K k ah
  |_=>False
 |_=>False
theorem p9{F H:Hp}{ad:List Addr}{δ:aD}{σ:St}{x:DV}{v:V}{K:Nat->List (Key×D)->Prop}(S:SR F ad δ σ H)(V1:eN F ad x v)(h:dJ x δ K):∃k ah a ws,x=.o k/\K k ah/\v=.ref a/\ad[k]?=some a/\H a=some (.dK ws)/\eI F ah ws/\δ.mu[k]?=some (some (.dct ah)):=by
 unfold dJ at h;split at h
 ·rename_i k
  split at h
  ·rename_i ah e
   obtain⟨a,e1,rfl⟩:=V1;obtain⟨a',o,e2,e3,ws,rfl,h4⟩:=S.mu k _ e;rw[e1] at e2;cases e2;exact⟨k,ah,a,ws,rfl,h,rfl,e1,e3,h4,e⟩
  ·exact h.elim
 ·exact h.elim
def d5(x:DV)(P:Int->Prop):Prop:=match x with
 |.p (.int i)=>P i
 |_=>False
theorem sN{F:Hp}{ad:List Addr}{x:DV}{v:V}{P:Int->Prop}(hv:eN F ad x v)(h:d5 x P):∃i,v=kV (.inl i)/\P i:=by
 unfold d5 at h;split at h
 ·rename_i i;exact⟨i,hv,h⟩
 ·exact h.elim
def j7(neg:Bool)(fi fo:WE):WE:=fun δ K=>fi δ fun x δ1=>fo δ1 fun y δ2=>d5 x fun i=>dJ y δ2 fun _ ah=>K (.p (.bl (neg != (bj ah (.inl i)).isSome))) δ2
def oR(fo fi:WE):WE:=fun δ K=>fo δ fun x δ1=>fi δ1 fun y δ2=>d5 y fun i=>dJ x δ2 fun _ ah=>match bj ah (.inl i) with
 |some d=>K (.p d) δ2
 |none=>False
def z4(fo fi fe:WE):WE:=fun δ K=>fo δ fun x δ1=>dJ x δ1 fun _ _=>fi δ1 fun y δ2=>fe δ2 fun z δ3=>d5 y fun i=>dJ x δ3 fun _ ah=>match bj ah (.inl i) with
 |some d=>K (.p d) δ3
 |none=>K z δ3
def vg(fv fo fi:WE):WS:=fun K δ=>fv δ fun z δ1=>fo δ1 fun x δ2=>fi δ2 fun y δ3=>jN z δ3 fun d δ4=>d5 y fun i=>dJ x δ4 fun k ah=>ah.length<1000/\K.nx ⟨δ4.sl,δ4.mu.set k (some (.dct (putD ah (.inl i) d)))⟩
def z5(fk fv:WE):WE:=fun δ K=>fk ⟨δ.sl,δ.mu++[some (.dct [])]⟩ fun x δ1=>fv δ1 fun y δ2=>jN y δ2 fun d δ3=>d5 x fun i=>dJ (.o δ.mu.length) δ3 fun _ ah=>ah=[]/\K (.o δ.mu.length) ⟨δ3.sl,δ3.mu.set δ.mu.length (some (.dct [(.inl i,d)]))⟩
section
variable{X:Cx}{o i e v:Expr}{fo fi fv fk fe:WE}{pos:Pos}
theorem Qa{neg:Bool}(td:TE)(hn:∀σ H (Q:VK),(tD fi σ H fun y H1=>tD fo σ H1 fun x H2=>∃a o,x=.ref a/\dH H2 a y o/\Q (.bl (neg != o.isSome)) H2)->td σ H Q):∀σ H Q,tD (j7 neg fi fo) σ H Q->td σ H Q:=fun σ H Q h0_=>el7 h0_ fun F ad δ K S q k =>hn σ H Q ⟨F,ad,δ,_,S,q,fun x δ1 h1 v F1 aK H1 E1 S1 V1=>⟨F1,aK,δ1,_,S1,h1,fun y δ2 h2 u F2 bo H2 E2 S2 V2=>by
  obtain⟨i,rfl,h3⟩:=sN (V1.ext E2) h2;obtain⟨k0,ah,a,ws,rfl,h4,rfl,e1,e2,i1,m1⟩:=p9 S2 V2 h3;refine⟨a,_,rfl,dH.k e2,?_⟩
  have es:(di ws (Sum.inl i:Key)).isSome=(bj ah (.inl i)).isSome:=by
   rcases i1.val (.inl i) with⟨z1,z2⟩|⟨d,v,z1,z2,_⟩
   ·rw[z1,z2];rfl
   ·rw[z1,z2];rfl
  rw[es]
  exact k _ _ h4 _ _ _ _ (E1.trans E2) S2 rfl⟩⟩
theorem Qb{t:TE}{f:WE}(h:∀σ H Q,tD f σ H Q->t σ H Q):∀σ H Q,b8 (dT f) σ H Q->tB t σ H Q:=fun σ H Q h0_=>el7 h0_ fun F ad δ K S q k =>h σ H _ ⟨F,ad,δ,_,S,q,fun x δ1 h1 v F1 aK H1 E1 S1 V1=>by
  obtain⟨b,rfl,h2⟩:=rJ V1 h1
  exact⟨b,rfl,k _ _ h2 _ _ _ E1 S1⟩⟩
theorem Qc(hu:X.A.units+64<cLine)(hi:JE X i (tD fi))(ho:JE X o (tD fo))(hm:behindInMarks .NotIn o=false:=by rfl):JT X (.Compare i [.NotIn] [o] pos) (b8 (dT (j7 true fi fo))) :=
 (Jx (Mc (by omega) hi ho) hm).weak (Qb (Qa (Dv (tD fi) (tD fo)) fun σ H Q h=>by simp only[Bool.true_bne] at h;exact h))
theorem Qd(hu:X.A.units+64<cLine)(ho:JE X o (tD fo))(hi:JE X i (tD fi))(hs:n5 i:=by intro _ _;rfl):JE X (.Subscript o i pos) (tD (oR fo fi)) :=
 (Mb (by omega) ho hi hs).weak fun σ H Q h0_=>el7 h0_ fun F ad δ K S q k =>⟨F,ad,δ,_,S,q,fun x δ1 h1 v F1 aK H1 E1 S1 V1=>⟨F1,aK,δ1,_,S1,h1,fun y δ2 h2 u F2 bo H2 E2 S2 V2=>by
  obtain⟨i,rfl,h3⟩:=sN V2 h2;obtain⟨k0,ah,a,ws,rfl,h4,rfl,e1,e2,i1,m1⟩:=p9 S2 (V1.ext E2) h3;rcases i1.val (.inl i) with⟨z1,z2⟩|⟨d,v,z1,z2,z3⟩
  ·rw[z1] at h4;exact h4.elim
  ·rw[z1] at h4
   exact⟨a,v,rfl,by rw[<-z2];exact dH.k e2,k _ _ h4 _ _ _ _ (E1.trans E2) S2 z3⟩⟩⟩
theorem Qe{apos:Pos}(hu:X.A.units+64<cLine)(ho:JE X o (tD fo))(hi:JE X i (tD fi))(he:JE X e (tD fe))(m:M2 X o "get" apos i e pos:=by exact⟨rfl,rfl,rfl,rfl⟩):JE X (.Call (.Attribute o "get" apos) [i,e] [] pos) (tD (z4 fo fi fe)) :=
 (Mo (by omega) ho hi he m).weak fun σ H Q h0_=>el7 h0_ fun F ad δ K S q k =>⟨F,ad,δ,_,S,q,fun x δ1 h1 v F1 aK H1 E1 S1 V1=>by
  obtain⟨k0,ah,a,ws,rfl,h2,rfl,e1,e2,i1,m1⟩:=p9 S1 V1 h1;refine⟨a,rfl,.inl ⟨ws,.inl e2⟩,F1,aK,δ1,_,S1,h2,fun y δ2 h3 u F2 bo H2 E2 S2 V2=>⟨F2,bo,δ2,_,S2,h3,fun z δ3 h4 w F3 oq H3 E3 S3 V3=>?_⟩⟩;obtain⟨i,rfl,h5⟩:=sN V2 h4;obtain⟨k1,bJ,b,UM,ek,h6,eb,f1,f2,j1,n1⟩:=p9 S3 ((V1.ext E2).ext E3) h5;cases ek
  cases eb
  refine⟨_,dH.k f2,?_⟩;rcases j1.val (.inl i) with⟨z1,z2⟩|⟨d,v,z1,z2,z3⟩
  ·rw[z1] at h6
   rw[z2];exact k _ _ h6 _ _ _ _ ((E1.trans E2).trans E3) S3 V3
  ·rw[z1] at h6
   rw[z2]
   exact k _ _ h6 _ _ _ _ ((E1.trans E2).trans E3) S3 z3⟩
theorem Qf[i0]{pos':Pos}(hu:X.A.units+64<cLine)(ho:JE X o (tD fo))(hi:JE X i (tD fi))(hv:JE X v (tD fv))(hs:swapsWith v (some (.Subscript o i pos')) pos.line X.env=pure false:=by rfl):JS X (.Assign [.Subscript o i pos'] v pos) (cY (vg fv fo fi)) :=
 (Md (by omega) ho hi hv hs).weak fun D σ H h0_=>el7 h0_ fun F ad δ K S q k =>⟨F,ad,δ,_,S,q,fun z δ1 h1 w F1 aK H1 E1 S1 V1=>⟨F1,aK,δ1,_,S1,h1,fun x δ2 h2 u F2 bo H2 E2 S2 V2=>⟨F2,bo,δ2,_,S2,h2,fun y δ3 h3 t F3 oq H3 E3 S3 V3=>by
  obtain⟨d,δ4,F4,h4,E4,S4,i4⟩:=oe S3 ((V1.ext E2).ext E3) h3;obtain⟨i,rfl,h5⟩:=sN V3 h4;obtain⟨k0,ah,a,ws,rfl,h6,rfl,e1,e2,i1,m1⟩:=p9 S4 ((V2.ext E3).ext E4) h5;have oi:dY F4 (.dct (putD ah (.inl i) d)) (.dK (putK ws (.inl i) w)):=⟨_,rfl,i1.put i4⟩;refine⟨a,_,rfl,jK.k e2 (nW (by rw[i1.length];exact WZ h6.1)),?_⟩
  exact k.nx _ h6.2 _ _ _ _ ((((E1.trans E2).trans E3).trans E4).trans (Ext.put S4 m1 e1)) (S4.put m1 e1 oi)⟩⟩⟩
theorem Qg(hk:JE X i (tD fk))(hv:JE X v (tD fv)):JE X (.Dict [some i] [v] pos) (tD (z5 fk fv)) :=
 (Mi (Mg hk hv Mf) rfl rfl (by simp) (by simp)).weak fun σ H Q ⟨F,ad,δ,K,S,q,k⟩ p hp=>by
  have oi:dY F (.dct []) (.dK []):=⟨[],rfl,rfl⟩;have lp:(ad++[p])[δ.mu.length]?=some p:=by rw[<-S.bY,VF (ua _),Wr];rfl
  refine⟨F,ad++[p],_,_,S.own hp oi,q,fun x δ1 h1 u F1 aK H1 E1 S1 V1=>⟨F1,aK,δ1,_,S1,h1,fun y δ2 h2 w F2 bo H2 E2 S2 V2=>?_⟩⟩;obtain⟨d,δ3,F3,h3,E3,S3,i3⟩:=oe S2 V2 h2;obtain⟨i,rfl,h4⟩:=sN V1 h3;have z6:=(E1.trans E2).trans E3;have Vp:eN F3 bo (.o δ.mu.length) (.ref p):=⟨p,z6.pre _ _ lp,rfl⟩;obtain⟨k0,ah,a,ws,ek,⟨h5,h6⟩,ea,e1,e2,i1,m1⟩:=p9 S3 Vp h4;cases ek
  cases ea
  subst h5;have Qh:ws=[]:=i1;subst Qh;have oj:dY F3 (.dct [(.inl i,d)]) (.dK [((Sum.inl i:Key),w)]):=⟨_,rfl,w,[],rfl,i3,rfl⟩;refine⟨e2,[(.inl i,w)],rfl,by simp,?_⟩;exact k _ _ h6 _ _ _ _ (((Ext.own S hp).trans z6).trans (Ext.put S3 m1 e1)) (S3.put m1 e1 oj) ⟨p,z6.pre _ _ lp,rfl⟩
end
def lV(δ0:aD)(t:WT)(b:WS)(K:KS):Nat->aD->Prop
 |0,_=>False
 |n+1,δ=>t δ fun bb δ1=>if bb=true then b {nx:=fun δ2=>lV δ0 t b K n (δ0.trim δ2),ct:=fun δ2=>lV δ0 t b K n (δ0.trim δ2),bk:=K.nx,rt:=K.rt} δ1 else K.nx δ1
def Fj(t:WT)(b:WS):WS:=fun K δ=>∃n,lV δ t b K n δ
theorem Qi[i0]{X:Cx}{c:Expr}{body:List Stmt}{t:WT}{b:WS}{pos:Pos}(hp:PassesOwn (model X.prog X.w) X.A X.env X.xe)(hc:JT X c (b8 t))(hb:cM X body (cY b)):JS X (.While c body [] pos) (cY (Fj t b)) :=
 (J0 hp hc hb).weak fun D σ H ⟨F,ad,δ,K,S,⟨n,q⟩,k⟩=>by
 refine⟨fun m σ' H'=>∃F' aF δ',Ext F ad δ.mu H F' aF δ'.mu H'/\SR F' aF δ' σ' H'/\lV δ t b K m δ',⟨n,F,ad,δ,.refl,S,q⟩,?_⟩;rintro m σ' H' ⟨F',aF,δ',E',S',h⟩
 cases m with
 |zero=>exact h.elim
 |succ m =>
  refine⟨F',aF,δ',_,S',h,fun bb δ1 h1 F1 aK H1 E1 S1=>?_⟩;have E2:=E'.trans E1
  cases bb with
  |false =>
   dsimp only at h1 ⊢;rw[Uo VC] at h1 ⊢;exact k.nx _ h1 _ _ _ _ E2 S1
  |true =>
   dsimp only at h1 ⊢;rw[VB rfl] at h1 ⊢;refine⟨fun σ2 H2=>∃F2 bo δ2,Ext F ad δ.mu H F2 bo δ2.mu H2/\SR F2 bo δ2 σ2 H2/\lV δ t b K m δ2,fun σ2 H2 ⟨F2,bo,δ2,e1,e2,e3⟩=>⟨m,by omega,F2,bo,δ2,e1,e2,e3⟩,?_⟩;refine⟨F1,aK,δ1,_,S1,h1,⟨fun δ2 h2 F2 bo σ2 H2 X2 S2=>⟨F2,_,_,(E2.trans X2).trim S.bY,S2.trim,h2⟩,k.nx.ext E2,fun δ2 h2 F2 bo σ2 H2 X2 S2=>⟨F2,_,_,(E2.trans X2).trim S.bY,S2.trim,h2⟩,(k.ext E2).rt,(k.ext E2).kp⟩⟩
end L2
namespace LJ
open PySem L2
variable[aH]
theorem z7{ah:List (Key×D)}{k l:Key}{d:D}(h:bj ah k=none):bj (putD ah k d) l=if l=k then some d else bj ah l:=by
 have na:(ah.any fun kv=>decide (kv.1=k))=false:=by
  cases q:ah.any fun kv=>decide (kv.1=k) with
  |false=>rfl
  |true =>
   obtain⟨kv,h1,h2⟩:=Yb.mp q;unfold bj at h;rw[Option.map_eq_none_iff] at h;exact absurd h2 (List.find?_eq_none.mp h kv h1)
 unfold putD;rw[na,Uo VC];unfold bj;rw[List.find?_append]
 cases q:ah.find? fun kv=>decide (kv.1=l) with
 |some kv =>
  have e:=ZT q;have e:kv.1=l:=by simpa using e
  rw[Uo]
  ·rfl
  ·intro z
   subst z;have hm:=List.mem_of_find?_eq_some q;have:=Xs.mp na kv hm;exact this (by simpa using e)
 |none =>
  by_cases c:l=k
  ·subst c
   rw[VB rfl];simp
  ·rw[Uo c]
   simp[show ¬ k=l from fun z=>c z.symm]
end LJ
namespace L2
open PySem PySem.Spec PyProof.Rows PySem.W
section
open PySem.SeqAt
open PySem.AutoSeq1 (wpAny_loadPart')
open PySem.MeetsSeq PySem.MeetsSeq2 PySem.MeetsSeq3
end
section
variable{prog:Program}{w:World}{A:Around}{E:aP}{s:Shared}{Q:Bool->Shared->Prop}
end
section
variable[aH]{X:Cx}
end
end L2
namespace LJ
open PySem L2
noncomputable def z8(g:List (Int×List Int))(x h:Int):List (Int×List Int):=if x∈g.map (·.1) then g.map (fun e=>if e.1=x then(e.1,e.2++[h]) else e) else g++[(x,[h])]
noncomputable def je(fs:List Int):Nat->List (Int×List Int)
 |0=>[]
 |i+1=>z8 (je fs i) (fs.getD i 0) i
variable[aH]
end LJ
namespace L2
open PySem
variable[aH]
noncomputable def wt(δ:aD):aD:=⟨δ.sl,δ.mu.map fun _=>none⟩
section
variable{F F' H H':Hp}{ad aF:List Addr}{δ δ':aD}{σ σ':St}
end
section
variable{X:Cx}{UN kQ jj o_:Stmt}{i n:Nat}{G:GD}{fa:WA}{t:WT}{B:TS}{E:XK}
end
end L2
namespace LJ
open PySem L2
variable[aH]
noncomputable def vh(p q:Int)(fs:List Int):List Int:=fs.map fun x=>if x=p then q else x
theorem Qj{p q x y:Int}:(if x=p then q else x)=(if y=p then q else y)↔x=y\/((x=p\/x=q)/\(y=p\/y=q)):=by
 by_cases h1:x=p<;>by_cases h2:y=p
 ·rw[VB h1,VB h2];constructor<;>intro h<;>omega
 ·rw[VB h1,Uo h2];constructor<;>intro h<;>omega
 ·rw[Uo h1,VB h2];constructor<;>intro h<;>omega
 ·rw[Uo h1,Uo h2];constructor<;>intro h<;>omega
theorem Fl{f:Int->Int}{fs:List Int}{i:Nat}(h:i<fs.length):(fs.map f).getD i 0=f (fs.getD i 0):=by
 rw[C6,Lq,nR h,C6,nR h];rfl
theorem Qk(fs:List Int)(i j:Nat):eS fs i j=vh (max (fs.getD i 0) (fs.getD j 0)) (min (fs.getD i 0) (fs.getD j 0)) fs:=rfl
theorem Ql(a b:Int):(max a b=a/\min a b=b)\/(max a b=b/\min a b=a):=by
 by_cases h:a<=b
 ·exact .inr ⟨ZF h,ZY h⟩
 ·exact .inl ⟨ZZ (by omega),ZG (by omega)⟩
noncomputable def j8(ws:List (Int×Int×Int))(st:List Int×List Int)(n:Int):List Int×List Int :=
 if st.2.getD (bA ws n).1 0=st.2.getD (bA ws n).2 0 then st else(st.1++[n],eS st.2 (bA ws n).1 (bA ws n).2)
noncomputable def fJ(ws:List (Int×Int×Int))(fs ns:List Int):List Int×List Int:=ns.foldl (j8 ws) ([],fs)
noncomputable def mR(m:Int)(ws:List (Int×Int×Int))(ns:List Int):List Int:=sortI (fJ ws (aI m.toNat) ns).1
theorem Qm(ws:List (Int×Int×Int))(st:List Int×List Int)(n:Int):(j8 ws st n).2.length=st.2.length:=by
 unfold j8;split
 ·rfl
 ·exact pW _ _ _
theorem z9(ws:List (Int×Int×Int)):∀(ns:List Int)(st:List Int×List Int),∃l,(ns.foldl (j8 ws) st).1=st.1++l/\l.Sublist ns/\(ns.foldl (j8 ws) st).2.length=st.2.length
 |[],st=>⟨[],by simp,.slnil,rfl⟩
 |n::r,st=>by
  obtain⟨l,h1,h2,h3⟩:=z9 ws r (j8 ws st n);rw[YS];rw[Qm] at h3;unfold j8 at h1 h3 ⊢;split at h1
  ·rename_i q
   rw[VB q] at h3 ⊢;exact⟨l,h1,h2.cons _,h3⟩
  ·rename_i q
   rw[Uo q] at h3 ⊢;exact⟨n::l,by rw[h1,Xi];rfl,h2.cons₂ _,h3⟩
theorem h9{a b:Int}:aB (.int a) (.int b)=decide (a=b):=by
 cases q:aB (.int a) (.int b)
 ·exact(C7 fun z=>by rw[z,kL] at q;cases q).symm
 ·simp only[aB] at q
  exact(Ln (W7 q)).symm
def z_:GD:=fun ys az K=>∃(m:Int)(ws:List (Int×Int×Int)),ax m ws/\ys=[.p (aA m ws)]/\az=[]/\∀ns,bB ws ns->K (.n ((mR m ws ns).map D.int)) []
def Aa:WS:=(ak (ay 1 (aq 1 zZ (aj (aa 0) af))) (ak (ay 2 (kJ af)) (ak (ay 3 (aq 2 oM (aj (aa 0) (aj (aa 2) af)))) (ak (cI (aZ (aa 1)) (aV 4) (ak (ay 5 (d2 (d2 (aa 0) (dC (.int 1)) aG) (aa 4) aG)) (aR (dT (d2 (d2 (aa 3) (d2 (aa 5) (dC (.int 0)) aG) aG) (d2 (aa 3) (d2 (aa 5) (dC (.int 1)) aG) aG) iG)) (ak (i5 (ft (aa 2) (aj (aa 4) af))) (ay 3 (aq 3 so (aj (aa 3) (aj (d2 (aa 5) (dC (.int 0)) aG) (aj (d2 (aa 5) (dC (.int 1)) aG) af)))))) bK))) (aC (uQ (aj (aa 2) af) uR))))))
theorem Qn:Sem 1 5 z_ Aa:=by
 rintro ys az K'-⟨m,ws,W,rfl,rfl,k⟩;have jZ:=W.gu;have m1:=W.m1;have dj:=W.dj;unfold Aa;refine aJ fun N hN=>?_;simp? only [];refine⟨m,ws,W,rfl,rfl,fun ns ho=>?_⟩;simp? only [];subst hN;refine aJ fun N hN=>?_;simp? only [];subst hN;refine aJ fun N hN=>?_;simp? only [];refine⟨m,ws,[],W,fun n hn=>absurd hn V9,.inr ⟨rfl,rfl,?_⟩⟩;simp? only [];subst hN;refine aJ fun N hN=>jX fun g' b' K2 hg hb' hK=>?_;simp? only [];subst hg hb' hK;have il:(aI m.toNat).length=m.toNat:=by unfold aI;simp
 have hlen:=ho.len
 have inv:∀i,(fJ ws (aI m.toNat) (ns.take i)).2.length=m.toNat/\(fJ ws (aI m.toNat) (ns.take i)).1.length<=30:=fun i=>by
  obtain⟨l,h1,h2,h3⟩:=z9 ws (ns.take i) ([],aI m.toNat);refine⟨h3.trans il,?_⟩;have:(fJ ws (aI m.toNat) (ns.take i)).1=l:=h1;rw[this];have:=h2.length_le;rw[We] at this;omega
 refine jx (fun i δ=>δ=⟨[some (.p (aA m ws)),some (.p (.lst (ns.map D.int))),some (.o 0),some (.p (aN (fJ ws (aI m.toNat) (ns.take i)).2)),none,none],[some (.lst ((fJ ws (aI m.toNat) (ns.take i)).1.map D.int))]⟩) rfl ?_ ?_
 ·rintro i d δ L hi rfl hL
  rw[Lq] at hi;obtain⟨n,Fm,rfl⟩:=Vz.mp hi;obtain⟨n0,n1⟩:=ho.nums n (V0 Fm);obtain⟨y,ey,hy,ea,a,b,e1,e2,h1,h2,_⟩:=lQ W n0 n1;have en:bA ws n=(a,b):=by unfold bA;rw[ey,e1,e2,Vx,Vx]
  obtain⟨hf,hl⟩:=inv i
  have step:fJ ws (aI m.toNat) (ns.take (i+1))=j8 ws (fJ ws (aI m.toNat) (ns.take i)) n:=by
   have:ns.take (i+1)=ns.take i++[n]:=by rw[XC,Fm];rfl
   rw[this];unfold fJ;rw[YD];rfl
  have j9:=hL _ rfl;rw[step] at j9;generalize fJ ws (aI m.toNat) (ns.take i)=st at hf hl j9;obtain⟨acc,fs⟩:=st;dsimp only at hf hl j9 ⊢;unfold j8 at j9;rw[en] at j9;dsimp only at j9;refine⟨trivial,?_⟩;simp only[aV,V6,V7];refine aJ fun N2 bR=>?_;simp? only [cG,aA,ea];subst bR;have a1:=iI (ns:=fs) (i:=a) (by omega);have a2:=iI (ns:=fs) (i:=b) (by omega);refine fF fun Ay Bn hA hB=>?_;simp? only [cQ,cG,a5,e1,e2,aN,a1,a2,h9]
  by_cases q:fs.getD a 0=fs.getD b 0
  ·rw[Ln q]
   simp? only [];subst hB;rw[VB q] at j9;simp? only [];exact j9
  ·rw[C7 q]
   simp? only [];subst hA;rw[Uo q] at j9;refine aJ fun N2 bR=>?_;simp? only [];refine⟨by omega,?_⟩;subst bR;simp? only [cQ,cG];refine⟨fs,a,b,rfl,rfl,by omega,by omega,by omega,?_⟩;simp? only [];rw[VI] at j9;exact j9
 ·rintro δ rfl
  refine⟨trivial,?_⟩;obtain⟨hf,hl⟩:=inv ns.length;rw[nU,WB (ua _)] at *;show N _;subst hN;simp? only [uR,oA];exact⟨by omega,[],rfl,rfl,.inl (k ns ho)⟩
end LJ
namespace LJ
open PySem L2
abbrev Wy:=Int×Int×Int
def vi(S:Wy->Prop)(a b:Int):Prop:=∃w,S w/\((w.1=a/\w.2.1=b)\/(w.1=b/\w.2.1=a))
inductive au (S:Wy->Prop) (a:Int):Int->Prop
 |rf:au S a a
 |st {b c:Int}:au S a b->vi S b c->au S a c
section
variable{S S':Wy->Prop}{a b c:Int}
theorem vi.symm(h:vi S a b):vi S b a:=let⟨w,h1,h2⟩:=h;⟨w,h1,h2.symm⟩
theorem au.trans(h:au S a b)(h':au S b c):au S a c:=by
 induction h' with
 |rf=>exact h
 |st _ e ih=>exact .st ih e
theorem au.symm(h:au S a b):au S b a:=by
 induction h with
 |rf=>exact .rf
 |st _ e ih=>exact(au.st .rf e.symm).trans ih
theorem au.bind(h:au S a b)(k:∀w,S w->au S' w.1 w.2.1):au S' a b:=by
 induction h with
 |rf=>exact .rf
 |st _ e ih =>
  obtain⟨w,h1,h2⟩:=e;rcases h2 with⟨rfl,rfl⟩|⟨rfl,rfl⟩
  ·exact ih.trans (k w h1)
  ·exact ih.trans (k w h1).symm
theorem au.one{w:Wy}(h:S w):au S w.1 w.2.1:=.st .rf ⟨w,h,.inl ⟨rfl,rfl⟩⟩
theorem au.mono(h:au S a b)(k:∀w,S w->S' w):au S' a b:=h.bind fun w hw=>.one (k w hw)
theorem au.none(h:au S a b)(k:∀w,¬ S w):a=b:=by
 cases h with
 |rf=>rfl
 |st _ e=>obtain⟨w,h1,_⟩:=e;exact absurd h1 (k w)
theorem au.add{w:Wy}(k:∀v,S' v↔S v\/v=w):au S' a b↔au S a b\/(au S a w.1/\au S w.2.1 b)\/(au S a w.2.1/\au S w.1 b):=by
 constructor
 ·intro h
  induction h with
  |rf=>exact .inl .rf
  |st _ e ih =>
   rename_i b c _;obtain⟨v,h1,h2⟩:=e;rcases(k v).mp h1 with h1|rfl
   ·have e':au S b c:=.st .rf ⟨v,h1,h2⟩
    rcases ih with i|⟨i,j⟩|⟨i,j⟩
    ·exact .inl (i.trans e')
    ·exact .inr (.inl ⟨i,j.trans e'⟩)
    ·exact .inr (.inr ⟨i,j.trans e'⟩)
   ·rcases h2 with⟨rfl,rfl⟩|⟨rfl,rfl⟩
    ·rcases ih with i|⟨i,j⟩|⟨i,j⟩
     ·exact .inr (.inl ⟨i,.rf⟩)
     ·exact .inr (.inl ⟨i,.rf⟩)
     ·exact .inl i
    ·rcases ih with i|⟨i,j⟩|⟨i,j⟩
     ·exact .inr (.inr ⟨i,.rf⟩)
     ·exact .inl i
     ·exact .inr (.inr ⟨i,.rf⟩)
 ·have up:∀{x y},au S x y->au S' x y:=fun h=>h.mono fun v hv=>(k v).mpr (.inl hv)
  have o:au S' w.1 w.2.1:=.one ((k w).mpr (.inr rfl));rintro(h|⟨h,h'⟩|⟨h,h'⟩)
  ·exact up h
  ·exact((up h).trans o).trans (up h')
  ·exact((up h).trans o.symm).trans (up h')
end
variable[aH]
def aX(n:Nat)(fs:List Int)(S:Wy->Prop):Prop:=fs.length=n/\∀i j:Nat,i<n->j<n->(fs.getD i 0=fs.getD j 0↔au S i j)
theorem Fp{n i:Nat}(h:i<n):(aI n).getD i 0=i:=by
 unfold aI;rw[C6,Lq,W0 h];rfl
theorem aX.start(n:Nat):aX n (aI n) (fun _=>False):=by
 refine⟨by unfold aI;simp,fun i j hi hj=>?_⟩;rw[Fp hi,Fp hj];exact⟨fun e=>by rw[e];exact .rf,fun h=>h.none fun _ z=>z⟩
theorem aX.join{n i j:Nat}{fs:List Int}{S S':Wy->Prop}{w:Wy}{p q:Int}(h:aX n fs S)(hi:i<n)(hj:j<n)(e1:w.1=i)(e2:w.2.1=j)(k:∀v,S' v↔S v\/v=w)(pq:(p=fs.getD i 0/\q=fs.getD j 0)\/(p=fs.getD j 0/\q=fs.getD i 0)):aX n (vh p q fs) S':=by
 refine⟨by unfold vh;rw[nU,h.1],fun x y hx hy=>?_⟩;unfold vh;rw[Fl (by rw[h.1];exact hx),Fl (by rw[h.1];exact hy),Qj,au.add k,e1,e2,<-h.2 x y hx hy,<-h.2 x i hx hi,<-h.2 x j hx hj,<-h.2 j y hj hy,<-h.2 i y hi hy];rcases pq with⟨rfl,rfl⟩|⟨rfl,rfl⟩
 ·constructor
  ·rintro(h|⟨h1|h1,h2|h2⟩)
   ·exact .inl h
   ·exact .inl (h1.trans h2.symm)
   ·exact .inr (.inl ⟨h1,h2.symm⟩)
   ·exact .inr (.inr ⟨h1,h2.symm⟩)
   ·exact .inl (h1.trans h2.symm)
  ·rintro(h|⟨h1,h2⟩|⟨h1,h2⟩)
   ·exact .inl h
   ·exact .inr ⟨.inl h1,.inr h2.symm⟩
   ·exact .inr ⟨.inr h1,.inl h2.symm⟩
 ·constructor
  ·rintro(h|⟨h1|h1,h2|h2⟩)
   ·exact .inl h
   ·exact .inl (h1.trans h2.symm)
   ·exact .inr (.inr ⟨h1,h2.symm⟩)
   ·exact .inr (.inl ⟨h1,h2.symm⟩)
   ·exact .inl (h1.trans h2.symm)
  ·rintro(h|⟨h1,h2⟩|⟨h1,h2⟩)
   ·exact .inl h
   ·exact .inr ⟨.inr h1,.inl h2.symm⟩
   ·exact .inr ⟨.inl h1,.inr h2.symm⟩
theorem aX.eY{n i j:Nat}{fs:List Int}{S S':Wy->Prop}{w:Wy}(h:aX n fs S)(hi:i<n)(hj:j<n)(e1:w.1=i)(e2:w.2.1=j)(k:∀v,S' v↔S v\/v=w)(e:fs.getD i 0=fs.getD j 0):aX n fs S':=by
 refine⟨h.1,fun x y hx hy=>(h.2 x y hx hy).trans ?_⟩;have ij:=(h.2 i j hi hj).mp e;rw[au.add k,e1,e2];exact⟨.inl,fun z=>z.elim id fun z=>z.elim (fun⟨a,b⟩=>(a.trans ij).trans b) fun⟨a,b⟩=>(a.trans ij.symm).trans b⟩
noncomputable def ag(ws:List Wy)(n:Int):Wy:=ws.getD n.toNat (0,0,0)
theorem Qo{m:Int}{ws:List Wy}(W:ax m ws):∀(ns:List Int),Nums ws ns->ns.Nodup->aX m.toNat (fJ ws (aI m.toNat) ns).2 (fun v=>∃k∈ns,v=ag ws k) ∧
  ∀n,n∈(fJ ws (aI m.toNat) ns).1↔∃as bs,ns=as++n::bs/\¬ au (fun v=>∃k∈as,v=ag ws k) (ag ws n).1 (ag ws n).2.1:=by
 intro ns
 have rev:∀(rs:List Int),Nums ws rs.reverse->rs.reverse.Nodup->aX m.toNat (fJ ws (aI m.toNat) rs.reverse).2 (fun v=>∃k∈rs.reverse,v=ag ws k) ∧
  ∀n,n∈(fJ ws (aI m.toNat) rs.reverse).1↔∃as bs,rs.reverse=as++n::bs/\¬ au (fun v=>∃k∈as,v=ag ws k) (ag ws n).1 (ag ws n).2.1:=by
  intro rs
  induction rs with
  |nil =>
   intro _ _;refine⟨?_,fun n=>⟨fun h=>absurd h V9,fun⟨as,bs,e,_⟩=>?_⟩⟩
   ·refine⟨(aX.start _).1,fun i j hi hj=>((aX.start _).2 i j hi hj).trans ⟨fun h=>h.mono fun _ z=>z.elim,fun h=>h.mono fun v ⟨k,hk,_⟩=>absurd hk V9⟩⟩
   ·exact absurd e (by simp)
  |cons r rs ih =>
   intro hn nd;rw[List.reverse_cons] at hn nd ⊢;have kr:Nums ws rs.reverse:=fun x hx=>hn x (VQ _ hx);have Ab:=(VZ.mp nd).1;obtain⟨mk,mem⟩:=ih kr Ab;obtain⟨r0,r1⟩:=hn r (Uj _ My);obtain⟨y,ey,hy,_,i,j,e1,e2,h1,h2,_⟩:=lQ W r0 r1;have ew:ag ws r=y:=ey;have en:bA ws r=(i,j):=by unfold bA;rw[ey,e1,e2,Vx,Vx]
   have step:fJ ws (aI m.toNat) (rs.reverse++[r])=j8 ws (fJ ws (aI m.toNat) rs.reverse) r:=by unfold fJ;rw[YD];rfl
   have kS:∀v,(∃k∈rs.reverse++[r],v=ag ws k)↔(∃k∈rs.reverse,v=ag ws k)\/v=ag ws r:=fun v=>by
    constructor
    ·rintro⟨k,hk,rfl⟩
     rcases VA.mp hk with hk|hk
     ·exact .inl ⟨k,hk,rfl⟩
     ·rw[Um.mp hk];exact .inr rfl
    ·rintro(⟨k,hk,rfl⟩|rfl)
     ·exact⟨k,VQ _ hk,rfl⟩
     ·exact⟨r,Uj _ My,rfl⟩
   have split:∀n (P:List Int->Prop),(∃as bs,rs.reverse++[r]=as++n::bs/\P as)↔(∃as bs,rs.reverse=as++n::bs/\P as)\/(n=r/\P rs.reverse):=fun n P=>by
    constructor
    ·rintro⟨as,bs,e,hp⟩
     rcases List.eq_nil_or_concat bs with rfl|⟨Fq,z,rfl⟩
     ·have:=List.append_inj' e rfl
      obtain⟨rfl,e3⟩:=this;cases e3
      exact .inr ⟨rfl,hp⟩
     ·have e':rs.reverse++[r]=(as++n::Fq)++[z]:=by rw[e];simp
      obtain⟨e3,_⟩:=List.append_inj' e' rfl;exact .inl ⟨as,Fq,e3,hp⟩
    ·rintro(⟨as,bs,e,hp⟩|⟨rfl,hp⟩)
     ·exact⟨as,bs++[r],by rw[e];simp,hp⟩
     ·exact⟨rs.reverse,[],rfl,hp⟩
   rw[step];unfold j8;rw[en];dsimp only;have Fs:=mk.2 i j h1 h2
   by_cases q:(fJ ws (aI m.toNat) rs.reverse).2.getD i 0=(fJ ws (aI m.toNat) rs.reverse).2.getD j 0
   ·rw[VB q]
    refine⟨mk.eY (w:=ag ws r) h1 h2 (by rw[ew];exact e1) (by rw[ew];exact e2) kS q,fun n=>?_⟩;rw[split n (fun as=>¬ au (fun v=>∃k∈as,v=ag ws k) (ag ws n).1 (ag ws n).2.1),mem n];refine⟨.inl,fun z=>z.elim id fun⟨e,hc⟩=>?_⟩;subst e;rw[ew,e1,e2] at hc;exact absurd (Fs.mp q) hc
   ·rw[Uo q]
    refine⟨?_,fun n=>?_⟩
    ·dsimp only
     rw[Qk];exact mk.join (w:=ag ws r) h1 h2 (by rw[ew];exact e1) (by rw[ew];exact e2) kS (Ql _ _)
    ·rw[split n (fun as=>¬ au (fun v=>∃k∈as,v=ag ws k) (ag ws n).1 (ag ws n).2.1)]
     dsimp only;rw[VA,mem n,Um];refine or_congr Iff.rfl ⟨fun e=>⟨e,?_⟩,fun h=>h.1⟩;subst e;rw[ew,e1,e2];exact fun z=>q (Fs.mpr z)
 intro hn nd;have:=rev ns.reverse (by rw[YR];exact hn) (by rw[YR];exact nd);rw[YR] at this;exact this
noncomputable def iK(w:Wy):LK:=[w.2.2,w.1,w.2.1]
def kN(v w:Wy):Prop:=HT.lexLt (iK v) (iK w)=true
def gW(ws:List Wy)(w:Wy):Prop:=w∈ws/\¬ au (fun v=>v∈ws/\kN v w) w.1 w.2.1
theorem vj(ws:List Wy)(n:Int):cH ws n=iK (ag ws n):=rfl
theorem h_{ws:List Wy}{n:Int}(h0:0<=n)(h1:n<(ws.length:Int)):ag ws n∈ws:=by
 unfold ag;exact V0 (getD_some (by omega))
theorem Ft{ws:List Wy}{w:Wy}(h:w∈ws):∃n:Int,(0<=n/\n<(ws.length:Int))/\ag ws n=w:=by
 obtain⟨i,hi⟩:=Uq.mp h;have hl:=(nV.mp hi).1;refine⟨i,⟨by omega,by omega⟩,?_⟩;unfold ag;rw[Vx,C6,hi];rfl
theorem Fu{a b:LK}(h:kle a b)(n:a≠b):HT.lexLt a b=true:=by
 cases q:HT.lexLt a b with
 |true=>rfl
 |false=>exact absurd (rZ q h) n
theorem Qp{m:Int}{ws:List Wy}(W:ax m ws){ns:List Int}(ho:bB ws ns){n:Int}:n∈mR m ws ns↔(0<=n/\n<(ws.length:Int))/\gW ws (ag ws n):=by
 have nd:ns.Nodup:=ho.perm.nodup_iff.mpr (pY _);unfold mR;rw[(sortI_perm _).mem_iff,(Qo W ns ho.nums nd).2 n]
 have before:∀as bs,ns=as++n::bs->∀v,(∃k∈as,v=ag ws k)↔(v∈ws/\kN v (ag ws n)):=fun as bs e v=>by
  have up:=ho.up;rw[e,VI,VM,List.pairwise_append,Wj] at up;obtain⟨_,⟨u2,_⟩,u3⟩:=up;have hn:n∈ns:=by rw[e];exact Uj _ My
  have nn:=ho.nums n hn;rw[e] at nd;have Qq:=VZ.mp nd
  constructor
  ·rintro⟨k,hk,rfl⟩
   have i7:k∈ns:=by rw[e];exact VQ _ hk
   have kn:=ho.nums k i7;refine⟨h_ kn.1 kn.2,Fu (u3 _ (WQ hk) _ My) fun z=>?_⟩;have:=sM W kn nn z;subst this;exact Qq.2.2 k hk k My rfl
  ·rintro⟨hv,cB⟩
   obtain⟨k,kn,rfl⟩:=Ft hv
   have hk:k∈ns:=ho.perm.mem_iff.mpr (by
    unfold aI
    exact Lm.mpr ⟨k.toNat,VL.mpr (by omega),by simp;omega⟩)
   rw[e] at hk;rcases VA.mp hk with hk|hk
   ·exact⟨k,hk,rfl⟩
   ·exfalso
    rcases Lp.mp hk with rfl|hk
    ·have:HT.lexLt (iK (ag ws k)) (iK (ag ws k))=true:=cB
     rw[rY] at this;cases this
    ·have:=u2 _ (WQ hk)
     have h2:HT.lexLt (cH ws k) (cH ws n)=true:=cB;unfold kle at this;rw[this] at h2;cases h2
 constructor
 ·rintro⟨as,bs,e,hc⟩
  have nn:=ho.nums n (by rw[e];exact Uj _ My);exact⟨nn,h_ nn.1 nn.2,fun z=>hc (z.mono fun v hv=>(before as bs e v).mpr hv)⟩
 ·rintro⟨nn,_,hc⟩
  have hn:n∈ns:=ho.perm.mem_iff.mpr (by
   unfold aI
   exact Lm.mpr ⟨n.toNat,VL.mpr (by omega),by simp;omega⟩)
  obtain⟨as,bs,e⟩:=List.append_of_mem hn;exact⟨as,bs,e,fun z=>hc (z.mono fun v hv=>(before as bs e v).mp hv)⟩
theorem Qr{m:Int}{ws:List Wy}{ns:List Int}(ho:bB ws ns):(mR m ws ns).Nodup:=by
 unfold mR;refine(sortI_perm _).nodup_iff.mpr ?_;obtain⟨l,h1,h2,_⟩:=z9 ws ns ([],aI m.toNat);have:(fJ ws (aI m.toNat) ns).1=l:=h1;rw[this];exact(ho.perm.nodup_iff.mpr (pY _)).sublist h2
theorem Qs{m:Int}{ws:List Wy}(W:ax m ws):ws.Nodup:=by
 have:=W.unlike;unfold List.Nodup at this ⊢;rw[Wm] at this;exact this.imp fun{a b} h e=>h (by rw[e])
noncomputable def lW(ws:List Wy)(w:Wy):Nat:=ws.countP fun v=>HT.lexLt (iK v) (iK w)
theorem Fv{α:Type}{p q:α->Bool}{x:α}:∀{l:List α},(∀y∈l,p y=true->q y=true)->x∈l->q x=true->p x=false->l.countP p<l.countP q
 |y::l,h,hx,h1,h2=>by
  have le:l.countP p<=l.countP q:=List.countP_mono_left fun z hz=>h z (C5 _ hz);rw[WX,WX];rcases Lp.mp hx with rfl|hx
  ·rw[h1,h2];simp;omega
  ·have:=Fv (fun z hz=>h z (C5 _ hz)) hx h1 h2
   have hy:=h y My
   cases q1:p y with
   |false=>simp;split<;>omega
   |true=>rw[hy q1];simp;omega
theorem Ac{ws:List Wy}{u v:Wy}(hu:u∈ws)(h:kN u v):lW ws u<lW ws v :=
 Fv (fun y _ hy=>uM hy h) hu h (rY _)
theorem jf(n:Nat):(aI n).length=n:=by unfold aI;simp
structure Good(fs:List Int):Prop where
 le:∀h:Nat,h<fs.length->0<=fs.getD h 0/\fs.getD h 0<=h
 own:∀h:Nat,h<fs.length->fs.getD (fs.getD h 0).toNat 0=fs.getD h 0
theorem getD_at{fs:List Int}{h:Nat}(hl:h<fs.length):fs.getD h 0=fs[h]:=by rw[C6,nR hl];rfl
theorem Qt{fs:List Int}{i j h:Nat}(hl:h<fs.length):(eS fs i j).getD h 0=if fs.getD h 0=max (fs.getD i 0) (fs.getD j 0) then min (fs.getD i 0) (fs.getD j 0) else fs.getD h 0:=by
 rw[getD_at (by rw[pW];exact hl),getD_at hl];unfold eS;rw[Ya]
theorem Qu(n:Nat):Good (aI n):=by
 have e:∀h:Nat,h<(aI n).length->(aI n).getD h 0=h:=fun h hl=>by
  rw[jf] at hl;rw[aI,C6,Lq,W0 hl];rfl
 refine⟨fun h hl=>by rw[e h hl];omega,fun h hl=>?_⟩;rw[e h hl,Vx,e h hl]
theorem Good.join{fs:List Int}(G:Good fs){i j:Nat}(hi:i<fs.length)(hj:j<fs.length):Good (eS fs i j):=by
 have a1:=G.le i hi;have a2:=G.le j hj;have o1:=G.own i hi;have o2:=G.own j hj;generalize hg:max (fs.getD i 0) (fs.getD j 0)=g;generalize hk:min (fs.getD i 0) (fs.getD j 0)=k
 have gk:0<=k/\k<=g/\k.toNat<fs.length/\fs.getD k.toNat 0=k:=by
  rw[<-hg,<-hk];rcases Int.le_total (fs.getD i 0) (fs.getD j 0) with c|c
  ·rw[ZY c,ZF c];exact⟨a1.1,c,by omega,o1⟩
  ·rw[ZG c,ZZ c];exact⟨a2.1,c,by omega,o2⟩
 have at_:∀h,h<fs.length->(eS fs i j).getD h 0=if fs.getD h 0=g then k else fs.getD h 0:=fun h hl=>by rw[Qt hl,hg,hk]
 refine⟨fun h hl=>?_,fun h hl=>?_⟩
 ·rw[pW] at hl
  have:=G.le h hl;rw[at_ h hl];split<;>omega
 ·rw[pW] at hl
  have b:=G.le h hl;have c:=G.own h hl;rw[at_ h hl]
  by_cases d:fs.getD h 0=g
  ·rw[VB d,at_ _ gk.2.2.1,gk.2.2.2]
   split<;>rfl
  ·rw[Uo d,at_ _ (by omega),c,Uo d]
theorem Fw{m:Int}{ws:List Wy}(W:ax m ws){n:Int}(h0:0<=n)(h1:n<(ws.length:Int)):∃i k:Nat,bA ws n=(i,k)/\(ag ws n).1=i/\(ag ws n).2.1=k/\i<m.toNat/\k<m.toNat:=by
 obtain⟨y,ey,hy,_,i,k,e1,e2,h1,h2,_⟩:=lQ W h0 h1;refine⟨i,k,?_,by unfold ag;rw[ey];exact e1,by unfold ag;rw[ey];exact e2,h1,h2⟩;unfold bA;rw[ey,e1,e2,Vx,Vx]
theorem Fy{m:Int}{ws:List Wy}(W:ax m ws):∀(ns fs:List Int),Nums ws ns->fs.length=m.toNat->Good fs->Good (eT ws fs ns)
 |[],_,_,_,G=>G
 |n::ns,fs,hn,hl,G=>by
  have b:=hn n (My ..);obtain⟨i,k,e,_,_,h1,h2⟩:=Fw W b.1 b.2;refine Fy W ns _ (fun x hx=>hn x (C5 _ hx)) (by rw[pW];exact hl) ?_;show Good (eS fs (bA ws n).1 (bA ws n).2);rw[e];exact G.join (by omega) (by omega)
theorem FA{m:Int}{ws:List Wy}(W:ax m ws):∀(ns fs:List Int)(S:Wy->Prop),Nums ws ns->aX m.toNat fs S->aX m.toNat (eT ws fs ns) (fun v=>S v\/∃k∈ns,v=ag ws k)
 |[],fs,S,_,h=>by
  have:(fun v=>S v\/∃k∈([]:List Int),v=ag ws k)=S:=funext fun v=>propext (by simp);rw[this];exact h
 |n::ns,fs,S,hn,h=>by
  have b:=hn n (My ..);obtain⟨i,k,e,e1,e2,h1,h2⟩:=Fw W b.1 b.2
  have step:aX m.toNat (eS fs i k) (fun v=>S v\/v=ag ws n):=by
   refine aX.join (w:=ag ws n) (p:=max (fs.getD i 0) (fs.getD k 0)) (q:=min (fs.getD i 0) (fs.getD k 0)) h h1 h2 e1 e2 (fun v=>Iff.rfl) ?_;omega
  have:=FA W ns _ _ (fun x hx=>hn x (C5 _ hx)) step
  have eq:(fun v=>(S v\/v=ag ws n)\/∃k∈ns,v=ag ws k)=(fun v=>S v\/∃k∈n::ns,v=ag ws k):=funext fun v=>propext (by
   constructor
   ·rintro((h|h)|⟨k,hk,h⟩)
    ·exact .inl h
    ·exact .inr ⟨n,My,h⟩
    ·exact .inr ⟨k,C5 _ hk,h⟩
   ·rintro(h|⟨k,hk,h⟩)
    ·exact .inl (.inl h)
    ·rcases Lp.mp hk with rfl|hk
     ·exact .inl (.inr h)
     ·exact .inr ⟨k,hk,h⟩)
  rw[eq] at this;show aX _ (eT ws (eS fs (bA ws n).1 (bA ws n).2) ns) _;rw[e];exact this
def bg(ws:List Wy)(ns:List Int):Wy->Prop:=fun v=>∃k∈ns,v=ag ws k
theorem sO{m:Int}{ws:List Wy}(W:ax m ws){ns:List Int}(hn:Nums ws ns):aX m.toNat (d4 m ws ns) (bg ws ns):=by
 have:=FA W ns _ _ hn (aX.start m.toNat);have eq:(fun v=>False\/∃k∈ns,v=ag ws k)=bg ws ns:=funext fun v=>propext (by unfold bg;simp);rw[eq] at this;exact this
theorem FC{m:Int}{ws:List Wy}(W:ax m ws){ns:List Int}(hn:Nums ws ns):Good (d4 m ws ns):=Fy W ns _ hn (jf _) (Qu _)
noncomputable def br(fs:List Int)(i:Nat)(x:Int):List Int:=((List.range i).filter fun h=>decide (fs.getD h 0=x)).map fun h:Nat=>(h:Int)
noncomputable def roots(fs:List Int)(i:Nat):List Nat:=(List.range i).filter fun h=>decide (fs.getD h 0=(h:Int))
theorem Ad{fs:List Int}(G:Good fs):∀i,i<=fs.length->je fs i=(roots fs i).map fun r:Nat=>((r:Int),br fs i (r:Int))
 |0,_=>rfl
 |i+1,hi=>by
  have ih:=Ad G i (by omega);have le:=G.le i (by omega);have own:=G.own i (by omega);show z8 (je fs i) (fs.getD i 0) i=_;rw[ih];have keys:((roots fs i).map fun r:Nat=>((r:Int),br fs i (r:Int))).map (·.1)=(roots fs i).map fun r:Nat=>(r:Int):=by rw[VH];rfl
  have j_:∀x,br fs (i+1) x=if fs.getD i 0=x then br fs i x++[(i:Int)] else br fs i x:=fun x=>by
   unfold br;rw[Yg,XW]
   by_cases c:fs.getD i 0=x
   ·rw[VB c,VI,ZH (by simpa using c)];rfl
   ·rw[Uo c,ZI (by simpa using c),List.filter_nil,XE]
  have ka:∀r,r∈roots fs i↔r<i/\fs.getD r 0=(r:Int):=fun r=>by
   unfold roots;rw[VJ,VL,VR]
  unfold z8;rw[keys]
  by_cases c:fs.getD i 0=(i:Int)
  ·have no:fs.getD i 0∉(roots fs i).map fun r:Nat=>(r:Int):=fun z=>by
    obtain⟨r,hr,e⟩:=Lm.mp z;have:=((ka r).mp hr).1;omega
   rw[Uo no]
   have er:roots fs (i+1)=roots fs i++[i]:=by
    unfold roots;rw[Yg,XW,ZH (by simpa using c)];rfl
   rw[er,VI];congr 1
   ·refine W5 fun r hr=>?_
    have:=((ka r).mp hr).1;rw[j_,Uo (by omega)]
   ·show[(fs.getD i 0,[(i:Int)])]=[((i:Int),br fs (i+1) i)]
    rw[j_,VB c,c]
    have:br fs i (i:Int)=[]:=by
     unfold br;rw[YE.mpr fun h hh=>?_]
     ·rfl
     ·have h1:=VL.mp hh
      have:=G.le h (by omega);rw[VR];omega
    rw[this];rfl
  ·obtain⟨x,ex⟩:∃x:Nat,fs.getD i 0=x:=⟨(fs.getD i 0).toNat,by omega⟩
   rw[ex] at own le c ⊢;rw[Vx] at own;have hx:x∈roots fs i:=(ka x).mpr ⟨by omega,own⟩;rw[VB (Lm.mpr ⟨x,hx,rfl⟩)]
   have er:roots fs (i+1)=roots fs i:=by
    unfold roots;rw[Yg,XW,ZI (by rw[ex];simpa using c),List.filter_nil,XE]
   rw[er,VH];refine W5 fun r hr=>?_;show(if(r:Int)=(x:Int) then((r:Int),br fs i r++[(i:Int)]) else((r:Int),br fs i r))=((r:Int),br fs (i+1) r);rw[j_,ex]
   by_cases d:(r:Int)=(x:Int)
   ·rw[VB d,VB d.symm]
   ·rw[Uo d,Uo (Xv d)]
theorem vk:∀{a b:List Int},a.Pairwise (· < ·)->b.Pairwise (· < ·)->(∀x,x∈a↔x∈b)->a=b
 |[],[],_,_,_=>rfl
 |[],y::_,_,_,h=>absurd ((h y).mpr (My ..)) (by simp)
 |x::_,[],_,_,h=>absurd ((h x).mp (My ..)) (by simp)
 |x::a,y::b,ha,hb,h=>by
  obtain⟨h1,h2⟩:=Wj.mp ha;obtain⟨h3,h4⟩:=Wj.mp hb
  have Qv:x=y:=by
   rcases Lp.mp ((h x).mp (My ..)) with e|e
   ·exact e
   ·rcases Lp.mp ((h y).mpr (My ..)) with e'|e'
    ·exact e'.symm
    ·have:=h3 x e
     have:=h1 y e';omega
  subst Qv;rw[vk h2 h4 fun z=>?_]
  constructor
  ·intro hz
   rcases Lp.mp ((h z).mp (C5 _ hz)) with e|e
   ·have:=h1 z hz;omega
   ·exact e
  ·intro hz
   rcases Lp.mp ((h z).mpr (C5 _ hz)) with e|e
   ·have:=h3 z hz;omega
   ·exact e
theorem Qw{fs:List Int}(G:Good fs){S:List Int}(up:S.Pairwise (· < ·))(mem:∀x,x∈S↔x∈fs):S=(roots fs fs.length).map fun r:Nat=>(r:Int):=by
 refine vk up ?_ fun x=>?_
 ·refine Wm.mpr ?_
  unfold roots;exact((WC (n:=fs.length)).filter _).imp fun h=>by omega
 ·rw[mem]
  constructor
  ·intro h
   obtain⟨i,hi,e⟩:=XH.mp h;have e':fs.getD i 0=x:=by rw[getD_at hi,e]
   have le:=G.le i hi;have own:=G.own i hi;rw[e'] at le own;refine Lm.mpr ⟨x.toNat,?_,by omega⟩;unfold roots;rw[VJ,VL,VR,own];omega
  ·intro h
   obtain⟨r,hr,rfl⟩:=Lm.mp h;unfold roots at hr;rw[VJ,VL,VR] at hr;rw[<-hr.2,getD_at hr.1];exact Wu hr.1
theorem Qx{fs:List Int}(G:Good fs){S:List Int}(up:S.Pairwise (· < ·))(mem:∀x,x∈S↔x∈fs):(je fs fs.length).map (·.2)=S.map fun x=>br fs fs.length x:=by
 rw[Ad G fs.length (ua _),Qw G up mem,VH,VH];rfl
open Classical in
noncomputable def cls (n:Nat) (S:Wy->Prop) (h:Int):List Int:=(aI n).filter fun x=>decide (au S h x)
theorem aW{n:Nat}{x:Int}:x∈aI n↔0<=x/\x<n:=by
 unfold aI
 constructor
 ·intro h
  obtain⟨k,hk,rfl⟩:=Lm.mp h;have:=VL.mp hk;omega
 ·intro h
  exact Lm.mpr ⟨x.toNat,VL.mpr (by omega),by omega⟩
theorem FD(n:Nat):(aI n).Pairwise (· < ·):=by
 unfold aI;exact Wm.mpr ((WC (n:=n)).imp fun h=>by omega)
open Classical in
theorem ba {n:Nat} {S:Wy->Prop} {h x:Int}:x∈cls n S h↔(0<=x/\x<n)/\au S h x:=by
 unfold cls;rw[VJ,aW,VR]
open Classical in
theorem vm (n:Nat) (S:Wy->Prop) (h:Int):(cls n S h).Pairwise (· < ·):=(FD n).filter _
structure p_(n:Nat)(S:Wy->Prop)(L:List (List Int)):Prop where
 nd:L.Nodup
 mem:∀l,l∈L↔∃h:Int,(0<=h/\h<n)/\l=cls n S h
theorem Ae{n:Nat}{S:Wy->Prop}{a b:Int}(h:au S a b):cls n S a=cls n S b :=
 vk (vm _ _ _) (vm _ _ _) fun x=>by
  rw[ba,ba];exact⟨fun⟨h1,h2⟩=>⟨h1,h.symm.trans h2⟩,fun⟨h1,h2⟩=>⟨h1,h.trans h2⟩⟩
theorem Af{n:Nat}{S:Wy->Prop}{a:Int}(h:0<=a/\a<n):a∈cls n S a:=ba.mpr ⟨h,.rf⟩
theorem Qy{x y:Int}{xs ys:List Int}(h:x<y):kle (x::xs) (y::ys):=by
 unfold kle;rw[HT.mB,Uo (by omega)];exact C7 (by omega)
theorem FE{n:Nat}{fs:List Int}{S:Wy->Prop}(M:aX n fs S){r:Nat}(hr:r<n)(e:fs.getD r 0=r):br fs n r=cls n S r:=by
 refine vk ?_ (vm _ _ _) fun x=>?_
 ·unfold br
  exact Wm.mpr (((WC (n:=n)).filter _).imp fun h=>by omega)
 ·rw[ba]
  unfold br
  constructor
  ·intro h
   obtain⟨k,hk,rfl⟩:=Lm.mp h;rw[VJ,VL,VR] at hk;exact⟨by omega,(M.2 r k hr hk.1).mp (by rw[e,hk.2])⟩
  ·rintro⟨⟨h0,h1⟩,hc⟩
   obtain⟨k,rfl⟩:∃k:Nat,x=k:=⟨x.toNat,by omega⟩;refine Lm.mpr ⟨k,?_,rfl⟩;rw[VJ,VL,VR];have:=(M.2 r k hr (by omega)).mpr hc;exact⟨by omega,by rw[<-this,e]⟩
noncomputable def oS(fs:List Int)(n:Nat):List (List Int):=(roots fs n).map fun r:Nat=>br fs n (r:Int)
theorem Qz{fs:List Int}(G:Good fs):(je fs fs.length).map (·.2)=oS fs fs.length:=by
 rw[Ad G fs.length (ua _),VH];rfl
theorem vn{n:Nat}{fs:List Int}(G:Good fs)(hl:fs.length=n){r:Nat}(hr:r<n)(e:fs.getD r 0=r):∃t,br fs n r=(r:Int)::t:=by
 have mem:(r:Int)∈br fs n r:=by
  unfold br;refine Lm.mpr ⟨r,?_,rfl⟩;rw[VJ,VL,VR];exact⟨hr,e⟩
 have up:(br fs n r).Pairwise (· < ·):=by
  unfold br;exact Wm.mpr (((WC (n:=n)).filter _).imp fun h=>by omega)
 cases q:br fs n r with
 |nil=>rw[q] at mem;simp at mem
 |cons x t =>
  refine⟨t,?_⟩;have hx:x∈br fs n r:=by rw[q];exact My
  unfold br at hx;obtain⟨k,hk,rfl⟩:=Lm.mp hx;rw[VJ,VL,VR] at hk;have l:=G.le k (by omega);rw[hk.2] at l;rw[q] at mem up;rcases Lp.mp mem with z|z
  ·rw[z]
  ·have:=(Wj.mp up).1 _ z
   omega
theorem QA{fs:List Int}(G:Good fs):(oS fs fs.length).Pairwise kle:=by
 unfold oS;refine Wm.mpr ?_
 have:(roots fs fs.length).Pairwise fun a b=>a<b/\(a<fs.length/\fs.getD a 0=a)/\b<fs.length/\fs.getD b 0=b:=by
  have h1:(roots fs fs.length).Pairwise (· < ·):=(WC (n:=fs.length)).filter _
  have hm:∀a∈roots fs fs.length,a<fs.length/\fs.getD a 0=a:=fun a ha=>by
   unfold roots at ha;rw[VJ,VL,VR] at ha;exact ha
  exact h1.imp_of_mem fun ha hb h=>⟨h,hm _ ha,hm _ hb⟩
 refine this.imp fun{a b} h=>?_;obtain⟨t,e⟩:=vn G rfl h.2.1.1 h.2.1.2;obtain⟨u,e'⟩:=vn G rfl h.2.2.1 h.2.2.2;rw[e,e'];exact Qy (by omega)
theorem QB{n:Nat}{fs:List Int}{S:Wy->Prop}(G:Good fs)(M:aX n fs S):p_ n S (oS fs n):=by
 have hl:=M.1
 have hm:∀a∈roots fs n,a<n/\fs.getD a 0=a:=fun a ha=>by
  unfold roots at ha;rw[VJ,VL,VR] at ha;exact ha
 refine⟨?_,fun l=>?_⟩
 ·unfold oS
  refine Wm.mpr ?_;have h1:(roots fs n).Pairwise (· < ·):=(WC (n:=n)).filter _;refine h1.imp_of_mem fun{a b} ha hb h z=>?_;obtain⟨t,e⟩:=vn G hl (hm a ha).1 (hm a ha).2;obtain⟨u,e'⟩:=vn G hl (hm b hb).1 (hm b hb).2;rw[e,e'] at z;have:=(List.cons.inj z).1;omega
 ·unfold oS
  constructor
  ·intro h
   obtain⟨r,hr,rfl⟩:=Lm.mp h;obtain⟨h1,h2⟩:=hm r hr;exact⟨r,by omega,FE M h1 h2⟩
  ·rintro⟨h,hh,rfl⟩
   obtain⟨k,rfl⟩:∃k:Nat,h=k:=⟨h.toNat,by omega⟩;have le:=G.le k (by omega);have own:=G.own k (by omega);obtain⟨r,er⟩:∃r:Nat,fs.getD k 0=r:=⟨(fs.getD k 0).toNat,by omega⟩;rw[er] at le own;rw[Vx] at own;refine Lm.mpr ⟨r,?_,?_⟩
   ·unfold roots
    rw[VJ,VL,VR];exact⟨by omega,own⟩
   ·rw[FE M (by omega) own]
    exact Ae ((M.2 r k (by omega) (by omega)).mp (by rw[own,er]))
noncomputable def iL(m:Int)(ws:List Wy)(ns:List Int):List (List Int):=(je (d4 m ws ns) m.toNat).map (·.2)
theorem FF{m:Int}{ws:List Wy}(W:ax m ws){ns:List Int}(hn:Nums ws ns):p_ m.toNat (bg ws ns) (iL m ws ns)/\(iL m ws ns).Pairwise kle:=by
 have M:=sO W hn;have G:=FC W hn
 have e:iL m ws ns=oS (d4 m ws ns) m.toNat:=by
  unfold iL;have:=Qz G;rw[M.1] at this;exact this
 rw[e];refine⟨QB G M,?_⟩;have:=QA G;rw[M.1] at this;exact this
theorem QC{n:Nat}{S:Wy->Prop}{L:List (List Int)}(h:p_ n S L){l l':List Int}{x:Int}(hl:l∈L)(d9:l'∈L)(hx:x∈l)(fD:x∈l'):l=l':=by
 obtain⟨a,_,rfl⟩:=(h.mem l).mp hl;obtain⟨b,_,rfl⟩:=(h.mem l').mp d9;exact Ae ((ba.mp hx).2.trans (ba.mp fD).2.symm)
theorem FG{n:Nat}{S:Wy->Prop}:∀{L L0:List (List Int)},p_ n S L0->(∀l∈L,l∈L0)->L.Nodup->L.flatten.Nodup
 |[],_,_,_,_=>Xz
 |l::L,L0,h,hs,nd=>by
  rw[Wv,VZ];rw[Wf] at nd;refine⟨?_,FG h (fun x hx=>hs x (C5 _ hx)) nd.2,fun x hx y hy e=>?_⟩
  ·obtain⟨a,_,rfl⟩:=(h.mem l).mp (hs l My)
   exact(vm _ _ _).imp fun h=>by omega
  ·subst e
   obtain⟨l',h1,h2⟩:=Xy.mp hy;exact nd.1 (by rw[QC h (hs l My) (hs l' (C5 _ h1)) hx h2];exact h1)
theorem QD{l:List Int}(h:l.Pairwise (· < ·)):l.Nodup:=h.imp fun h=>by omega
theorem QE{xs ys:List Int}(nd:xs.Nodup)(up:ys.Pairwise (· < ·))(h:∀x,x∈xs↔x∈ys):sortI xs=ys :=
 (pP ((X8 (QD up) nd).mpr fun x=>(h x).symm) (up.imp fun h=>by omega)).symm
theorem QF{n:Nat}{S:Wy->Prop}{L:List (List Int)}(h:p_ n S L):sortI L.flatten=aI n:=by
 refine QE (FG h (fun _ hx=>hx) h.nd) (FD n) fun x=>?_;rw[Xy,aW]
 constructor
 ·rintro⟨l,hl,hx⟩
  obtain⟨a,_,rfl⟩:=(h.mem l).mp hl;exact(ba.mp hx).1
 ·intro hx
  exact⟨_,(h.mem _).mpr ⟨x,hx,rfl⟩,Af hx⟩
theorem sP:∀a b:List Int,bP (a.map D.int) (b.map D.int)=decide (a=b)
 |[],[]=>by simp[bP]
 |[],_::_=>by simp[bP]
 |_::_,[]=>by simp[bP]
 |x::a,y::b=>by
  rw[VM,VM];simp only[bP];rw[h9,sP a b]
  by_cases e:x=y<;>by_cases e2:a=b<;>simp[e,e2]
theorem FH(a b:List Int):aB (aN a) (aN b)=decide (a=b):=by
 unfold aN;simp only[aB];exact sP a b
theorem gK:∀us:List Int,bO (us.map D.int)=0
 |[]=>by simp[bO]
 |u::r=>by rw[VM];simp only[bO,dep];rw[gK r];rfl
theorem gr(l:List Int)(x:Int):((l.map D.int).any fun e=>aB e (.int x))=decide (x∈l):=by
 rw[List.any_map]
 cases q:decide (x∈l) with
 |true=>exact Yb.mpr ⟨x,VS q,kL _⟩
 |false =>
  refine Xs.mpr fun y hy=>?_;show ¬ aB (.int y) (.int x)=true;rw[h9];intro z;have:=VS z;subst this;exact Y3 q hy
theorem QG{m:Int}{ws:List Wy}(W:ax m ws){ns:List Int}(hn:Nums ws ns):(iL m ws ns).length<=12/\(iL m ws ns).flatten.length<=12:=by
 have dj:=W.dj;obtain⟨h,_⟩:=FF W hn;have e:=QF h
 have fl:(iL m ws ns).flatten.length=m.toNat:=by
  have:=kM (iL m ws ns).flatten;rw[e,jf] at this;exact this.symm
 refine⟨?_,by omega⟩
 have key:∀L:List (List Int),(∀l∈L,l≠[])->L.length<=L.flatten.length:=by
  intro L
  induction L with
  |nil=>intro _;simp
  |cons l r ih =>
   intro h;have h1:=ih fun x hx=>h x (C5 _ hx);have h2:l≠[]:=h l My;have h3:0<l.length:=List.length_pos_iff.mpr h2;rw[Wv,C4,Lk];omega
 have:=key (iL m ws ns) fun l hl=>by
  obtain⟨a,ha,rfl⟩:=(h.mem l).mp hl;exact List.ne_nil_of_mem (Af ha)
 omega
end LJ
namespace HT
open PySem PySem.Spec PyProof.Rows
theorem QH(A:Around)(s:Shared)(a:Int)(t:Tok)(c:Int)(u:Tok)(prog:Program)(w:World)(E:aP)(Q:aP)(h:Q (.bool (decide (c<a))) s):
  wpAny (model prog w) A (richCompare .Gt (.int a t) (.int c u)) Q E s :=
 (PyProof.Rows.gt_int h:wpAny (model prog w) A (compareOp .Gt (.int a t) (.int c u)) Q E s)
section
open PySem.SeqAt
open PySem.AutoSeq1 (wpAny_loadPart')
open PySem.MeetsSeq PySem.MeetsSeq2 PySem.MeetsSeq3
theorem QI(l b:Addr)(items aQ:Array Value)(n n2:Nat)(dd jo:Option Addr)(sl jq:Array (Option Value))(ns ms:List Int)(hi:IntsAre items.toList ns)(hj:IntsAre aQ.toList ms):
  Meets (Builtin.«tuple.__gt__» ⟨[.ref l,.ref b],[]⟩)
   (fun _ R s=>s.heap.get? l=some {cls:=.type "tuple",dict:=dd,data:=.seq items n,slots:=sl}/\s.heap.get? b=some {cls:=.type "tuple",dict:=jo,data:=.seq aQ n2,slots:=jq} ∧
    R (.ok (.ret (.bool (lexLt ms ns)))) s) :=
 .of_wp fun prog w A R s h=>by
  obtain⟨hp,g,d,tk,os⟩:=s;obtain⟨hl,hb,h⟩:=h;have f2:=AutoSeq1.sub_tuple_tuple;have z1:items.size=ns.length:=by rw[<-hi.length];simp
  have z2:aQ.size=ms.length:=by rw[<-hj.length];simp
  wp_walk using WK hl,WK hb,ZA _ (fun rest b s'=>b.1=none/\s'=⟨hp,g,d,tk,os⟩/\∃(vs ws:List Value)(cb iT:List Int),rest=vs.zip ws ∧
   IntsAre vs cb/\IntsAre ws iT/\cb.length+aQ.size=iT.length+items.size/\R (.ok (.ret (.bool (lexLt iT cb)))) ⟨hp,g,d,tk,os⟩) _
  case turn =>
   rintro⟨y,x⟩ rest b s' ⟨hb',rfl,vs,ws,cb,iT,hz,nH,la,hlen,hR⟩
   cases nH with
   |nil=>rw[YA] at hz;cases hz
   |cons a t nJ =>
    cases la with
    |nil=>rw[Zc] at hz;cases hz
    |cons c u nK =>
     rw[XT] at hz;injection hz with xk jH;injection xk with hy hx;subst hy hx;rw[mB] at hR;simp only[Lk] at hlen;obtain⟨e,he,jI⟩:=CA A.in1 ⟨hp,g,d,tk,os⟩ a t c u;refine lj (he prog w _ _ ?_)
     cases e with
     |true =>
      rw[VB (jI.mp rfl).symm] at hR
      wp_walk
      exact⟨rfl,rfl,_,_,_,_,jH,nJ,nK,by omega,hR⟩
     |false =>
      rw[Uo (fun q=>absurd (jI.mpr q.symm) VC)] at hR;have xm:=QH A.in1 ⟨hp,g,d,tk,os⟩ a t c u prog w
      wp_walk using xm
      exact⟨_,rfl,by simpa using hR⟩
  case fin =>
   rintro⟨b1,b2⟩ s' ⟨hb',rfl,vs,ws,cb,iT,hz,nH,la,hlen,hR⟩;simp only at hb';subst hb'
   have hv:lexLt iT cb=decide (aQ.size<items.size):=by
    cases nH with
    |nil =>
     cases la with
     |nil =>
      simp only[Wi] at hlen;rw[Cw];exact(C7 (by omega)).symm
     |cons c u hw =>
      simp only[Wi,Lk] at hlen;rw[Cz];exact(C7 (by omega)).symm
    |cons a t hv =>
     cases la with
     |nil =>
      simp only[Wi,Lk] at hlen;rw[Cy];exact(Ln (by omega)).symm
     |cons c u hw =>
      rw[XT] at hz;cases hz
   rw[hv] at hR
   wp_walk
   exact⟨_,rfl,by simpa[Builtin.Tuple.tupleCompareSizes] using hR⟩
  case h =>
   exact⟨rfl,rfl,items.toList,aQ.toList,ns,ms,rfl,hi,hj,by omega,h⟩
end
section
variable{prog:Program}{w:World}{A:Around}{E:aP}{s:Shared}
theorem QJ{l b:Addr}{items aQ:Array Value}{ns ms:List Int}{Q:aP}(hl:IsTup s.heap l items)(hb:IsTup s.heap b aQ)(hi:IntsAre items.toList ns)(hj:IntsAre aQ.toList ms)
  (hu:A.units<cLine) (h:Q (.bool (lexLt ms ns)) s):wpAny (model prog w) A (compareOp .Gt (.ref l) (.ref b)) Q E s:=by
 obtain⟨⟨cls,dd,data,sl⟩,ho,hc,n,hd⟩:=id hl;obtain⟨⟨nL,jo,data2,jq⟩,eA,gz,n2,hd2⟩:=id hb;simp only at hc hd gz hd2;subst hc hd gz hd2
 exact richCompare_meets_room (op:=.Gt) ⟨_,ho,rfl⟩ ⟨_,eA,rfl⟩ PySem.F.slot_tuple_gt PySem.F.entry_tuple_gt (PySem.F.args_tuple_gt_2 _ _) (QI l b items aQ n n2 dd jo sl jq ns ms hi hj)
  ⟨ho,eA,show Value.bool (lexLt ms ns)≠Value.notImplemented/\Q (.bool (lexLt ms ns)) s from⟨(fun x=>nomatch x),h⟩⟩ hu
end
end HT
namespace L2
open PySem PySem.Spec PyProof.Rows PySem.W
noncomputable def ib:Bool->String
 |false=>"min"
 |true=>"max"
noncomputable def qc:Bool->String
 |false=>"min.loop"
 |true=>"max.loop"
noncomputable def FI:Bool->CmpOp
 |false=>.Lt
 |true=>.Gt
noncomputable def QK:String->CmpOp->Builtin:=(fun(f:String->CmpOp->Builtin) (_:f "min" .Lt=Builtin.«min.loop»)=>f) _ rfl
noncomputable def QL:String->Builtin:=(fun(f:String->Builtin) (_:f "min" = Builtin.«min»)=>f) _ rfl
theorem FJ(mx:Bool):entryFor table (qc mx)=some (QK (ib mx) (FI mx)):=by cases mx;exact PySem.F.entry_min_loop;exact PySem.F.entry_max_loop
theorem QM(mx:Bool):entryFor table (ib mx)=some (QL (ib mx)):=by cases mx;exact PySem.F.entry_min;exact PySem.F.entry_max
theorem QN(mx:Bool):builtinKind (ib mx)=none:=by cases mx;exact PySem.F.kind_min;exact PySem.F.kind_max
theorem QO(mx:Bool):plainId (ib mx)=true:=by cases mx;exact PySem.F.plain_min;exact PySem.F.plain_max
theorem qd(mx:Bool):plainId (qc mx)=true:=by cases mx;exact PySem.F.plain_min_loop;exact PySem.F.plain_max_loop
def lX:Bool->LK->LK->Prop
 |false,a,b=>kle a b
 |true,a,b=>kle b a
noncomputable def Ag:Bool->LK->LK->Bool
 |false,a,b=>HT.lexLt a b
 |true,a,b=>HT.lexLt b a
theorem FK(mx:Bool)(a:LK):lX mx a a:=by cases mx<;>exact kle_refl _
theorem QP{mx:Bool}{a b c:LK}(h:Ag mx a b=true)(k:lX mx b c):lX mx a c:=by
 cases mx
 ·exact kle_trans (mL h) k
 ·exact kle_trans k (mL h)
theorem QQ{mx:Bool}{a b:LK}(h:¬ Ag mx a b=true):lX mx b a:=by cases mx<;>exact Bool.eq_false_iff.mpr h
theorem QR{prog:Program}{w:World}{A:Around}{E:aP}{s:Shared}{mx:Bool}{l b:Addr}{items aQ:Array Value}{ns ms:List Int}{Q:aP}(hl:IsTup s.heap l items)(hb:IsTup s.heap b aQ)(hi:IntsAre items.toList ns)(hj:IntsAre aQ.toList ms)
  (hu:A.units<cLine) (h:Q (.bool (Ag mx ns ms)) s):wpAny (model prog w) A (richCompare (FI mx) (.ref l) (.ref b)) Q E s:=by
 cases mx
 ·exact HT.CB hl hb hi hj hu h
 ·exact HT.QJ hl hb hi hj hu h
theorem QS(mx:Bool)(a v d:Value):argsOk (ib mx) ⟨[a],[(Str.ofString "key",v),(Str.ofString "default",d)]⟩:=by cases mx<;>(unfold argsOk;kernel_rfl)
section
variable{X:Cx}{pins:av}{σ:St}{H:Hp}{s:Shared}{E:aP}{l q I S:Addr}{P:List V->Hp->Prop}{xs:List V}{d:Value}{R:Result->Shared->Prop}
def QT(mx:Bool)(kf:Nat->LK)(xs ah:List V)(kO:Array Value):Prop :=
 (ah=[]/\kO = #[])\/∃(b:Nat)(x:V)(vb:Value)(t:Addr),b<ah.length/\xs[b]?=some x/\RelV x vb/\ah[b]?=some (.ref t)/\kO = #[vb,.ref t]/\∀j,j<ah.length->lX mx (kf b) (kf j)
theorem QU(mx:Bool)(kf:Nat->LK)(hh:X.A.handled=none)(hu:X.A.units+1<cLine)(sQ:l≠I)(sR:S≠I)(fI:∀H',H' I=none->a9 X pins H' I)(fS:∀H',H' S=none->a9 X pins H' S)
  (hl:∀ah H',P ah H'->H' l=some (.lst xs)) (hP:∀ah H',P ah H'->∀i,i<ah.length->∃t,ah[i]?=some (.ref t)/\H' t=some (.tup ((kf i).map V.int)))
  (h8:∀(bh:av)(x:V)(u:Value)(ah:List V)(H':Hp)(s':Shared),xs[ah.length]?=some x->RelV x u->Inv X bh σ H' s'->P ah H'->wpAny (model X.prog X.w) X.A.in1 (call (.ref q) [u]) (EP X bh σ fun k g_=>P (ah++[k]) g_) (fun _ _=>False) s')
  (fin:∀ah H' s',ah.length=xs.length->P ah H'->Inv X pins σ H' s'->(xs=[]->R (.ok (.ret d)) s')/\∀(b:Nat)(x:V)(u:Value),xs[b]?=some x->RelV x u->(∀j,j<xs.length->lX mx (kf b) (kf j))->R (.ok (.ret u)) s') :
  ∀(r:Nat)(ah:List V)(H':Hp)(s':Shared)(kO:Array Value)(c:Nat)(oI:Obj),ah.length+r=xs.length->Inv X ((S,seqObj "list" kO c)::(I,oI)::pins) σ H' s'->P ah H'->oI.cls=.type "list_iterator" -> oI.data=.fields #[.ref l,.int ah.length 0]->QT mx kf xs ah kO →
   codeAny (model X.prog X.w) X.A (.builtin (qc mx) ⟨[.ref I,.ref q,.ref S],[(Str.ofString "default",d)]⟩) R s':=by
 have gM:(toString (ib mx)++toString ".loop" : String)=qc mx:=by cases mx<;>decide
 intro r
 induction r with
 |zero =>
  intro ah H' s' kO c oI hr J pk o8 Ah hb;have pS:=J.pin (S,seqObj "list" kO c) (Uj _ (.head _));have pI:=J.pin (I,oI) (Uj _ (.tail _ (.head _)));have Jn:=J.bS.bS;obtain⟨ar,rv,pl,_⟩:=Jn.list (a8.of (hl ah H' pk));have lv:ar.length=xs.length:=rv.length.symm;have QV:ah.length=ar.length:=by omega
  refine Ws (FJ mx) ?_;rw[Wd (qd mx) _];show wpAny _ X.A.in1 (seqItems? (.ref S) >>= _) _ _ _;refine lj (Yw pS.1 rfl ?_);show wpAny _ X.A.in1 (tryCatch (pyNext (.ref I)) _ >>= _) _ _ _;have W:=YN (prog:=X.prog) (w:=X.w) (A:=X.A.in1) hh I l sQ ar.toArray;refine lj (Zh (W.done _ _ _ ⟨⟨oI,pI.1,o8,by rw[Ah,xM,<-QV]⟩,PlainL.isList pl⟩ fun h' kA i7=>?_));have J1:Inv X pins σ H' {s' with heap:=h',toks:=kA}:=Jn.dR (fI H' pI.2.1) fun c o n e=>i7 c o (by simpa using n) e;have kB:=i7 S _ (by simpa using sR) pS.1;rcases hb with⟨Ai,rfl⟩|⟨b,x,vb,t,hb,hx,rx,ht,rfl,best⟩
  ·refine lj (Y5 (qV ?_))
   refine(fin ah H' _ (by omega) pk J1).1 ?_
   cases xs with
   |nil=>rfl
   |cons _ _=>rw[Ai] at hr;simp at hr
  ·have s1:=VW h' S (Obj.mapSeq fun _=>(#[]:Array Value))
   show wpAny _ X.A.in1 (updateSeq S (fun _ => #[]) >>= _) _ _ _;refine lj (Yi kB rfl (lj (Zq (qV ?_))));exact(fin ah H' _ (by omega) pk (J1.dR (fS H' pS.2.1) fun c o n e=>(s1.2 c n).trans e)).2 b x vb hx rx fun j hj=>best j (by omega)
 |succ r ih =>
  intro ah H' s' kO c oI hr J pk o8 Ah hb;have pS:=J.pin (S,seqObj "list" kO c) (Uj _ (.head _));have pI:=J.pin (I,oI) (Uj _ (.tail _ (.head _)));have Jn:=J.bS.bS;obtain⟨ar,rv,pl,_⟩:=Jn.list (a8.of (hl ah H' pk));have lv:ar.length=xs.length:=rv.length.symm;have cB:ah.length<ar.length:=by omega
  refine Ws (FJ mx) ?_;rw[Wd (qd mx) _];show wpAny _ X.A.in1 (seqItems? (.ref S) >>= _) _ _ _;refine lj (Yw pS.1 rfl ?_);show wpAny _ X.A.in1 (tryCatch (pyNext (.ref I)) _ >>= _) _ _ _;have W:=YN (prog:=X.prog) (w:=X.w) (A:=X.A.in1) hh I l sQ ar.toArray;refine lj (Zh (W.item ah.length _ _ _ (by rw[xM];exact cB) ⟨⟨oI,pI.1,o8,Ah⟩,PlainL.isList pl⟩ fun v h' kA hv Aj i7=>?_));have hv:ar[ah.length]?=some v:=by simpa using hv
  obtain⟨oT,Ak,sS,sT⟩:=id Aj.1;have hi:ah.length<xs.length:=by omega
  obtain⟨u,e1,rx⟩:=rv.get (nR hi);rw[hv] at e1;cases e1
  have hx:=nR hi;generalize xs[ah.length]=x at hx rx;have kB:=i7 S _ (by simpa using sR) pS.1;have nI:∀z,oT.data≠.cell z:=fun z e=>by rw[sT] at e;cases e
  have J1:Inv X pins σ H' {s' with heap:=h',toks:=kA}:=Jn.dR (fI H' pI.2.1) fun c o n e=>i7 c o (by simpa using n) e;have J2:=(J1.fw (fI H' pI.2.1) Ak nI).fw ((fS H' pS.2.1).cons (p:=(I,oT)) sR.symm) kB oO;show wpAny _ X.A.in1 (tryCatch (holding [v] (call (.ref q) [v])) _ >>= _) _ _ _;refine lj (Zh (VX (Xa (h8 _ x v ah H' _ hx rx J2 pk) (fun kv s2 he=>?_) fun _ _ hF=>hF.elim)));obtain⟨kx,H2,J3,rk,jd⟩:=he;obtain⟨t2,et,jz⟩:=hP _ H2 jd ah.length (by rw[C4];exact Wt _)
  have ek:kx=.ref t2:=by
   rw[VF (ua _),Wr] at et;simpa using et
  subst ek;cases rk
  have qS:=J3.pin (S,seqObj "list" kO c) (Uj _ (.head _));have qI:=J3.pin (I,oT) (Uj _ (.tail _ (.head _)));have Jm:=J3.bS.bS;have FL:(ah++[V.ref t2]).length+r=xs.length:=by rw[C4,VU];omega
  have sU:oT.data=.fields #[.ref l,.int ((ah++[V.ref t2]).length:Nat) 0]:=by rw[sT,C4];rfl
  have put:∀(b:Nat),b<ah.length+1->b=ah.length->(∀j,j<ah.length+1->lX mx (kf b) (kf j))->codeAny (model X.prog X.w) X.A (.builtin (qc mx) ⟨[.ref I,.ref q,.ref S],[(Str.ofString "default",d)]⟩) R {s2 with heap:=s2.heap.update S (Obj.mapSeq fun _ => #[v,.ref t2])}:=fun b hb eb best=>by
   subst eb;have s1:=VW s2.heap S (Obj.mapSeq fun _ => #[v,Value.ref t2]);obtain⟨c2,gz⟩:∃c2,(s2.heap.update S (Obj.mapSeq fun _ => #[v,Value.ref t2])).get? S=some (seqObj "list" #[v,.ref t2] c2):=⟨_,YX qS.1 fun _ => #[v,Value.ref t2]⟩;have J4:Inv X pins σ H2 {s2 with heap:=s2.heap.update S (Obj.mapSeq fun _ => #[v,Value.ref t2])}:=Jm.dR (t':=s2.toks) (fS H2 qS.2.1) fun c o n e=>(s1.2 c n).trans e;have J5:=(J4.fw (fI H2 qI.2.1) ((s1.2 I sR.symm).trans qI.1) nI).fw ((fS H2 qS.2.1).cons (p:=(I,oT)) sR.symm) gz oO;refine ih _ H2 _ _ c2 oT FL J5 jd sS sU (.inr ⟨ah.length,x,v,t2,by rw[C4];exact Wt _,hx,rx,et,rfl,fun j hj=>best j (by rw[C4] at hj;exact hj)⟩)
  rcases hb with⟨Ai,rfl⟩|⟨b,y,vb,t,hb,hy,ry,ht,rfl,best⟩
  ·show wpAny _ X.A.in1 (updateSeq S (fun _ => #[v,.ref t2]) >>= _) _ _ _
   refine lj (Yi qS.1 rfl ?_);rw[gM];refine qV ⟨Xf (qd mx) _,put ah.length (Wt _) rfl fun j hj=>?_⟩;rw[Ai] at hj ⊢;have:j=0:=by simp at hj;omega
   subst this;exact FK _ _
  ·obtain⟨t',FN,QW⟩:=hP _ H2 jd b (by rw[C4];omega)
   rw[VE hb,ht] at FN;cases FN
   obtain⟨i1,r1,QX,_⟩:=Jm.tuple (bw.of jz);obtain⟨i2,r2,QY,_⟩:=Jm.tuple (bw.of QW);show wpAny _ X.A.in1 (tryCatch (holding [v,.ref t2] (richCompare _ (.ref t2) (.ref t) >>= _)) _ >>= _) _ _ _;refine lj (Zh (VX (lj ?_)));refine QR (A:=X.A.in1) (mx:=mx) (ns:=kf ah.length) (ms:=kf b) QX QY (by simpa using intsAre_of r1) (by simpa using intsAre_of r2) hu ?_;refine lj (VX (W6 ?_));refine lj (Zq (qV ?_));split
   ·rename_i hq
    refine lj (Yi qS.1 rfl (lj (Zq ?_)));rw[gM];refine qV ⟨Xf (qd mx) _,put ah.length (Wt _) rfl fun j hj=>?_⟩
    by_cases e:j=ah.length
    ·subst e;exact FK _ _
    ·exact QP hq (best j (by omega))
   ·rename_i hq
    refine lj (Zq ?_);rw[gM];refine qV ⟨Xf (qd mx) _,ih _ H2 _ _ c oT FL J3 jd sS sU (.inr ⟨b,y,vb,t,by rw[C4];omega,hy,ry,by rw[VE hb];exact ht,rfl,fun j hj=>?_⟩)⟩
    by_cases e:j=ah.length
    ·subst e;exact QQ hq
    ·exact best j (by rw[C4,VU] at hj;omega)
theorem QZ(mx:Bool){Q:aP}(kf:Nat->LK)(J:Inv X pins σ H s)(hh:X.A.handled=none)(hu:X.A.units+1<cLine)(p0:P [] H)
  (hl:∀ah H',P ah H'->H' l=some (.lst xs)) (hP:∀ah H',P ah H'->∀i,i<ah.length->∃t,ah[i]?=some (.ref t)/\H' t=some (.tup ((kf i).map V.int)))
  (h8:∀(bh:av)(x:V)(u:Value)(ah:List V)(H':Hp)(s':Shared),xs[ah.length]?=some x->RelV x u->Inv X bh σ H' s'->P ah H'->wpAny (model X.prog X.w) X.A.in1 (call (.ref q) [u]) (EP X bh σ fun k g_=>P (ah++[k]) g_) (fun _ _=>False) s')
  (fin:∀ah H' s',ah.length=xs.length->P ah H'->Inv X pins σ H' s'->(xs=[]->Q d s')/\∀(b:Nat)(x:V)(u:Value),xs[b]?=some x->RelV x u->(∀j,j<xs.length->lX mx (kf b) (kf j))->Q u s') :
  wpAny (model X.prog X.w) X.A (call (.builtin (ib mx)) [.ref l] [(Str.ofString "key",.ref q),(Str.ofString "default",d)]) Q E s:=by
 have gM:(toString (ib mx)++toString ".loop" : String)=qc mx:=by cases mx<;>decide
 obtain⟨ar,rv,pl,_⟩:=J.list (a8.of (hl _ _ p0));have uD:=PlainL.lt pl;refine kmk_tree (QN mx) (QO mx) (QM mx) (QS _ _ _ _) ?_;show wpAny _ X.A.in1 (Builtin.Builtins.bindParams (ib mx) ["key", "default"] 0 ⟨[],[(Str.ofString "key",.ref q),(Str.ofString "default",d)]⟩ >>= _) _ _ s;refine lj (Z_ (show Builtin.Builtins.bindParams (ib mx) ["key", "default"] 0 ⟨[],[(Str.ofString "key",.ref q),(Str.ofString "default",d)]⟩=pure [some (.ref q),some d] from rfl) ?_);refine lj (qV ?_);refine lj (Xr (PlainL.isList pl) ?_);refine lj (Zv ?_ (Ww _));rw[gM];refine qV ⟨Xf (qd mx) _,?_⟩;have J1:Inv X pins σ H {s with heap:=s.heap.push {cls:=.type "list_iterator",data:=.fields #[.ref l,.int 0 0]}}:=J.kept (h':=s.heap.push {cls:=.type "list_iterator",data:=.fields #[.ref l,.int 0 0]}) (t':=s.toks) fun b u e=>ph _ e
 have gI:(s.heap.push {cls:=.type "list_iterator",data:=.fields #[.ref l,.int 0 0]}).get? s.heap.objs.size=some {cls:=.type "list_iterator",data:=.fields #[.ref l,.int 0 0]}:=Vy _ rfl;have hS:(s.heap.push {cls:=.type "list_iterator",data:=.fields #[.ref l,.int 0 0]}).objs.size≠s.heap.objs.size:=fun z=>W9 _ (Nat.lt_of_lt_of_eq (Ul gI) z);have fI:∀H',H' s.heap.objs.size=none->a9 X pins H' s.heap.objs.size:=fun H' e=>J.fO (ua _) e;have FO:H s.heap.objs.size=none:=J.aM.fresh (ua _);have sQ:l≠s.heap.objs.size:=VD uD;generalize s.heap.objs.size=I at gI hS fI FO sQ;generalize s.heap.push {cls:=.type "list_iterator",data:=.fields #[.ref l,.int 0 0]}=g1 at J1 gI hS
 have fS:∀H',H' g1.objs.size=none->a9 X pins H' g1.objs.size:=fun H' e=>J1.fO (ua _) e;have Q0:H g1.objs.size=none:=J1.aM.fresh (ua _);have J2:Inv X pins σ H {s with heap:=g1.push (seqObj "list" #[] 0)}:=J1.kept (h':=g1.push (seqObj "list" #[] 0)) (t':=s.toks) fun b u e=>ph _ e;have J3:=(J2.fw (fI H FO) (ph _ gI) (fun z e=>by cases e)).fw ((fS H Q0).cons (p:=(I,_)) hS.symm) (Vy _ rfl) oO;exact QU mx kf hh hu sQ hS fI fS hl hP h8 fin xs.length [] H _ #[] 0 _ (by simp) J3 p0 rfl rfl (.inl ⟨rfl,rfl⟩)
end
variable[aH]
def lY(mx:Bool)(cp:List (Option Nat))(fb:WE)(δ:aD)(ds:List D)(K:D->Prop):Prop :=
 ∃key:D->LK,Fh cp fb δ ds key/\(ds=[]->K .non)/\∀d∈ds,(∀e∈ds,lX mx (key d) (key e))->K d
def kc(mx:Bool)(cp:List (Option Nat))(fb:WE)(x:DV)(δ:aD)(K:D->Prop):Prop:=∃ds,x=.p (.lst ds)/\lY mx cp fb δ ds K
theorem Q1{mx:Bool}{cp:List (Option Nat)}{fb:WE}{x:DV}{δ:aD}{K:D->Prop}(h:kc mx cp fb x δ K):∃ds,x=.p (.lst ds)/\lY mx cp fb δ ds K:=h
def sV(mx:Bool)(f:WE)(cp:List (Option Nat))(fb:WE):WE:=fun δ K=>f δ fun x δ1=>kc mx cp fb x δ1 fun d=>K (.p d) δ1
noncomputable def vo(mx:Bool):Str:=Str.ofString (ib mx)
section
variable{X:Cx}{params:Arguments}{body:Expr}{scope:Scope}{cu:Pos}{x:Str}{Nb:List Str}{cp:List (Option Nat)}{fb:WE}{T:Addr}
theorem Q2{mx:Bool}{pins:av}{σ:St}{H:Hp}{s:Shared}{E:aP}{l:Addr}{F:Hp}{ad:List Addr}{δ:aD}{ds:List D}{xs:List V}{eE ke pos j p2}{Q:VK}(L:dS X params body scope cu T x Nb cp fb)(hu:X.A.units+64<cLine)
  (I:Inv X pins σ H s) (S:SR F ad δ σ H) (hl:F l=some (.lst xs)) (hx:ae F ds xs)
  (hs:lY mx cp fb δ ds fun d=>∀v F' H',Ext F ad δ.mu H F' ad δ.mu H'->SR F' ad δ σ H'->Is F' d v->Q v H') :
  wpAny (model X.prog X.w) X.A (evalAll ((backToKw pos (keywordEach [⟨some "key",.Lambda params body scope cu,eE⟩,⟨some "default",.Constant .none j p2,ke⟩] X.env)).map (·.2))) (fun ah s₂=>wpAny (model X.prog X.w) X.A (call (.builtin (ib mx)) [.ref l] (((backToKw pos (keywordEach [⟨some "key",.Lambda params body scope cu,eE⟩,⟨some "default",.Constant .none j p2,ke⟩] X.env)).filterMap (·.1)).zip ah)) (EP X pins σ Q) E s₂) E s:=by
 obtain⟨key,hk,K0,K⟩:=hs;obtain⟨k,j6,J⟩:=L.room;obtain⟨cc,fH,hC⟩:=L.env.code;show wpAny _ _ (evalAll [do let v <- eval (.Lambda params body scope cu) X.env;standAt pos;pure v,do let v <- eval (.Constant .none j p2) X.env;standAt pos;pure v]) _ _ _;refine evalAll_cons (lj ?_);have oQ:=L.names;unfold sC at oQ;simp only[Wa,WL,VR] at oQ;have SC:=q8M L.kind oQ.1.1.1;obtain⟨cl,kI,lT,p8⟩:=xQ (scope:=scope) (env:=X.env) fun y hy e=>I.ok.has y.1 (SC.free y hy e);refine E_ I (L.tbl.get H S.tab) L.Fi kI fH (hC.keeps I.bk) L.env.ng (I.mod.glob.keeps I.bk) (L.env.blt.keeps I.bk) fun f H1 s1 c I1 t1 k1 E9 hf hc=>?_
 refine lj (XY (qV ?_));refine evalAll_cons (lj (qV ?_));refine lj (XY (qV ?_));refine evalAll_nil ?_;show wpAny _ _ (call (.builtin (ib mx)) [.ref l] [(Str.ofString "key",.ref f),(Str.ofString "default",.none)]) _ _ _;have kT:∀b o,H b=some o->b∉aH.ad->H1 b=some o:=fun b o e t=>k1 b o e fun z=>t (by rw[z];exact L.tbl.mem);have iQ:=L.tbl.put H H1 S.tab t1 k1;have S1:=S.sH kT iQ;have E1:=Ext.sH S kT iQ;have lx:=hx.length;have r1:a7 (k+2) X.A.in1:=a7.in1 (k:=k+2) j6;have gd:∀{i:Nat}{d:D},ds[i]?=some d->ds.getD i .non=d:=fun{i d} e=>by rw[C6,e];rfl
 refine QZ mx (l:=l) (xs:=xs) (d:=.none) (fun i=>key (ds.getD i .non)) (P:=fun ah H'=>∃F',Ext F ad δ.mu H F' ad δ.mu H'/\SR F' ad δ σ H'/\H' f=some (gJ f "<lambda>" (X.env.qual++"<lambda>") params body scope cl ((X.mg "__name__").getD .none) (.ref c))/\H' c=some (j3 c (X.env.qual++"<lambda>"))/\ah.length<=ds.length/\∀(i:Nat)(d:D)(kv:V),ds[i]?=some d->ah[i]?=some kv->Is F' (.tup ((key d).map D.int)) kv)
  I1 r1.hd (by omega) ⟨_,E1,S1,hf,hc,Ww _,fun i d kv _ e=>by simp at e⟩ (fun ah H' ⟨F',E',S',_⟩=>S'.sub _ _ (E'.same _ _ hl)) (fun ah H' ⟨F',E',S',mP,gx,hle,mQ⟩ i hi=>?_) (fun bh v u ah H' s' hv rv I' ⟨F',E',S',mP,gx,hle,mQ⟩=>?_) fun ah H' s' d9 ⟨F',E',S',mP,gx,hle,mQ⟩ I'=>⟨fun h0=>?_,fun b y u hy ry best=>?_⟩
 ·have hd:=nR (show i<ds.length by omega)
  have is:=mQ i _ _ hd (nR hi);simp only[Is] at is;obtain⟨t,us,e1,e2,e3⟩:=is;refine⟨t,by rw[nR hi,e1],?_⟩;rw[gd hd,<-lG e3];exact S'.sub _ _ e2
 ·have hi:ah.length<ds.length:=by rw[<-lx];exact(nV.mp hv).1
  have hd:=nR hi;have zR:Is F' ds[ah.length] v:=ae.at (hx.same E'.same) hd hv;obtain⟨PR,zS⟩:=hk _ (Wu hi);refine Fd I' mP gx (by rw[show X.A.in1.frames=X.A.frames from rfl];exact I'.ok.frames) r1.hd (a7.depth (r1.mono (by omega:k+1<=k+2))) L.kind L.names L.co L.gen lT p8 (fun ct=>L.bind cl _ _ ct u) rv (J ⟨X.A.in1,cl,f,.ref c,s',H'⟩ ((r1.mono (by omega:k+1<=k+2)).deeper _)) ?_;refine⟨F',ad,_,_,(S'.oo (cp:=cp)).mO zR,zS,fun y δ' ⟨ey,em⟩ w F2 bo H2 E2 S2 V2=>?_⟩;subst ey
  have ea:bo=ad:=by
   have l2:bo.length=ad.length:=by rw[S2.bY,em,S'.bY]
   refine XG fun i=>?_
   by_cases hi:i<ad.length
   ·rw[nR hi];exact E2.pre i _ (nR hi)
   ·rw[WR (by omega),WR (by omega)]
  subst ea;obtain⟨qz,cy⟩:=δ';have em:cy=δ.mu:=em;subst em;refine⟨F2,E'.trans E2,SR.back S' E2 S2,E2.iJ S' mP (fun _ z=>by cases z) (fun _ z=>by cases z) (fun _ z=>by cases z),E2.iJ S' gx (fun _ z=>by cases z) (fun _ z=>by cases z) (fun _ z=>by cases z),by rw[C4,VU];exact hi,fun i d kv e1 e2=>?_⟩
  by_cases lM:i<ah.length
  ·rw[VE lM] at e2
   exact Is.same E2.same (mQ i d kv e1 e2)
  ·have:i=ah.length:=by
    have:=(nV.mp e2).1;rw[C4,VU] at this;omega
   subst this;rw[VF (ua _),Wr] at e2;cases(show some w=some kv from e2)
   rw[hd] at e1;cases e1;exact V2
 ·have Q3:ds=[]:=XM.mp (by rw[<-lx,h0];rfl)
  exact⟨.non,H',I',rfl,K0 Q3 _ F' H' E' S' (by simp only[Is])⟩
 ·have hb:b<ds.length:=by rw[<-lx];exact(nV.mp hy).1
  have hd:=nR hb;refine⟨y,H',I',ry,K ds[b] (Wu hb) (fun e he=>?_) _ F' H' E' S' (ae.at (hx.same E'.same) hd hy)⟩;obtain⟨j,hj,rfl⟩:=XH.mp he;have:=best j (by omega);rw[gd hd,gd (nR hj)] at this;exact this
variable{e:Expr}{f:WE}{p1 q1 eE ke:Pos}
theorem FP{j p2}(mx:Bool)(L:dS X params body scope cu T x Nb cp fb)(hu:X.A.units+64<cLine)(sI:Gl X (vo mx))(hs:X.mg (vo mx)=none)(sJ:bootBuiltins (vo mx)=some (.builtin (ib mx)))(ha:JA X [e] (bH (aj f af)))
  (he:starEach [e] X.env=[(false,eval e X.env)]:=by rfl):JE X (.Call (.Name (vo mx) p1) [e] [⟨some "key",.Lambda params body scope cu,eE⟩,⟨some "default",.Constant .none j p2,ke⟩] q1) (tD (sV mx f cp fb)) :=
 ⟨fun pins s σ H Q I h0_=>el7 h0_ fun F ad δ K S q k =>by
  refine XS (kW I sI hs sJ ?_ (hn:=by cases mx<;>decide) (hd:=by cases mx<;>decide));refine callWith_kw ?_ (he:=by rw[he];rfl) (hplain:=by rw[he];rfl);refine aY (ha q1 pins s σ H (fun vs H1=>∃(l:Addr)(F1:Hp)(aK:List Addr)(δ1:aD)(ds:List D)(us:List V),vs=[.ref l]/\F1 l=some (.lst us)/\ae F1 ds us/\Ext F ad δ.mu H F1 aK δ1.mu H1/\SR F1 aK δ1 σ H1/\lY mx cp fb δ1 ds fun d=>K (.p d) δ1) I ?_) fun us s1 zV=>?_
  ·refine⟨F,ad,δ,fun xs δ1=>match xs with
    |[x]=>kc mx cp fb x δ1 fun d=>K (.p d) δ1
    |_=>False,S,q,fun xs δ1 h1 vs F1 aK H1 E1 S1 V1=>?_⟩
   cases xs with
   |nil=>exact h1.elim
   |cons x xs =>
    cases xs with
    |cons _ _=>exact h1.elim
    |nil =>
     obtain⟨v,r,rfl,W1,W2⟩:=V1;have W2:r=[]:=W2;subst W2;obtain⟨ds,rfl,h2⟩:=Q1 h1;have W1:Is F1 (.lst ds) v:=W1;simp only[Is] at W1;obtain⟨a,us,rfl,g1,g2⟩:=W1;exact⟨a,F1,aK,δ1,ds,us,rfl,g1,g2,E1,S1,h2⟩
  ·obtain⟨vs,H1,I1,r1,l,F1,aK,δ1,ds,ws,ev,hl,hi,E1,S1,ve⟩:=zV
   subst ev;obtain⟨u,rfl,rx⟩:=vals1 r1;cases rx
   refine Q2 L hu I1 S1 hl hi ?_;obtain⟨key,hk,K0,hK⟩:=ve
   exact⟨key,hk,fun h0 v F' H' E' S' is=>k _ _ (K0 h0) _ _ _ _ (E1.trans E') S' is,fun d hd hb v F' H' E' S' is=>k _ _ (hK d hd hb) _ _ _ _ (E1.trans E') S' is⟩⟩
end
end L2
namespace LJ
open PySem L2
variable[aH]
noncomputable def sW:D->D
 |.tup [.int i,_]=>.int i
 |_=>.non
noncomputable def sX(p:Int->Bool):D->Bool
 |.tup [.int i,_]=>p i
 |_=>false
theorem Al(p:Int->Bool):∀(ds:List D)(i:Nat),((kK i ds).filter (sX p)).map sW=((List.range' i ds.length).filter fun k:Nat=>p k).map fun k:Nat=>D.int k
 |[],_=>rfl
 |d::r,i=>by
  have ih:=Al p r (i+1);show(((D.tup [.int i,d])::kK (i+1) r).filter _).map _=_;rw[Lk,List.range'_succ,List.filter_cons,List.filter_cons];show(if p i=true then _ else _:List D).map _=_
  cases q:p i with
  |true=>simp only[XZ,VM,ih];rfl
  |false=>simp only[V8,Xp,ih]
noncomputable def eg(l:List Int)(y:Wy):Bool:=decide (y.1∈l) != decide (y.2.1∈l)
noncomputable def dU(ws:List Wy)(l:List Int):List Int:=(aI ws.length).filter fun n=>eg l (ag ws n)
def Am:GD:=fun ys az K=>∃(y:Wy)(l:List Int),ys=[.p (a5 y),.p (aN l)]/\az=[]/\K (.p (.bl (eg l y))) []
def Ao:WS:=(aC (d2 (d2 (d2 (aa 0) (dC (.int 0)) aG) (aa 1) (dZ false)) (d2 (d2 (aa 0) (dC (.int 1)) aG) (aa 1) (dZ false)) iG))
theorem Q4:Sem 2 0 Am Ao:=by
 rintro ys az K'-⟨y,l,rfl,rfl,k⟩;unfold Ao;simp? only [a5,aN,cQ,cG];have d0:=gK l;refine⟨by omega,by omega,?_⟩;rw[gr,gr];unfold eg at k;generalize decide (y.1∈l)=p at k;generalize decide (y.2.1∈l)=q at k;cases p<;>cases q<;>exact bq k
def Ap:GD:=fun ys az K=>∃(m:Int)(ws:List Wy)(l:List Int),ax m ws/\ys=[.p (aA m ws),.p (aN l)]/\az=[]/\K (.p (aN (dU ws l))) []
def Aq:WS:=(aC (bU (jU (aj (d2 (aa 0) (dC (.int 1)) aG) af)) [none,none,some 1] (gC 2 (cP (aV 0) (cP (aV 1) gq))) (dT (aq 2 Am (aj (aa 1) (aj (aa 2) af)))) (aa 0)))
theorem Q5:Sem 2 0 Ap Aq:=by
 rintro ys az K'-⟨m,ws,l,W,rfl,rfl,k⟩;have jZ:=W.gu;unfold Aq;simp? only [aA,cG];refine gU (sX fun i=>eg l (ag ws i)) sW (by rw[pK,nU];omega) trivial ?_ ?_
 ·intro d hd acc L' ha h1 h2
  obtain⟨z,hz⟩:=Uq.mp hd;obtain⟨e,z1,z2⟩:=pL hz;rw[Lq] at z1;obtain⟨y,z3,rfl⟩:=Vz.mp z1;rw[Wb] at z2;subst z2;have ew:ag ws (z:Int)=y:=by unfold ag;rw[Vx,C6,z3];rfl
  simp only[sX,sW] at h1 h2;rw[ew] at h1 h2;simp? only [];refine⟨y,l,rfl,rfl,?_⟩;simp? only []
  cases q:eg l y with
  |true=>simp? only [];exact⟨ha,h1 q⟩
  |false=>simp? only [];exact h2 q
 ·have e:=Al (fun i=>eg l (ag ws i)) (ws.map a5) 0
  have e2:(dU ws l).map D.int=((List.range' 0 (ws.map a5).length).filter fun k:Nat=>eg l (ag ws k)).map fun k:Nat=>D.int k:=by
   unfold dU aI;rw[Wl,VH,nU,<-List.range_eq_range'];rfl
  rw[<-e2] at e;rw[e];exact bq k
def Ar:GD:=fun ys az K=>∃(m:Int)(ws:List Wy)(ns:List Int),ax m ws/\Nums ws ns/\ys=[.p (aA m ws),.p (aN ns)]/\az=[]/\(ns=[]->K (.p .non) [])/\∀n∈ns,(∀e∈ns,kle (cH ws n) (cH ws e))->K (.p (.int n)) []
def As:WS:=(aC (sV false (aa 1) [some 0] (aq 1 sL (aj (d2 (d2 (aa 1) (dC (.int 1)) aG) (aa 0) aG) af))))
theorem Q6:Sem 2 0 Ar As:=by
 rintro ys az K'-⟨m,ws,ns,W,hn,rfl,rfl,k0,k⟩;unfold As;simp? only [sV,kc,aA,aN]
 refine⟨ns.map D.int,rfl,fun d=>match d with
  |.int n=>cH ws n
  |_=>[],fun d hd=>?_,fun h0=>?_,fun d hd best=>?_⟩
 ·obtain⟨n,h,rfl⟩:=Lm.mp hd
  obtain⟨n0,n1⟩:=hn n h;obtain⟨y,ey,hy,ea,_⟩:=lQ W n0 n1;refine⟨(by intro z;cases z),?_⟩;simp? only [cG,ea];refine⟨y,rfl,rfl,?_⟩;simp? only [];unfold cH;rw[ey];rfl
 ·exact bq (k0 (Y0.mp h0))
 ·obtain⟨n,h,rfl⟩:=Lm.mp hd
  exact bq (k n h fun e he=>best _ (Lm.mpr ⟨e,he,rfl⟩))
theorem FQ(ns:List Int):∀i,i<=ns.length->(LJS.gi ns i).Nodup/\∀x,x∈LJS.gi ns i↔x∈ns.take i
 |0,_=>⟨Xz,fun x=>by simp[LJS.gi]⟩
 |i+1,h=>by
  obtain⟨n,m⟩:=FQ ns i (by omega)
  have et:ns.take (i+1)=ns.take i++[ns.getD i 0]:=by
   rw[XC,C6,nR (show i<ns.length by omega)];rfl
  rw[et];unfold LJS.gi LJS.once;split
  ·rename_i c
   refine⟨n,fun x=>?_⟩;rw[m x,VA,Um];refine⟨.inl,fun z=>z.elim id fun z=>?_⟩;subst z;exact(m _).mp c
  ·rename_i c
   refine⟨VZ.mpr ⟨n,by simp,fun a ha b hb z=>?_⟩,fun x=>?_⟩
   ·subst z;rw[Um.mp hb] at ha;exact c ha
   ·rw[VA,VA,m x]
theorem Q7{m:Int}{ws:List Wy}(W:ax m ws){ns:List Int}(hn:Nums ws ns):oN (d4 m ws ns)=iL m ws ns:=by
 have G:=FC W hn;obtain⟨nd,mem⟩:=FQ (d4 m ws ns) _ (ua _);have hl:(d4 m ws ns).length=m.toNat:=E5;rw[Xx] at mem
 have up:(sortI (fu (d4 m ws ns))).Pairwise (· < ·):=by
  have Ab:(sortI (fu (d4 m ws ns))).Nodup:=(sortI_perm _).nodup_iff.mpr nd;exact((rU _).and Ab).imp fun⟨a,b⟩=>by omega
 have:=Qx G up fun x=>((sortI_perm _).mem_iff).trans (mem x);unfold iL oN;rw[<-hl,this];refine W5 fun x _=>?_;unfold pX br aI;rw[Wl];rfl
theorem Au{ws:List Wy}:∀{ns:List Int},ns≠[]->∃n,n∈ns/\∀e∈ns,kle (cH ws n) (cH ws e)
 |[],h=>absurd rfl h
 |[a],_=>⟨a,My,fun e he=>by rw[Um.mp he];exact kle_refl _⟩
 |a::b::r,_=>by
  obtain⟨n,h1,h2⟩:=Au (ws:=ws) (ns:=b::r) (by simp)
  cases q:HT.lexLt (cH ws n) (cH ws a) with
  |true=>exact⟨n,C5 _ h1,fun e he=>(Lp.mp he).elim (fun z=>by rw[z];exact mL q) (h2 e)⟩
  |false=>exact⟨a,My,fun e he=>(Lp.mp he).elim (fun z=>by rw[z];exact kle_refl _) fun z=>kle_trans q (h2 e z)⟩
theorem mS{ws:List Wy}{us:List Int}(hu:Nums ws us)(nd:us.Nodup):us.length<=ws.length:=by
 have h:us.Subset (aI ws.length):=fun n h=>by
  have:=hu n h;exact aW.mpr this
 have:=Xl nd h;rw[jf] at this;exact this
end LJ
namespace L2
open PySem PySem.Spec PyProof.Rows PySem.W
section
variable{X:Cx}
end
variable[aH]{X:Cx}
end L2
namespace LJ
open PySem L2
variable[aH]
theorem FR:∀fs:List Int,(fs.map D.int).all bQ.dQ=true
 |[]=>rfl
 |_::r=>by rw[VM,Yf,FR r];rfl
def Indep(A:Wy->Prop):Prop:=∀a,A a->¬ au (fun v=>A v/\v≠a) a.1 a.2.1
omit [aH] in
theorem Indep.add {A B:Wy->Prop} {w:Wy} (h:Indep A) (k:∀v,B v↔A v\/v=w) (n:¬ au A w.1 w.2.1):Indep B:=by
 intro a ha c;rcases(k a).mp ha with ha|rfl
 ·have aw:a≠w:=fun e=>n (by rw[<-e];exact .one ha)
  have c':au (fun v=>(A v/\v≠a)\/v=w) a.1 a.2.1:=c.mono fun v hv=>by
   rcases(k v).mp hv.1 with z|z
   ·exact .inl ⟨z,hv.2⟩
   ·exact .inr z
  have m:∀{x y:Int},au (fun v=>A v/\v≠a) x y->au A x y:=fun z=>z.mono fun v hv=>hv.1;rcases(au.add fun v=>Iff.rfl).mp c' with z|⟨z1,z2⟩|⟨z1,z2⟩
  ·exact h a ha z
  ·exact n (((m z1).symm.trans (.one ha)).trans (m z2).symm)
  ·exact n (((m z2).trans (au.one ha).symm).trans (m z1))
 ·exact n (c.mono fun v hv=>by
   rcases(k v).mp hv.1 with z|z
   ·exact z
   ·exact absurd z hv.2)
theorem Av{m:Int}{ws:List Wy}(W:ax m ws){u v:Wy}(hu:u∈ws)(hv:v∈ws)(ne:u≠v):kN u v\/kN v u:=by
 by_cases c:kN u v
 ·exact .inl c
 ·refine .inr ?_
  have c:kle (iK v) (iK u):=by
   unfold kle
   cases q:HT.lexLt (iK u) (iK v) with
   |false=>rfl
   |true=>exact absurd q c
  refine Fu c fun e=>ne ?_;obtain⟨a1,a2,a3⟩:=u;obtain⟨b1,b2,b3⟩:=v;unfold iK at e;simp only[List.cons.injEq,and_true] at e;obtain⟨e1,e2,e3⟩:=e;subst e1 e2 e3;rfl
theorem Q8{m:Int}{ws:List Wy}(W:ax m ws):Indep (gW ws):=by
 have key:∀k,Indep fun u=>gW ws u/\lW ws u<k:=by
  intro k
  induction k with
  |zero=>intro a ha;omega
  |succ k ih =>
   by_cases e:∃w,gW ws w/\lW ws w=k
   ·obtain⟨w,tw,cw⟩:=e
    refine ih.add (w:=w) (fun v=>?_) fun c=>?_
    ·constructor
     ·rintro⟨tv,cv⟩
      by_cases z:v=w
      ·exact .inr z
      ·refine .inl ⟨tv,?_⟩
       rcases Av W tv.1 tw.1 z with y|y
       ·have:=Ac tv.1 y;omega
       ·have:=Ac tw.1 y;omega
     ·rintro(⟨tv,cv⟩|rfl)
      ·exact⟨tv,by omega⟩
      ·exact⟨tw,by omega⟩
    ·refine tw.2 (c.mono fun v hv=>⟨hv.1.1,?_⟩)
     by_cases z:v=w
     ·subst z;omega
     ·rcases Av W hv.1.1 tw.1 z with y|y
      ·exact y
      ·have:=Ac tw.1 y;omega
   ·have eq:(fun u=>gW ws u/\lW ws u<k+1)=fun u=>gW ws u/\lW ws u<k:=funext fun u=>propext ⟨fun⟨a,b⟩=>⟨a,by
     by_cases z:lW ws u=k
     ·exact absurd ⟨u,a,z⟩ e
     ·omega⟩,fun⟨a,b⟩=>⟨a,by omega⟩⟩
    rw[eq];exact ih
 have eq:(fun u=>gW ws u/\lW ws u<ws.length+1)=gW ws:=funext fun u=>propext ⟨fun h=>h.1,fun h=>⟨h,by
  have:=List.countP_le_length (p:=fun v=>HT.lexLt (iK v) (iK u)) (l:=ws)
  unfold lW;omega⟩⟩
 have:=key (ws.length+1);rw[eq] at this;exact this
theorem sY{m:Int}{ws:List Wy}(W:ax m ws){a b:Int}(ha:0<=a/\a<(ws.length:Int))(hb:0<=b/\b<(ws.length:Int))(e:ag ws a=ag ws b):a=b:=by
 have nd:=Qs W;unfold ag at e;have h1:a.toNat<ws.length:=by omega
 have h2:b.toNat<ws.length:=by omega
 rw[C6,C6,nR h1,nR h2] at e;have:=(YO (h₀:=h1) (h₁:=h2) nd).mp (by simpa using e);omega
theorem mT{S:Wy->Prop}{l:List Int}{a b:Int}(h:au S a b)(ha:a∈l)(hb:b∉l):∃v,S v/\eg l v=true:=by
 induction h with
 |rf=>exact absurd ha hb
 | @st c d h1 h2 ih =>
  by_cases c:c∈l
  ·obtain⟨w,hw,e⟩:=h2
   refine⟨w,hw,?_⟩;unfold eg;rcases e with⟨rfl,rfl⟩|⟨rfl,rfl⟩
   ·rw[Ln c,C7 hb];rfl
   ·rw[Ln c,C7 hb];rfl
  ·exact ih c
theorem Q9{l:List Int}{v:Wy}(h:eg l v=true):(v.1∈l/\v.2.1∉l)\/(v.2.1∈l/\v.1∉l):=by
 unfold eg at h
 by_cases p:v.1∈l
 ·by_cases q:v.2.1∈l
  ·rw[Ln p,Ln q] at h;cases h
  ·exact .inl ⟨p,q⟩
 ·by_cases q:v.2.1∈l
  ·exact .inr ⟨q,p⟩
  ·rw[C7 p,C7 q] at h;cases h
theorem bt{ws:List Wy}{l:List Int}{n:Int}:n∈dU ws l↔(0<=n/\n<(ws.length:Int))/\eg l (ag ws n)=true:=by
 unfold dU;rw[VJ,aW]
theorem Q_{ws:List Wy}{l:List Int}{n:Int}(h:n∈dU ws l)(best:∀e∈dU ws l,kle (cH ws n) (cH ws e)):gW ws (ag ws n):=by
 obtain⟨⟨n0,n1⟩,hl⟩:=bt.mp h;refine⟨h_ n0 n1,fun c=>?_⟩
 have:∃v,(v∈ws/\kN v (ag ws n))/\eg l v=true:=by
  rcases Q9 hl with⟨p,q⟩|⟨p,q⟩
  ·exact mT c p q
  ·exact mT c.symm p q
 obtain⟨v,⟨hv,lt⟩,lv⟩:=this;obtain⟨k,hk,rfl⟩:=Ft hv;have:=best k (bt.mpr ⟨hk,lv⟩);unfold kle at this;rw[vj,vj] at this;unfold kN at lt;rw[this] at lt;cases lt
def Aw:GD:=fun ys az K=>∃(m:Int)(ws:List Wy)(ns:List Int),ax m ws/\Nums ws ns/\ys=[.p (aA m ws),.p (aN ns)]/\az=[]/\(ns=[]->K (.p .non) [])/\∀n∈ns,(∀e∈ns,kle (cH ws e) (cH ws n))->K (.p (.int n)) []
def Ax:WS:=(aC (sV true (aa 1) [some 0] (aq 1 sL (aj (d2 (d2 (aa 1) (dC (.int 1)) aG) (aa 0) aG) af))))
theorem Ra:Sem 2 0 Aw Ax:=by
 rintro ys az K'-⟨m,ws,ns,W,hn,rfl,rfl,k0,k⟩;unfold Ax;simp? only [sV,kc,aA,aN]
 refine⟨ns.map D.int,rfl,fun d=>match d with
  |.int n=>cH ws n
  |_=>[],fun d hd=>?_,fun h0=>?_,fun d hd best=>?_⟩
 ·obtain⟨n,h,rfl⟩:=Lm.mp hd
  obtain⟨n0,n1⟩:=hn n h;obtain⟨y,ey,hy,ea,_⟩:=lQ W n0 n1;refine⟨(by intro z;cases z),?_⟩;simp? only [cG,ea];refine⟨y,rfl,rfl,?_⟩;simp? only [];unfold cH;rw[ey];rfl
 ·exact bq (k0 (Y0.mp h0))
 ·obtain⟨n,h,rfl⟩:=Lm.mp hd
  exact bq (k n h fun e he=>best _ (Lm.mpr ⟨e,he,rfl⟩))
noncomputable def oU(us:List Int)(g:Int):List Int:=us.filter fun n=>decide (n≠g)
open Classical in
noncomputable def oV (ws:List Wy) (us:List Int) (g one other:Int):Bool := !decide (au (bg ws (oU us g)) one other)
noncomputable def kg(ws:List Wy)(us:List Int)(one other:Int):List Int:=us.filter fun n=>oV ws us n one other
def Az:GD:=fun ys az K=>∃(m:Int)(ws:List Wy)(us:List Int)(g:Int)(i j:Nat),ax m ws/\Nums ws us/\us.length<=900/\i<m.toNat/\j<m.toNat/\ys=[.p (aA m ws),.p (aN us),.p (.int g),.p (.int i),.p (.int j)]/\az=[]/\K (.p (.bl (oV ws us g i j))) []
def AA:WS:=(ak (ay 5 (aq 2 oM (aj (aa 0) (aj (bU (aZ (aa 1)) [none,some 2] (aV 0) (dT (d2 (aa 0) (aa 1) iG)) (aa 0)) af)))) (aC (d2 (d2 (aa 5) (aa 3) aG) (d2 (aa 5) (aa 4) aG) iG)))
open Classical in
theorem Rb:Sem 5 1 Az AA:=by
 rintro ys az K'-⟨m,ws,us,g,i,j,W,hu,ul,hi,hj,rfl,rfl,k⟩;unfold AA;refine aJ fun N hN=>?_;rw[show aN us=.lst (us.map D.int) from rfl];simp? only []
 refine L2.gU (fun d=>match d with
  |.int n=>decide (n≠g)
  |_=>false) id (by rw[nU];omega) trivial ?_ ?_
 ·intro d hd acc L' ha h1 h2
  obtain⟨n,kr,rfl⟩:=Lm.mp hd;dsimp only at h1 h2;simp? only [];rw[h9]
  by_cases c:n=g
  ·rw[Ln c]
   simp? only [];exact h2 (C7 fun z=>z c)
  ·rw[C7 c]
   simp? only [];exact⟨ha,h1 (Ln c)⟩
 have e:((us.map D.int).filter fun d=>match d with
  |.int n=>decide (n≠g)
  |_=>false).map id=(oU us g).map D.int:=by
  rw[WV,Wl];rfl
 rw[e];have su:Nums ws (oU us g):=fun n h=>hu n (VJ.mp h).1;simp? only [];refine⟨m,ws,oU us g,W,su,.inl ⟨rfl,rfl,?_⟩⟩;have mo:=sO W su;unfold oV at k;generalize d4 m ws (oU us g)=fs at mo;have a1:=iI (ns:=fs) (i:=i) (by rw[mo.1];exact hi);have a2:=iI (ns:=fs) (i:=j) (by rw[mo.1];exact hj);simp? only [];subst hN;simp? only [aN,a1,a2];rw[h9]
 have:decide (fs.getD i 0=fs.getD j 0)=@decide (au (bg ws (oU us g)) i j) (Classical.propDecidable _):=by
  by_cases c:fs.getD i 0=fs.getD j 0
  ·rw[Ln c,Ln ((mo.2 i j hi hj).mp c)]
  ·rw[C7 c,C7 fun z=>c ((mo.2 i j hi hj).mpr z)]
 rw[this];exact bq k
end LJ
namespace L2
open PySem PySem.Spec PyProof.Rows PySem.W
section
variable{X:Cx}{pins:av}{σ:St}{H:Hp}{s:Shared}{E:aP}{l I S:Addr}{ts:List Addr}{d:Value}{R:Result->Shared->Prop}
end
variable[aH]
section
variable{X:Cx}{e:Expr}{f:WE}{p1 q1 ke:Pos}
end
end L2
namespace LJ
open PySem L2
variable[aH]
structure gN(ws:List Wy)(fo:List Int):Prop where
 nd:fo.Nodup
 mem:∀n,n∈fo↔(0<=n/\n<(ws.length:Int))/\gW ws (ag ws n)
theorem Rc{m:Int}{ws:List Wy}(W:ax m ws){os:List Int}(ho:bB ws os):gN ws (mR m ws os):=⟨Qr ho,fun n=>Qp W ho⟩
theorem gN.nums{ws:List Wy}{fo:List Int}(F:gN ws fo):Nums ws fo:=fun n h=>((F.mem n).mp h).1
theorem gN.len{ws:List Wy}{fo:List Int}(F:gN ws fo):fo.length<=ws.length:=mS F.nums F.nd
theorem Rf{ws:List Wy}{a b:Int}(h:kle (cH ws a) (cH ws b)):¬ kN (ag ws b) (ag ws a):=fun z=>by
 unfold kle at h;rw[vj,vj] at h;unfold kN at z;rw[h] at z;cases z
noncomputable def iM(many:Int):Int->List Int->Bool
 |_,[]=>true
 |lo,x::r=>(decide (lo<=x)&&decide (x<=many-1))&&iM many (x+1) r
theorem vp{many:Int}:∀{l:List Int}{lo:Int},l.Pairwise (· < ·)->(∀x∈l,lo<=x/\x<many)->iM many lo l=true
 |[],_,_,_=>rfl
 |x::r,lo,h,k=>by
  obtain⟨h1,h2⟩:=Wj.mp h;obtain⟨k1,k2⟩:=k x My;unfold iM;rw[vp h2 fun y hy=>⟨by have:=h1 y hy;omega,(k y (C5 _ hy)).2⟩,Ln k1,Ln (show x<=many-1 by omega)];rfl
def vq:GD:=fun ys az K=>∃(l:List Int)(m:Int),ys=[.p (aN l),.p (.int m)]/\az=[]/\K (.p (.bl (iM m 0 l))) []
def AB:WS:=(ak (aR (dm (dT (d1 (aa 0) (hX "list")))) (aC (dC (.bl false))) bK) (ak (ay 2 (dC (.int 0))) (ak (cI (aZ (aa 0)) (aV 3) (ak (aR (dm (dT (aq 3 oK (aj (aa 3) (aj (aa 2) (aj (d2 (aa 1) (dC (.int 1)) (oI fun i j=>.int (i-j))) af)))))) (aC (dC (.bl false))) bK) (ay 2 (d2 (aa 3) (dC (.int 1)) cq)))) (aC (dC (.bl true))))))
theorem Rg:Sem 2 2 vq AB:=by
 rintro ys az K'-⟨l,m,rfl,rfl,k⟩;unfold AB;rw[show aN l=.lst (l.map D.int) from rfl];refine aJ fun N hN=>?_;simp? only [fU,dh,Bool.true_or];subst hN;refine aJ fun N hN=>?_;simp? only [];subst hN;refine aJ fun N hN=>?_;refine jX fun g' b' K2 hg hb' hK=>?_;simp? only [];subst hg hb' hK;refine jx (fun i δ=>∃lo:Int,iM m 0 l=iM m lo (l.drop i)/\δ=⟨[some (.p (.lst (l.map D.int))),some (.p (.int m)),some (.p (.int lo)),none],[]⟩) ⟨0,rfl,rfl⟩ ?_ ?_
 ·rintro j d δ L hj ⟨lo,e,rfl⟩ hL
  rw[Lq] at hj;obtain⟨x,hx,rfl⟩:=Vz.mp hj;obtain⟨yf,ex⟩:=nV.mp hx;rw[Xk yf,ex,show iM m lo (x::l.drop (j+1))=((decide (lo<=x)&&decide (x<=m-1))&&iM m (x+1) (l.drop (j+1))) from rfl] at e;refine⟨trivial,?_⟩;simp only[aV,V6,V7];refine aJ fun N2 bR=>?_;refine fF fun A1 B1 hA hB=>?_;simp? only [];refine⟨.int x,lo,m-1,rfl,rfl,?_⟩;rw[show uV (.int x) lo (m-1)=(decide (lo<=x)&&decide (x<=m-1)) from rfl]
  cases q:(decide (lo<=x)&&decide (x<=m-1)) with
  |true =>
   simp? only [];subst hB;show N2 _;subst bR;simp? only [];exact hL _ ⟨x+1,by rw[e,q];rfl,rfl⟩
  |false =>
   simp? only [];subst hA;simp? only [];rw[e,q] at k;exact bq k
 ·rintro δ ⟨lo,e,rfl⟩
  rw[nU,List.drop_length] at e;refine⟨trivial,?_⟩;subst hN;simp? only [];rw[e] at k;exact bq k
def AD:GD:=fun ys az K=>∃(m:Int)(ws:List Wy)(us:List Int)(i:Nat),ax m ws/\Nums ws us/\i<m.toNat/\ys=[.p (aA m ws),.p (aN us),.p (.int i)]/\az=[]/\K (.p (aN (cls m.toNat (bg ws us) i))) []
def AE:WS:=(ak (ay 3 (aq 2 oM (aj (aa 0) (aj (aa 1) af)))) (aC (bU (jU (aj (aa 3) af)) [none,none,some 3,some 2] (gC 2 (cP (aV 0) (cP (aV 1) gq))) (dT (d2 (aa 1) (d2 (aa 2) (aa 3) aG) oEq)) (aa 0))))
open Classical in
theorem Rh:Sem 3 1 AD AE:=by
 rintro ys az K'-⟨m,ws,us,i,W,hu,hi,rfl,rfl,k⟩;have dj:=W.dj;unfold AE;refine aJ fun N hN=>?_;simp? only [];refine⟨m,ws,us,W,hu,.inl ⟨rfl,rfl,?_⟩⟩;have mo:=sO W hu;generalize d4 m ws us=fs at mo;have a1:=iI (ns:=fs) (i:=i) (by rw[mo.1];exact hi);rw[show aN fs=.lst (fs.map D.int) from rfl];simp? only [];subst hN;simp? only [];refine L2.gU (sX fun x=>decide (au (bg ws us) i x)) sW (by rw[pK,nU,mo.1];omega) trivial ?_ ?_
 ·intro d hd acc L' ha h1 h2
  obtain⟨z,hz⟩:=Uq.mp hd;obtain⟨e,z1,z2⟩:=pL hz;rw[Lq] at z1;obtain⟨y,z3,rfl⟩:=Vz.mp z1;rw[Wb] at z2;subst z2;have zl:z<m.toNat:=by rw[<-mo.1];exact(nV.mp z3).1
  have ez:fs.getD z 0=y:=by rw[C6,z3];rfl
  simp only[sX,sW] at h1 h2;simp? only [a1];rw[h9]
  by_cases c:au (bg ws us) i z
  ·rw[Ln (show y=fs.getD i 0 by rw[<-ez];exact((mo.2 i z hi zl).mpr c).symm)]
   simp? only [];exact⟨ha,h1 (Ln c)⟩
  ·rw[C7 (show ¬ y=fs.getD i 0 from fun e=>c ((mo.2 i z hi zl).mp (by rw[<-e,ez])))]
   simp? only [];exact h2 (C7 c)
 ·have e:=Al (fun x=>decide (au (bg ws us) i x)) (fs.map D.int) 0
  have e2:(cls m.toNat (bg ws us) i).map D.int=((List.range' 0 (fs.map D.int).length).filter fun k:Nat=>decide (au (bg ws us) i k)).map fun k:Nat=>D.int k:=by
   unfold cls aI;rw[Wl,VH,nU,<-List.range_eq_range',mo.1];rfl
  rw[<-e2] at e;rw[e];exact bq k
def AF:GD:=fun ys az K=>∃(m:Int)(ws:List Wy)(us:List Int)(i j:Nat),ax m ws/\Nums ws us/\us.length<=900/\i<m.toNat/\j<m.toNat/\ys=[.p (aA m ws),.p (aN us),.p (.int i),.p (.int j)]/\az=[]/\K (.p (aN (kg ws us i j))) []
def AG:WS:=(aC (bU (aZ (aa 1)) [none,some 0,some 1,some 2,some 3] (aV 0) (dT (aq 5 Az (aj (aa 1) (aj (aa 2) (aj (aa 0) (aj (aa 3) (aj (aa 4) af))))))) (aa 0)))
theorem Ri:Sem 4 0 AF AG:=by
 rintro ys az K'-⟨m,ws,us,i,j,W,hu,ul,hi,hj,rfl,rfl,k⟩;unfold AG;rw[show aN us=.lst (us.map D.int) from rfl];simp? only []
 refine L2.gU (fun d=>match d with
  |.int n=>oV ws us n i j
  |_=>false) id (by rw[nU];omega) trivial ?_ ?_
 ·intro d hd acc L' ha h1 h2
  obtain⟨n,kr,rfl⟩:=Lm.mp hd;dsimp only at h1 h2;simp? only [];refine⟨m,ws,us,n,i,j,W,hu,ul,hi,hj,rfl,rfl,?_⟩;simp? only []
  cases q:oV ws us n i j with
  |true=>simp? only [];exact⟨ha,h1 q⟩
  |false=>simp? only [];exact h2 q
 ·have e:((us.map D.int).filter fun d=>match d with
   |.int n=>oV ws us n i j
   |_=>false).map id=(kg ws us i j).map D.int:=by
   rw[WV,Wl];rfl
  rw[e];exact bq k
theorem Rj{δ0:aD}{t:WT}{b:WS}{K:KS}{n:Nat}{δ:aD}(h:∀A B:aD->Prop,A=b {nx:=fun δ2=>lV δ0 t b K n (δ0.trim δ2),ct:=fun δ2=>lV δ0 t b K n (δ0.trim δ2),bk:=K.nx,rt:=K.rt}->B=K.nx->t δ fun bb δ1=>if bb=true then A δ1 else B δ1):lV δ0 t b K (n+1) δ:=h _ _ rfl rfl
theorem Rk(n:Nat):seqIndex? 0 (n+1)=some 0:=by
 unfold seqIndex?;simp
def f_(ws:List Wy)(us:List Int)(n:Int):Wy->Prop:=fun v=>bg ws us v/\v≠ag ws n
def isKey(ah:List (Key×D))(x:Int):Prop:=(bj ah (.inl x)).isSome=true
structure RI(m:Int)(ws:List Wy)(us:List Int)(i:Int)(ah:List (Key×D)):Prop where
 val:∀x d,bj ah (.inl x)=some d->∃R:List Int,d=aN R/\(0<=x/\x<m)/\au (bg ws us) i x/\R.Nodup/\(∀n,n∈R↔n∈us/\¬ au (f_ ws us n) i x)/\∀n∈R,isKey ah (ag ws n).1/\isKey ah (ag ws n).2.1
 one:isKey ah i
 nd:(ah.map (·.1)).Nodup
 rng:∀k∈ah.map (·.1),∃x:Int,k=.inl x/\0<=x/\x<m
theorem FT{ah:List (Key×D)}{x:Int}(h:Sum.inl x∈ah.map (·.1)):isKey ah x:=by
 obtain⟨kv,h1,h2⟩:=Lm.mp h;unfold isKey bj;rw[Zo];exact List.find?_isSome.mpr ⟨kv,h1,Ln h2⟩
theorem AH{ah:List (Key×D)}{y:Int}(h:¬ isKey ah y)(d:D):putD ah (.inl y) d=ah++[(.inl y,d)]:=by
 unfold putD;rw[Uo fun z=>h (FT ?_)];obtain⟨kv,h1,h2⟩:=Yb.mp z;exact Lm.mpr ⟨kv,h1,VS h2⟩
theorem RI.len{m:Int}{ws:List Wy}{us:List Int}{i:Int}{ah:List (Key×D)}(h:RI m ws us i ah)(hm:m<=12):ah.length<=12:=by
 have sub:(ah.map (·.1)).length<=((aI m.toNat).map fun x=>(Sum.inl x:Key)).length:=by
  refine Xl h.nd fun k hk=>?_;obtain⟨x,rfl,h0,h1⟩:=h.rng k hk;exact Lm.mpr ⟨x,aW.mpr ⟨h0,by omega⟩,rfl⟩
 rw[nU,nU,jf] at sub;omega
theorem vt{ah:List (Key×D)}{y:Int}(h:¬ isKey ah y):bj ah (.inl y)=none:=by
 unfold isKey at h
 cases q:bj ah (.inl y) with
 |none=>rfl
 |some d=>rw[q] at h;exact absurd rfl h
theorem gb{ah:List (Key×D)}{x y:Int}{d:D}(h:¬ isKey ah y):isKey (putD ah (.inl y) d) x↔isKey ah x\/x=y:=by
 unfold isKey;rw[z7 (vt h)]
 by_cases c:x=y
 ·subst c;rw[VB rfl];simp
 ·rw[Uo (fun z=>c (by cases z;rfl))];simp[c]
theorem RI.put{m:Int}{ws:List Wy}(W:ax m ws){us:List Int}(hu:Nums ws us)(ind:Indep (bg ws us)){i:Int}{ah:List (Key×D)}(h:RI m ws us i ah){x y n:Int}{R:List Int}(hx:bj ah (.inl x)=some (aN R))(hn:n∈us)(e:((ag ws n).1=x/\(ag ws n).2.1=y)\/((ag ws n).1=y/\(ag ws n).2.1=x))(nr:n∉R)(ny:¬ isKey ah y):RI m ws us i (putD ah (.inl y) (aN (R++[n]))):=by
 obtain⟨R',eR,hr,cx,rd,rm,re⟩:=h.val x _ hx
 have eR:R=R':=by
  have:=FH R R';rw[eR,kL] at this;exact VS this.symm
 subst eR;have kx:isKey ah x:=by unfold isKey;rw[hx];rfl
 have An:bg ws us (ag ws n):=⟨n,hn,rfl⟩;obtain⟨n0,n1⟩:=hu n hn;have en:=W.ends _ (h_ n0 n1)
 have co:∀{S:Wy->Prop},S (ag ws n)->au S x y:=fun{S} hS=>by
  rcases e with⟨rfl,rfl⟩|⟨rfl,rfl⟩
  ·exact .one hS
  ·exact(au.one hS).symm
 have nc:¬ au (f_ ws us n) x y:=fun z=>ind _ An (by
  rcases e with⟨rfl,rfl⟩|⟨rfl,rfl⟩
  ·exact z
  ·exact z.symm)
 have cn:au (f_ ws us n) i x:=VO fun z=>nr ((rm n).mpr ⟨hn,z⟩);refine⟨fun z d hz=>?_,(gb ny).mpr (.inl h.one),?_,?_⟩
 ·rw[z7 (vt ny)] at hz
  by_cases c:z=y
  ·subst c
   rw[VB rfl] at hz;cases hz
   refine⟨R++[n],rfl,by omega,cx.trans (co An),VZ.mpr ⟨rd,by simp,fun a ha b hb z=>nr (by rw[Um] at hb;rw[<-hb,<-z];exact ha)⟩,fun k=>?_,fun k hk=>?_⟩
   ·rw[VA,Um,rm]
    by_cases kn:k=n
    ·subst kn
     exact⟨fun _=>⟨hn,fun z=>nc (cn.symm.trans z)⟩,fun _=>.inr rfl⟩
    ·constructor
     ·rintro(⟨h1,h2⟩|z)
      ·have:f_ ws us k (ag ws n):=⟨An,fun z=>kn (sY W (hu k h1) (hu n hn) z.symm)⟩
       exact⟨h1,fun z=>h2 (z.trans (co this).symm)⟩
      ·exact absurd z kn
     ·rintro⟨h1,h2⟩
      have:f_ ws us k (ag ws n):=⟨An,fun z=>kn (sY W (hu k h1) (hu n hn) z.symm)⟩;exact .inl ⟨h1,fun z=>h2 (z.trans (co this))⟩
   ·rcases VA.mp hk with hk|hk
    ·exact⟨(gb ny).mpr (.inl (re k hk).1),(gb ny).mpr (.inl (re k hk).2)⟩
    ·obtain rfl:k=n:=Um.mp hk
     rcases e with⟨e1,e2⟩|⟨e1,e2⟩
     ·exact⟨(gb ny).mpr (.inl (e1▸kx)),(gb ny).mpr (.inr e2)⟩
     ·exact⟨(gb ny).mpr (.inr e1),(gb ny).mpr (.inl (e2▸kx))⟩
  ·rw[Uo (fun q=>c (by cases q;rfl))] at hz
   obtain⟨S,e1,e2,e3,e4,e5,e6⟩:=h.val z d hz;exact⟨S,e1,e2,e3,e4,e5,fun k hk=>⟨(gb ny).mpr (.inl (e6 k hk).1),(gb ny).mpr (.inl (e6 k hk).2)⟩⟩
 ·rw[AH ny,VI]
  refine VZ.mpr ⟨h.nd,by simp,fun a ha b hb z=>ny (FT ?_)⟩;have hb:b=.inl y:=by simpa using hb
  rw[<-hb,<-z];exact ha
 ·intro k hk
  rw[AH ny,VI] at hk;rcases VA.mp hk with hk|hk
  ·exact h.rng k hk
  ·refine⟨y,by simpa using hk,?_⟩
   omega
def vv:GD:=fun ys az K=>∃(m:Int)(ws:List Wy)(us:List Int)(i j:Nat),ax m ws/\Nums ws us/\us.length<=900/\Indep (bg ws us)/\i<m.toNat/\j<m.toNat/\ys=[.p (aA m ws),.p (aN us),.p (.int i),.p (.int j)]/\az=[] ∧
 (¬ au (bg ws us) i j->K (.p .non) [])/\∀R:List Int,R.Nodup->(∀n,n∈R↔n∈us/\¬ au (f_ ws us n) i j)->au (bg ws us) i j->K (.p (aN R)) []
def AI:WS:=(ak (ay 4 (z5 (aa 2) (b9 af))) (ak (ay 5 (kJ (aj (aa 2) af))) (ak (Fj (dT (d2 (aa 5) (b9 af) iG)) (ak (ay 6 (pT (aa 5) (aj (dC (.int 0)) af))) (cI (aZ (aa 1)) (aV 7) (ak (ay 8 (fZ (d2 (d2 (aa 0) (dC (.int 1)) aG) (aa 7) aG) fY (lH (dC (.int 2))))) (aR (eJ (dT (d2 (aa 6) (aa 8) (dZ false))) (dT (d2 (aa 7) (oR (aa 4) (aa 6)) (dZ true)))) (ak (ay 9 (d2 (d2 (d2 (aa 8) (dC (.int 0)) aG) (d2 (aa 8) (dC (.int 1)) aG) cq) (aa 6) (oI fun i j=>.int (i-j)))) (aR (dT (j7 true (aa 9) (aa 4))) (ak (vg (d2 (oR (aa 4) (aa 6)) (b9 (aj (aa 7) af)) cq) (aa 4) (aa 9)) (i5 (ft (aa 5) (aj (aa 9) af)))) bK)) bK))))) (aC (z4 (aa 4) (aa 3) (dC .non))))))
def Rm(ws:List Wy)(us:List Int)(ah:List (Key×D))(iN:List Int):Prop:=∀x,isKey ah x->x∉iN->∀n∈us,((ag ws n).1=x->isKey ah (ag ws n).2.1)/\((ag ws n).2.1=x->isKey ah (ag ws n).1)
theorem Rn:Sem 4 6 vv AI:=by
 rintro ys az K'-⟨m,ws,us,i,j,W,hu,ul,ind,hi,hj,rfl,rfl,k0,k⟩;have dj:=W.dj;have ri:(0:Int)<=i/\(i:Int)<m:=by omega
 unfold AI;rw[show aN us=.lst (us.map D.int) from rfl];refine aJ fun N hN=>?_;simp? only [z5,d5,dJ];subst hN;refine aJ fun N hN=>?_;simp? only [];subst hN;refine aJ fun N hN=>?_
 have I0:RI m ws us i [(.inl (i:Int),aN [])]:=by
  have v1:∀x:Int,bj [((.inl (i:Int):Key),aN [])] (.inl x)=if x=i then some (aN []) else none:=fun x=>by
   unfold bj
   by_cases c:x=i
   ·subst c;rw[VB rfl];simp
   ·rw[Uo c];simp[show ¬ ((i:Int)=x) from fun z=>c z.symm]
  refine⟨fun x d hx=>?_,by unfold isKey;rw[v1,VB rfl];rfl,by simp,fun k hk=>⟨i,by simpa using hk,ri⟩⟩;rw[v1] at hx;split at hx
  ·rename_i e
   subst e;cases hx
   exact⟨[],rfl,ri,.rf,Xz,(fun n=>⟨(fun z=>nomatch z),fun z=>absurd .rf z.2⟩),fun n z=>nomatch z⟩
  ·cases hx
 have go:∀(fuel:Nat)(ah:List (Key×D))(iN:List Int),RI m ws us i ah->(∀x∈iN,isKey ah x)->Rm ws us ah iN->iN.length<=ah.length->iN.length+12<fuel+ah.length →
   lV ⟨[some (.p (aA m ws)),some (.p (.lst (us.map D.int))),some (.p (.int i)),some (.p (.int j)),some (.o 0),some (.o 1),none,none,none,none],[some (.dct [(.inl (i:Int),aN [])]),some (.lst [.int i])]⟩ (dT (d2 (aa 5) (b9 af) iG)) (ak (ay 6 (pT (aa 5) (aj (dC (.int 0)) af))) (cI (aZ (aa 1)) (aV 7) (ak (ay 8 (fZ (d2 (d2 (aa 0) (dC (.int 1)) aG) (aa 7) aG) fY (lH (dC (.int 2))))) (aR (eJ (dT (d2 (aa 6) (aa 8) (dZ false))) (dT (d2 (aa 7) (oR (aa 4) (aa 6)) (dZ true)))) (ak (ay 9 (d2 (d2 (d2 (aa 8) (dC (.int 0)) aG) (d2 (aa 8) (dC (.int 1)) aG) cq) (aa 6) (oI fun i j=>.int (i-j)))) (aR (dT (j7 true (aa 9) (aa 4))) (ak (vg (d2 (oR (aa 4) (aa 6)) (b9 (aj (aa 7) af)) cq) (aa 4) (aa 9)) (i5 (ft (aa 5) (aj (aa 9) af)))) bK)) bK)))) {jQ 0 K' with nx:=N} fuel ⟨[some (.p (aA m ws)),some (.p (.lst (us.map D.int))),some (.p (.int i)),some (.p (.int j)),some (.o 0),some (.o 1),none,none,none,none],[some (.dct ah),some (.lst (iN.map D.int))]⟩:=by
  intro fuel
  induction fuel with
  |zero=>intro ah iN I _ _ _ hf;have:=I.len dj;omega
  |succ fuel ih =>
   intro ah iN I dk cl hd hf;have kl:=I.len dj;refine Rj fun A B hA hB=>?_;have d0:=gK iN;simp? only [];refine⟨by omega,?_⟩;rw[show(D.lst [])=D.lst (([]:List Int).map D.int) from rfl];simp only[aB,sP]
   cases iN with
   |nil =>
    rw[Ln rfl];simp? only [];rw[hB];show N _;rw[hN];simp? only [z4,d5,dJ]
    have all:∀{y:Int},au (bg ws us) i y->isKey ah y:=fun{y} c=>by
     induction c with
     |rf=>exact I.one
     |st _ a hb =>
      obtain⟨w,⟨n,hn,rfl⟩,e⟩:=a;have:=cl _ hb (fun z=>nomatch z) n hn;rcases e with⟨e1,e2⟩|⟨e1,e2⟩
      ·exact e2▸this.1 e1
      ·exact e1▸this.2 e2
    by_cases c:au (bg ws us) i j
    ·have hk:=all c
     unfold isKey at hk;obtain⟨d,hd⟩:=XI.mp hk;obtain⟨R,rfl,_,_,rd,rm,_⟩:=I.val j d hd;simp only[hd];exact⟨[],rfl,rfl,k R rd rm c⟩
    ·cases q:bj ah (.inl (j:Int)) with
     |none=>exact⟨[],rfl,rfl,k0 c⟩
     |some d=>obtain⟨R,_,_,cj,_⟩:=I.val j d q;exact absurd cj c
   |cons x iN =>
    rw[Lk] at hd hf;rw[C7 (by simp)];simp? only [];subst hA;obtain⟨dx,hx⟩:=XI.mp (dk x (.head _));obtain⟨R,rfl,rx,cx,rd,rm,re⟩:=I.val x dx hx;refine aJ fun N2 bR=>?_;simp? only [Rk];refine⟨by decide,?_⟩;simp only[List.eraseIdx_cons_zero];subst bR;refine jX fun g' b' K2 hg hb' hK=>?_;simp? only [];subst hg hb' hK;have dz:∀R:List Int,bO (R.map D.int)=0:=gK
    refine jx (fun t δ=>∃(bJ:List (Key×D))(eK:List Int),RI m ws us i bJ/\(∀z,isKey ah z->isKey bJ z)/\bj bJ (.inl x)=some (aN R)/\(∀z∈eK,isKey bJ z)/\(∀z,isKey bJ z->z∉eK->z≠x->∀n∈us,((ag ws n).1=z->isKey bJ (ag ws n).2.1)/\((ag ws n).2.1=z->isKey bJ (ag ws n).1))/\(∀n∈us.take t,((ag ws n).1=x->isKey bJ (ag ws n).2.1)/\((ag ws n).2.1=x->isKey bJ (ag ws n).1))/\eK.length+ah.length=iN.length+bJ.length ∧
     δ=⟨[some (.p (aA m ws)),some (.p (.lst (us.map D.int))),some (.p (.int i)),some (.p (.int j)),some (.o 0),some (.o 1),some (.p (.int x)),none,none,none],[some (.dct bJ),some (.lst (eK.map D.int))]⟩) ?_ ?_ ?_
    ·exact⟨ah,iN,I,fun _ h=>h,hx,fun z hz=>dk z (.tail _ hz),(fun z hz zd zx=>cl z hz (fun q=>(Lp.mp q).elim zx zd)),(fun n z=>nomatch z),rfl,rfl⟩
    ·rintro t d δ L ht ⟨bJ,eK,I',mono,fD,pC,vw,dn,ln,rfl⟩ hL
     rw[Lq] at ht;obtain⟨n,hn,rfl⟩:=Vz.mp ht;have hm:=V0 hn;have et:us.take (t+1)=us.take t++[n]:=by rw[XC,hn];rfl
     obtain⟨n0,n1⟩:=hu n hm;obtain⟨y,ey,hy,ea,_⟩:=lQ W n0 n1;have ey:ag ws n=y:=ey;have ends:=W.ends y hy;have UO:=I'.len dj;obtain⟨R',eR,_,_,_,UP,uH⟩:=I'.val x _ fD
     have eR:R=R':=by
      have:=FH R R';rw[eR,kL] at this;exact VS this.symm
     subst eR;have kx:isKey bJ x:=by unfold isKey;rw[fD];rfl
     refine⟨trivial,?_⟩;simp only[aV,V6,V7];have ec:cutD [D.int y.1,D.int y.2.1,D.int y.2.2] none (some 2)=[D.int y.1,D.int y.2.1]:=rfl;refine aJ fun N2 bR=>?_;simp? only [aA,cG,ea,a5,ec];subst bR
     have same:((ag ws n).1=x->isKey bJ (ag ws n).2.1)/\((ag ws n).2.1=x->isKey bJ (ag ws n).1)->L ⟨[some (.p (aA m ws)),some (.p (.lst (us.map D.int))),some (.p (.int i)),some (.p (.int j)),some (.o 0),some (.o 1),some (.p (.int x)),none,none,none],[some (.dct bJ),some (.lst (eK.map D.int))]⟩:=fun h=>by
      refine hL _ ⟨bJ,eK,I',mono,fD,pC,vw,fun z hz=>?_,ln,rfl⟩;rw[et] at hz;rcases VA.mp hz with hz|hz
      ·exact dn z hz
      ·obtain rfl:z=n:=Um.mp hz
       exact h
     refine fF fun A1 B1 hA hB=>?_;simp? only [oR,d5,dJ];have ia:([D.int y.1,D.int y.2.1].any fun e=>aB e (.int x))=decide (x∈[y.1,y.2.1]):=gr [y.1,y.2.1] x;simp only[Xw,List.any_nil,Zt] at ia;rw[ia]
     by_cases ce:x∈[y.1,y.2.1]
     ·rw[Ln ce]
      have ce:x=y.1\/x=y.2.1:=by simpa using ce
      simp? only [fD,aN];have dy:=dz R;refine⟨by omega,?_⟩;rw[gr]
      by_cases cr:n∈R
      ·rw[Ln cr]
       simp? only [];subst hB;exact same ⟨fun _=>(uH n cr).2,fun _=>(uH n cr).1⟩
      ·rw[C7 cr]
       simp? only [];subst hA;refine aJ fun N2 bR=>?_;simp? only [cQ,cG];subst bR
       obtain⟨o,eo,he⟩:∃o:Int,y.1+y.2.1-x=o/\(((ag ws n).1=x/\(ag ws n).2.1=o)\/((ag ws n).1=o/\(ag ws n).2.1=x)):=by
        rw[ey];rcases ce with c|c
        ·exact⟨y.2.1,by omega,.inl ⟨c.symm,rfl⟩⟩
        ·exact⟨y.1,by omega,.inr ⟨rfl,c.symm⟩⟩
       rw[eo]
       have xo:x≠o:=by
        rw[ey] at he;omega
       refine fF fun A1 B1 hA hB=>?_;simp? only [j7,d5,dJ]
       by_cases ko:isKey bJ o
       ·rw[show(bj bJ (.inl o)).isSome=true from ko,Uo (by decide)]
        subst hB;refine same ?_;rcases he with⟨e1,e2⟩|⟨e1,e2⟩
        ·exact⟨fun _=>e2▸ko,fun z=>absurd (e2.symm.trans z) fun z=>xo z.symm⟩
        ·exact⟨fun z=>absurd (e1.symm.trans z) fun z=>xo z.symm,fun _=>e1▸ko⟩
       ·rw[vt ko,Option.isSome_none,VB (by decide)]
        subst hA;have I2:=I'.put W hu ind fD hm he cr ko;refine aJ fun N2 bR=>?_;simp? only [vg,oR,d5,dJ,fD,aN];refine⟨by have:=(I'.val x _ fD);have rl:R.length<=us.length:=Xl rd (fun z hz=>((rm z).mp hz).1);omega,by omega,?_⟩;subst bR;simp? only [];refine⟨by omega,?_⟩;have:=hL ⟨[some (.p (aA m ws)),some (.p (.lst (us.map D.int))),some (.p (.int i)),some (.p (.int j)),some (.o 0),some (.o 1),some (.p (.int x)),none,none,none],[some (.dct (putD bJ (.inl o) (aN (R++[n])))),some (.lst ((eK++[o]).map D.int))]⟩ ⟨_,eK++[o],I2,fun z hz=>(gb ko).mpr (.inl (mono z hz)),?_,?_,?_,?_,?_,rfl⟩
        ·rw[VI] at this
         unfold aN at this;rw[VI] at this;exact this
        ·rw[z7 (vt ko),Uo (fun q=>xo (by cases q;rfl))];exact fD
        ·intro z hz
         rcases VA.mp hz with hz|hz
         ·exact(gb ko).mpr (.inl (pC z hz))
         ·exact(gb ko).mpr (.inr (Um.mp hz))
        ·intro z hz zd zx w hw
         rcases(gb ko).mp hz with hz|rfl
         ·have:=vw z hz (fun q=>zd (VQ _ q)) zx w hw
          exact⟨fun e=>(gb ko).mpr (.inl (this.1 e)),fun e=>(gb ko).mpr (.inl (this.2 e))⟩
         ·exact absurd (Uj _ (.head _)) zd
        ·intro z hz
         rw[et] at hz;rcases VA.mp hz with hz|hz
         ·exact⟨fun e=>(gb ko).mpr (.inl ((dn z hz).1 e)),fun e=>(gb ko).mpr (.inl ((dn z hz).2 e))⟩
         ·obtain rfl:z=n:=Um.mp hz
          rcases he with⟨e1,e2⟩|⟨e1,e2⟩
          ·exact⟨fun _=>(gb ko).mpr (.inr e2),fun q=>absurd (e2.symm.trans q) fun q=>xo q.symm⟩
          ·exact⟨fun q=>absurd (e1.symm.trans q) fun q=>xo q.symm,fun _=>(gb ko).mpr (.inr e1)⟩
        ·rw[AH ko,C4,C4,VU,VU];omega
     ·rw[C7 ce]
      simp? only [];subst hB;rw[ey] at same;refine same ⟨fun e=>absurd ?_ ce,fun e=>absurd ?_ ce⟩
      ·rw[e];exact .head _
      ·rw[e];exact .tail _ (.head _)
    ·rintro δ ⟨bJ,eK,I',mono,fD,pC,vw,dn,ln,rfl⟩
     rw[nU,Xx] at dn;refine⟨trivial,?_⟩;simp? only [];refine ih bJ eK I' pC (fun z hz zd w hw=>?_) (by omega) (by omega)
     by_cases c:z=x
     ·subst c;exact dn w hw
     ·exact vw z hz zd c w hw
 exact⟨13,go 13 _ [(i:Int)] I0 (fun x hx=>by rw[Um.mp hx];exact I0.one) (fun x hx xd=>absurd (by
  have:x=i:=by
   unfold isKey bj at hx
   by_cases c:x=i
   ·exact c
   ·simp[show ¬ ((i:Int)=x) from fun z=>c z.symm] at hx
  rw[this];exact .head _) xd) (by simp) (by simp)⟩
end LJ
namespace LJ
open PySem L2
noncomputable def b1(p:Prop)[Decidable p]:Nat:=if p then 1 else 0
noncomputable def bf(ws:List Wy)(x:Int):List Int->Nat
 |[]=>0
 |n::r=>b1 ((ag ws n).1=x)+b1 ((ag ws n).2.1=x)+bf ws x r
noncomputable def cS(ws:List Wy)(us:List Int):List Int:=us.map (fun n=>(ag ws n).1)++us.map fun n=>(ag ws n).2.1
theorem FU{a x:Int}{l:List Int}:(a::l).count x=b1 (a=x)+l.count x:=by
 unfold b1
 by_cases c:a=x
 ·subst c;rw[List.count_cons_self,VB rfl];omega
 ·rw[List.count_cons_of_ne c,Uo c];omega
theorem vx(ws:List Wy)(x:Int):∀us:List Int,(cS ws us).count x=bf ws x us
 |[]=>rfl
 |n::r=>by
  have ih:=vx ws x r;unfold cS at ih ⊢;rw[List.count_append] at ih ⊢;rw[VM,VM,FU,FU];show _=b1 _+b1 _+bf ws x r;omega
theorem FV{ws:List Wy}{x:Int}{us vs:List Int}(p:us.Perm vs):bf ws x us=bf ws x vs:=by
 induction p with
 |nil=>rfl
 |cons a _ ih=>show _+_+_=_+_+_;rw[ih]
 |swap a b l=>show _+_+(_+_+_)=_+_+(_+_+_);omega
 |trans _ _ h1 h2=>exact h1.trans h2
theorem FW{ws:List Wy}{x:Int}{vs:List Int}:∀us:List Int,bf ws x (us++vs)=bf ws x us+bf ws x vs
 |[]=>by show bf ws x vs=0+_;omega
 |n::r=>by
  show _+_+bf ws x (r++vs)=_+_+bf ws x r+_;rw[FW r];omega
def gc(w:Wy)(a c:Int):Prop:=w.1=a/\w.2.1=c\/w.1=c/\w.2.1=a
inductive eU (ws:List Wy) (us:List Int):Int->List Int->List Int->Int->Prop
 |nil (a:Int):eU ws us a [] [a] a
 |cons {a c b n:Int} {ns vs:List Int}:n∈us->gc (ag ws n) a c->eU ws us c ns vs b->a∉vs->eU ws us a (n::ns) (a::vs) b
section
variable{ws:List Wy}{us ns vs:List Int}{a b c x n:Int}
theorem eU.head(h:eU ws us a ns vs b):a∈vs:=by cases h<;>exact .head _
theorem eU.sub(h:eU ws us a ns vs b):x∈vs->∃cb Ro,eU ws us x cb Ro b:=by
 induction h with
 |nil a=>intro hx;rw[Um.mp hx];exact⟨_,_,.nil a⟩
 |cons hn e p na ih =>
  intro hx;rcases Lp.mp hx with rfl|hx
  ·exact⟨_,_,.cons hn e p na⟩
  ·exact ih hx
theorem Rp(h:au (bg ws us) b a):∃ns vs,eU ws us a ns vs b:=by
 induction h with
 |rf=>exact⟨_,_,.nil b⟩
 |st h0 ad ih =>
  rename_i c d;obtain⟨ns,vs,p⟩:=ih
  by_cases q:d∈vs
  ·exact p.sub q
  ·obtain⟨w,⟨k,hk,rfl⟩,e⟩:=ad
   refine⟨_,_,.cons hk ?_ p q⟩;rcases e with⟨e1,e2⟩|⟨e1,e2⟩
   ·exact .inr ⟨e1,e2⟩
   ·exact .inl ⟨e1,e2⟩
theorem eU.cnt(h:eU ws us a ns vs b):bf ws x ns+b1 (a=x)+b1 (b=x)=if x∈vs then 2 else 0:=by
 induction h with
 |nil a =>
  show 0+b1 (a=x)+b1 (a=x)=_;unfold b1
  by_cases c:a=x
  ·rw[VB c,VB (by rw[c];exact .head _)]
  ·rw[Uo c,Uo (fun z=>c (Um.mp z).symm)]
 |cons hn e p na ih =>
  rename_i a c b n ns vs
  have ee:b1 ((ag ws n).1=x)+b1 ((ag ws n).2.1=x)=b1 (a=x)+b1 (c=x):=by
   rcases e with⟨e1,e2⟩|⟨e1,e2⟩<;>rw[e1,e2]
   omega
  show b1 ((ag ws n).1=x)+b1 ((ag ws n).2.1=x)+bf ws x ns+b1 (a=x)+b1 (b=x)=_;rw[ee]
  by_cases q:a=x
  ·subst q
   rw[Uo na] at ih;rw[VB (.head _)];have:b1 (a=a)=1:=VB rfl;omega
  ·have:b1 (a=x)=0:=Uo q
   by_cases r:x∈vs
   ·rw[VB r] at ih
    rw[VB (C5 _ r)];omega
   ·rw[Uo r] at ih
    rw[Uo (fun z=>(Lp.mp z).elim (fun z=>q z.symm) r)];omega
theorem eU.ends(h:eU ws us a ns vs b):∀n∈ns,n∈us/\(ag ws n).1∈vs/\(ag ws n).2.1∈vs:=by
 induction h with
 |nil a=>intro n h;cases h
 |cons hn e p na ih =>
  intro k hk;rcases Lp.mp hk with rfl|hk
  ·have hd:=p.head
   rcases e with⟨e1,e2⟩|⟨e1,e2⟩<;>rw[e1,e2]
   ·exact⟨hn,.head _,C5 _ hd⟩
   ·exact⟨hn,C5 _ hd,.head _⟩
  ·obtain⟨h1,h2,h3⟩:=ih k hk
   exact⟨h1,C5 _ h2,C5 _ h3⟩
theorem eU.nodup(h:eU ws us a ns vs b):ns.Nodup:=by
 induction h with
 |nil a=>exact Xz
 |cons hn e p na ih =>
  refine Wf.mpr ⟨fun z=>na ?_,ih⟩;obtain⟨_,h2,h3⟩:=p.ends _ z;rcases e with⟨e1,_⟩|⟨_,e2⟩
  ·rw[<-e1];exact h2
  ·rw[<-e2];exact h3
theorem gc.conn{S:Wy->Prop}{w:Wy}(h:gc w a c)(hS:S w):au S a c:=by
 rcases h with⟨rfl,rfl⟩|⟨rfl,rfl⟩
 ·exact .one hS
 ·exact(au.one hS).symm
theorem eU.conn{S:Wy->Prop}(h:eU ws us a ns vs b):(∀k∈ns,S (ag ws k))->au S a b:=by
 induction h with
 |nil a=>exact fun _=>.rf
 |cons hn e p na ih=>exact fun k=>(e.conn (k _ (.head _))).trans (ih fun j hj=>k j (C5 _ hj))
theorem eU.split{S:Wy->Prop}(h:eU ws us a ns vs b):ns.Nodup->n∈ns->(∀k∈ns,k≠n->S (ag ws k))->∃u v,gc (ag ws n) u v/\au S a u/\au S v b:=by
 induction h with
 |nil a=>intro _ h;cases h
 |cons hn e p na ih =>
  rename_i a c b k ns vs;intro nd hk hS;obtain⟨nk,nd⟩:=Wf.mp nd
  by_cases q:n=k
  ·subst q
   exact⟨a,c,e,.rf,p.conn fun j hj=>hS j (C5 _ hj) fun z=>nk (z▸hj)⟩
  ·obtain⟨u,v,h1,h2,h3⟩:=ih nd ((Lp.mp hk).resolve_left q) fun j hj=>hS j (C5 _ hj)
   exact⟨u,v,h1,(e.conn (hS k (.head _) fun z=>q z.symm)).trans h2,h3⟩
theorem Rq[aH]{m:Int}(W:ax m ws)(hu:Nums ws us)(ind:Indep (bg ws us))(hc:au (bg ws us) a b){R:List Int}(nd:R.Nodup)(hR:∀n,n∈R↔n∈us/\¬ au (f_ ws us n) a b):
  ∃ns vs,eU ws us a ns vs b/\R.Perm ns:=by
 obtain⟨ns,vs,p⟩:=Rp hc.symm;refine⟨ns,vs,p,(X8 nd p.nodup).mpr fun n=>?_⟩;have S:∀k∈ns,k≠n->n∈us->f_ ws us n (ag ws k):=fun k hk q hn=>⟨⟨k,(p.ends k hk).1,rfl⟩,fun z=>q (sY W (hu k (p.ends k hk).1) (hu n hn) z)⟩;rw[hR]
 constructor
 ·rintro⟨hn,h⟩
  exact VO fun z=>h (p.conn fun k hk=>S k hk (fun q=>z (q▸hk)) hn)
 ·intro h
  have hn:=(p.ends n h).1;refine⟨hn,fun z=>?_⟩;obtain⟨u,v,e,h1,h2⟩:=p.split (S:=f_ ws us n) p.nodup h fun k hk q=>S k hk q hn;refine ind _ ⟨n,hn,rfl⟩ ?_;have c:=(h1.symm.trans z).trans h2.symm;rcases e with⟨e1,e2⟩|⟨e1,e2⟩<;>rw[e1,e2]
  ·exact c
  ·exact c.symm
noncomputable def ic(ws:List Wy)(C:Int->Bool):List Int->Nat
 |[]=>0
 |n::r=>b1 (C (ag ws n).1=true)+b1 (C (ag ws n).2.1=true)+ic ws C r
noncomputable def c5(C:Int->Bool)(f:Int->Nat):List Int->Nat
 |[]=>0
 |x::r=>(if C x=true then f x else 0)+c5 C f r
theorem AJ{C:Int->Bool}{f g:Int->Nat}:∀V:List Int,c5 C (fun x=>f x+g x) V=c5 C f V+c5 C g V
 |[]=>rfl
 |x::r=>by
  show(if C x=true then f x+g x else 0)+c5 C (fun x=>f x+g x) r=(if C x=true then f x else 0)+c5 C f r+((if C x=true then g x else 0)+c5 C g r);rw[AJ r];split<;>omega
theorem AK{C:Int->Bool}{f:Int->Nat}:∀V:List Int,(∀x∈V,f x=0)->c5 C f V=0
 |[],_=>rfl
 |x::r,h=>by
  show(if C x=true then f x else 0)+c5 C f r=0;rw[AK r fun y hy=>h y (C5 _ hy),h x (.head _)];split<;>rfl
theorem AL{C:Int->Bool}{y:Int}:∀V:List Int,V.Nodup->y∈V->c5 C (fun x=>b1 (y=x)) V=b1 (C y=true)
 |[],_,h=>nomatch h
 |x::r,nd,h=>by
  obtain⟨nx,nr⟩:=Wf.mp nd;show(if C x=true then b1 (y=x) else 0)+c5 C (fun x=>b1 (y=x)) r=_
  by_cases q:y=x
  ·subst q
   rw[AK (f:=fun x=>b1 (y=x)) r fun z hz=>(show b1 (y=z)=0 from Uo (fun(e:y=z)=>nx (e▸hz))),show b1 (y=y)=1 from VB rfl];rfl
  ·rw[AL r nr ((Lp.mp h).resolve_left q),show b1 (y=x)=0 from Uo q]
   split<;>omega
theorem FX{C:Int->Bool}{V:List Int}(nd:V.Nodup):∀us:List Int,(∀n∈us,(ag ws n).1∈V/\(ag ws n).2.1∈V)->ic ws C us=c5 C (fun x=>bf ws x us) V
 |[],_=>(AK V fun _ _=>rfl).symm
 |n::r,h=>by
  obtain⟨h1,h2⟩:=h n (.head _);show b1 _+b1 _+ic ws C r=c5 C (fun x=>b1 ((ag ws n).1=x)+b1 ((ag ws n).2.1=x)+bf ws x r) V;rw[AJ (f:=fun x=>b1 ((ag ws n).1=x)+b1 ((ag ws n).2.1=x)),AJ,AL V nd h1,AL V nd h2,FX nd r fun k hk=>h k (C5 _ hk)]
theorem FY{C:Int->Bool}{f:Int->Nat}:∀V:List Int,(∀x∈V,f x%2=0)->c5 C f V%2=0
 |[],_=>rfl
 |x::r,h=>by
  have h1:=h x (.head _);have h2:=FY (C:=C) r fun y hy=>h y (C5 _ hy);show((if C x=true then f x else 0)+c5 C f r)%2=0;split<;>omega
theorem FZ{C:Int->Bool}{g:Int}:∀us:List Int,us.Nodup->g∈us->(∀n∈us,n≠g->C (ag ws n).1=C (ag ws n).2.1)->ic ws C us%2=(b1 (C (ag ws g).1=true)+b1 (C (ag ws g).2.1=true))%2
 |[],_,h,_=>nomatch h
 |n::r,nd,h,k=>by
  obtain⟨nn,nr⟩:=Wf.mp nd
  have ev:∀vs:List Int,(∀n∈vs,C (ag ws n).1=C (ag ws n).2.1)->ic ws C vs%2=0:=by
   intro vs
   induction vs with
   |nil=>intro _;rfl
   |cons x r ih =>
    intro hv;have h1:=ih fun y hy=>hv y (C5 _ hy);show(b1 _+b1 _+ic ws C r)%2=0;rw[hv x (.head _)];omega
  show(b1 _+b1 _+ic ws C r)%2=_
  by_cases q:g=n
  ·subst q
   have:=ev r fun x hx=>k x (C5 _ hx) fun z=>nn (z▸hx);omega
  ·have h1:=FZ r nr ((Lp.mp h).resolve_left q) fun x hx=>k x (C5 _ hx)
   rw[k n (.head _) fun z=>q z.symm];omega
open Classical in
theorem Rr [aH] {m:Int} (W:ax m ws) (hu:Nums ws us) (nd:us.Nodup) (ev:∀x,bf ws x us%2=0) {g:Int} (hg:g∈us):au (f_ ws us g) (ag ws g).1 (ag ws g).2.1:=by
 refine VO fun nc=>?_
 have Rt:∀n∈us,(ag ws n).1∈aI m.toNat/\(ag ws n).2.1∈aI m.toNat:=fun n hn=>by
  have:=W.ends _ (h_ (hu n hn).1 (hu n hn).2);exact⟨aW.mpr (by omega),aW.mpr (by omega)⟩
 have e1:=FX (C:=fun x=>decide (au (f_ ws us g) (ag ws g).1 x)) (pY m.toNat) us Rt;have e2:=FY (C:=fun x=>decide (au (f_ ws us g) (ag ws g).1 x)) (f:=fun x=>bf ws x us) (aI m.toNat) fun x _=>ev x
 have e3:=FZ (C:=fun x=>decide (au (f_ ws us g) (ag ws g).1 x)) us nd hg fun n hn q=>by
  have s:f_ ws us g (ag ws n):=⟨⟨n,hn,rfl⟩,fun z=>q (sY W (hu n hn) (hu g hg) z)⟩;exact ZJ.mpr ⟨fun h=>h.trans (.one s),fun h=>h.trans (au.one s).symm⟩
 rw[e1,e2,Ln (au.rf),C7 nc] at e3;cases e3
end
end LJ
namespace L2
open PySem PySem.Spec PyProof.Rows
variable[aH]
def F0:List D->(D->Prop)->Prop:=fun ds K=>∃ns:List Int,ds=[.lst (ns.map D.int)]/\ns.length<=40/\K (.int (fu ns).length)
section
variable{X:Cx}{fa:WA}
theorem Ru{a:Expr}{p1 p2 q1 q2:Pos}(hc:X.calm=true)(hu:X.A.units+64<cLine)(lI:Gl X "len")(hl:X.mg "len" = none)(lJ:bootBuiltins "len" = some (.builtin "len"))(i9:Gl X "set")(hr:X.mg "set" = none)(i_:bootBuiltins "set" = some (.type "set"))(ha:JA X [a] (bH fa))
  (he:starEach [a] X.env=[(false,eval a X.env)]:=by rfl) (lK:starEach [.Call (.Name "set" p2) [a] [] q2] X.env=[(false,eval (.Call (.Name "set" p2) [a] [] q2) X.env)]:=by rfl):JE X (.Call (.Name "len" p1) [.Call (.Name "set" p2) [a] [] q2] [] q1) (tD (dN fa F0)) :=
 (pd Oz lI hl lJ (g8 (kG (EK hc) i9 hr i_ ha (he:=he)) bx) (he:=lK)).weak fun σ H Q h0_=>el7 h0_ fun F ad δ K S q k =>⟨F,ad,δ,_,S,q,fun xs δ1 h1 vs F1 aK H1 E1 S1 V1=>by
  obtain⟨ds,⟨ns,rfl,tR,h2⟩,hU⟩:=n8 S1 V1 h1;obtain⟨v,rfl,a,vs,rfl,g1,g2⟩:=cA hU;rw[lG g2] at g1;refine⟨a,ns,rfl,a8.of g1,tR,fun p hp=>⟨p,fu ns,rfl,bE,by have:=y1 ns;omega,?_⟩⟩;have s1:aE H1 (upd H1 p (oG (LJS.fL X.w) p (fu ns))):=cz hp
  exact k _ _ h2 _ _ _ _ (E1.trans (Ext.al S1 s1)) (S1.al s1) rfl⟩
end
theorem Rv{ns:List Int}:(fu ns).length=1↔ns≠[]/\∀x∈ns,∀y∈ns,x=y:=by
 have mem:∀x,x∈fu ns↔x∈ns:=fun x=>by
  have:=LJS.wb ns x ns.length (ua _);rw[Xx] at this;exact this
 have nd:∀i,(LJS.gi ns i).Nodup:=by
  intro i
  induction i with
  |zero=>exact Xz
  |succ i ih =>
   show(LJS.once (LJS.gi ns i) _).Nodup;unfold LJS.once;split
   ·exact ih
   ·rename_i h
    exact VZ.mpr ⟨ih,by simp,fun a ha b hb z=>h (by rw[Um] at hb;rw[<-hb,<-z];exact ha)⟩
 have nd:(fu ns).Nodup:=nd _;generalize fu ns=l at mem nd
 constructor
 ·intro h
  match l,h with
  |[z],_ =>
   have all:∀x∈ns,x=z:=fun x hx=>Um.mp ((mem x).mpr hx);refine⟨fun e=>?_,fun x hx y hy=>(all x hx).trans (all y hy).symm⟩;have:=(mem z).mp (.head _);rw[e] at this;cases this
 ·rintro⟨h1,h2⟩
  match l,nd,mem with
  |[],_,mem =>
   cases ns with
   |nil=>exact absurd rfl h1
   |cons x r=>exact nomatch (mem x).mpr (.head _)
  |[z],_,_=>rfl
  |y::z::r,nd,mem =>
   have:=h2 y ((mem y).mp (.head _)) z ((mem z).mp (.tail _ (.head _)));exact absurd (this▸.head _) (Wf.mp nd).1
end L2
namespace LJ
open PySem L2
variable[aH]
def AM:GD:=fun ys az K=>∃(m:Int)(ws:List Wy)(us:List Int),ax m ws/\Nums ws us/\us.length<=400/\ys=[.p (aA m ws),.p (aN us)]/\az=[]/\K (.p (aN (cS ws us))) []
def AN:WS:=(aC (d2 (bU (aZ (aa 1)) [none,some 0] (aV 0) bI (d2 (d2 (d2 (aa 1) (dC (.int 1)) aG) (aa 0) aG) (dC (.int 0)) aG)) (bU (aZ (aa 1)) [none,some 0] (aV 0) bI (d2 (d2 (d2 (aa 1) (dC (.int 1)) aG) (aa 0) aG) (dC (.int 1)) aG)) cq))
theorem qe{ws:List Wy}{n:Int}(h:0<=n/\n<(ws.length:Int)):d8 (ws.map a5) n=some (a5 (ag ws n)):=by
 obtain⟨i,rfl⟩:∃i:Nat,n=i:=⟨n.toNat,by omega⟩;have hi:i<ws.length:=by omega
 refine lb ?_;rw[Lq,nR hi];unfold ag;rw[Vx,C6,nR hi];rfl
theorem Rw:Sem 2 0 AM AN:=by
 rintro ys az K'-⟨m,ws,us,W,hu,ul,rfl,rfl,k⟩;unfold AN;rw[show aN us=.lst (us.map D.int) from rfl];simp? only []
 refine L2.gF (fun d=>match d with
  |.int n=>.int (ag ws n).1
  |_=>.non) (by rw[nU];omega) trivial ?_ ?_
 ·intro d hd acc L ha h
  obtain⟨n,hn,rfl⟩:=Lm.mp hd;simp? only [aA,cG,qe (hu n hn),a5,cQ];exact⟨ha,h⟩
 refine L2.gF (fun d=>match d with
  |.int n=>.int (ag ws n).2.1
  |_=>.non) (by rw[nU];omega) trivial ?_ ?_
 ·intro d hd acc L ha h
  obtain⟨n,hn,rfl⟩:=Lm.mp hd;simp? only [aA,cG,qe (hu n hn),a5];exact⟨ha,h⟩
 simp? only [];refine⟨by omega,?_⟩
 have e:(us.map D.int).map (fun d=>match d with
  |.int n=>D.int (ag ws n).1
  |_=>.non)++(us.map D.int).map (fun d=>match d with
  |.int n=>D.int (ag ws n).2.1
  |_=>.non)=(cS ws us).map D.int:=by
  unfold cS;rw[VH,VH,VI,VH,VH];rfl
 rw[e];exact bq k
structure dw(ws:List Wy)(us:List Int):Prop where
 two:∀x∈cS ws us,bf ws x us=2
 some:cS ws us≠[]
 sZ:∀x∈cS ws us,∀y∈cS ws us,au (bg ws us) x y
def AO:GD:=fun ys az K=>∃(m:Int)(ws:List Wy)(us:List Int),ax m ws/\Nums ws us/\us.length<=20/\ys=[.p (aA m ws),.p (aN us)]/\az=[]/\(dw ws us->K (.p (.bl true)) [])/\(¬ dw ws us->K (.p (.bl false)) [])
def AQ:WS:=(ak (ay 2 (aq 2 AM (aj (aa 0) (aj (aa 1) af)))) (ak (aR (dm (dT (dN (aj (bU (aZ (aa 2)) [none,some 2] (aV 0) bI (d2 (lL (aa 1) (aj (aa 0) af) bQ) (dC (.int 2)) oEq)) af) jV))) (aC (dC (.bl false))) bK) (ak (ay 3 (aq 2 oM (aj (aa 0) (aj (aa 1) af)))) (aC (d2 (dN (aj (bU (aZ (aa 2)) [none,some 3] (aV 0) bI (d2 (aa 1) (aa 0) aG)) af) F0) (dC (.int 1)) oEq)))))
theorem Rx(l:List Int)(x:Int):(l.map D.int).countP (fun e=>aB e (.int x))=l.count x:=by
 rw[List.countP_map];exact List.countP_congr fun y _=>by show aB (.int y) (.int x)=true↔(y==x)=true;rw[h9];simp
theorem Ry:Sem 2 2 AO AQ:=by
 rintro ys az K'-⟨m,ws,us,W,hu,ul,rfl,rfl,ky,kn⟩;have el:(cS ws us).length<=40:=by unfold cS;rw[C4,nU,nU];omega
 have cE:=vx ws;unfold AQ;refine aJ fun N hN=>?_;simp? only [];refine⟨m,ws,us,W,hu,by omega,rfl,rfl,?_⟩;simp? only [];subst hN;refine aJ fun N hN=>?_;refine fF fun A1 B1 hA hB=>?_;rw[show aN (cS ws us)=.lst ((cS ws us).map D.int) from rfl];simp? only []
 refine L2.gF (fun d=>match d with
  |.int x=>.bl (decide (bf ws x us=2))
  |_=>.non) (by rw[nU];omega) trivial ?_ ?_
 ·intro d hd acc L ha h
  obtain⟨x,hx,rfl⟩:=Lm.mp hd;dsimp only at h;simp? only [lL,bQ];refine⟨rfl,⟨rfl,FR _⟩,?_⟩;rw[Rx,vx,h9,show decide ((bf ws x us:Int)=2)=decide (bf ws x us=2) from ZJ.mpr ⟨fun z=>by omega,fun z=>by omega⟩];exact⟨ha,h⟩
 rw[show((cS ws us).map D.int).map (fun d=>match d with
  |.int x=>D.bl (decide (bf ws x us=2))
  |_=>.non)=((cS ws us).map fun x=>decide (bf ws x us=2)).map D.bl by rw[VH,VH];rfl]
 simp? only [yS]
 by_cases c2:∀x∈cS ws us,bf ws x us=2
 ·rw[show((cS ws us).map fun x=>decide (bf ws x us=2)).all id=true from WL.mpr fun b hb=>by obtain⟨x,hx,rfl⟩:=Lm.mp hb;exact Ln (c2 x hx)]
  simp? only [];subst hB;show N _;subst hN;refine aJ fun N hN=>?_;simp? only [];refine⟨m,ws,us,W,hu,.inl ⟨rfl,rfl,?_⟩⟩;have mo:=sO W hu;generalize d4 m ws us=fs at mo;rw[show aN fs=.lst (fs.map D.int) from rfl];simp? only [];subst hN;simp? only []
  have er:∀x∈cS ws us,∃i:Nat,x=i/\i<m.toNat:=fun x hx=>by
   have:∃n∈us,(ag ws n).1=x\/(ag ws n).2.1=x:=by
    rcases VA.mp hx with h|h
    ·obtain⟨n,hn,e⟩:=Lm.mp h
     exact⟨n,hn,.inl e⟩
    ·obtain⟨n,hn,e⟩:=Lm.mp h
     exact⟨n,hn,.inr e⟩
   obtain⟨n,hn,e⟩:=this;have:=W.ends _ (h_ (hu n hn).1 (hu n hn).2);exact⟨x.toNat,by omega,by omega⟩
  refine L2.gF (fun d=>match d with
   |.int x=>.int (fs.getD x.toNat 0)
   |_=>.non) (by rw[nU];omega) trivial ?_ ?_
  ·intro d hd acc L ha h
   obtain⟨x,hx,rfl⟩:=Lm.mp hd;obtain⟨i,rfl,hi⟩:=er x hx;dsimp only at h;rw[Vx] at h;simp? only [iI (ns:=fs) (i:=i) (by rw[mo.1];exact hi)];exact⟨ha,h⟩
  rw[show((cS ws us).map D.int).map (fun d=>match d with
   |.int x=>D.int (fs.getD x.toNat 0)
   |_=>.non)=((cS ws us).map fun x=>fs.getD x.toNat 0).map D.int by rw[VH,VH];rfl]
  simp? only [];refine⟨(cS ws us).map fun x=>fs.getD x.toNat 0,rfl,by rw[nU];omega,?_⟩;simp? only [];rw[h9,show decide (((fu ((cS ws us).map fun x=>fs.getD x.toNat 0)).length:Int)=1)=decide ((fu ((cS ws us).map fun x=>fs.getD x.toNat 0)).length=1) from ZJ.mpr ⟨fun z=>by omega,fun z=>by omega⟩]
  have iff:(fu ((cS ws us).map fun x=>fs.getD x.toNat 0)).length=1↔dw ws us:=by
   rw[Rv]
   have F7:∀x∈cS ws us,∀y∈cS ws us,(fs.getD x.toNat 0=fs.getD y.toNat 0↔au (bg ws us) x y):=fun x hx y hy=>by
    obtain⟨i,rfl,hi⟩:=er x hx;obtain⟨j,rfl,hj⟩:=er y hy;rw[Vx,Vx];exact mo.2 i j hi hj
   constructor
   ·rintro⟨h1,h2⟩
    exact⟨c2,fun z=>h1 (by rw[z];rfl),fun x hx y hy=>(F7 x hx y hy).mp (h2 _ (WQ hx) _ (WQ hy))⟩
   ·rintro⟨_,h1,h2⟩
    refine⟨fun z=>h1 (Y0.mp z),fun x hx y hy=>?_⟩;obtain⟨a,ha,rfl⟩:=Lm.mp hx;obtain⟨b,hb,rfl⟩:=Lm.mp hy;exact(F7 a ha b hb).mpr (h2 a ha b hb)
  by_cases r:dw ws us
  ·rw[Ln (iff.mpr r)]
   exact bq (ky r)
  ·rw[C7 fun z=>r (iff.mp z)]
   exact bq (kn r)
 ·rw[show((cS ws us).map fun x=>decide (bf ws x us=2)).all id=false from List.all_eq_false.mpr (by
   obtain⟨x,hx⟩:=Classical.not_forall.mp c2;obtain⟨h1,h2⟩:=Classical.not_imp.mp hx
   exact⟨_,WQ h1,by rw[C7 h2];decide⟩)]
  simp? only [];subst hA;exact bq (kn fun r=>c2 r.two)
section
variable{m:Int}{ws:List Wy}{us:List Int}
theorem iO{x:Int}:bf ws x us≠0↔x∈cS ws us:=by
 rw[<-vx];exact⟨fun h=>List.count_pos_iff.mp (by omega),fun h=>by have:=List.count_pos_iff.mpr h;omega⟩
theorem dw.out(W:ax m ws)(hu:Nums ws us)(nd:us.Nodup)(r:dw ws us){g:Int}(hg:g∈us)(top:∀e∈us,kle (cH ws e) (cH ws g)):¬ gW ws (ag ws g):=fun h=>by
 refine h.2 ((Rr W hu nd (fun x=>?_) hg).mono fun v hv=>?_)
 ·by_cases c:x∈cS ws us
  ·rw[r.two x c]
  ·have:bf ws x us=0:=VO fun z=>c (iO.mp z)
   rw[this]
 ·obtain⟨⟨k,hk,rfl⟩,ne⟩:=hv
  have km:=h_ (hu k hk).1 (hu k hk).2;refine⟨km,?_⟩;rcases Av W km h.1 ne with z|z
  ·exact z
  ·exact absurd z (Rf (top k hk))
theorem eU.sZ{ns vs:List Int}{a b x:Int}{S:Wy->Prop}(h:eU ws us a ns vs b):(∀k∈ns,S (ag ws k))->x∈vs->au S a x:=by
 induction h with
 |nil a=>intro _ hx;rw[Um.mp hx];exact .rf
 |cons hn e p na ih =>
  intro hS hx;rcases Lp.mp hx with rfl|hx
  ·exact .rf
  ·exact(e.conn (hS _ (.head _))).trans (ih (fun j hj=>hS j (C5 _ hj)) hx)
theorem Rz(W:ax m ws)(hu:Nums ws us)(ind:Indep (bg ws us)){n:Int}(hc:au (bg ws us) (ag ws n).1 (ag ws n).2.1){R S:List Int}(nd:R.Nodup)(hR:∀k,k∈R↔k∈us/\¬ au (f_ ws us k) (ag ws n).1 (ag ws n).2.1)(hS:S.Perm (R++[n])):dw ws S:=by
 obtain⟨ns,vs,p,pm⟩:=Rq W hu ind hc nd hR
 have ct:∀x,bf ws x S=if x∈vs then 2 else 0:=fun x=>by
  rw[FV hS,FW,FV pm,<-p.cnt];show _+(b1 _+b1 _+0)=_;omega
 have iv:∀x∈cS ws S,x∈vs:=fun x hx=>VO fun z=>by
  have:=iO.mpr hx;rw[ct,Uo z] at this;exact this rfl
 have cn:∀x∈cS ws S,au (bg ws S) (ag ws n).1 x:=fun x hx=>p.sZ (fun k hk=>⟨k,hS.mem_iff.mpr (VQ _ (pm.mem_iff.mpr hk)),rfl⟩) (iv x hx);refine⟨fun x hx=>by rw[ct,VB (iv x hx)],fun z=>?_,fun x hx y hy=>(cn x hx).symm.trans (cn y hy)⟩;have:(ag ws n).1∈cS ws S:=VQ _ (WQ (hS.mem_iff.mpr (Uj _ (.head _))));rw[z] at this;cases this
end
end LJ
namespace L2
open PySem PySem.Spec PyProof.Rows
section
variable{X:Cx}
theorem any_range(bs:List Bool):(List.range bs.length).any (fun i=>bs.getD i true)=bs.any id:=by
 rw[Bool.eq_iff_iff,Yb,Yb]
 constructor
 ·rintro⟨i,hi,h⟩
  have hl:=VL.mp hi;rw[C6,nR hl] at h;exact⟨_,Wu hl,h⟩
 ·rintro⟨b,hb,h⟩
  obtain⟨i,hi⟩:=Uq.mp hb;exact⟨i,VL.mpr (nV.mp hi).1,by rw[C6,hi];exact h⟩
theorem RA(hc:X.calm=true):fc X (.builtin "any") (fun xs H Q=>∃(l:Addr)(bs:List Bool),xs=[.ref l]/\a8 X.K H l (bs.map V.bl)/\Q (.bl (bs.any id)) H):=by
 intro pins s σ H xs us Q I r h;obtain⟨l,bs,rfl,hq,q⟩:=h;obtain⟨u,rfl,rx⟩:=vals1 r;cases rx
 obtain⟨ar,r',pl,_⟩:=I.list hq;obtain rfl:=yg r';have hL:=pl.isList;have ll:l<s.heap.objs.size:=by obtain⟨o,e,_⟩:=hL;exact Ul e
 have nI:l≠s.heap.objs.size:=VD ll;refine call_any_walk (Xr hL ?_);refine⟨s.heap.objs.size,_,_,_,_,_,fun i=>bs.getD i true,rfl,YN (by rw[XU];exact I.ok.hd hc) s.heap.objs.size l nI _,⟨⟨_,Vy _ rfl,rfl,rfl⟩,hL.push _⟩,fun i v s' Q' E' hv lu=>?_,fun h' tk kp=>?_⟩
 ·have hv:(bs.map Value.bool).toArray[i]?=some v:=hv
  have lu:Q' (bs.getD i true) s':=lu;rw[XD,Lq] at hv;obtain⟨b,eb,rfl⟩:=Vz.mp hv;rw[C6,eb] at lu;exact W6 lu
 ·refine⟨.bl (bs.any id),H,I.kept (t':=tk) fun b o e=>kp b o (fun z=>?_) (ph _ e),?_,q⟩
  ·have:=Ul e
   rw[Um.mp z] at this;exact W9 _ this
  ·show Value.bool _=Value.bool _
   rw[xM,nU,any_range]
end
section
variable[aH]{X:Cx}
def kh:List D->(D->Prop)->Prop:=fun ds K=>∃bs:List Bool,ds=[.lst (bs.map D.bl)]/\K (.bl (bs.any id))
theorem RB(hc:X.calm=true):cO X (.builtin "any") kh:=by
 rintro pins s σ H xs us Q I r ⟨F,ds,K,sub,rd,q,md⟩;obtain⟨bs,rfl,q⟩:=q;obtain⟨v,rfl,a,vs,rfl,h1,h2⟩:=cA rd;rw[yT h2] at h1;exact RA hc pins s σ H _ us Q I r ⟨a,bs,rfl,a8.of h1,md _ _ _ q (fun _ _ e=>e) rfl⟩
end
end L2
namespace LJ
open PySem L2
variable[aH]
structure bu(ws:List Wy)(ps qs:List Int):Prop where
 pn:Nums ws ps
 qn:Nums ws qs
 nd:(ps++qs).Nodup
 tree:∀n∈ps,gW ws (ag ws n)
 out:∀n∈qs,¬ gW ws (ag ws n)
structure eM(m:Int)(ws:List Wy)(ps qs l:List Int)(n:Int):Prop where
 rise:iM m 0 l=true
 free:∀k∈ps,eg l (ag ws k)=false
 num:0<=n/\n<(ws.length:Int)
 lead:eg l (ag ws n)=true
 nq:n∉qs
 low:∀e∈dU ws l,e∉qs->kle (cH ws n) (cH ws e)
def AR:GD:=fun ys az K=>∃(m:Int)(ws:List Wy)(ps qs l:List Int)(n:Int),ax m ws/\eM m ws ps qs l n/\ys=[.p (aA m ws),.o 0,.o 1,.p (aN l)]/\az=[.lst (ps.map D.int),.lst (qs.map D.int)]/\K (.p (.int n)) az
def AS:WS:=(ak (aR (dm (dT (aq 2 vq (aj (aa 3) (aj (d2 (aa 0) (dC (.int 0)) aG) af))))) (aC (dC .non)) bK) (ak (ay 4 (aq 2 Ap (aj (aa 0) (aj (aa 3) af)))) (ak (aR (dT (dN (aj (bU (aZ (aa 4)) [none,some 1] (aV 0) bI (d2 (aa 0) (aa 1) (dZ false))) af) kh)) (aC (dC .non)) bK) (aC (aq 2 Ar (aj (aa 0) (aj (bU (aZ (aa 4)) [none,some 2] (aV 0) (dT (d2 (aa 0) (aa 1) (dZ true))) (aa 0)) af)))))))
theorem RC:Sem 4 1 AR AS:=by
 rintro ys az K'-⟨m,ws,ps,qs,l,n,W,C,rfl,rfl,k⟩;have jZ:=W.gu;have z1:=gK ps;have z2:=gK qs;unfold AS;refine aJ fun N hN=>?_;simp? only [aA,cQ];refine⟨l,m,rfl,rfl,?_⟩;rw[C.rise];simp? only [];subst hN;refine aJ fun N hN=>?_;simp? only [];refine⟨m,ws,l,W,rfl,rfl,?_⟩;have hm:∀e∈dU ws l,(0<=e/\e<(ws.length:Int))/\eg l (ag ws e)=true:=fun e he=>bt.mp he
 have ol:(dU ws l).length<=30:=by
  refine V_ (W8 _ _) ?_;rw[jf];exact jZ
 rw[show aN (dU ws l)=.lst ((dU ws l).map D.int) from rfl];simp? only [];subst hN;refine aJ fun N hN=>?_;refine fF fun A1 B1 hA hB=>?_;simp? only []
 refine L2.gF (fun d=>match d with
  |.int x=>.bl (decide (x∈ps))
  |_=>.non) (by rw[nU];omega) trivial ?_ ?_
 ·intro d hd acc L ha h
  obtain⟨x,hx,rfl⟩:=Lm.mp hd;dsimp only at h;simp? only [];refine⟨by omega,?_⟩;rw[gr];exact⟨ha,h⟩
 rw[show((dU ws l).map D.int).map (fun d=>match d with
  |.int x=>D.bl (decide (x∈ps))
  |_=>.non)=((dU ws l).map fun x=>decide (x∈ps)).map D.bl by rw[VH,VH];rfl]
 simp? only [kh];refine⟨_,rfl,?_⟩
 rw[show((dU ws l).map fun x=>decide (x∈ps)).any id=false from Xs.mpr fun b hb=>by
  obtain⟨x,hx,rfl⟩:=Lm.mp hb;rw[C7 fun z=>by have:=(hm x hx).2;rw[C.free x z] at this;cases this]
  decide]
 simp? only [];subst hB;show N _;subst hN;simp? only []
 refine L2.gU (fun d=>match d with
  |.int x=>decide (x∉qs)
  |_=>false) id (by rw[nU];omega) trivial ?_ ?_
 ·intro d hd acc L ha h1 h2
  obtain⟨x,hx,rfl⟩:=Lm.mp hd;dsimp only at h1 h2;simp? only [];refine⟨by omega,?_⟩;rw[gr]
  by_cases q:x∈qs
  ·rw[Ln q]
   simp? only [];exact h2 (C7 fun z=>z q)
  ·rw[C7 q]
   simp? only [];exact⟨ha,h1 (Ln q)⟩
 have e:(((dU ws l).map D.int).filter fun d=>match d with
  |.int x=>decide (x∉qs)
  |_=>false).map id=((dU ws l).filter fun x=>decide (x∉qs)).map D.int:=by
  rw[WV,Wl];rfl
 rw[e];simp? only [];have hf:∀x,x∈(dU ws l).filter (fun x=>decide (x∉qs))↔x∈dU ws l/\x∉qs:=fun x=>by rw[VJ,Xm]
 have hn:n∈(dU ws l).filter (fun x=>decide (x∉qs)):=(hf n).mpr ⟨bt.mpr ⟨C.num,C.lead⟩,C.nq⟩;refine⟨m,ws,(dU ws l).filter fun x=>decide (x∉qs),W,fun x hx=>(hm x ((hf x).mp hx).1).1,rfl,rfl,fun z=>?_,fun x hx best=>?_⟩
 ·rw[z] at hn;cases hn
 ·obtain⟨x1,x2⟩:=(hf x).mp hx
  obtain rfl:x=n:=sM W (hm x x1).1 C.num (r9 (best n hn) (C.low x x1 x2));simp? only [];exact⟨_,rfl,rfl,k⟩
structure bN(ws:List Wy)(ps qs us:List Int)(n:Int):Prop where
 rise:iM ws.length 0 us=true
 ring:dw ws us
 free:∀k∈us,k∉qs
 mem:n∈us
 np:n∉ps
 top:∀e∈us,e∉ps->kle (cH ws e) (cH ws n)
theorem F8{many:Int}:∀{l:List Int}{lo:Int},iM many lo l=true->l.Pairwise (· < ·)/\∀x∈l,lo<=x/\x<many
 |[],_,_=>⟨.nil,fun x h=>nomatch h⟩
 |x::r,lo,h=>by
  have h:((decide (lo<=x)&&decide (x<=many-1))&&iM many (x+1) r)=true:=h;simp only[Wa,VR] at h;obtain⟨⟨h1,h2⟩,h3⟩:=h;obtain⟨p,q⟩:=F8 h3;refine⟨Wj.mpr ⟨fun y hy=>by have:=q y hy;omega,p⟩,fun y hy=>?_⟩;rcases Lp.mp hy with rfl|hy
  ·omega
  ·have:=q y hy;omega
theorem bN.nums{ws:List Wy}{ps qs us:List Int}{n:Int}(R:bN ws ps qs us n):Nums ws us/\us.Nodup:=by
 obtain⟨h1,h2⟩:=F8 R.rise;exact⟨h2,h1.imp fun h=>by omega⟩
def AU:GD:=fun ys az K=>∃(m:Int)(ws:List Wy)(ps qs us:List Int)(n:Int),ax m ws/\ws.length<=20/\bN ws ps qs us n/\ys=[.p (aA m ws),.o 0,.o 1,.p (aN us)]/\az=[.lst (ps.map D.int),.lst (qs.map D.int)]/\K (.p (.int n)) az
def AV:WS:=(ak (aR (mG (dm (dT (aq 2 vq (aj (aa 3) (aj (dN (aj (d2 (aa 0) (dC (.int 1)) aG) af) bz) af))))) (dm (dT (aq 2 AO (aj (aa 0) (aj (aa 3) af)))))) (aC (dC .non)) bK) (ak (aR (dT (dN (aj (bU (aZ (aa 3)) [none,some 2] (aV 0) bI (d2 (aa 0) (aa 1) (dZ false))) af) kh)) (aC (dC .non)) bK) (aC (aq 2 Aw (aj (aa 0) (aj (bU (aZ (aa 3)) [none,some 1] (aV 0) (dT (d2 (aa 0) (aa 1) (dZ true))) (aa 0)) af))))))
theorem RD:Sem 4 0 AU AV:=by
 rintro ys az K'-⟨m,ws,ps,qs,us,n,W,jy,R,rfl,rfl,k⟩;have z1:=gK ps;have z2:=gK qs;obtain⟨hu,nd⟩:=R.nums;have ul:=mS hu nd;unfold AV;refine aJ fun N hN=>?_;simp? only [aA,cG];refine⟨us,(ws.length:Int),rfl,rfl,?_⟩;rw[R.rise];simp? only [];refine⟨m,ws,us,W,hu,by omega,rfl,rfl,fun _=>?_,fun z=>absurd R.ring z⟩;simp? only [];subst hN;rw[show aN us=.lst (us.map D.int) from rfl];refine aJ fun N hN=>?_;refine fF fun A1 B1 hA hB=>?_;simp? only []
 refine L2.gF (fun d=>match d with
  |.int x=>.bl (decide (x∈qs))
  |_=>.non) (by rw[nU];omega) trivial ?_ ?_
 ·intro d hd acc L ha h
  obtain⟨x,hx,rfl⟩:=Lm.mp hd;dsimp only at h;simp? only [];refine⟨by omega,?_⟩;rw[gr];exact⟨ha,h⟩
 rw[show(us.map D.int).map (fun d=>match d with
  |.int x=>D.bl (decide (x∈qs))
  |_=>.non)=(us.map fun x=>decide (x∈qs)).map D.bl by rw[VH,VH];rfl]
 simp? only [kh];refine⟨_,rfl,?_⟩
 rw[show(us.map fun x=>decide (x∈qs)).any id=false from Xs.mpr fun b hb=>by
  obtain⟨x,hx,rfl⟩:=Lm.mp hb;rw[C7 (R.free x hx)]
  decide]
 simp? only [];subst hB;show N _;subst hN;simp? only []
 refine L2.gU (fun d=>match d with
  |.int x=>decide (x∉ps)
  |_=>false) id (by rw[nU];omega) trivial ?_ ?_
 ·intro d hd acc L ha h1 h2
  obtain⟨x,hx,rfl⟩:=Lm.mp hd;dsimp only at h1 h2;simp? only [];refine⟨by omega,?_⟩;rw[gr]
  by_cases q:x∈ps
  ·rw[Ln q]
   simp? only [];exact h2 (C7 fun z=>z q)
  ·rw[C7 q]
   simp? only [];exact⟨ha,h1 (Ln q)⟩
 have e:((us.map D.int).filter fun d=>match d with
  |.int x=>decide (x∉ps)
  |_=>false).map id=(us.filter fun x=>decide (x∉ps)).map D.int:=by
  rw[WV,Wl];rfl
 rw[e];simp? only [];have hf:∀x,x∈us.filter (fun x=>decide (x∉ps))↔x∈us/\x∉ps:=fun x=>by rw[VJ,Xm]
 have hn:n∈us.filter (fun x=>decide (x∉ps)):=(hf n).mpr ⟨R.mem,R.np⟩;refine⟨m,ws,us.filter fun x=>decide (x∉ps),W,fun x hx=>hu x ((hf x).mp hx).1,rfl,rfl,fun z=>?_,fun x hx best=>?_⟩
 ·rw[z] at hn;cases hn
 ·obtain⟨x1,x2⟩:=(hf x).mp hx
  obtain rfl:x=n:=sM W (hu x x1) (hu n R.mem) (r9 (R.top x x1 x2) (best n hn));simp? only [];exact⟨_,rfl,rfl,k⟩
def bX(m:Int)(ws:List Wy)(ps qs:List Int)(cut:Bool)(l:List Int)(n:Int):Prop:=if cut=true then eM m ws ps qs l n else bN ws ps qs l n
noncomputable def dM(s:Bool×List Int):D:=.tup [.str (if s.1=true then "cut" else "ring"),aN s.2]
def AW:GD:=fun ys az K=>∃(m:Int)(ws:List Wy)(ps qs:List Int)(s:Bool×List Int)(n:Int),ax m ws/\ws.length<=20/\bX m ws ps qs s.1 s.2 n/\ys=[.p (aA m ws),.o 0,.o 1,.p (dM s)]/\az=[.lst (ps.map D.int),.lst (qs.map D.int)]/\K (.p (.int n)) az
def AX:WS:=(ak (aR (dm (dT (aq 2 sk (aj (aa 3) (aj (dC (.int 2)) af))))) (aC (dC .non)) bK) (ak (aR (dT (d2 (d2 (aa 3) (dC (.int 0)) aG) (dC (.str "cut")) oEq)) (aC (aq 4 AR (aj (aa 0) (aj (aa 1) (aj (aa 2) (aj (d2 (aa 3) (dC (.int 1)) aG) af)))))) bK) (ak (aR (dT (d2 (d2 (aa 3) (dC (.int 0)) aG) (dC (.str "ring")) oEq)) (aC (aq 4 AU (aj (aa 0) (aj (aa 1) (aj (aa 2) (aj (d2 (aa 3) (dC (.int 1)) aG) af)))))) bK) (aC (dC .non)))))
theorem RE:Sem 4 0 AW AX:=by
 rintro ys az K'-⟨m,ws,ps,qs,⟨c,l⟩,n,W,jy,C,rfl,rfl,k⟩;unfold AX;refine aJ fun N hN=>?_;simp? only [];refine⟨dM (c,l),2,rfl,rfl,?_⟩;rw[show sj (dM (c,l)) 2=true from rfl];simp? only [];subst hN;refine aJ fun N hN=>?_
 cases c with
 |true =>
  simp? only [dM,cQ,cG,aB];refine⟨rfl,m,ws,ps,qs,l,n,W,C,rfl,rfl,?_⟩;simp? only [];exact⟨_,rfl,rfl,k⟩
 |false =>
  simp? only [dM,cQ,cG,aB];rw[Uo (by decide)];subst hN;refine aJ fun N hN=>?_;simp? only [cQ,cG,aB];refine⟨rfl,m,ws,ps,qs,l,n,W,jy,C,rfl,rfl,?_⟩;simp? only [];exact⟨_,rfl,rfl,k⟩
inductive bL (m:Int) (ws:List Wy):List Int->List Int->List (Bool×List Int)->List Int->List Int->Prop
 |nil {ps qs:List Int}:bL m ws ps qs [] ps qs
 |cut {st:List (Bool×List Int)} {ps qs l d_ eV:List Int} {n:Int}:eM m ws ps qs l n->bL m ws (ps++[n]) qs st d_ eV->bL m ws ps qs ((true,l)::st) d_ eV
 |ring {st:List (Bool×List Int)} {ps qs l d_ eV:List Int} {n:Int}:bN ws ps qs l n->bL m ws ps (qs++[n]) st d_ eV->bL m ws ps qs ((false,l)::st) d_ eV
theorem bL.app{m:Int}{ws:List Wy}{ps qs s_ tj F9 F_:List Int}{st su:List (Bool×List Int)}(h:bL m ws ps qs st s_ tj)(k:bL m ws s_ tj su F9 F_):bL m ws ps qs (st++su) F9 F_:=by
 induction h with
 |nil=>exact k
 |cut c _ ih=>exact .cut c (ih k)
 |ring c _ ih=>exact .ring c (ih k)
theorem bL.len{m:Int}{ws:List Wy}{ps qs s_ tj:List Int}{st:List (Bool×List Int)}(h:bL m ws ps qs st s_ tj):s_.length+tj.length=ps.length+qs.length+st.length:=by
 induction h with
 |nil=>rfl
 |cut c _ ih=>rw[ih,C4,Lk];simp;omega
 |ring c _ ih=>rw[ih,C4,Lk];simp;omega
def tu:GD:=fun ys az K=>∃(m:Int)(ws:List Wy)(st:List (Bool×List Int))(ps qs:List Int),ax m ws/\ws.length<=20/\st.length<=30/\bL m ws [] [] st ps qs/\ys=[.p (aA m ws),.p (.lst (st.map dM))]/\az=[]/\K (.p (.tup [aN (sortI ps),aN (sortI qs)])) []
def AY:WS:=(ak (i5 (aq 1 vf (aj (aa 0) af))) (ak (ay 2 (kJ af)) (ak (ay 3 (kJ af)) (ak (cI (jU (aj (aa 1) af)) (gC 2 (cP (aV 4) (cP (aV 5) gq))) (ak (ay 6 (aq 4 AW (aj (aa 0) (aj (aa 2) (aj (aa 3) (aj (aa 5) af)))))) (ak (aR (dT (d2 (aa 6) (dC .non) jc)) uv bK) (aR (dT (d2 (d2 (aa 5) (dC (.int 0)) aG) (dC (.str "cut")) oEq)) (i5 (ft (aa 2) (aj (aa 6) af))) (i5 (ft (aa 3) (aj (aa 6) af))))))) (aC (cm (aj (dN (aj (aa 2) af) iH) (aj (dN (aj (aa 3) af) iH) af))))))))
theorem RF:Sem 2 5 tu AY:=by
 rintro ys az K'-⟨m,ws,st,ps,qs,W,jy,sl,R,rfl,rfl,k⟩;have rl:ps.length+qs.length=st.length:=by have:=R.len;rw[Wi] at this;omega
 unfold AY;refine aJ fun N hN=>?_;simp? only [];refine⟨m,ws,W,rfl,rfl,?_⟩;show N _;subst hN;refine aJ fun N hN=>?_;simp? only [];subst hN;refine aJ fun N hN=>?_;simp? only [];subst hN;refine aJ fun N hN=>?_;refine jX fun g' b' K2 hg hb' hK=>?_;simp? only [];subst hg hb' hK;refine jx (fun i δ=>∃p q:List Int,p.length+q.length=i/\bL m ws p q (st.drop i) ps qs/\δ=⟨[some (.p (aA m ws)),some (.p (.lst (st.map dM))),some (.o 0),some (.o 1),none,none,none],[some (.lst (p.map D.int)),some (.lst (q.map D.int))]⟩) ⟨[],[],rfl,R,rfl⟩ ?_ ?_
 ·rintro i d δ L hi ⟨p,q,pl,F,rfl⟩ hL
  obtain⟨e,he,rfl⟩:=pL hi;rw[Lq] at he;obtain⟨s,hs,rfl⟩:=Vz.mp he;obtain⟨il,es⟩:=nV.mp hs;rw[Xk il,es] at F;refine⟨trivial,?_⟩;simp only[gC,cP,gq,aV,fW,jQ,Lk,Wi,VM,Xo,V6,V7,Wb,Nat.reduceAdd,and_self,true_and,Yq,XQ];refine aJ fun N2 bR=>?_;simp? only [];obtain⟨c,l⟩:=s
  obtain⟨n,C,nx⟩:∃n,bX m ws p q c l n/\((c=true->bL m ws (p++[n]) q (st.drop (i+1)) ps qs)/\(c=false->bL m ws p (q++[n]) (st.drop (i+1)) ps qs)):=by
   cases F with
   |cut C F=>exact⟨_,C,fun _=>F,fun z=>nomatch z⟩
   |ring C F=>exact⟨_,C,(fun z=>nomatch z),fun _=>F⟩
  refine⟨rfl,m,ws,p,q,(c,l),n,W,jy,C,rfl,rfl,?_⟩;simp? only [];subst bR;refine aJ fun N2 bR=>?_;simp? only [];subst bR;have UQ:i<st.length:=il
  cases c with
  |true =>
   simp? only [dM,cQ,aB];refine⟨by omega,hL _ ⟨p++[n],q,by rw[C4];simp;omega,nx.1 rfl,by rw[VI];rfl⟩⟩
  |false =>
   simp? only [dM,cQ,aB];rw[Uo (by decide)];refine⟨by omega,hL _ ⟨p,q++[n],by rw[C4];simp;omega,nx.2 rfl,by rw[VI];rfl⟩⟩
 ·rintro δ ⟨p,q,pl,F,rfl⟩
  rw[pK,nU,List.drop_length] at F;cases F
  refine⟨trivial,?_⟩;subst hN;simp? only [iH,oA];refine⟨by omega,by omega,?_⟩;exact bq k
section
variable{m:Int}{ws:List Wy}{ps qs l:List Int}{n:Int}
theorem AZ(ws:List Wy):∀us:List Int,us≠[]->∃x∈us,∀e∈us,kle (cH ws e) (cH ws x)
 |[],h=>absurd rfl h
 |[x],_=>⟨x,.head _,fun e he=>by rw[Um.mp he];exact kle_refl _⟩
 |x::y::r,_=>by
  obtain⟨z,hz,best⟩:=AZ ws (y::r) (by simp)
  cases q:HT.lexLt (cH ws z) (cH ws x) with
  |true =>
   refine⟨x,.head _,fun e he=>?_⟩;rcases Lp.mp he with rfl|he
   ·exact kle_refl _
   ·exact kle_trans (best e he) (mL q)
  |false =>
   refine⟨z,.tail _ hz,fun e he=>?_⟩;rcases Lp.mp he with rfl|he
   ·exact q
   ·exact best e he
theorem eM.tree(W:ax m ws)(S:bu ws ps qs)(C:eM m ws ps qs l n):gW ws (ag ws n):=by
 have hn:n∈dU ws l:=bt.mpr ⟨C.num,C.lead⟩;obtain⟨x,hx,best⟩:=Au (ws:=ws) (ns:=dU ws l) (fun z=>by rw[z] at hn;cases hn);have tx:=Q_ hx best;have xq:x∉qs:=fun z=>S.out x z tx;obtain rfl:x=n:=sM W (bt.mp hx).1 C.num (r9 (best n hn) (C.low x hx xq));exact tx
theorem bN.out(W:ax m ws)(S:bu ws ps qs)(R:bN ws ps qs l n):¬ gW ws (ag ws n):=by
 obtain⟨hu,nd⟩:=R.nums;obtain⟨x,hx,best⟩:=AZ ws l (fun z=>by have:=R.mem;rw[z] at this;cases this);have tx:=R.ring.out W hu nd hx best;have xp:x∉ps:=fun z=>tx (S.tree x z);obtain rfl:x=n:=sM W (hu x hx) (hu n R.mem) (r9 (R.top x hx xp) (best n R.mem));exact tx
theorem bu.cut(W:ax m ws)(S:bu ws ps qs)(C:eM m ws ps qs l n):bu ws (ps++[n]) qs:=by
 have np:n∉ps:=fun z=>by have:=C.free n z;rw[C.lead] at this;cases this
 refine⟨fun x hx=>?_,S.qn,?_,fun x hx=>?_,S.out⟩
 ·rcases VA.mp hx with h|h
  ·exact S.pn x h
  ·rw[Um.mp h];exact C.num
 ·have:(ps++[n]++qs).Perm (n::(ps++qs)):=by
   rw[Xi];exact List.perm_middle
  exact this.nodup_iff.mpr (Wf.mpr ⟨fun z=>(VA.mp z).elim np C.nq,S.nd⟩)
 ·rcases VA.mp hx with h|h
  ·exact S.tree x h
  ·rw[Um.mp h];exact C.tree W S
theorem bu.ring(W:ax m ws)(S:bu ws ps qs)(R:bN ws ps qs l n):bu ws ps (qs++[n]):=by
 have nq:n∉qs:=R.free n R.mem;refine⟨S.pn,fun x hx=>?_,?_,S.tree,fun x hx=>?_⟩
 ·rcases VA.mp hx with h|h
  ·exact S.qn x h
  ·rw[Um.mp h];exact R.nums.1 n R.mem
 ·have:(ps++(qs++[n])).Perm (n::(ps++qs)):=by
   rw[<-Xi];exact List.perm_append_comm
  exact this.nodup_iff.mpr (Wf.mpr ⟨fun z=>(VA.mp z).elim R.np nq,S.nd⟩)
 ·rcases VA.mp hx with h|h
  ·exact S.out x h
  ·rw[Um.mp h];exact R.out W S
theorem bL.ok(W:ax m ws){st:List (Bool×List Int)}{d_ eV:List Int}(h:bL m ws ps qs st d_ eV)(S:bu ws ps qs):bu ws d_ eV:=by
 induction h with
 |nil=>exact S
 |cut C _ ih=>exact ih (S.cut W C)
 |ring R _ ih=>exact ih (S.ring W R)
theorem bu.indep(W:ax m ws)(S:bu ws ps qs):Indep (bg ws ps):=fun a ha c=>by
 have sub:∀v,bg ws ps v->gW ws v:=fun v ⟨k,hk,e⟩=>e▸S.tree k hk;exact Q8 W a (sub a ha) (c.mono fun v hv=>⟨sub v hv.1,hv.2⟩)
theorem Ga(W:ax m ws)(rise:iM m 0 l=true)(free:∀k∈ps,eg l (ag ws k)=false)(hn:0<=n/\n<(ws.length:Int))(lead:eg l (ag ws n)=true)(nq:n∉qs):∃k,eM m ws ps qs l k:=by
 have hf:∀x,x∈(dU ws l).filter (fun x=>decide (x∉qs))↔x∈dU ws l/\x∉qs:=fun x=>by rw[VJ,Xm]
 have h0:=(hf n).mpr ⟨bt.mpr ⟨hn,lead⟩,nq⟩;obtain⟨x,hx,best⟩:=Au (ws:=ws) (ns:=(dU ws l).filter fun x=>decide (x∉qs)) (fun z=>by rw[z] at h0;cases h0);obtain⟨x1,x2⟩:=(hf x).mp hx;obtain⟨x3,x4⟩:=bt.mp x1;exact⟨x,rise,free,x3,x4,x2,fun e he hq=>best e ((hf e).mpr ⟨he,hq⟩)⟩
theorem RG(rise:iM ws.length 0 l=true)(ring:dw ws l)(free:∀k∈l,k∉qs)(hn:n∈l)(np:n∉ps):∃k,bN ws ps qs l k:=by
 have hf:∀x,x∈l.filter (fun x=>decide (x∉ps))↔x∈l/\x∉ps:=fun x=>by rw[VJ,Xm]
 have h0:=(hf n).mpr ⟨hn,np⟩;obtain⟨x,hx,best⟩:=AZ ws (l.filter fun x=>decide (x∉ps)) (fun z=>by rw[z] at h0;cases h0);obtain⟨x1,x2⟩:=(hf x).mp hx;exact⟨x,rise,ring,free,x1,x2,fun e he hp=>best e ((hf e).mpr ⟨he,hp⟩)⟩
theorem A0(W:ax m ws){us:List Int}(hu:Nums ws us)(ind:Indep (bg ws us))(RH:∀k∈us,k∉qs)(hn:0<=n/\n<(ws.length:Int))(nu:n∉us)(np:n∉ps)(nq:n∉qs)(hc:au (bg ws us) (ag ws n).1 (ag ws n).2.1){R:List Int}(nd:R.Nodup)(hR:∀k,k∈R↔k∈us/\¬ au (f_ ws us k) (ag ws n).1 (ag ws n).2.1):
  ∃k,bN ws ps qs (sortI (R++[n])) k:=by
 have pm:=sortI_perm (R++[n]);have mem:∀x,x∈sortI (R++[n])↔x∈R\/x=n:=fun x=>by rw[pm.mem_iff,VA,Um]
 have rng:∀x∈sortI (R++[n]),0<=x/\x<(ws.length:Int):=fun x hx=>((mem x).mp hx).elim (fun h=>hu x ((hR x).mp h).1) fun h=>h▸hn;have sn:(sortI (R++[n])).Nodup:=pm.nodup_iff.mpr (VZ.mpr ⟨nd,by simp,fun a ha b hb z=>nu (by rw[Um] at hb;rw[<-hb,<-z];exact((hR a).mp ha).1)⟩);have up:(sortI (R++[n])).Pairwise (· < ·):=((rU (R++[n])).and sn).imp fun h=>by omega
 refine RG (n:=n) (vp up fun x hx=>rng x hx) (Rz W hu ind hc nd hR pm) (fun k hk=>?_) ((mem n).mpr (.inr rfl)) np;rcases(mem k).mp hk with h|h
 ·exact RH k ((hR k).mp h).1
 ·rw[h];exact nq
theorem RJ{us:List Int}(W:ax m ws)(hu:Nums ws us){a b:Int}:∀k,k∈kg ws us a b↔k∈us/\¬ au (f_ ws us k) a b:=fun k=>by
 unfold kg oV;rw[VJ];refine and_congr_right fun hk=>?_
 have e:bg ws (oU us k)=f_ ws us k:=funext fun v=>propext ⟨fun⟨j,hj,e⟩=>by
  obtain⟨j1,j2⟩:=VJ.mp hj
  exact⟨⟨j,j1,e⟩,fun z=>VS j2 (sY W (hu j j1) (hu k hk) (e▸z))⟩,fun⟨⟨j,hj,e⟩,ne⟩=>⟨j,VJ.mpr ⟨hj,Ln fun z=>ne (by rw[e,z])⟩,e⟩⟩
 rw[e];simp
end
theorem RK(n:Nat):(aI n).Pairwise (· < ·):=by
 unfold aI;exact Wm.mpr (WC.imp fun h=>by omega)
theorem Gb{l:List Int}{y:Wy}(h:y.1∈l↔y.2.1∈l):eg l y=false:=by
 unfold eg
 by_cases a:y.1∈l<;>by_cases b:y.2.1∈l<;>simp[a,b] at h ⊢
theorem Gd{l:List Int}{y:Wy}(h:¬ (y.1∈l↔y.2.1∈l)):eg l y=true:=by
 unfold eg
 by_cases a:y.1∈l<;>by_cases b:y.2.1∈l<;>simp[a,b] at h ⊢
def A2:GD:=fun ys az K=>∃(m:Int)(ws:List Wy)(ps qs:List Int)(n:Int),ax m ws/\bu ws ps qs/\(0<=n/\n<(ws.length:Int))/\n∉ps/\n∉qs/\ys=[.p (aA m ws),.p (aN ps),.p (.int n)]/\az=[]/\∀(s:Bool×List Int)(k:Int),bX m ws ps qs s.1 s.2 k->K (.p (dM s)) []
def A3:WS:=(ak (ay 3 (d2 (d2 (aa 0) (dC (.int 1)) aG) (aa 2) aG)) (ak (ay 4 (aq 3 AD (aj (aa 0) (aj (aa 1) (aj (d2 (aa 3) (dC (.int 0)) aG) af))))) (ak (aR (dT (d2 (d2 (aa 3) (dC (.int 1)) aG) (aa 4) (dZ true))) (aC (cm (aj (dC (.str "cut")) (aj (aa 4) af)))) bK) (aC (cm (aj (dC (.str "ring")) (aj (dN (aj (d2 (aq 4 AF (aj (aa 0) (aj (aa 1) (aj (d2 (aa 3) (dC (.int 0)) aG) (aj (d2 (aa 3) (dC (.int 1)) aG) af))))) (b9 (aj (aa 2) af)) cq) af) iH) af)))))))
theorem RL:Sem 3 2 A2 A3:=by
 rintro ys az K'-⟨m,ws,ps,qs,n,W,S,hn,np,nq,rfl,rfl,k⟩;have jZ:=W.gu;have dj:=W.dj;have nd:ps.Nodup:=(VZ.mp S.nd).1;have pl:=mS S.pn nd;have en:=W.ends _ (h_ hn.1 hn.2);obtain⟨i,ei⟩:∃i:Nat,(ag ws n).1=i:=⟨(ag ws n).1.toNat,by omega⟩;obtain⟨j,ej⟩:∃j:Nat,(ag ws n).2.1=j:=⟨(ag ws n).2.1.toNat,by omega⟩;unfold A3;refine aJ fun N hN=>?_;simp? only [aA,cG,qe hn];subst hN;refine aJ fun N hN=>?_;simp? only [a5,cQ,ei];refine⟨m,ws,ps,i,W,S.pn,by omega,rfl,rfl,?_⟩;have hl:∀x,x∈cls m.toNat (bg ws ps) i↔(0<=x/\x<(m.toNat:Int))/\au (bg ws ps) i x:=fun x=>ba;have up:(cls m.toNat (bg ws ps) i).Pairwise (· < ·):=(RK _).sublist Xu
 generalize RM:cls m.toNat (bg ws ps) i=jg at hl up;have zl:=gK jg;rw[show aN jg=.lst (jg.map D.int) from rfl];simp? only [];subst hN;refine aJ fun N hN=>?_;refine fF fun A1 B1 hA hB=>?_;simp? only [cG,ej];refine⟨by omega,?_⟩;rw[gr]
 by_cases c:(j:Int)∈jg
 ·rw[Ln c]
  simp? only [];subst hB;show N _;subst hN;simp? only [cQ,cG,ei,ej];refine⟨m,ws,ps,i,j,W,S.pn,by omega,by omega,by omega,rfl,rfl,?_⟩;have rl:(kg ws ps i j).length<=ps.length:=W8 _ _;rw[show aN (kg ws ps i j)=.lst ((kg ws ps i j).map D.int) from rfl];simp? only [];refine⟨by omega,?_⟩;rw[show(kg ws ps i j).map D.int++[D.int n]=(kg ws ps i j++[n]).map D.int by rw[VI];rfl];simp? only [iH,oA];refine⟨by omega,?_⟩;obtain⟨x,R⟩:=A0 (ps:=ps) (qs:=qs) (R:=kg ws ps i j) W S.pn (S.indep W) (fun k hk z=>(VZ.mp S.nd).2.2 k hk k z rfl) hn np np nq (by rw[ei,ej];exact((hl j).mp c).2) (nd.sublist Xu) (by rw[ei,ej];exact RJ W S.pn)
  exact bq (k (false,sortI (kg ws ps i j++[n])) x R)
 ·rw[C7 c]
  simp? only [];subst hA;simp? only []
  have free:∀k∈ps,eg jg (ag ws k)=false:=fun k hk=>by
   have ek:=W.ends _ (h_ (S.pn k hk).1 (S.pn k hk).2);have co:au (bg ws ps) (ag ws k).1 (ag ws k).2.1:=.one ⟨k,hk,rfl⟩;refine Gb ?_;rw[hl,hl];exact⟨fun h=>⟨by omega,h.2.trans co⟩,fun h=>⟨by omega,h.2.trans co.symm⟩⟩
  have ld:eg jg (ag ws n)=true:=Gd fun z=>c (by
   rw[ej,ei] at z
   exact z.mp ((hl i).mpr ⟨by omega,.rf⟩))
  obtain⟨x,C⟩:=Ga (ps:=ps) (qs:=qs) (l:=jg) W (vp up fun x hx=>by have:=((hl x).mp hx).1;omega) free hn ld nq;exact bq (k (true,jg) x C)
theorem bX.congr{m:Int}{ws:List Wy}{ps qs d_ eV l:List Int}{n:Int}{c:Bool}(hp:∀x,x∈ps↔x∈d_)(hq:∀x,x∈qs↔x∈eV)(h:bX m ws ps qs c l n):bX m ws d_ eV c l n:=by
 cases c with
 |true =>
  have h:eM m ws ps qs l n:=h;exact(show eM m ws d_ eV l n from⟨h.rise,fun k hk=>h.free k ((hp k).mpr hk),h.num,h.lead,fun z=>h.nq ((hq n).mpr z),fun e he z=>h.low e he fun y=>z ((hq e).mp y)⟩)
 |false =>
  have h:bN ws ps qs l n:=h;exact(show bN ws d_ eV l n from⟨h.rise,h.ring,fun k hk z=>h.free k hk ((hq k).mpr z),h.mem,fun z=>h.np ((hp n).mpr z),fun e he z=>h.top e he fun y=>z ((hp e).mp y)⟩)
theorem bu.sort{ws:List Wy}{ps qs:List Int}(S:bu ws ps qs):bu ws (sortI ps) (sortI qs):=by
 have p1:=sortI_perm ps;have p2:=sortI_perm qs;exact⟨fun x hx=>S.pn x (p1.mem_iff.mp hx),fun x hx=>S.qn x (p2.mem_iff.mp hx),(p1.append p2).nodup_iff.mpr S.nd,fun x hx=>S.tree x (p1.mem_iff.mp hx),fun x hx=>S.out x (p2.mem_iff.mp hx)⟩
theorem bu.start(ws:List Wy):bu ws [] []:=⟨fun x h=>(nomatch h),fun x h=>(nomatch h),Xz,fun x h=>(nomatch h),fun x h=>(nomatch h)⟩
def vy:GD:=fun ys az K=>∃(m:Int)(ws:List Wy)(st:List (Bool×List Int))(ps qs:List Int),ax m ws/\ws.length<=20/\st.length<=30/\bL m ws [] [] st ps qs/\ys=[.p (aA m ws),.p (.lst (st.map dM))]/\az=[]/\((∀x,0<=x/\x<(ws.length:Int)->x∈ps\/x∈qs)->K (.p .non) [])/\∀(s:Bool×List Int)(k:Int),bX m ws ps qs s.1 s.2 k->K (.p (dM s)) []
def A4:WS:=(ak (ay 2 (aq 2 tu (aj (aa 0) (aj (aa 1) af)))) (ak (ay 3 (d2 (d2 (aa 2) (dC (.int 0)) aG) (d2 (aa 2) (dC (.int 1)) aG) cq)) (ak (ay 4 (bU (iE (aj (dN (aj (d2 (aa 0) (dC (.int 1)) aG) af) bz) af)) [none,some 3] (aV 0) (dT (d2 (aa 0) (aa 1) (dZ true))) (aa 0))) (ak (aR (dT (d2 (dN (aj (aa 4) af) bz) (dC (.int 0)) oEq)) (aC (dC .non)) bK) (aC (aq 3 A2 (aj (aa 0) (aj (d2 (aa 2) (dC (.int 0)) aG) (aj (d2 (aa 4) (dC (.int 0)) aG) af)))))))))
theorem RN:Sem 2 3 vy A4:=by
 rintro ys az K'-⟨m,ws,st,ps,qs,W,jy,sl,R,rfl,rfl,kn,ks⟩;have S:=R.ok W (bu.start ws);have S2:=S.sort;have l1:=kM ps;have l2:=kM qs;have rl:ps.length+qs.length=st.length:=by have:=R.len;rw[Wi] at this;omega
 have h1:∀x,x∈sortI ps↔x∈ps:=fun x=>(sortI_perm ps).mem_iff;have h2:∀x,x∈sortI qs↔x∈qs:=fun x=>(sortI_perm qs).mem_iff;unfold A4;refine aJ fun N hN=>?_;simp? only [];refine⟨m,ws,st,ps,qs,W,jy,sl,R,rfl,rfl,?_⟩;generalize sortI ps=p at S2 h1 l1;generalize sortI qs=q at S2 h2 l2;rw[show aN p=.lst (p.map D.int) from rfl,show aN q=.lst (q.map D.int) from rfl];simp? only [];subst hN;refine aJ fun N hN=>?_;simp? only [cQ,cG];refine⟨by omega,?_⟩;subst hN;refine aJ fun N hN=>?_;have zp:=gK (p++q);rw[<-VI];simp? only [aA,cG];refine⟨by omega,?_⟩
 refine L2.gU (fun d=>match d with
  |.int x=>decide (x∉p++q)
  |_=>false) id (by rw[hW];omega) trivial ?_ ?_
 ·intro d hd acc L ha h1 h2
  obtain⟨z,hz⟩:=Uq.mp hd;obtain⟨zl,rfl⟩:=iF hz;dsimp only at h1 h2;simp? only [];refine⟨by omega,?_⟩;rw[gr]
  by_cases c:(0+(z:Int))∈p++q
  ·rw[Ln c]
   simp? only [];exact h2 (C7 fun z=>z c)
  ·rw[C7 c]
   simp? only [];exact⟨ha,h1 (Ln c)⟩
 have e:((bp 0 (ws.length:Int).toNat).filter fun d=>match d with
  |.int x=>decide (x∉p++q)
  |_=>false).map id=((aI ws.length).filter fun x=>decide (x∉p++q)).map D.int:=by
  rw[WV,Vx,jW,Wl];rfl
 rw[e];have hu:∀x,x∈(aI ws.length).filter (fun x=>decide (x∉p++q))↔(0<=x/\x<(ws.length:Int))/\x∉p++q:=fun x=>by rw[VJ,aW,Xm]
 generalize(aI ws.length).filter (fun x=>decide (x∉p++q))=un at hu;simp? only [];subst hN;refine aJ fun N hN=>?_;refine fF fun A1 B1 hA hB=>?_;simp? only [];rw[h9]
 cases un with
 |nil =>
  rw[Ln (by rfl)];simp? only [];subst hA;refine bq (kn fun x hx=>VO fun z=>?_);have:=(hu x).mpr ⟨hx,fun y=>z ((VA.mp y).imp (h1 x).mp (h2 x).mp)⟩;cases this
 |cons u r =>
  rw[C7 (by simp;omega)];simp? only [];subst hB;show N _;subst hN;simp? only [cQ];obtain⟨un,nu⟩:=(hu u).mp (.head _);refine⟨m,ws,p,q,u,W,S2,un,fun z=>nu (VQ _ z),fun z=>nu (Uj _ z),rfl,rfl,fun s k C=>?_⟩;simp? only [];exact bq (ks s k (C.congr h1 h2))
end LJ
namespace L2
open PySem PySem.Spec PyProof.Rows
variable[aH]{X:Cx}{e:Expr}{f:WE}
def oW(f:WE):WE:=fun δ K=>f δ fun x δ1=>jN x δ1 fun d δ2=>K (.p d) δ2
theorem RO(he:JE X e (tD f)):JE X e (tD (oW f)) :=
 he.weak fun σ H Q h0_=>el7 h0_ fun F ad δ K S q k =>⟨F,ad,δ,_,S,q,fun x δ1 h1 v F1 aK H1 E1 S1 V1=>by
  obtain⟨d,δ2,F2,h2,E2,S2,i2⟩:=oe S1 V1 h1
  exact k _ _ h2 _ _ _ _ (E1.trans E2) S2 i2⟩
end L2
namespace PySem
open Sem (wp)
section
variable{prog:Program}{w:World}{A:Around}{E:aP}{s:Shared}{z TI TO i j:Addr}{fp gp:List Addr}{n m k:Nat}{P P':Nat->Value->Prop}{St UR:Nat->Heap->Prop}{a b:Value}
end
section
variable{prog:Program}{w:World}{A:Around}{E:aP}{s:Shared}
end
end PySem
namespace L2
open PySem PySem.Spec PyProof.Rows
section
variable{X:Cx}{pins:av}{σ:St}{H:Hp}{s:Shared}
end
section
variable{X:Cx}{elts:List Expr}{x1:Nat}{tp:Pos}
end
section
variable[aH]{X:Cx}{a b:Expr}{fa:WA}
end
end L2
namespace LJ
open PySem L2
variable[aH]
theorem tE(y:Wy):cutD [D.int y.1,D.int y.2.1,D.int y.2.2] none (some 2)=[D.int y.1,D.int y.2.1]:=rfl
def A5:GD:=fun ys az K=>∃(m:Int)(ws:List Wy)(us:List Int)(i:Nat),ax m ws/\Nums ws us/\i<m.toNat/\ys=[.p (aA m ws),.o 0,.p (.int i)]/\az=[.lst (us.map D.int)]/\K (.p (aN (cls m.toNat (bg ws us) i))) az
def A6:WS:=(ak (ay 3 (aq 2 uZ (aj (aa 0) (aj (aa 1) af)))) (aC (bU (iE (aj (d2 (aa 0) (dC (.int 0)) aG) af)) [none,some 3,some 2] (aV 0) (dT (d2 (d2 (aa 1) (aa 0) aG) (d2 (aa 1) (aa 2) aG) oEq)) (aa 0))))
open Classical in
theorem RP:Sem 3 1 A5 A6:=by
 rintro ys az K'-⟨m,ws,us,i,W,hu,hi,rfl,rfl,k⟩;have dj:=W.dj;unfold A6;refine aJ fun N hN=>?_;simp? only [];refine⟨m,ws,us,W,hu,.inr ⟨rfl,rfl,?_⟩⟩;have mo:=sO W hu;generalize d4 m ws us=fs at mo;have a1:=iI (ns:=fs) (i:=i) (by rw[mo.1];exact hi);rw[show aN fs=.lst (fs.map D.int) from rfl];simp? only [];subst hN;simp? only [aA,cQ];refine⟨by omega,?_⟩
 refine L2.gU (fun d=>match d with
  |.int x=>decide (au (bg ws us) i x)
  |_=>false) id (by rw[hW];omega) trivial ?_ ?_
 ·intro d hd acc L' ha h1 h2
  obtain⟨z,hz⟩:=Uq.mp hd;obtain⟨zl,rfl⟩:=iF hz;rw[ZQ] at h1 h2 ⊢;have a2:=iI (ns:=fs) (i:=z) (by rw[mo.1];exact zl);dsimp only at h1 h2;simp? only [a1,a2];rw[h9]
  by_cases q:au (bg ws us) i z
  ·rw[Ln ((mo.2 z i zl hi).mpr q.symm)]
   simp? only [];exact⟨ha,h1 (Ln q)⟩
  ·rw[C7 fun y=>q ((mo.2 z i zl hi).mp y).symm]
   simp? only [];exact h2 (C7 q)
 have e:((bp 0 m.toNat).filter fun d=>match d with
  |.int x=>decide (au (bg ws us) i x)
  |_=>false).map id=(cls m.toNat (bg ws us) i).map D.int:=by
  unfold cls;rw[WV,jW,Wl];rfl
 rw[e];exact⟨_,rfl,rfl,k⟩
structure A7(ws:List Wy)(n:Int)(qs us R:List Int):Prop where
 nums:Nums ws us
 ind:Indep (bg ws us)
 not:n∉us
 free:∀k∈us,k∉qs
 conn:au (bg ws us) (ag ws n).1 (ag ws n).2.1
 nd:R.Nodup
 road:∀k,k∈R↔k∈us/\¬ au (f_ ws us k) (ag ws n).1 (ag ws n).2.1
def A8:GD:=fun ys az K=>∃(c m:Int)(ws:List Wy)(n:Int)(qs:List Int)(o:OV),ax m ws/\(0<=n/\n<(ws.length:Int))/\ys=[.o 0,.p (aA m ws),.p (.int n),.p (aN qs)]/\az=[o]/\aS c o/\c+40<2 ^ 30/\∀o',aS (c+30) o'->K (.p .non) [o']/\∀us R:List Int,A7 ws n qs us R->K (.p (aN R)) [o']
def A9:WS:=(ak (ay 4 (jP (aZ (aq 1 u5 (aj (aa 1) af))) [none,some 2,some 3] (aV 0) (eJ (dT (d2 (aa 0) (aa 1) iG)) (dT (d2 (aa 0) (aa 2) (dZ true)))) (aa 0))) (ak (ay 5 (kJ af)) (ak (cI (iE (aj (dN (aj (aa 4) af) bz) af)) (aV 6) (ak (ay 7 (pT (aa 4) (aj (aq 2 fG (aj (aa 0) (aj (dN (aj (aa 4) af) bz) af))) af))) (ak (fh (fZ (d2 (d2 (aa 1) (dC (.int 1)) aG) (aa 7) aG) fY (lH (dC (.int 2)))) (gC 2 (cP (aV 8) (cP (aV 9) gq)))) (aR (dT (d2 (aa 9) (aq 3 A5 (aj (aa 1) (aj (aa 5) (aj (aa 8) af)))) (dZ true))) (i5 (ft (aa 5) (aj (aa 7) af))) bK)))) (aC (aq 4 vv (aj (aa 1) (aj (oW (aa 5)) (aj (d2 (d2 (d2 (aa 1) (dC (.int 1)) aG) (aa 2) aG) (dC (.int 0)) aG) (aj (d2 (d2 (d2 (aa 1) (dC (.int 1)) aG) (aa 2) aG) (dC (.int 1)) aG) af)))))))))
theorem RQ:Sem 4 6 A8 A9:=by
 rintro ys az K'-⟨c,m,ws,n,qs,o,W,hn,rfl,rfl,P,RR,k⟩;have jZ:=W.gu;have dj:=W.dj;have zq:=gK qs;unfold A9;refine aJ fun N hN=>?_;rw[show aN qs=.lst (qs.map D.int) from rfl];simp? only [];refine⟨m,ws,W,rfl,rfl,?_⟩;simp? only []
 refine L2.gU (fun d=>match d with
  |.int x=>decide (x≠n)&&decide (x∉qs)
  |_=>false) id (by rw[nU,jf];omega) trivial ?_ ?_
 ·intro d hd acc L' ha h1 h2
  obtain⟨x,hx,rfl⟩:=Lm.mp hd;dsimp only at h1 h2;simp? only [];rw[h9]
  by_cases q:x=n
  ·rw[Ln q]
   simp? only [];exact h2 (by rw[C7 fun z=>z q];rfl)
  ·rw[C7 q]
   simp? only [];refine⟨by omega,?_⟩;rw[gr]
   by_cases q2:x∈qs
   ·rw[Ln q2]
    simp? only [];exact h2 (by rw[C7 (show ¬ x∉qs from fun z=>z q2),q0c])
   ·rw[C7 q2]
    simp? only [];exact⟨ha,h1 (by rw[Ln q,Ln q2];rfl)⟩
 have e:(((aI ws.length).map D.int).filter fun d=>match d with
  |.int x=>decide (x≠n)&&decide (x∉qs)
  |_=>false).map id=((aI ws.length).filter fun x=>decide (x≠n)&&decide (x∉qs)).map D.int:=by
  rw[WV,Wl];rfl
 rw[e]
 have hl:∀x∈(aI ws.length).filter (fun x=>decide (x≠n)&&decide (x∉qs)),(0<=x/\x<(ws.length:Int))/\x≠n/\x∉qs:=fun x hx=>by
  obtain⟨h1,h2⟩:=VJ.mp hx;simp only[Wa,VR] at h2;exact⟨aW.mp h1,h2⟩
 have ll:((aI ws.length).filter fun x=>decide (x≠n)&&decide (x∉qs)).length<=30:=by
  refine V_ (W8 _ _) ?_;rw[jf];exact jZ
 generalize(aI ws.length).filter (fun x=>decide (x≠n)&&decide (x∉qs))=le at hl ll;simp? only [];subst hN;refine aJ fun N hN=>?_;simp? only [];subst hN;refine aJ fun N hN=>?_;refine jX fun g' b' K2 hg hb' hK=>?_;simp? only [];refine⟨by omega,?_⟩;subst hg hb' hK;refine jx (fun i δ=>∃(l f:List Int)(o':OV),l.length+i=le.length/\f.length<=i/\(∀x∈l,x∈le)/\(∀x∈f,x∈le)/\Indep (bg ws f)/\aS (c+i) o'/\δ=⟨[some (.o 0),some (.p (aA m ws)),some (.p (.int n)),some (.p (.lst (qs.map D.int))),some (.o 1),some (.o 2),none,none,none,none],[some o',some (.lst (l.map D.int)),some (.lst (f.map D.int))]⟩) ⟨le,[],o,rfl,ua _,fun x h=>h,(fun x h=>nomatch h),(fun a ⟨k,hk,_⟩=>nomatch hk),P.mono (by omega),rfl⟩ ?_ ?_
 ·rintro i d δ L hi ⟨l,f,o',li,fi,hle,mU,ind,P',rfl⟩ hL
  obtain⟨hi,rfl⟩:=iF hi;rw[Vx] at hi;refine⟨trivial,?_⟩;simp only[aV,V6,V7];refine aJ fun N2 bR=>?_;simp? only [];refine⟨_,l.length,o',rfl,rfl,P',by omega,by omega,by omega,fun r o1 r0 r1 P1=>?_⟩;obtain⟨rn,rfl⟩:∃rn:Nat,r=rn:=⟨r.toNat,by omega⟩;have hr:rn<l.length:=by omega
  have ix:seqIndex? (rn:Int) l.length=some rn:=DG hr;have eq:(l.map D.int)[rn]?=some (.int l[rn]):=by rw[Lq,nR hr];rfl
  simp? only [ix,eq];refine⟨⟨by omega,by omega⟩,?_⟩;have hx:=hle _ (Wu hr);generalize l[rn]=x at hx;have oX:∀y∈l.eraseIdx rn,y∈le:=fun y hy=>hle y (List.mem_of_mem_eraseIdx hy);have el:(l.eraseIdx rn).length+(i+1)=le.length:=by rw[X1 hr];omega
  rw[ze];generalize l.eraseIdx rn=l' at oX el;obtain⟨x1,x2,x3⟩:=hl x hx;have en:=W.ends _ (h_ x1.1 x1.2);obtain⟨a,ea⟩:∃a:Nat,(ag ws x).1=a:=⟨(ag ws x).1.toNat,by omega⟩;subst bR;refine aJ fun N2 bR=>?_;simp? only [aA,cG,qe x1,a5,tE];subst bR;have nf:Nums ws f:=fun y hy=>(hl y (mU y hy)).1;refine fF fun A1 B1 hA hB=>?_;simp? only [ea];refine⟨m,ws,f,a,W,nf,by omega,rfl,rfl,?_⟩;have hc:∀y,y∈cls m.toNat (bg ws f) a↔(0<=y/\y<(m.toNat:Int))/\au (bg ws f) a y:=fun y=>ba;generalize cls m.toNat (bg ws f) a=jg at hc;have zl:=gK jg;rw[show aN jg=.lst (jg.map D.int) from rfl];simp? only [];refine⟨by omega,?_⟩
  rw[gr]
  by_cases q:(ag ws x).2.1∈jg
  ·rw[Ln q]
   simp? only [];subst hB;exact hL _ ⟨l',f,o1,el,by omega,oX,mU,ind,P1.mono (by omega),rfl⟩
  ·rw[C7 q]
   simp? only [];subst hA;simp? only [];have nc:¬ au (bg ws f) (ag ws x).1 (ag ws x).2.1:=fun z=>q ((hc _).mpr ⟨by omega,ea▸z⟩);refine⟨by omega,hL _ ⟨l',f++[x],o1,el,by rw[C4];exact Nat.succ_le_succ fi,oX,fun y hy=>?_,ind.add (w:=ag ws x) (fun v=>?_) nc,P1.mono (by omega),by rw[VI];rfl⟩⟩
   ·rcases VA.mp hy with h|h
    ·exact mU y h
    ·rw[Um.mp h];exact hx
   ·constructor
    ·rintro⟨k,hk,rfl⟩
     rcases VA.mp hk with h|h
     ·exact .inl ⟨k,h,rfl⟩
     ·rw[Um.mp h];exact .inr rfl
    ·rintro(⟨k,hk,rfl⟩|rfl)
     ·exact⟨k,VQ _ hk,rfl⟩
     ·exact⟨x,Uj _ (.head _),rfl⟩
 ·rintro δ ⟨l,f,o',li,fi,hle,mU,ind,P',rfl⟩
  rw[hW,Vx] at P' li fi;refine⟨trivial,?_⟩;subst hN;have en:=W.ends _ (h_ hn.1 hn.2);obtain⟨a,ea⟩:∃a:Nat,(ag ws n).1=a:=⟨(ag ws n).1.toNat,by omega⟩;obtain⟨b,eb⟩:∃b:Nat,(ag ws n).2.1=b:=⟨(ag ws n).2.1.toNat,by omega⟩;simp? only [oW,aA,cG,qe hn,a5,cQ,ea,eb];obtain⟨k0,k1⟩:=k o' (P'.mono (by omega));refine⟨m,ws,f,a,b,W,fun y hy=>(hl y (mU y hy)).1,by omega,ind,by omega,by omega,rfl,rfl,fun _=>?_,fun R nd hR hc=>?_⟩
  ·simp? only []
   exact⟨_,rfl,rfl,k0⟩
  ·simp? only []
   refine⟨_,rfl,rfl,k1 f R ⟨fun y hy=>(hl y (mU y hy)).1,ind,fun z=>(hl n (mU n z)).2.1 rfl,fun y hy=>(hl y (mU y hy)).2.2,by rw[ea,eb];exact hc,nd,by rw[ea,eb];exact hR⟩⟩
structure ie(m:Int)(ws:List Wy)(ps:List Int)(n:Int)(H:List Int):Prop where
 nd:H.Nodup
 rng:∀x∈H,0<=x/\x<m
 A_:∀x y,(0<=x/\x<m)->(0<=y/\y<m)->au (bg ws ps) x y->x∈H->y∈H
 lead:¬ ((ag ws n).1∈H↔(ag ws n).2.1∈H)
theorem Ge{A B C:WS}{K:KS}{δ:aD}(h:ak (ak A B) C K δ):ak A (ak B C) K δ:=h
theorem ie.step{m:Int}{ws:List Wy}{ps qs H:List Int}{n:Int}(W:ax m ws)(S:bu ws ps qs)(hn:0<=n/\n<(ws.length:Int))(nq:n∉qs)(h:ie m ws ps n H):∃k,eM m ws ps qs (sortI H) k:=by
 have pm:=sortI_perm H;have up:(sortI H).Pairwise (· < ·):=((rU H).and (pm.nodup_iff.mpr h.nd)).imp fun h=>by omega
 have mem:∀x,x∈sortI H↔x∈H:=fun x=>pm.mem_iff;refine Ga W (vp up fun x hx=>h.rng x ((mem x).mp hx)) (fun k hk=>Gb ?_) hn (Gd ?_) nq
 ·have ek:=W.ends _ (h_ (S.pn k hk).1 (S.pn k hk).2)
  have co:au (bg ws ps) (ag ws k).1 (ag ws k).2.1:=.one ⟨k,hk,rfl⟩;rw[mem,mem];exact⟨fun z=>h.A_ _ _ (by omega) (by omega) co z,fun z=>h.A_ _ _ (by omega) (by omega) co.symm z⟩
 ·rw[mem,mem];exact h.lead
theorem ie.about{m:Int}{ws:List Wy}{ps H:List Int}{n:Int}(W:ax m ws)(hn:0<=n/\n<(ws.length:Int))(h:ie m ws ps n H):ie m ws ps n ((aI m.toNat).filter fun x=>decide (x∉H)):=by
 have m1:=W.m1;have mem:∀x,x∈(aI m.toNat).filter (fun x=>decide (x∉H))↔(0<=x/\x<m)/\x∉H:=fun x=>by rw[VJ,aW,Xm];exact and_congr_left fun _=>by omega
 have en:=W.ends _ (h_ hn.1 hn.2);refine⟨(pY _).sublist Xu,fun x hx=>((mem x).mp hx).1,fun x y hx hy c z=>(mem y).mpr ⟨hy,fun q=>((mem x).mp z).2 (h.A_ y x hy hx c.symm q)⟩,fun z=>h.lead ?_⟩;rw[mem,mem] at z
 constructor
 ·intro a
  exact VO fun b=>(z.mpr ⟨by omega,b⟩).2 a
 ·intro a
  exact VO fun b=>(z.mp ⟨by omega,b⟩).2 a
theorem RT{m:Int}{ws:List Wy}{ps:List Int}{n:Int}(W:ax m ws)(hn:0<=n/\n<(ws.length:Int)){L C:List (List Int)}(IL:p_ m.toNat (bg ws ps) L)(sub:C.Sublist L)(one:∀l∈L,(ag ws n).1∈l->l∈C)(kC:∀l∈C,(ag ws n).2.1∉l):ie m ws ps n C.flatten:=by
 have m1:=W.m1;have en:=W.ends _ (h_ hn.1 hn.2);have tF:∀l∈C,l∈L:=fun l h=>sub.subset h
 have cl:∀l∈L,∀x∈l,(0<=x/\x<m)/\l=cls m.toNat (bg ws ps) x:=fun l hl x hx=>by
  obtain⟨h,hh,rfl⟩:=(IL.mem l).mp hl;obtain⟨a,b⟩:=ba.mp hx;exact⟨by omega,Ae b⟩
 refine⟨List.pairwise_flatten.mpr ⟨fun l hl=>?_,?_⟩,fun x hx=>?_,fun x y hx hy c h=>?_,fun z=>?_⟩
 ·obtain⟨h,hh,rfl⟩:=(IL.mem l).mp (tF l hl)
  exact(pY _).sublist Xu
 ·have nd:C.Nodup:=IL.nd.sublist sub
  refine List.Pairwise.imp_of_mem (fun{a b} ha hb ne=>?_) nd;intro x h1 y h2 e;subst e;exact ne ((cl a (tF a ha) x h1).2.trans (cl b (tF b hb) x h2).2.symm)
 ·obtain⟨l,hl,h⟩:=Xy.mp hx
  exact(cl l (tF l hl) x h).1
 ·obtain⟨l,hl,fD⟩:=Xy.mp h
  refine Xy.mpr ⟨l,hl,?_⟩;rw[(cl l (tF l hl) x fD).2];exact ba.mpr ⟨by omega,c⟩
 ·have h1:(ag ws n).1∈C.flatten:=by
   have hL:cls m.toNat (bg ws ps) (ag ws n).1∈L:=(IL.mem _).mpr ⟨_,by omega,rfl⟩;have hm:(ag ws n).1∈cls m.toNat (bg ws ps) (ag ws n).1:=Af (by omega);exact Xy.mpr ⟨_,one _ hL hm,hm⟩
  obtain⟨l,hl,h2⟩:=Xy.mp (z.mp h1);exact kC l hl h2
theorem Gf{C L:List (List Int)}(h:C.Sublist L):C.flatten.length<=L.flatten.length:=by
 induction h with
 |slnil=>exact ua _
 |cons a _ ih=>rw[Wv,C4];omega
 |cons_cons a _ ih=>rw[Wv,Wv,C4,C4];omega
def Ba:GD:=fun ys az K=>∃(c m:Int)(ws:List Wy)(ps qs:List Int)(o:OV),ax m ws/\bu ws ps qs/\ys=[.o 0,.p (aA m ws),.p (.tup [aN ps,aN qs])]/\az=[o]/\aS c o/\c+100<2 ^ 30/\∀o',aS (c+60) o'->((∀x,0<=x/\x<(ws.length:Int)->x∈ps\/x∈qs)->K (.p .non) [o'])/\∀(s:Bool×List Int)(k:Int),bX m ws ps qs s.1 s.2 k->K (.p (dM s)) [o']
def Bb:WS:=(ak (fh (aa 2) (gC 2 (cP (aV 3) (cP (aV 4) gq)))) (ak (ay 5 (aq 2 fG (aj (aa 0) (aj (dC (.int 3)) af)))) (ak (ay 6 (d2 (aq 2 fG (aj (aa 0) (aj (dC (.int 3)) af))) (dC (.int 0)) oEq)) (ak (ay 7 (bU (aZ (aq 1 u5 (aj (aa 1) af))) [none,some 3,some 4] (aV 0) (dT (d2 (aa 0) (d2 (aa 1) (aa 2) cq) (dZ true))) (aa 0))) (ak (aR (dT (d2 (aa 7) (b9 af) oEq)) (aC (dC .non)) bK) (ak (ay 8 (d2 (aa 7) (aq 2 fG (aj (aa 0) (aj (dN (aj (aa 7) af) bz) af))) aG)) (ak (fh (fZ (d2 (d2 (aa 1) (dC (.int 1)) aG) (aa 8) aG) fY (lH (dC (.int 2)))) (gC 2 (cP (aV 9) (cP (aV 10) gq)))) (ak (ay 11 (aq 4 vv (aj (aa 1) (aj (aa 3) (aj (aa 9) (aj (aa 10) af)))))) (ak (aR (eJ (dT (d2 (aa 11) (dC .non) jc)) (dT (aa 6))) (ay 11 (aq 4 A8 (aj (aa 0) (aj (aa 1) (aj (aa 8) (aj (aa 4) af)))))) bK) (ak (aR (dT (d2 (aa 11) (dC .non) sg)) (aC (cm (aj (dC (.str "ring")) (aj (dN (aj (d2 (aa 11) (b9 (aj (aa 8) af)) cq) af) iH) af)))) bK) (ak (ay 12 (b9 af)) (ak (cI (aZ (aq 2 zE (aj (aa 1) (aj (aa 3) af)))) (aV 13) (aR (mG (dT (d2 (aa 9) (aa 13) (dZ false))) (eJ (dT (d2 (aa 10) (aa 13) (dZ true))) (dT (d2 (aq 2 fG (aj (aa 0) (aj (dC (.int 2)) af))) (d2 (aa 5) (dC (.int 2)) (c9 (fun _ j=>0<j) fun i j=>.int (i%j))) oEq)))) (ay 12 (d2 (aa 12) (aa 13) cq)) bK)) (ak (aR (dT (d2 (aa 5) (dC (.int 2)) oEq)) (ay 12 (bU (iE (aj (d2 (aa 1) (dC (.int 0)) aG) af)) [none,some 12] (aV 0) (dT (d2 (aa 0) (aa 1) (dZ true))) (aa 0))) bK) (aC (cm (aj (dC (.str "cut")) (aj (dN (aj (aa 12) af) iH) af)))))))))))))))))
theorem RU:Sem 3 11 Ba Bb:=by
 rintro ys az K'-⟨c,m,ws,ps,qs,o,W,S,rfl,rfl,P,RR,k⟩;have jZ:=W.gu;have dj:=W.dj;obtain⟨RW,RX,RY⟩:=VZ.mp S.nd;have pl:=mS S.pn RW;have ql:=mS S.qn RX;have zp:=gK (ps++qs);unfold Bb;refine aJ fun N hN=>?_;rw[show aN ps=.lst (ps.map D.int) from rfl,show aN qs=.lst (qs.map D.int) from rfl];simp? only [];subst hN;refine aJ fun N hN=>?_;simp? only [];refine⟨c,3,o,rfl,rfl,P,by omega,by omega,by omega,fun kd o1 US UT P1=>?_⟩;simp? only [];subst hN;refine aJ fun N hN=>?_;simp? only [];refine⟨c+1,3,o1,rfl,rfl,P1,by omega,by omega,by omega,fun wd o2 UU UW P2=>?_⟩;simp? only [];generalize aB (D.int wd) (D.int 0)=wide
 subst hN;refine aJ fun N hN=>?_;simp? only [];refine⟨m,ws,W,rfl,rfl,?_⟩;simp? only []
 refine L2.gU (fun d=>match d with
  |.int x=>decide (x∉ps++qs)
  |_=>false) id (by rw[nU,jf];omega) trivial ?_ ?_
 ·intro d hd acc L ha h1 h2
  obtain⟨x,hx,rfl⟩:=Lm.mp hd;dsimp only at h1 h2;simp? only [];refine⟨by omega,?_⟩;rw[<-VI];refine⟨by omega,?_⟩;rw[gr]
  by_cases q:x∈ps++qs
  ·rw[Ln q]
   simp? only [];exact h2 (C7 fun z=>z q)
  ·rw[C7 q]
   simp? only [];exact⟨ha,h1 (Ln q)⟩
 have e:(((aI ws.length).map D.int).filter fun d=>match d with
  |.int x=>decide (x∉ps++qs)
  |_=>false).map id=((aI ws.length).filter fun x=>decide (x∉ps++qs)).map D.int:=by
  rw[WV,Wl];rfl
 rw[e];have hu:∀x,x∈(aI ws.length).filter (fun x=>decide (x∉ps++qs))↔(0<=x/\x<(ws.length:Int))/\x∉ps++qs:=fun x=>by rw[VJ,aW,Xm]
 have ul:((aI ws.length).filter fun x=>decide (x∉ps++qs)).length<=30:=by
  refine V_ (W8 _ _) ?_;rw[jf];exact jZ
 generalize(aI ws.length).filter (fun x=>decide (x∉ps++qs))=un at hu ul;simp? only [];subst hN;refine aJ fun N hN=>?_;refine fF fun A1 B1 hA hB=>?_;have zu:=gK un;simp? only [];refine⟨by omega,?_⟩;rw[show aB (.lst (un.map D.int)) (.lst [])=decide (un=[]) by simp only[aB];exact sP un []]
 by_cases vz:un=[]
 ·rw[Ln vz]
  simp? only [];subst hA;have k0:=(k o2 (P2.mono (by omega))).1;refine⟨[o2],rfl,rfl,k0 fun x hx=>VO fun z=>?_⟩;have:=(hu x).mpr ⟨hx,fun y=>z (VA.mp y)⟩;rw[vz] at this;cases this
 rw[C7 vz];simp? only [];subst hB;show N _;subst hN
 have u0:0<un.length:=by cases un with
  |nil=>exact absurd rfl vz
  |cons _ _=>simp
 refine aJ fun N hN=>?_;simp? only [];refine⟨c+1+1,un.length,o2,rfl,rfl,P2,by omega,by omega,by omega,fun r o3 r0 r1 P3=>?_⟩;obtain⟨rn,rfl⟩:∃rn:Nat,r=rn:=⟨r.toNat,by omega⟩;simp? only [iI (ns:=un) (i:=rn) (by omega)];obtain⟨hn,nu⟩:=(hu (un.getD rn 0)).mp (by rw[C6,nR (by omega)];exact Wu _);generalize un.getD rn 0=n at hn nu;have np:n∉ps:=fun z=>nu (VQ _ z);have nq:n∉qs:=fun z=>nu (Uj _ z);have en:=W.ends _ (h_ hn.1 hn.2);obtain⟨a,ea⟩:∃a:Nat,(ag ws n).1=a:=⟨(ag ws n).1.toNat,by omega⟩;obtain⟨b,eb⟩:∃b:Nat,(ag ws n).2.1=b:=⟨(ag ws n).2.1.toNat,by omega⟩;subst hN;refine aJ fun N hN=>?_
 simp? only [aA,cG,qe hn,a5,tE];rw[ea,eb];subst hN;refine Ge (aJ fun N4 ig=>?_)
 have fin:∀(rd:D)(o':OV),aS (c+40) o'->((rd=.non/\¬ au (bg ws ps) a b)\/∃R:List Int,rd=.lst (R.map D.int)/\R.length<=30/\∃x,bN ws ps qs (sortI (R++[n])) x)->N4 ⟨[some (.o 0),some (.p (.tup [.int m,.tup (ws.map a5)])),some (.p (.tup [.lst (ps.map D.int),.lst (qs.map D.int)])),some (.p (.lst (ps.map D.int))),some (.p (.lst (qs.map D.int))),some (.p (.int kd)),some (.p (.bl wide)),some (.p (.lst (un.map D.int))),some (.p (.int n)),some (.p (.int a)),some (.p (.int b)),some (.p rd),none,none],[some o']⟩:=by
  intro rd o' P' C2;subst ig;refine aJ fun N hN=>?_;refine fF fun A1 B1 hA hB=>?_;rcases C2 with⟨rfl,nc⟩|⟨R,rfl,Rl,x,RS⟩
  ·simp? only []
   subst hB;show N _;subst hN;refine aJ fun N hN=>?_;simp? only [];subst hN;refine aJ fun N hN=>?_;refine jX fun g' b' K2 hg hb' hK=>?_;simp? only [];refine⟨m,ws,ps,W,S.pn,.inl ⟨rfl,rfl,?_⟩⟩;rw[Q7 W S.pn,show u6 (iL m ws ps)=.lst ((iL m ws ps).map aN) from rfl];simp? only [];subst hg hb' hK;have IL:=(FF W S.pn).1;obtain⟨Ll,Lf⟩:=QG W S.pn;generalize iL m ws ps=Lo at IL Ll Lf;refine jx (fun i δ=>∃(C:List (List Int))(o5:OV),C.Sublist (Lo.take i)/\(∀l∈Lo.take i,(a:Int)∈l->l∈C)/\(∀l∈C,(b:Int)∉l)/\aS (c+40+i) o5/\δ=⟨[some (.o 0),some (.p (.tup [.int m,.tup (ws.map a5)])),some (.p (.tup [.lst (ps.map D.int),.lst (qs.map D.int)])),some (.p (.lst (ps.map D.int))),some (.p (.lst (qs.map D.int))),some (.p (.int kd)),some (.p (.bl wide)),some (.p (.lst (un.map D.int))),some (.p (.int n)),some (.p (.int a)),some (.p (.int b)),some (.p .non),some (.p (.lst (C.flatten.map D.int))),none],[some o5]⟩) ⟨[],o',List.nil_sublist _,(fun l h=>by simp at h),(fun l h=>nomatch h),P'.mono (by omega),rfl⟩ ?_ ?_
   ·rintro i d δ L hi ⟨C,o5,sub,one,kC,P5,rfl⟩ hL
    rw[Lq] at hi;obtain⟨l,Bc,rfl⟩:=Vz.mp hi;obtain⟨il,ei⟩:=nV.mp Bc;have et:Lo.take (i+1)=Lo.take i++[l]:=by rw[XC,Bc];rfl
    have lm:l∈Lo:=V0 Bc;have zl:=gK l;have fl:C.flatten.length<=12:=V_ (Gf (sub.trans (Zl i Lo))) Lf
    have ll:l.length<=12:=by
     obtain⟨h,hh,rfl⟩:=(IL.mem l).mp lm;refine V_ (W8 _ _) ?_;rw[jf];omega
    have yes:∀o6,(b:Int)∉l->aS (c+40+i+1) o6->L ⟨[some (.o 0),some (.p (.tup [.int m,.tup (ws.map a5)])),some (.p (.tup [.lst (ps.map D.int),.lst (qs.map D.int)])),some (.p (.lst (ps.map D.int))),some (.p (.lst (qs.map D.int))),some (.p (.int kd)),some (.p (.bl wide)),some (.p (.lst (un.map D.int))),some (.p (.int n)),some (.p (.int a)),some (.p (.int b)),some (.p .non),some (.p (.lst (C.flatten.map D.int++l.map D.int))),none],[some o6]⟩:=fun o6 nb P6=>by
     refine hL _ ⟨C++[l],o6,by rw[et];exact sub.append (Zp _),fun l' d9 ha=>?_,fun l' d9=>?_,P6.mono (by omega),by rw[List.flatten_append,VI];simp⟩
     ·rw[et] at d9
      rcases VA.mp d9 with h|h
      ·exact VQ _ (one l' h ha)
      ·exact Uj _ h
     ·rcases VA.mp d9 with h|h
      ·exact kC l' h
      ·rw[Um.mp h];exact nb
    have no:∀o6,(a:Int)∉l->aS (c+40+i+1) o6->L ⟨[some (.o 0),some (.p (.tup [.int m,.tup (ws.map a5)])),some (.p (.tup [.lst (ps.map D.int),.lst (qs.map D.int)])),some (.p (.lst (ps.map D.int))),some (.p (.lst (qs.map D.int))),some (.p (.int kd)),some (.p (.bl wide)),some (.p (.lst (un.map D.int))),some (.p (.int n)),some (.p (.int a)),some (.p (.int b)),some (.p .non),some (.p (.lst (C.flatten.map D.int))),none],[some o6]⟩:=fun o6 na P6=>by
     refine hL _ ⟨C,o6,by rw[et];exact sub.trans (Zw _ _),fun l' d9 ha=>?_,kC,P6.mono (by omega),rfl⟩;rw[et] at d9;rcases VA.mp d9 with h|h
     ·exact one l' h ha
     ·rw[Um.mp h] at ha;exact absurd ha na
    clear hL;refine⟨trivial,?_⟩;simp only[aV,V6,V7];rw[show aN l=.lst (l.map D.int) from rfl];refine fF fun A1 B1 hA hB=>?_;simp? only [];refine⟨by omega,?_⟩;rw[gr]
    by_cases qa:(a:Int)∈l
    ·rw[Ln qa]
     simp? only [];subst hA;simp? only [];refine⟨by omega,yes o5 (fun qb=>nc ?_) (P5.mono (by omega))⟩;obtain⟨h,hh,rfl⟩:=(IL.mem l).mp lm;exact(ba.mp qa).2.symm.trans (ba.mp qb).2
    ·rw[C7 qa]
     simp? only [];refine⟨by omega,?_⟩;rw[gr]
     by_cases qb:(b:Int)∈l
     ·rw[Ln qb]
      simp? only [];subst hB;exact no o5 qa (P5.mono (by omega))
     ·rw[C7 qb]
      simp? only [];refine⟨_,2,o5,rfl,rfl,P5,by omega,by omega,by omega,fun r o6 r0 r1 P6=>?_⟩;simp? only [];refine⟨by omega,?_⟩
      cases aB (D.int r) (D.int (kd%2)) with
      |true =>
       simp? only [];subst hA;simp? only [];exact⟨by omega,yes o6 qb P6⟩
      |false =>
       simp? only [];subst hB;exact no o6 qa P6
   ·rintro δ ⟨C,o5,sub,one,kC,P5,rfl⟩
    rw[nU,Xx] at sub one;rw[nU] at P5;have HS:=RT W hn IL sub (by rw[ea];exact one) (by rw[eb];exact kC);have fl:C.flatten.length<=12:=V_ (Gf sub) Lf;generalize C.flatten=H at HS fl;have zh:=gK H;refine⟨trivial,?_⟩;subst hN;dsimp only;refine aJ fun N hN=>?_;refine fF fun A1 B1 hA hB=>?_
    have last:∀H:List Int,ie m ws ps n H->H.length<=12->N ⟨[some (.o 0),some (.p (.tup [.int m,.tup (ws.map a5)])),some (.p (.tup [.lst (ps.map D.int),.lst (qs.map D.int)])),some (.p (.lst (ps.map D.int))),some (.p (.lst (qs.map D.int))),some (.p (.int kd)),some (.p (.bl wide)),some (.p (.lst (un.map D.int))),some (.p (.int n)),some (.p (.int a)),some (.p (.int b)),some (.p .non),some (.p (.lst (H.map D.int))),none],[some o5]⟩:=fun H HS hl=>by
     subst hN;simp? only [iH,oA];refine⟨by omega,?_⟩;obtain⟨x,CS⟩:=HS.step W S hn nq;exact⟨[o5],rfl,rfl,(k o5 (P5.mono (by omega))).2 (true,sortI H) x CS⟩
    simp? only [];rw[h9]
    by_cases k2:kd=2
    ·rw[Ln k2]
     simp? only [];subst hA;simp? only [cQ];refine⟨by omega,?_⟩
     refine L2.gU (fun d=>match d with
      |.int x=>decide (x∉H)
      |_=>false) id (by rw[hW];omega) trivial ?_ ?_
     ·intro d hd acc L' ha h1 h2
      obtain⟨z,hz⟩:=Uq.mp hd;obtain⟨zl,rfl⟩:=iF hz;dsimp only at h1 h2;simp? only [];refine⟨by omega,?_⟩;rw[gr]
      by_cases q:(0+(z:Int))∈H
      ·rw[Ln q]
       simp? only [];exact h2 (C7 fun z=>z q)
      ·rw[C7 q]
       simp? only [];exact⟨ha,h1 (Ln q)⟩
     rw[show((bp 0 m.toNat).filter fun d=>match d with
      |.int x=>decide (x∉H)
      |_=>false).map id=((aI m.toNat).filter fun x=>decide (x∉H)).map D.int by rw[WV,jW,Wl];rfl]
     simp? only [];refine last _ (HS.about W hn) ?_;refine V_ (W8 _ _) ?_;rw[jf];omega
    ·rw[C7 k2]
     simp? only [];subst hB;exact last H HS fl
  ·simp? only []
   subst hA;simp? only [];refine⟨by omega,?_⟩;rw[show R.map D.int++[D.int n]=(R++[n]).map D.int by rw[VI];rfl];simp? only [iH,oA];refine⟨by omega,?_⟩;exact⟨[o'],rfl,rfl,(k o' (P'.mono (by omega))).2 (false,sortI (R++[n])) x RS⟩
 clear ig;refine aJ fun N hN=>?_;simp? only [];refine⟨m,ws,ps,a,b,W,S.pn,by omega,S.indep W,by omega,by omega,rfl,rfl,fun nc=>?_,fun R nd hR hc=>?_⟩
 ·simp? only []
  subst hN
  cases wide with
  |false =>
   simp? only [];exact fin _ o3 (P3.mono (by omega)) (.inl ⟨rfl,nc⟩)
  |true =>
   simp? only [];refine⟨c+1+1+1,m,ws,n,qs,o3,W,hn,rfl,rfl,P3,by omega,fun o4 P4=>⟨?_,fun us R A=>?_⟩⟩
   ·simp? only []
    exact fin _ o4 (P4.mono (by omega)) (.inl ⟨rfl,nc⟩)
   ·simp? only []
    have Rl:R.length<=ws.length:=mS (fun e he=>A.nums e ((A.road e).mp he).1) A.nd;exact fin _ o4 (P4.mono (by omega)) (.inr ⟨R,rfl,by omega,A0 W A.nums A.ind A.free hn A.not np nq A.conn A.nd A.road⟩)
 ·have Rl:R.length<=ws.length:=mS (fun e he=>S.pn e ((hR e).mp he).1) nd
  rw[show aN R=.lst (R.map D.int) from rfl];simp? only [];subst hN;simp? only [];exact fin _ o3 (P3.mono (by omega)) (.inr ⟨R,rfl,by omega,A0 W S.pn (S.indep W) (fun k hk z=>RY k hk k z rfl) hn np np nq (by rw[ea,eb];exact hc) nd (by rw[ea,eb];exact hR)⟩)
theorem Gg{ws:List Wy}{ps qs:List Int}(h:∀x,0<=x/\x<(ws.length:Int)->x∈ps\/x∈qs):ws.length<=ps.length+qs.length:=by
 have:=Xl (l₁:=aI ws.length) (l₂:=ps++qs) (pY _) fun x hx=>VA.mpr (h x (aW.mp hx));rw[jf,C4] at this;exact this
theorem bu.all{ws:List Wy}{ps qs:List Int}(S:bu ws ps qs)(h:ps.length+qs.length=ws.length):∀x,0<=x/\x<(ws.length:Int)->x∈ps\/x∈qs:=fun x hx=>VO fun z=>by
 have nd:(x::(ps++qs)).Nodup:=Wf.mpr ⟨fun y=>z (VA.mp y),S.nd⟩
 have:=mS (ws:=ws) (us:=x::(ps++qs)) (fun y hy=>by
  rcases Lp.mp hy with rfl|hy
  ·exact hx
  ·rcases VA.mp hy with h|h
   ·exact S.pn y h
   ·exact S.qn y h) nd
 rw[Lk,C4] at this;omega
noncomputable abbrev KL:KS:=⟨fun _=>False,fun x _=>x=.p (.bl true),fun _=>False,fun _=>False⟩
theorem bL.step{m:Int}{ws:List Wy}{st:List (Bool×List Int)}{ps qs:List Int}(R:bL m ws [] [] st ps qs){s:Bool×List Int}{k:Int}(C:bX m ws ps qs s.1 s.2 k):∃d_ eV,bL m ws [] [] (st++[s]) d_ eV:=by
 obtain⟨c,l⟩:=s
 cases c with
 |true=>exact⟨_,_,R.app (.cut C .nil)⟩
 |false=>exact⟨_,_,R.app (.ring C .nil)⟩
theorem bX.left{m:Int}{ws:List Wy}{ps qs l:List Int}{n:Int}{c:Bool}(C:bX m ws ps qs c l n):(0<=n/\n<(ws.length:Int))/\n∉ps/\n∉qs:=by
 cases c with
 |true =>
  have C:eM m ws ps qs l n:=C;exact⟨C.num,(fun z=>by have:=C.free n z;rw[C.lead] at this;cases this),C.nq⟩
 |false =>
  have C:bN ws ps qs l n:=C;exact⟨C.nums.1 n C.mem,C.np,C.free n C.mem⟩
def Bd:WS:=(ak (cI (iE (aj (dC (.int 3)) af)) (aV 2) (ak (ay 3 (aq 3 zg (aj (aq 1 y7 (aj (aa 1) af)) (aj (d2 (b9 (aj (dC (.int 6)) (aj (dC (.int 9)) (aj (dC (.int 5)) af)))) (aa 2) aG) (aj (dC (.int 20)) af))))) (ak (ay 4 (aq 1 z_ (aj (aa 3) af))) (ak (ay 5 (aq 2 fG (aj (aa 1) (aj (dC (.int 3)) af)))) (ak (ay 6 (kJ af)) (ak (fh (aq 2 tu (aj (aa 3) (aj (b9 af) af))) (gC 2 (cP (aV 7) (cP (aV 8) gq)))) (ak (cI (iE (aj (dN (aj (d2 (aa 3) (dC (.int 1)) aG) af) bz) af)) (aV 9) (ak (ay 10 (aq 3 Ba (aj (aa 1) (aj (aa 3) (aj (cm (aj (aa 7) (aj (aa 8) af))) af))))) (ak (aR (mG (dT (d2 (aa 5) (dC (.int 0)) oEq)) (eJ (dT (d2 (aa 5) (dC (.int 1)) oEq)) (dT (d2 (d2 (aa 9) (dC (.int 2)) (c9 (fun _ j=>0<j) fun i j=>.int (i%j))) (dC (.int 0)) oEq)))) (ay 10 (aq 2 vy (aj (aa 3) (aj (bU (aZ (aa 6)) [none,none] (gC 2 (cP (aV 0) (cP (aV 1) gq))) bI (cm (aj (aa 0) (aj (dN (aj (aa 1) af) pQ) af)))) af)))) bK) (ak (aR (dT (d2 (aa 10) (dC .non) jc)) (aC (dC (.bl false))) bK) (ak (i5 (ft (aa 6) (aj (aa 10) af))) (ak (fh (aq 2 tu (aj (aa 3) (aj (bU (aZ (aa 6)) [none,none] (gC 2 (cP (aV 0) (cP (aV 1) gq))) bI (cm (aj (aa 0) (aj (dN (aj (aa 1) af) pQ) af)))) af))) (gC 2 (cP (aV 7) (cP (aV 8) gq)))) (ak (aR (dT (d2 (d2 (dN (aj (aa 7) af) bz) (dN (aj (aa 8) af) bz) cq) (d2 (aa 9) (dC (.int 1)) cq) iG)) (aC (dC (.bl false))) bK) (ak (aR (dT (d2 (bU (aZ (aa 7)) [none,some 4] (aV 0) (dT (d2 (aa 0) (aa 1) (dZ true))) (aa 0)) (b9 af) iG)) (aC (dC (.bl false))) bK) (aR (dT (d2 (bU (aZ (aa 8)) [none,some 4] (aV 0) (dT (d2 (aa 0) (aa 1) (dZ false))) (aa 0)) (b9 af) iG)) (aC (dC (.bl false))) bK))))))))) (ak (aR (mG (dT (d2 (aa 7) (aa 4) iG)) (dT (d2 (dN (aj (aa 8) af) bz) (d2 (dN (aj (d2 (aa 3) (dC (.int 1)) aG) af) bz) (dN (aj (aa 4) af) bz) (oI fun i j=>.int (i-j))) iG))) (aC (dC (.bl false))) bK) (aR (dT (d2 (aq 2 vy (aj (aa 3) (aj (bU (aZ (aa 6)) [none,none] (gC 2 (cP (aV 0) (cP (aV 1) gq))) bI (cm (aj (aa 0) (aj (dN (aj (aa 1) af) pQ) af)))) af))) (dC .non) sg)) (aC (dC (.bl false))) bK))))))))) (aC (dC (.bl true))))
theorem RZ(ns:List Int)(hn:ns.length<=63):Bd KL ⟨none::some (.o 0)::List.replicate 9 none,[some (hZ ns 0 0)]⟩:=by
 unfold Bd;refine aJ fun N hN=>?_;simp? only [];refine⟨by decide,?_⟩;refine jx (fun i δ=>∃o,aS (2000*i) o/\δ=⟨none::some (.o 0)::List.replicate 9 none,[some o]⟩) ⟨hZ ns 0 0,⟨ns,0,0,rfl,hn,by omega,by omega⟩,rfl⟩ ?_ ?_
 ·rintro j d δ L hj ⟨o,P,rfl⟩ hL
  obtain⟨Be,rfl⟩:=iF hj;have Be:j<3:=Be;refine⟨trivial,?_⟩;simp only[aV,WN,List.replicate_zero,V6,V7]
  obtain⟨hs,ea,h1,EV⟩:∃hs:Int,d8 [D.int 6,D.int 9,D.int 5] (0+(j:Int))=some (.int hs)/\1<=hs/\hs<=12:=by
   match j,Be with
   |0,_=>exact⟨6,rfl,by decide,by decide⟩
   |1,_=>exact⟨9,rfl,by decide,by decide⟩
   |2,_=>exact⟨5,rfl,by decide,by decide⟩
  generalize(0+(j:Int))=jt at ea;refine aJ fun N2 bR=>?_;simp? only [];refine⟨2000*j,o,rfl,rfl,P,fun o1 P1=>?_⟩;simp? only [ea];refine⟨2000*j,hs,20,o1,rfl,rfl,P1,by omega,by omega,by omega,by omega,by omega,fun m ws o2 W _ jy P2=>?_⟩;have jy:ws.length<=20:=by omega
  simp? only [];subst bR;refine aJ fun N2 bR=>?_;simp? only [];refine⟨m,ws,W,rfl,rfl,fun os ho=>?_⟩;have F:=Rc W ho;have fs:(mR m ws os).Pairwise (· <= ·):=rU _;generalize mR m ws os=fo at F fs;have fl:=F.len;have zf:=gK fo;simp? only [];subst bR;refine aJ fun N2 bR=>?_;simp? only [];refine⟨_,3,o2,rfl,rfl,P2,by omega,by omega,by omega,fun td o3 _ _ P3=>?_⟩;simp? only [];subst bR;refine aJ fun N2 bR=>?_;simp? only [];subst bR;refine aJ fun N2 bR=>?_;simp? only [];refine⟨m,ws,[],[],[],W,jy,by simp,.nil,rfl,rfl,?_⟩;rw[show aN (sortI [])=.lst ((sortI []).map D.int) from rfl];simp? only []
  subst bR;refine aJ fun N2 bR=>?_;refine jX fun g' b' K2 hg hb' hK=>?_;simp? only [aA,cG];refine⟨by omega,?_⟩;subst hg hb' hK;refine jx (fun i δ=>∃(st:List (Bool×List Int))(ps qs:List Int)(o':OV),st.length=i/\bL m ws [] [] st ps qs/\aS (2000*j+400+70*i) o'/\δ=⟨[none,some (.o 0),some (.p (.int jt)),some (.p (.tup [.int m,.tup (ws.map a5)])),some (.p (.lst (fo.map D.int))),some (.p (.int td)),some (.o 1),some (.p (.lst ((sortI ps).map D.int))),some (.p (.lst ((sortI qs).map D.int))),none,none],[some o',some (.lst (st.map dM))]⟩) ⟨[],[],[],o3,rfl,.nil,P3.mono (by omega),rfl⟩ ?_ ?_
  ·rintro i d δ L5 hi ⟨st,ps,qs,o',sl,R,P',rfl⟩ R0
   obtain⟨R1,rfl⟩:=iF hi;rw[Vx] at R1;refine⟨trivial,?_⟩;simp only[aV,V6,V7];have S:=R.ok W (bu.start ws);have p1:=sortI_perm ps;have p2:=sortI_perm qs;have l1:=kM ps;have l2:=kM qs;have rl:ps.length+qs.length=st.length:=by have:=R.len;rw[Wi] at this;omega
   refine Ge (aJ fun N4 ig=>?_)
   have fin:∀(s:Bool×List Int)(k:Int)(o4:OV),bX m ws ps qs s.1 s.2 k->aS (2000*j+400+70*i+60) o4->N4 ⟨[none,some (.o 0),some (.p (.int jt)),some (.p (.tup [.int m,.tup (ws.map a5)])),some (.p (.lst (fo.map D.int))),some (.p (.int td)),some (.o 1),some (.p (.lst ((sortI ps).map D.int))),some (.p (.lst ((sortI qs).map D.int))),some (.p (.int (0+(i:Int)))),some (.p (dM s))],[some o4,some (.lst (st.map dM))]⟩:=by
    intro s k o4 C P4;subst ig;obtain⟨d_,eV,R'⟩:=R.step C;have S':=R'.ok W (bu.start ws);have qz:(st++[s]).length=i+1:=by rw[C4,sl];rfl
    have UX:d_.length+eV.length=i+1:=by have:=R'.len;rw[Wi] at this;omega
    have UY:=kM d_;have UZ:=kM eV;obtain⟨tl,sd⟩:∃tl,dM s=.tup tl:=⟨_,rfl⟩;rw[sd];refine aJ fun N4 ig=>?_;simp? only [];subst ig;rw[<-sd];refine aJ fun N4 ig=>?_;simp? only [];refine⟨by omega,?_⟩;subst ig;rw[show st.map dM++[dM s]=(st++[s]).map dM by rw[VI];rfl];refine aJ fun N4 ig=>?_;simp? only [];refine L2.gF id (by rw[nU];omega) rfl ?_ ?_
    ·intro d hd acc L' ha h
     obtain⟨⟨c,l⟩,hs,rfl⟩:=Lm.mp hd;simp? only [dM,aN];exact⟨ha,h⟩
    rw[WV];refine⟨m,ws,st++[s],d_,eV,W,jy,by omega,R',rfl,rfl,?_⟩;rw[show aN (sortI d_)=.lst ((sortI d_).map D.int) from rfl,show aN (sortI eV)=.lst ((sortI eV).map D.int) from rfl];simp? only [];subst ig;refine aJ fun N4 ig=>?_;simp? only [];rw[h9,Ln (by omega)];simp? only [];subst ig;refine aJ fun N4 ig=>?_;refine fF fun A1 B1 hA hB=>?_;simp? only []
    refine L2.gU (fun d=>match d with
     |.int x=>decide (x∉fo)
     |_=>false) id (by rw[nU];omega) trivial ?_ ?_
    ·intro d hd acc L' ha g1 g2
     obtain⟨x,hx,rfl⟩:=Lm.mp hd;dsimp only at g1 g2;simp? only [];refine⟨by omega,?_⟩;rw[gr]
     by_cases q:x∈fo
     ·rw[Ln q]
      simp? only [];exact g2 (C7 fun z=>z q)
     ·rw[C7 q]
      simp? only [];exact⟨ha,g1 (Ln q)⟩
    rw[YE.mpr fun d hd z=>by
     obtain⟨x,hx,rfl⟩:=Lm.mp hd;have z:=VS z;have hx:=(sortI_perm _).mem_iff.mp hx
     exact z ((F.mem x).mpr ⟨S'.pn x hx,S'.tree x hx⟩)]
    simp? only [aB,bP];subst hB;show N4 _;subst ig;refine fF fun A1 B1 hA hB=>?_;simp? only []
    refine L2.gU (fun d=>match d with
     |.int x=>decide (x∈fo)
     |_=>false) id (by rw[nU];omega) trivial ?_ ?_
    ·intro d hd acc L' ha g1 g2
     obtain⟨x,hx,rfl⟩:=Lm.mp hd;dsimp only at g1 g2;simp? only [];refine⟨by omega,?_⟩;rw[gr]
     by_cases q:x∈fo
     ·rw[Ln q]
      simp? only [];exact⟨ha,g1 (Ln q)⟩
     ·rw[C7 q]
      simp? only [];exact g2 (C7 q)
    rw[YE.mpr fun d hd z=>by
     obtain⟨x,hx,rfl⟩:=Lm.mp hd;have z:=VS z;have hx:=(sortI_perm _).mem_iff.mp hx
     exact S'.out x hx ((F.mem x).mp z).2]
    simp? only [aB,bP];subst hB;exact R0 _ ⟨st++[s],d_,eV,o4,qz,R',P4.mono (by omega),rfl⟩
   clear ig;refine aJ fun N3 Bf=>?_;simp? only [];refine⟨_,m,ws,sortI ps,sortI qs,o',W,S.sort,rfl,rfl,P',by omega,fun o4 P4=>⟨fun z=>?_,fun s k C=>?_⟩⟩
   ·have:=Gg z
    omega
   ·have C:=C.congr (fun _=>p1.mem_iff) fun _=>p2.mem_iff
    have fin:=fun s k C=>fin s k o4 C P4;simp? only [];subst Bf;refine fF fun A1 B1 hA hB=>?_
    have Gh:A1 ⟨[none,some (.o 0),some (.p (.int jt)),some (.p (.tup [.int m,.tup (ws.map a5)])),some (.p (.lst (fo.map D.int))),some (.p (.int td)),some (.o 1),some (.p (.lst ((sortI ps).map D.int))),some (.p (.lst ((sortI qs).map D.int))),some (.p (.int (0+(i:Int)))),some (.p (dM s))],[some o4,some (.lst (st.map dM))]⟩:=by
     subst hA;simp? only [];refine L2.gF id (by rw[nU];omega) rfl ?_ ?_
     ·intro d hd acc L' ha h
      obtain⟨⟨c,l⟩,hs,rfl⟩:=Lm.mp hd;simp? only [dM,aN];exact⟨ha,h⟩
     rw[WV];refine⟨m,ws,st,ps,qs,W,jy,by omega,R,rfl,rfl,fun z=>?_,fun s k C=>?_⟩
     ·have:=Gg z
      omega
     ·simp? only []
      exact fin s k C
    have Gi:B1 ⟨[none,some (.o 0),some (.p (.int jt)),some (.p (.tup [.int m,.tup (ws.map a5)])),some (.p (.lst (fo.map D.int))),some (.p (.int td)),some (.o 1),some (.p (.lst ((sortI ps).map D.int))),some (.p (.lst ((sortI qs).map D.int))),some (.p (.int (0+(i:Int)))),some (.p (dM s))],[some o4,some (.lst (st.map dM))]⟩:=by
     subst hB;exact fin s k C
    clear hA hB;simp? only []
    cases aB (D.int td) (D.int 0) with
    |true=>simp? only [];exact Gh
    |false =>
     simp? only []
     cases aB (D.int td) (D.int 1) with
     |false=>simp? only [];exact Gi
     |true =>
      simp? only [];refine⟨by omega,?_⟩
      cases aB (D.int ((0+(i:Int))%2)) (D.int 0) with
      |true=>simp? only [];exact Gh
      |false=>simp? only [];exact Gi
  ·rintro δ ⟨st,ps,qs,o',sl,R,P',rfl⟩
   rw[hW,Vx] at sl P';refine⟨trivial,?_⟩;subst bR;dsimp only;have S:=R.ok W (bu.start ws);have rl:ps.length+qs.length=ws.length:=by have:=R.len;rw[Wi] at this;omega
   have all:=S.all rl
   have ef:fo=sortI ps:=pP ((X8 F.nd (VZ.mp S.nd).1).mpr fun x=>⟨fun h=>by
    obtain⟨hx,tx⟩:=(F.mem x).mp h
    exact(all x hx).elim id fun z=>absurd tx (S.out x z),fun h=>(F.mem x).mpr ⟨S.pn x h,S.tree x h⟩⟩) fs
   have l1:=kM ps;have l2:=kM qs;rw[ef] at zf ⊢;refine aJ fun N3 Bf=>?_;simp? only [cG];refine⟨by omega,?_⟩;rw[show aB (.lst ((sortI ps).map D.int)) (.lst ((sortI ps).map D.int))=true by simp only[aB,sP,decide_true]];simp? only [];rw[h9,Ln (by omega)];simp? only [];subst Bf;simp? only [];refine L2.gF id (by rw[nU];omega) rfl ?_ ?_
   ·intro d hd acc L' ha h
    obtain⟨⟨c,l⟩,hs,rfl⟩:=Lm.mp hd;simp? only [dM,aN];exact⟨ha,h⟩
   rw[WV];refine⟨m,ws,st,ps,qs,W,jy,by omega,R,rfl,rfl,fun _=>?_,fun s k C=>?_⟩
   ·simp? only []
    exact hL _ ⟨o',P'.mono (by omega),rfl⟩
   ·obtain⟨hk,kp,kq⟩:=bX.left C
    exact absurd (all k hk) fun z=>z.elim kp kq
 ·rintro δ ⟨o,P,rfl⟩
  refine⟨trivial,?_⟩;subst hN;simp? only []
end LJ
namespace LJ
open PySem L2 PySem.Spec PySem.W PyProof.Rows
structure Ev where
 P:Program
 w:World
 K:PySem.W.Frag
 mg:Str->Option Value
 base:Heap
section
variable[aH]
structure Fx(V:Ev)(k:Nat)(x:Str)(ps:List Str)(n:Nat)(G:GD):Prop where
 ex:∃f fd,Fn V.P V.w V.K V.mg V.base k x ps (lE G n) f fd
def Dx(V:Ev)(x:Str)(st:Stmt):Prop:=∃f fd,V.mg x=some (.ref f)/\g7 V.K x x st f fd
def qf(V:Ev)(x:Str)(st:Stmt)(T:Addr)(pos:Pos)(q:Str):Prop:=∃f fd,(V.mg x=some (.ref f)/\g7 V.K x x st f fd)/\f9 V.mg V.base fd T pos q
def Ct(V:Ev)(x:Str)(i:Int):Prop:=∃u,V.mg x=some u/\RelV (.int i) u
section
variable{X:Cx}{x:Str}{ps:List Str}{G:GD}{e:Expr}{es:List Expr}{fa:WA}{p pos:Pos}{j k n:Nat}
theorem ki(F:Fx ⟨X.prog,X.w,X.K,X.mg,X.base⟩ j x ps n G)(hr:a7 k X.A)(ha:JA X (e::es) (bH fa))(hj:Nat.ble j k=true:=by rfl)(hg:Gl X x:=by rfl)(fQ:bV x:=by decide)(he:dF X e es:=by rfl)(fB:eD X pos es:=by rfl):
  JE X (.Call (.Name x p) (e::es) [] pos) (tD (aq n G fa)):=let⟨_,_,F⟩:=F.ex;Nk F.ok (hr.mono (Nat.le_of_ble_eq_true hj)) hg F.yh F.kp F.bd ha fQ he fB
theorem R3(F:Fx ⟨X.prog,X.w,X.K,X.mg,X.base⟩ j x ps n G)(hr:a7 k X.A)(ha:JA X (e::es) (bH fa))(hj:Nat.ble j k=true:=by rfl)(hg:Gl X x:=by rfl)(fQ:bV x:=by decide)(he:dF X e es:=by rfl)(fB:eD X pos es:=by rfl):
  JE X (.Call (.Name x p) (e::es) [] pos) (tD (rM n G fa)):=let⟨_,_,F⟩:=F.ex;Nl F.ok (hr.mono (Nat.le_of_ble_eq_true hj)) hg F.yh F.kp F.bd ha fQ he fB
theorem R4{i:Int}(C:Ct ⟨X.prog,X.w,X.K,X.mg,X.base⟩ x i)(hg:Gl X x:=by rfl)(hd:bV x:=by decide):JE X (.Name x pos) (tD (dC (.int i))):=let⟨_,a,b⟩:=C;MF hg a b hd
end
theorem _root_.L2.f9.env{mg:Str->Option Value}{base:Heap}{fd:FuncData}{T:Addr}{lp:Pos}{q:Str}{a6:Value}(L:f9 mg base fd T lp q)(h:fd.code=a6):∃cc,a6=.ref cc/\CodeHd base cc T:=let⟨cc,e1,e2⟩:=L.code;⟨cc,h.symm.trans e1,e2⟩
noncomputable def R5:NameKind->Bool
 |.local=>true
 |.cell=>true
 |_=>false
noncomputable def R6:NameKind->Bool
 |.free=>false
 |_=>true
noncomputable def R7:ScopeKind->Bool
 |.function=>true
 |_=>false
noncomputable def vA(N P:List Str)(sc:Scope):Bool:=R7 sc.kind && !sc.isCoroutine && !sc.isGenerator&&decide N.Nodup&&decide (N.take P.length=P)&&(P.all fun x=>match sc.names.lookup x with
 |some k=>R5 k
 |none=>false)&&sc.names.all fun y=>R6 y.2
theorem jh{N P:List Str}{sc:Scope}(h:vA N P sc=true):my N P sc:=by
 unfold vA at h;simp only[Wa,YC,VR,WL] at h;obtain⟨⟨⟨⟨⟨⟨h1,h2⟩,h3⟩,h4⟩,h5⟩,h6⟩,h7⟩:=h;refine⟨?_,h2,h3,h4,h5,fun x hx=>?_,fun y hy z=>?_⟩
 ·cases q:sc.kind<;>rw[q] at h1<;>first|rfl|cases h1
 ·have:=h6 x hx
  split at this
  ·rename_i k e
   rw[e];cases k<;>first|exact .inl rfl|exact .inr rfl|cases this
  ·cases this
 ·have:=h7 y hy
  rw[z] at this;cases this
def ik(x:Str)(st:Stmt)(ps:List Str):Prop:=∀(kV doc pm:Value)(an:Option Addr)(a6 ct:Value)(us:List Value),us.length=ps.length->bindArgs (PySem.W.fnOf x x (ju st) (gm st) (cN st) .none kV doc pm an a6 ct) ⟨us,[]⟩=pure (ps.zip us)
section
theorem Gj{us:List Value}(h:us.length=1):∃a,us=[a]:=List.length_eq_one_iff.mp h
theorem Gk{us:List Value}(h:us.length=2):∃a b,us=[a,b]:=by
 cases us with
 |nil=>cases h
 |cons a r=>obtain⟨b,rfl⟩:=Gj (ZS h);exact⟨a,b,rfl⟩
theorem Gm{us:List Value}(h:us.length=3):∃a b c,us=[a,b,c]:=by
 cases us with
 |nil=>cases h
 |cons a r=>obtain⟨b,c,rfl⟩:=Gk (ZS h);exact⟨a,b,c,rfl⟩
theorem Gn{us:List Value}(h:us.length=4):∃a b c d,us=[a,b,c,d]:=by
 cases us with
 |nil=>cases h
 |cons a r=>obtain⟨b,c,d,rfl⟩:=Gm (ZS h);exact⟨a,b,c,d,rfl⟩
theorem R8{us:List Value}(h:us.length=5):∃a b c d e,us=[a,b,c,d,e]:=by
 cases us with
 |nil=>cases h
 |cons a r=>obtain⟨b,c,d,e,rfl⟩:=Gn (ZS h);exact⟨a,b,c,d,e,rfl⟩
theorem lZ{x:Str}{st:Stmt}{ps:List Str}(h:∀(kV doc pm:Value) (an:Option Addr) (a6 ct a:Value),bindArgs (PySem.W.fnOf x x (ju st) (gm st) (cN st) .none kV doc pm an a6 ct) ⟨[a],[]⟩=pure (ps.zip [a]):=by intros;rfl)(hl:ps.length=1:=by rfl):ik x st ps:=fun kV doc pm an a6 ct us hu=>by
 obtain⟨a,rfl⟩:=Gj (hu.trans hl);exact h kV doc pm an a6 ct a
theorem gO{x:Str}{st:Stmt}{ps:List Str}(h:∀(kV doc pm:Value) (an:Option Addr) (a6 ct a b:Value),bindArgs (PySem.W.fnOf x x (ju st) (gm st) (cN st) .none kV doc pm an a6 ct) ⟨[a,b],[]⟩=pure (ps.zip [a,b]):=by intros;rfl)(hl:ps.length=2:=by rfl):ik x st ps:=fun kV doc pm an a6 ct us hu=>by
 obtain⟨a,b,rfl⟩:=Gk (hu.trans hl);exact h kV doc pm an a6 ct a b
theorem l3{x:Str}{st:Stmt}{ps:List Str}(h:∀(kV doc pm:Value) (an:Option Addr) (a6 ct a b c:Value),bindArgs (PySem.W.fnOf x x (ju st) (gm st) (cN st) .none kV doc pm an a6 ct) ⟨[a,b,c],[]⟩=pure (ps.zip [a,b,c]):=by intros;rfl)(hl:ps.length=3:=by rfl):ik x st ps:=fun kV doc pm an a6 ct us hu=>by
 obtain⟨a,b,c,rfl⟩:=Gm (hu.trans hl);exact h kV doc pm an a6 ct a b c
theorem qg{x:Str}{st:Stmt}{ps:List Str}(h:∀(kV doc pm:Value) (an:Option Addr) (a6 ct a b c d:Value),bindArgs (PySem.W.fnOf x x (ju st) (gm st) (cN st) .none kV doc pm an a6 ct) ⟨[a,b,c,d],[]⟩=pure (ps.zip [a,b,c,d]):=by intros;rfl)(hl:ps.length=4:=by rfl):ik x st ps:=fun kV doc pm an a6 ct us hu=>by
 obtain⟨a,b,c,d,rfl⟩:=Gn (hu.trans hl);exact h kV doc pm an a6 ct a b c d
theorem R9{x:Str}{st:Stmt}{ps:List Str}(h:∀(kV doc pm:Value) (an:Option Addr) (a6 ct a b c d e:Value),bindArgs (PySem.W.fnOf x x (ju st) (gm st) (cN st) .none kV doc pm an a6 ct) ⟨[a,b,c,d,e],[]⟩=pure (ps.zip [a,b,c,d,e]):=by intros;rfl)(hl:ps.length=5:=by rfl):ik x st ps:=fun kV doc pm an a6 ct us hu=>by
 obtain⟨a,b,c,d,e,rfl⟩:=R8 (hu.trans hl);exact h kV doc pm an a6 ct a b c d e
variable{V:Ev}{x:Str}{st:Stmt}{N ps:List Str}{k:Nat}{G:GD}
theorem cg(D:Dx V x st)(bd:ik x st ps)(h:∀{a6:Value} {A:Around} {outer:List Env} {s:Shared} {H:Hp} {E:XK} {f:Addr},a7 k (A.deeper (envOfC x (cN st) s.heap.objs.size f a6))->N.Nodup->(A.deeper (envOfC x (cN st) s.heap.objs.size f a6)).units+64<cLine →
   ∃B:WS,cM (eF gn V.P V.w V.K V.mg V.base N x (cN st) f a6 A outer s H E).kF (gm st) (cY B)/\∀ys az K',ys.length=ps.length->G ys az K'->B (jQ az.length K') ⟨ys.map some++List.replicate (N.length-ps.length) none,az.map some⟩)(sc:vA N ps (cN st)=true:=by decide +kernel):Fx V (k+1) x ps ps.length G :=
 let⟨f,fd,a,F⟩:=D
 ⟨f,fd,F.Nd (jh sc) fun a6 A outer s H E hr=>h hr (jh sc).nd hr.units,a,F.kp,F.binds bd⟩
theorem Bg{T:Addr}{lp:Pos}{q:Str}(D:qf V x st T lp q)(bd:ik x st ps)(h:∀{a6:Value} {A:Around} {outer:List Env} {s:Shared} {H:Hp} {E:XK} {f:Addr} {fd:FuncData},f9 V.mg V.base fd T lp q->fd.code=a6->a7 k (A.deeper (envOfC x (cN st) s.heap.objs.size f a6))->N.Nodup->(A.deeper (envOfC x (cN st) s.heap.objs.size f a6)).units+64<cLine →
   ∃B:WS,cM (eF gn V.P V.w V.K V.mg V.base N x (cN st) f a6 A outer s H E).kF (gm st) (cY B)/\∀ys az K',ys.length=ps.length->G ys az K'->B (jQ az.length K') ⟨ys.map some++List.replicate (N.length-ps.length) none,az.map some⟩)(sc:vA N ps (cN st)=true:=by decide +kernel):Fx V (k+1) x ps ps.length G :=
 let⟨f,fd,⟨a,F⟩,LD⟩:=D
 ⟨f,fd,F.zT (jh sc) fun a6 A outer s H E hc hr=>h LD hc hr (jh sc).nd hr.units,a,F.kp,F.binds bd⟩
end
end
section
variable{K:PySem.W.Frag}{h:Heap}{mg:Str->Option Value}
def Dk(K:PySem.W.Frag)(x:Str)(st:Stmt):Prop:=∃f fd,PySem.W.nsIn K mainGlobals x=some (some (.ref f))/\g7 K x x st f fd
inductive gf (K:PySem.W.Frag):List (Str×Stmt)->Prop
 |nil:gf K []
 |cons {x st r}:Dk K x st->gf K r->gf K ((x,st)::r)
theorem Bh{x:Str}{st:Stmt}{r:List (Str×Stmt)}{f:Addr}{od an:Option Addr}{sl:Array (Option Value)}{oc kV dc pm cd ct:Value}(a:PySem.W.nsIn K mainGlobals x=some (some (.ref f)))(l:K.lookup f=some ⟨oc,od,.func (PySem.W.fnOf x x (ju st) (gm st) (cN st) .none kV dc pm an cd ct),sl⟩)(q:PySem.W.codeIn K cd x=true)(k:PySem.W.keepIn K (.ref f)=true)(h:gf K r):gf K ((x,st)::r) :=
 .cons ⟨f,_,a,C8 l q k⟩ h
theorem gf.at{ds:List (Str×Stmt)}(h:gf K ds)(i:Nat){x:Str}{st:Stmt}(e:ds[i]?=some (x,st)):Dk K x st:=by
 induction h generalizing i with
 |nil=>cases e
 |cons d _ ih=>cases i with
  |zero=>cases e;exact d
  |succ i=>exact ih i e
def vB(K:PySem.W.Frag)(x:Str)(st:Stmt)(T:Addr):Prop:=∃f fd,(PySem.W.nsIn K mainGlobals x=some (some (.ref f))/\g7 K x x st f fd)/\∃cc,fd.code=.ref cc/\PySem.W.codeHdIn K cc T=true
inductive dO (K:PySem.W.Frag):List (Str×Stmt×Addr)->Prop
 |nil:dO K []
 |cons {x st T r}:vB K x st T->dO K r->dO K ((x,st,T)::r)
theorem tG{x:Str}{st:Stmt}{T:Addr}{r:List (Str×Stmt×Addr)}{f cc:Addr}{od an:Option Addr}{sl:Array (Option Value)}{oc kV dc pm ct:Value}(a:PySem.W.nsIn K mainGlobals x=some (some (.ref f)))(l:K.lookup f=some ⟨oc,od,.func (PySem.W.fnOf x x (ju st) (gm st) (cN st) .none kV dc pm an (.ref cc) ct),sl⟩)(q:PySem.W.codeIn K (.ref cc) x=true)(k:PySem.W.keepIn K (.ref f)=true)(c:PySem.W.codeHdIn K cc T=true)(h:dO K r):dO K ((x,st,T)::r) :=
 .cons ⟨f,_,⟨a,C8 l q k⟩,cc,rfl,c⟩ h
theorem dO.at{ds:List (Str×Stmt×Addr)}(h:dO K ds)(i:Nat){x:Str}{st:Stmt}{T:Addr}(e:ds[i]?=some (x,st,T)):vB K x st T:=by
 induction h generalizing i with
 |nil=>cases e
 |cons d _ ih=>cases i with
  |zero=>cases e;exact d
  |succ i=>exact ih i e
theorem dO.code{ds:List (Str×Stmt×Addr)}(h:dO K ds){hp:Heap}(X:K.In hp):∀T∈ds.map (·.2.2),∃cc,PySem.W.CodeHd hp cc T:=by
 induction h with
 |nil=>intro T hT;exact nomatch hT
 |cons d _ ih =>
  intro T hT;rcases Lp.mp hT with rfl|hT
  ·obtain⟨_,_,_,cc,_,e⟩:=d
   exact⟨cc,PySem.W.codeHd_of_K X e⟩
  ·exact ih T hT
theorem R_{x:Str}{r:List Str}(a:PySem.W.nsIn K mainGlobals x=some none)(h:∀y∈r,PySem.W.nsIn K mainGlobals y=some none):∀y∈x::r,PySem.W.nsIn K mainGlobals y=some none:=fun y hy=>by
 rcases Lp.mp hy with rfl|hy
 ·exact a
 ·exact h y hy
theorem Sa{ls:List j5}(nd:(ls.map (·.T)).Nodup):∀{a b:j5},a∈ls->b∈ls->a.T=b.T->a=b:=by
 induction ls with
 |nil=>intro a b ha;exact nomatch ha
 |cons c r ih =>
  intro a b ha hb e;rw[VM,Wf] at nd;rcases Lp.mp ha with rfl|ha'<;>rcases Lp.mp hb with rfl|hb'
  ·rfl
  ·exact absurd (Lm.mpr ⟨b,hb',e.symm⟩) nd.1
  ·exact absurd (Lm.mpr ⟨a,ha',e⟩) nd.1
  ·exact ih nd.2 ha' hb' e
theorem Dk.v{P:Program}{w:World}{base:Heap}{x:Str}{st:Stmt}(d:Dk K x st)(X:K.In h)(G:h.Ns mainGlobals mg):Dx ⟨P,w,K,mg,base⟩ x st :=
 let⟨f,fd,a,F⟩:=d
 ⟨f,fd,Zy X G a,F⟩
theorem vB.v{P:Program}{w:World}{base:Heap}{x:Str}{st:Stmt}{ls:List j5}{T:Addr}{lp:Pos}{q:Str}(d:vB K x st T)(X:K.In h)(G:h.Ns mainGlobals mg)(KB:K.In base)(hB:∀t∈ls,base.BuiltinsAt mg t.T)(nd:(ls.map (·.T)).Nodup)(ng:∀t∈ls,mainGlobals≠t.T)(hl:⟨T,lp,q⟩∈ls):@qf (lU ls) ⟨P,w,K,mg,base⟩ x st T lp q :=
 let⟨f,fd,⟨a,F⟩,cc,e1,e2⟩:=d
 letI:aH:=lU ls
 ⟨f,fd,⟨Zy X G a,F⟩,⟨cc,e1,PySem.W.codeHd_of_K KB e2⟩,ng _ hl,hB _ hl,PM hl fun a ha b hb e=>Sa nd ha hb e⟩
def Ck(K:PySem.W.Frag)(x:Str)(i:Int):Prop:=∃u,PySem.W.nsIn K mainGlobals x=some (some u)/\RelV (.int i) u
theorem Ck.v{P:Program}{w:World}{base:Heap}{x:Str}{i:Int}(d:Ck K x i)(X:K.In h)(G:h.Ns mainGlobals mg):Ct ⟨P,w,K,mg,base⟩ x i :=
 let⟨u,a,r⟩:=d
 ⟨u,Zy X G a,r⟩
noncomputable def Bi:List Str:=["len", "range", "list", "tuple", "set", "sorted", "min", "max", "sum", "all", "any", "enumerate", "zip", "isinstance", "int", "bool", "str"]
theorem Sb(X:K.In h)(G:h.Ns mainGlobals mg)(N:∀x∈Bi,PySem.W.nsIn K mainGlobals x=some none):BT mg :=
 have n:∀i x,Bi[i]?=some x->mg x=none:=fun i x e=>PySem.W.mg_none_of X G (N x (V0 e))
 ⟨n 0 _ rfl,n 1 _ rfl,n 2 _ rfl,n 3 _ rfl,n 4 _ rfl,n 5 _ rfl,n 6 _ rfl,n 7 _ rfl,n 8 _ rfl,n 9 _ rfl,n 10 _ rfl,n 11 _ rfl,n 12 _ rfl,n 13 _ rfl,n 14 _ rfl,n 15 _ rfl,n 16 _ rfl⟩
end
end LJ
namespace L2
open PySem PySem.Spec PyProof.Rows
noncomputable def Sd:Expr->List Str
 |.Name x _=>[x]
 |.Tuple es _ _=>es.filterMap fun
  |.Name x _=>some x
  |_=>none
 |_=>[]
noncomputable def bC(N:List Str)(cp:List (Option Nat))(tg:Expr):List Str:=Sd tg++cp.filterMap fun c=>c.bind fun i=>N[i]?
variable[aH]
section
variable{X:Cx}{tg iter elt:Expr}{ifs:List Expr}{scope:Scope}{pos:Pos}{w:WI}{g:WG}{t:WT}{f:WE}{cp:List (Option Nat)}
theorem Se(hi:JI X tg iter (hV w))(hg:∀d,(bC X.N cp tg).Nodup->JG (bF X scope (bC X.N cp tg) d) tg (gR g))(hf:∀d,JF (bF X scope (bC X.N cp tg) d) ifs (b8 t))(he:∀d,JE (bF X scope (bC X.N cp tg) d) elt (tD f))(hc:X.calm=true:=by rfl)(hn:decide (bC X.N cp tg).Nodup=true:=by kernel_rfl)
  (hk:scope.kind=.function:=by rfl) (ho:iY X.N X.env.scope scope (bC X.N cp tg) cp=true:=by kernel_rfl) (hs:∀x,foldedSetIterable iter X.env x=pure x:=by intro _;rfl) :
  JE X (.ListComp elt [⟨tg,iter,ifs,0⟩] scope pos) (tD (bU w cp g t f)):=M7 cp _ hc hi (fun d=>hg d (VS hn)) hf he hk ho hs
theorem Sf(hi:JI X tg iter (hV w))(hg:∀d,(bC X.N cp tg).Nodup->JG (bF X scope (bC X.N cp tg) d) tg (gR g))(hf:∀d,JF (bF X scope (bC X.N cp tg) d) ifs (b8 t))(he:∀d,JE (bF X scope (bC X.N cp tg) d) elt (tD f))(hc:X.calm=true:=by rfl)(hn:decide (bC X.N cp tg).Nodup=true:=by kernel_rfl)
  (hk:scope.kind=.function:=by rfl) (ho:iY X.N X.env.scope scope (bC X.N cp tg) cp=true:=by kernel_rfl) (hs:∀x,foldedSetIterable iter X.env x=pure x:=by intro _;rfl) :
  JE X (.ListComp elt [⟨tg,iter,ifs,0⟩] scope pos) (tD (jP w cp g t f)):=M8 cp _ hc hi (fun d=>hg d (VS hn)) hf he hk ho hs
theorem Sg[i0]{i:Nat}{x:Str}{pos' dg:Pos}(hN:X.N.Nodup)(hit:JI X tg iter (hV w))(hg:∀d,(bC X.N cp tg).Nodup->JG (bF X scope (bC X.N cp tg) d) tg (gR g))(hf:∀d,JF (bF X scope (bC X.N cp tg) d) ifs (b8 t))(he:∀d,JE (bF X scope (bC X.N cp tg) d) elt (tD f))(hi:X.N[i]?=some x:=by rfl)(hx:Loc X.env.scope x:=by trivial)(hc:X.calm=true:=by rfl)(hn:decide (bC X.N cp tg).Nodup=true:=by kernel_rfl)
  (hk:scope.kind=.function:=by rfl) (ho:iY X.N X.env.scope scope (bC X.N cp tg) cp=true:=by kernel_rfl) (hs:∀x,foldedSetIterable iter X.env x=pure x:=by intro _;rfl)
  (lq:swapsWith (.ListComp elt [⟨tg,iter,ifs,0⟩] scope pos) (some (.Name x pos')) dg.line X.env=pure true:=by rfl)
  (iR:eC X x:=by first|exact .inl rfl|exact .inr rfl|assumption) :
  JS X (.Assign [.Name x pos'] (.ListComp elt [⟨tg,iter,ifs,0⟩] scope pos) dg) (cY (ay i (bU w cp g t f))):=M9 cp _ hN hi hx hc hit (fun d=>hg d (VS hn)) hf he hk ho hs lq iR
theorem Sh[i0]{i:Nat}{x:Str}{pos' dg:Pos}(hN:X.N.Nodup)(hit:JI X tg iter (hV w))(hg:∀d,(bC X.N cp tg).Nodup->JG (bF X scope (bC X.N cp tg) d) tg (gR g))(hf:∀d,JF (bF X scope (bC X.N cp tg) d) ifs (b8 t))(he:∀d,JE (bF X scope (bC X.N cp tg) d) elt (tD f))(hi:X.N[i]?=some x:=by rfl)(hx:Loc X.env.scope x:=by trivial)(hc:X.calm=true:=by rfl)(hn:decide (bC X.N cp tg).Nodup=true:=by kernel_rfl)
  (hk:scope.kind=.function:=by rfl) (ho:iY X.N X.env.scope scope (bC X.N cp tg) cp=true:=by kernel_rfl) (hs:∀x,foldedSetIterable iter X.env x=pure x:=by intro _;rfl)
  (lq:swapsWith (.ListComp elt [⟨tg,iter,ifs,0⟩] scope pos) (some (.Name x pos')) dg.line X.env=pure true:=by rfl)
  (iR:eC X x:=by first|exact .inl rfl|exact .inr rfl|assumption) :
  JS X (.Assign [.Name x pos'] (.ListComp elt [⟨tg,iter,ifs,0⟩] scope pos) dg) (cY (ay i (jP w cp g t f))):=M_ cp _ hN hi hx hc hit (fun d=>hg d (VS hn)) hf he hk ho hs lq iR
end
end L2
namespace LJ
open PySem L2 PySem.Spec PySem.W PyProof.Rows
variable[aH]{X:Cx}{Z:Ev}{x:Str}{ps:List Str}{G:GD}{e:Expr}{es:List Expr}{fa:WA}{p pos:Pos}{j k n:Nat}
end LJ
namespace LJ
open PySem L2
noncomputable def top(i:Nat):Stmt:=PySem.Challenge.pw_lotjoin_k32_whole_any_steps.main.body.getD i (.Pass ⟨0,0,0,0⟩)
section
variable[aH]{Z:Ev}
set_option hygiene false
local macro_rules | `(tactic| ac_rfl) => `(tactic| repeat' first|(show JE _ (.Name _ _) _;(first|exact dv _|refine RO ?_|exact R4 (by assumption)))|(show JE _ (.Constant _ _ _) _;(first|exact uk|exact MC|exact MD|exact ME))|(show JA _ _ _;(first|exact ly|refine jM ?_ ?_|refine yp ?_ ?_|refine rG ?_ ?_|refine lz ?_ ?_|refine yr ?_ ?_|refine yq ?_ ?_|refine MG ?_ ?_))|(show JE _ (.Call _ _ _ _) _;(first|refine ki (by assumption) hr ?_|refine R3 (by assumption) hr ?_|refine oa Ew (by rfl) B.len Zi ?_|refine oa (NT rfl) (by rfl) B.all Mx ?_|refine oa (RB rfl) (by rfl) B.any Oi ?_|refine oa (NU rfl) (by rfl) B.min EI ?_|refine oa (NV rfl) (by rfl) B.max EH ?_|refine oa NS (by rfl) B.sorted uP ?_|refine Ol Om (by rfl) B.sorted uP ?_|refine DO NQ (by rfl) B.list uj ?_|refine DO NR (by rfl) B.tuple DD ?_|refine uL N0 (by rfl) B.isinstance (by rfl) B.int Mw ?_|refine uL N5 (by rfl) B.isinstance (by rfl) B.bool Mv ?_|refine uL N6 (by rfl) B.isinstance (by rfl) B.tuple DD ?_|refine uL N7 (by rfl) B.isinstance (by rfl) B.list uj ?_|refine NW rfl (by rfl) B.list uj (by rfl) B.range yY ?_|refine Oo rfl (by rfl) B.list uj (by rfl) B.range yY ?_|refine OA rfl (by rfl) B.sorted uP (by rfl) B.set yi ?_|refine O4 rfl hu (by rfl) B.len Zi (by rfl) B.set yi ?_|refine Ru rfl hu (by rfl) B.len Zi (by rfl) B.set yi ?_|refine Qe hu ?_ ?_ ?_|refine(t9 XR PySem.F.slot_list_append PySem.F.type_list_append CY ?_ ?_).weak N8|refine(t9 XR PySem.F.slot_list_extend PySem.F.type_list_extend Le ?_ ?_).weak N9|refine(t9 XR PySem.F.slot_list_pop PySem.F.type_list_pop Lg ?_ ?_).weak N_|refine(t9 XR PySem.F.slot_list_count PySem.F.type_list_count LV ?_ ?_).weak Od))|(show JE _ (.Subscript _ _ _) _;(first|refine n9 oC ?_ ?_ fun _ _=>rfl|refine OL ?_ ?_ ?_|refine Qd hu ?_ ?_))|(show JE _ (.BinOp _ _ _ _) _;(first|refine pF (op:=.Add) OI ?_ ?_|refine pF (op:=.Sub) NF ?_ ?_|refine pF (op:=.Mult) NG ?_ ?_|refine pF (op:=.Mod) NI ?_ ?_|refine pF (op:=.FloorDiv) NH ?_ ?_|refine pF (op:=.Pow) NJ ?_ ?_|refine Oq ?_ ?_))|(show JE _ (.Compare _ _ _ _) _;(first|refine mF (op:=.Eq) (Eg hu) ?_ ?_ (by rfl)|refine mF (op:=.NotEq) (Eh hu) ?_ ?_ (by rfl)|refine mF (op:=.Lt) (Ei hu) ?_ ?_ (by rfl)|refine mF (op:=.Gt) Ek ?_ ?_ (by rfl)|refine mF (op:=.In) (En hu) ?_ ?_ (by rfl)|refine mF (op:=.NotIn) (Eo hu) ?_ ?_ (by rfl)|refine mF (op:=.Is) EM ?_ ?_ (by rfl)|refine mF (op:=.IsNot) EN ?_ ?_ (by rfl)|refine NP Ej Ej ?_ ?_ ?_))|(show JE _ _ _;(first|refine MI ?_|refine MJ ?_|refine MH ?_|refine MR ?_ ?_|refine MQ ?_|refine MS ?_|refine MT ?_ ?_ ?_|refine Qg ?_ ?_|refine Se ?_ (fun d nd=>?_) (fun d=>?_) fun d=>?_|refine Sf ?_ (fun d nd=>?_) (fun d=>?_) fun d=>?_))|(show JS _ _ _;(first|refine uu ?_|refine MX ?_ ?_ ?_|refine Sg nd ?_ (fun d nd=>?_) (fun d=>?_) fun d=>?_|refine Sh nd ?_ (fun d nd=>?_) (fun d=>?_) fun d=>?_|refine DT nd rfl (by trivial) ?_|refine DU ?_|refine Qf hu ?_ ?_ ?_|refine(wR ?_ (Cc ?_ ?_ set_list)).weak Oa|refine M3 ?_ ?_|refine M4 Z0 rfl ?_ ?_ ?_|refine Qi Z0 ?_ ?_|exact Ot))|(show cM _ _ _;(first|refine ur ?_|refine yu ?_ ?_|exact MV))|(show JT _ _ _;(first|refine lA (op:=.Eq) (Eg hu) ?_ ?_ (by rfl)|refine lA (op:=.NotEq) (Eh hu) ?_ ?_ (by rfl)|refine lA (op:=.Lt) (Ei hu) ?_ ?_ (by rfl)|refine lA (op:=.Gt) Ek ?_ ?_ (by rfl)|refine lA (op:=.GtE) NK ?_ ?_ (by rfl)|refine lA (op:=.In) (En hu) ?_ ?_ (by rfl)|refine lA (op:=.NotIn) (Eo hu) ?_ ?_ (by rfl)|refine lA (op:=.Is) EM ?_ ?_ (by rfl)|refine lA (op:=.IsNot) EN ?_ ?_ (by rfl)|refine Qc hu ?_ ?_|refine ML ?_|refine JW.jt (DR ?_ ?_)|refine JW.jt (DQ ?_ ?_)|refine MK ?_))|(show JW _ _ _;(first|refine DR ?_ ?_|refine MP ?_|refine DQ ?_ ?_|refine MO ?_))|exact NN|refine NO ?_|refine NB (by rfl) B.range ?_|refine NC (by rfl) B.range ?_|refine NA (by rfl) B.enumerate ?_|refine Nz ?_|exact MY nd rfl (by trivial)|refine M1 rfl ?_|exact MZ|refine M0 ?_ ?_|exact M5|refine M6 ?_)
noncomputable abbrev Gp:Stmt:=top 8
abbrev Gq(Z:Ev):Prop:=Fx Z 1 "is_whole" ["thing"] 1 zj
theorem Si(D:Dx Z "is_whole" Gp)(B:BT Z.mg):Gq Z:=cg (N:=["thing"]) D lZ fun hr nd hu=>⟨zk,(by ac_rfl),O0⟩
noncomputable abbrev Gr:Stmt:=top 9
abbrev tH(Z:Ev):Prop:=Fx Z 2 "is_within" ["thing", "least", "most"] 3 oK
theorem Sj(D:Dx Z "is_within" Gr)(B:BT Z.mg)(U0:Gq Z):tH Z:=cg (N:=["thing", "least", "most"]) D l3 fun hr nd hu=>⟨zm,(by ac_rfl),O1⟩
noncomputable abbrev Gs:Stmt:=top 10
abbrev vC(Z:Ev):Prop:=Fx Z 1 "is_tuple_of" ["thing", "size"] 2 sk
theorem Sk(D:Dx Z "is_tuple_of" Gs)(B:BT Z.mg):vC Z:=cg (N:=["thing", "size"]) D gO fun hr nd hu=>⟨zo,(by ac_rfl),O3⟩
noncomputable abbrev Gu:Stmt:=top 11
abbrev Gv(Z:Ev):Prop:=Fx Z 3 "are_ends" ["many", "one", "other"] 3 zr
theorem Sl(D:Dx Z "are_ends" Gu)(B:BT Z.mg)(Bj:tH Z):Gv Z:=cg (N:=["many", "one", "other"]) D l3 fun hr nd hu=>⟨zt,(by ac_rfl),O5⟩
noncomputable abbrev Gw:Stmt:=top 12
abbrev Gx(Z:Ev):Prop:=Fx Z 4 "is_way" ["many", "thing"] 2 zv
theorem Sm(D:Dx Z "is_way" Gw)(B:BT Z.mg)(U1:Ct Z "MOST_PRICE" 1000000000)(Gy:vC Z)(U2:Gv Z)(Bj:tH Z):Gx Z:=cg (N:=["many", "thing"]) D gO fun hr nd hu=>⟨zw,(by ac_rfl),O6⟩
noncomputable abbrev Gz:Stmt:=top 13
abbrev GA(Z:Ev):Prop:=Fx Z 5 "are_ways" ["many", "thing"] 2 zy
theorem Sn(D:Dx Z "are_ways" Gz)(B:BT Z.mg)(U3:Ct Z "MOST_WAYS" 30)(U4:Gx Z):GA Z:=cg (N:=["many", "thing"]) D gO fun hr nd hu=>⟨zz,(by ac_rfl),O7⟩
noncomputable abbrev GB:Stmt:=top 14
abbrev GC(Z:Ev):Prop:=Fx Z 6 "is_web" ["thing"] 1 zA
theorem So(D:Dx Z "is_web" GB)(B:BT Z.mg)(U5:Ct Z "MOST_HOUSES" 12)(Gy:vC Z)(Bj:tH Z)(U6:GA Z):GC Z:=cg (N:=["thing"]) D lZ fun hr nd hu=>⟨zB,(by ac_rfl),O8⟩
noncomputable abbrev GF:Stmt:=top 15
abbrev Bk(Z:Ev):Prop:=Fx Z 7 "need_web" ["web"] 1 vf
theorem Sq(D:Dx Z "need_web" GF)(B:BT Z.mg)(U7:GC Z):Bk Z:=cg (N:=["web"]) D lZ fun hr nd hu=>⟨zX,(by ac_rfl),P7⟩
noncomputable abbrev GG:Stmt:=top 16
abbrev vD(Z:Ev):Prop:=Fx Z 1 "rank_of" ["way"] 1 sL
theorem Sr(D:Dx Z "rank_of" GG)(B:BT Z.mg):vD Z:=cg (N:=["way"]) D lZ fun hr nd hu=>⟨zY,(by ac_rfl),P8⟩
noncomputable abbrev GH:Stmt:=top 17
abbrev GI(Z:Ev):Prop:=Fx Z 11 "order_of" ["web"] 1 zZ
theorem Ss{T:Addr}(D:qf Z "order_of" GH T ⟨44,40,44,76⟩ ((("order_of" : Str)++".<locals>.")++"<lambda>"))(B:BT Z.mg)(GJ:Bk Z)(tI:vD Z):GI Z:=Bg (N:=["web", "ways"]) D lZ fun LD hc hr nd hu=>⟨z0,(yu (DU (ki GJ hr (jM (dv 0) ly))) (yu (DT (i:=1) nd rfl (by trivial) (n9 oC (dv 0) uk (fun _ _=>rfl))) (ur (uu (PW (dS.mk (x:="number") (Nb:=["ways"]) (cp:=[some 1]) ⟨LD.env hc,LD.ng,LD.blt⟩ LD.tbl rfl rfl (by first|rfl|kernel_rfl) rfl rfl (fun _ _ _ _ _=>rfl) ⟨1,hr.mono (by decide),fun d hr=>(ki tI hr (lz (n9 oC (dv 1) (dv 0) (fun _ _=>rfl)) ly))⟩) rfl (by rfl) B.sorted uP (by rfl) B.range yY (rG (oa Ew (by rfl) B.len Zi (jM (dv 1) ly)) ly)))))),P_⟩
noncomputable abbrev GK:Stmt:=top 19
abbrev Bl(Z:Ev):Prop:=Fx Z 1 "joined" ["firsts", "one", "other"] 3 so
theorem Su(D:Dx Z "joined" GK)(B:BT Z.mg):Bl Z:=cg (N:=["firsts", "one", "other", "gone", "kept"]) D l3 fun hr nd hu=>⟨zC,(by ac_rfl),O9⟩
noncomputable abbrev GL:Stmt:=top 20
abbrev tJ(Z:Ev):Prop:=Fx Z 2 "firsts_of" ["web", "ways"] 2 oM
theorem Sv(D:Dx Z "firsts_of" GL)(B:BT Z.mg)(Sw:Bl Z):tJ Z:=cg (N:=["web", "ways", "firsts", "number", "way"]) D gO fun hr nd hu=>⟨uY,(by ac_rfl),O_⟩
noncomputable abbrev GN:Stmt:=top 22
abbrev Bm(Z:Ev):Prop:=Fx Z 3 "is_rising" ["thing", "many"] 2 vq
theorem Sx(D:Dx Z "is_rising" GN)(B:BT Z.mg)(Bj:tH Z):Bm Z:=cg (N:=["thing", "many", "least", "number"]) D gO fun hr nd hu=>⟨AB,(by ac_rfl),Rg⟩
noncomputable abbrev GP:Stmt:=top 23
abbrev GQ(Z:Ev):Prop:=Fx Z 5 "least_of" ["web", "ways"] 2 Ar
theorem Sy{T:Addr}(D:qf Z "least_of" GP T ⟨67,25,67,63⟩ ((("least_of" : Str)++".<locals>.")++"<lambda>"))(B:BT Z.mg)(tI:vD Z):GQ Z:=Bg (N:=["web", "ways"]) D gO fun LD hc hr nd hu=>⟨As,(ur (uu (FP false (dS.mk (x:="number") (Nb:=["web"]) (cp:=[some 0]) ⟨LD.env hc,LD.ng,LD.blt⟩ LD.tbl rfl rfl (by first|rfl|kernel_rfl) rfl rfl (fun _ _ _ _ _=>rfl) ⟨1,hr.mono (by decide),fun d hr=>(ki tI hr (lz (n9 oC (n9 oC (dv 1) uk (fun _ _=>rfl)) (dv 0) (fun _ _=>rfl)) ly))⟩) hu (by rfl) B.min EI (jM (dv 1) ly)))),Q6⟩
noncomputable abbrev GR:Stmt:=top 24
abbrev GS(Z:Ev):Prop:=Fx Z 5 "greatest_of" ["web", "ways"] 2 Aw
theorem Sz{T:Addr}(D:qf Z "greatest_of" GR T ⟨69,25,69,63⟩ ((("greatest_of" : Str)++".<locals>.")++"<lambda>"))(B:BT Z.mg)(tI:vD Z):GS Z:=Bg (N:=["web", "ways"]) D gO fun LD hc hr nd hu=>⟨Ax,(ur (uu (FP true (dS.mk (x:="number") (Nb:=["web"]) (cp:=[some 0]) ⟨LD.env hc,LD.ng,LD.blt⟩ LD.tbl rfl rfl (by first|rfl|kernel_rfl) rfl rfl (fun _ _ _ _ _=>rfl) ⟨1,hr.mono (by decide),fun d hr=>(ki tI hr (lz (n9 oC (n9 oC (dv 1) uk (fun _ _=>rfl)) (dv 0) (fun _ _=>rfl)) ly))⟩) hu (by rfl) B.max EH (jM (dv 1) ly)))),Ra⟩
noncomputable abbrev GU:Stmt:=top 25
abbrev GV(Z:Ev):Prop:=Fx Z 1 "leads_out" ["way", "houses"] 2 Am
theorem SA(D:Dx Z "leads_out" GU)(B:BT Z.mg):GV Z:=cg (N:=["way", "houses"]) D gO fun hr nd hu=>⟨Ao,(by ac_rfl),Q4⟩
noncomputable abbrev GW:Stmt:=top 26
abbrev GX(Z:Ev):Prop:=Fx Z 2 "ways_out" ["web", "houses"] 2 Ap
theorem SD(D:Dx Z "ways_out" GW)(B:BT Z.mg)(U8:GV Z):GX Z:=cg (N:=["web", "houses"]) D gO fun hr nd hu=>⟨Aq,(by ac_rfl),Q5⟩
noncomputable abbrev GY:Stmt:=top 27
abbrev GZ(Z:Ev):Prop:=Fx Z 3 "lot_at" ["web", "ways", "house"] 3 AD
theorem SE(D:Dx Z "lot_at" GY)(B:BT Z.mg)(Bo:tJ Z):GZ Z:=cg (N:=["web", "ways", "house", "firsts"]) D l3 fun hr nd hu=>⟨AE,(by ac_rfl),Rh⟩
noncomputable abbrev G0:Stmt:=top 28
abbrev G1(Z:Ev):Prop:=Fx Z 1 "ends_of" ["web", "ways"] 2 AM
theorem SF(D:Dx Z "ends_of" G0)(B:BT Z.mg):G1 Z:=cg (N:=["web", "ways"]) D gO fun hr nd hu=>⟨AN,(by ac_rfl),Rw⟩
noncomputable abbrev G2:Stmt:=top 29
abbrev G3(Z:Ev):Prop:=Fx Z 3 "is_ring" ["web", "ways"] 2 AO
theorem SG(D:Dx Z "is_ring" G2)(B:BT Z.mg)(U9:G1 Z)(Bo:tJ Z):G3 Z:=cg (N:=["web", "ways", "ends", "firsts"]) D gO fun hr nd hu=>⟨AQ,(by ac_rfl),Ry⟩
noncomputable abbrev G4:Stmt:=top 30
abbrev G5(Z:Ev):Prop:=Fx Z 3 "parts" ["web", "ways", "gone", "one", "other"] 5 Az
theorem SH(D:Dx Z "parts" G4)(B:BT Z.mg)(Bo:tJ Z):G5 Z:=cg (N:=["web", "ways", "gone", "one", "other", "firsts"]) D R9 fun hr nd hu=>⟨AA,(by ac_rfl),Rb⟩
noncomputable abbrev G6:Stmt:=top 31
abbrev G7(Z:Ev):Prop:=Fx Z 4 "road_of" ["web", "ways", "one", "other"] 4 AF
theorem SI(D:Dx Z "road_of" G6)(B:BT Z.mg)(U_:G5 Z):G7 Z:=cg (N:=["web", "ways", "one", "other"]) D qg fun hr nd hu=>⟨AG,(by ac_rfl),Ri⟩
noncomputable abbrev G8:Stmt:=top 33
abbrev G9(Z:Ev):Prop:=Fx Z 6 "way_by_cut" ["web", "put_in", "left_out", "houses"] 4 AR
theorem SJ(D:Dx Z "way_by_cut" G8)(B:BT Z.mg)(SK:Bm Z)(Va:GX Z)(Vb:GQ Z):G9 Z:=cg (N:=["web", "put_in", "left_out", "houses", "out"]) D qg fun hr nd hu=>⟨AS,(by ac_rfl),RC⟩
noncomputable abbrev G_:Stmt:=top 34
abbrev Ha(Z:Ev):Prop:=Fx Z 6 "way_by_ring" ["web", "put_in", "left_out", "ways"] 4 AU
theorem SM(D:Dx Z "way_by_ring" G_)(B:BT Z.mg)(SK:Bm Z)(Vc:G3 Z)(Vd:GS Z):Ha Z:=cg (N:=["web", "put_in", "left_out", "ways"]) D qg fun hr nd hu=>⟨AV,(by ac_rfl),RD⟩
noncomputable abbrev Hb:Stmt:=top 35
abbrev Hc(Z:Ev):Prop:=Fx Z 7 "way_by_step" ["web", "put_in", "left_out", "step"] 4 AW
theorem SN(D:Dx Z "way_by_step" Hb)(B:BT Z.mg)(Gy:vC Z)(Ve:G9 Z)(Vf:Ha Z):Hc Z:=cg (N:=["web", "put_in", "left_out", "step"]) D qg fun hr nd hu=>⟨AX,(by ac_rfl),RE⟩
noncomputable abbrev Hd:Stmt:=top 36
abbrev Bp(Z:Ev):Prop:=Fx Z 8 "stand_of" ["web", "steps"] 2 tu
theorem SO(D:Dx Z "stand_of" Hd)(B:BT Z.mg)(GJ:Bk Z)(Vg:Hc Z):Bp Z:=cg (N:=["web", "steps", "put_in", "left_out", "place", "step", "number"]) D gO fun hr nd hu=>⟨AY,(by ac_rfl),RF⟩
noncomputable abbrev He:Stmt:=top 37
abbrev Hf(Z:Ev):Prop:=Fx Z 5 "step_for" ["web", "put_in", "number"] 3 A2
theorem SQ(D:Dx Z "step_for" He)(B:BT Z.mg)(Vh:GZ Z)(Vi:G7 Z):Hf Z:=cg (N:=["web", "put_in", "number", "way", "lot"]) D l3 fun hr nd hu=>⟨A3,(by ac_rfl),RL⟩
noncomputable abbrev Hg:Stmt:=top 38
abbrev Hh(Z:Ev):Prop:=Fx Z 9 "step_of" ["web", "steps"] 2 vy
theorem SS(D:Dx Z "step_of" Hg)(B:BT Z.mg)(SU:Bp Z)(Vj:Hf Z):Hh Z:=cg (N:=["web", "steps", "stand", "settled", "unsettled"]) D gO fun hr nd hu=>⟨A4,(by ac_rfl),RN⟩
noncomputable abbrev Hi:Stmt:=top 40
abbrev Hj(Z:Ev):Prop:=Fx Z 12 "forest_of" ["web"] 1 z_
theorem SV(D:Dx Z "forest_of" Hi)(B:BT Z.mg)(Vk:GI Z)(Bo:tJ Z)(Sw:Bl Z):Hj Z:=cg (N:=["web", "order", "forest", "firsts", "number", "way"]) D lZ fun hr nd hu=>⟨Aa,(by ac_rfl),Qn⟩
noncomputable abbrev Hk:Stmt:=top 42
abbrev Hl(Z:Ev):Prop:=Fx Z 1 "_law_spread" ["cell", "at"] 2 y4
theorem SW(D:Dx Z "_law_spread" Hk)(B:BT Z.mg):Hl Z:=cg (N:=["cell", "at", "primes", "one", "two", "three"]) D gO fun hr nd hu=>⟨y6,(by ac_rfl),ON⟩
noncomputable abbrev Hm:Stmt:=top 44
abbrev Hn(Z:Ev):Prop:=Fx Z 1 "_law_anew" ["pen"] 1 y7
theorem SX(D:Dx Z "_law_anew" Hm)(B:BT Z.mg):Hn Z:=cg (N:=["pen"]) D lZ fun hr nd hu=>⟨y8,(by ac_rfl),OO⟩
noncomputable abbrev Ho:Stmt:=top 45
abbrev qh(Z:Ev):Prop:=Fx Z 2 "_law_take" ["pen", "many"] 2 fG
theorem SY(D:Dx Z "_law_take" Ho)(B:BT Z.mg)(Vl:Hl Z):qh Z:=cg (N:=["pen", "many", "at", "cell", "found"]) D gO fun hr nd hu=>⟨y9,(by ac_rfl),OP⟩
noncomputable abbrev Hq:Stmt:=top 46
abbrev Hr(Z:Ev):Prop:=Fx Z 3 "_law_pairs_of" ["pen", "kind", "many"] 3 y_
theorem S7(D:Dx Z "_law_pairs_of" Hq)(B:BT Z.mg)(vE:qh Z):Hr Z:=cg (N:=["pen", "kind", "many", "every", "other", "ring", "half"]) D l3 fun hr nd hu=>⟨za,(by ac_rfl),OS⟩
noncomputable abbrev Hs:Stmt:=top 47
abbrev Ht(Z:Ev):Prop:=Fx Z 4 "_law_web" ["pen", "houses", "most"] 3 zg
theorem S8(D:Dx Z "_law_web" Hs)(B:BT Z.mg)(vE:qh Z)(Vm:Hr Z):Ht Z:=cg (N:=["pen", "houses", "most", "kind", "prices", "many", "pairs", "ways", "k", "one", "other", "price"]) D l3 fun hr nd hu=>⟨zi,(by ac_rfl),OT⟩
noncomputable abbrev Hu:Stmt:=top 48
abbrev Bq(Z:Ev):Prop:=Fx Z 1 "_law_marks_by" ["web", "ways"] 2 uZ
theorem S9(D:Dx Z "_law_marks_by" Hu)(B:BT Z.mg):Bq Z:=cg (N:=["web", "ways", "found", "number", "one", "other"]) D gO fun hr nd hu=>⟨u4,(by ac_rfl),Pb⟩
noncomputable abbrev Hv:Stmt:=top 49
abbrev Hw(Z:Ev):Prop:=Fx Z 2 "_law_lots" ["web", "ways"] 2 zE
theorem S_(D:Dx Z "_law_lots" Hv)(B:BT Z.mg)(Ta:Bq Z):Hw Z:=cg (N:=["web", "ways", "marks"]) D gO fun hr nd hu=>⟨u7,(by ac_rfl),Pd⟩
noncomputable abbrev Hx:Stmt:=top 50
abbrev Hy(Z:Ev):Prop:=Fx Z 2 "_law_lot_at" ["web", "ways", "house"] 3 A5
theorem Tb(D:Dx Z "_law_lot_at" Hx)(B:BT Z.mg)(Ta:Bq Z):Hy Z:=cg (N:=["web", "ways", "house", "marks"]) D l3 fun hr nd hu=>⟨A6,(by ac_rfl),RP⟩
noncomputable abbrev Hz:Stmt:=top 51
abbrev Br(Z:Ev):Prop:=Fx Z 1 "_law_road" ["web", "ways", "one", "other"] 4 vv
theorem Tc(D:Dx Z "_law_road" Hz)(B:BT Z.mg):Br Z:=cg (N:=["web", "ways", "one", "other", "roads", "due", "here", "number", "ends", "there"]) D qg fun hr nd hu=>⟨AI,(by ac_rfl),Rn⟩
noncomputable abbrev HA:Stmt:=top 52
abbrev Bs(Z:Ev):Prop:=Fx Z 1 "_law_all" ["web"] 1 u5
theorem Td(D:Dx Z "_law_all" HA)(B:BT Z.mg):Bs Z:=cg (N:=["web"]) D lZ fun hr nd hu=>⟨zD,(by ac_rfl),Pc⟩
noncomputable abbrev HB:Stmt:=top 54
abbrev HC(Z:Ev):Prop:=Fx Z 3 "_law_any_road" ["pen", "web", "number", "barred"] 4 A8
theorem Te(D:Dx Z "_law_any_road" HB)(B:BT Z.mg)(Tf:Bs Z)(vE:qh Z)(Vn:Hy Z)(Tg:Br Z):HC Z:=cg (N:=["pen", "web", "number", "barred", "left", "found", "k", "way", "one", "other"]) D qg fun hr nd hu=>⟨A9,(by ac_rfl),RQ⟩
noncomputable abbrev HD:Stmt:=top 53
abbrev HE(Z:Ev):Prop:=Fx Z 4 "_law_some_step" ["pen", "web", "stand"] 3 Ba
theorem Th(D:Dx Z "_law_some_step" HD)(B:BT Z.mg)(vE:qh Z)(Tf:Bs Z)(Tg:Br Z)(Vo:HC Z)(Vq:Hw Z):HE Z:=cg (N:=["pen", "web", "stand", "inside", "outside", "kind", "wide", "left", "number", "one", "other", "road", "houses", "lot"]) D l3 fun hr nd hu=>⟨Bb,(by ac_rfl),RU⟩
noncomputable abbrev vF:Stmt:=top 43
theorem kj:my ["script", "cells", "k", "cell"] ["script"] (cN vF):=jh (by decide +kernel)
theorem Ti{f:Addr}{fd:FuncData}(F:g7 Z.K "_law_open" "_law_open" vF f fd)(h1:Z.mg "list" = none)(h2:Z.mg "enumerate" = none):cV Z.P Z.w Z.K Z.mg Z.base gn 1 f fd ["script"] (E6 Z.K):=by
 refine F.xO kj (fun vs H Q E h=>?_) (fun a6 A outer s H vs Q E hr h=>?_)
 ·obtain⟨a,ns,rfl,_⟩:=h
  rfl
 ·obtain⟨a,ns,rfl,hS,hlen,fin⟩:=h
  have nd:=kj.nd
  refine⟨_,tZ (wU (i:=1) nd rfl (Or.inl rfl) (kG xC (by rfl) h1 PyProof.Rows.boot_list (iS (xt fR (jv 0) CG (t8 mj)) bx)))
   (tZ (Cg Z0 rfl (LP (by rfl) h2 (iS (xt fR (jv 0) (t8 mj) (t8 mj)) bx)) (Cb rfl (wO (wM (i:=2) nd rfl (Or.inl rfl)) (wO (wM (i:=3) nd rfl (Or.inl rfl)) iw)))
    (wJ (wR (qK Ci (CL CM (jv 1) (qK w5 (jv 2) mj) (fun _ _=>rfl)) (jv 3)) (Cc (jv 1) (qK w5 (jv 2) mj) set_list))))
   (wJ (Ca (xg (iS (jv 1) (iS mj (iS mj bx))))))),?_⟩
  refine⟨_,rfl,_,rfl,a,_,rfl,hS,fun l1 n1=>⟨l1,_,rfl,.inl (a8.of bE),fun c nc=>?_⟩⟩;have s1:aE H (upd (upd H l1 (.lst (cD (ns.map V.int) none (some 12)))) c (.lst (cD (ns.map V.int) none (some 12)))):=(pZ n1).trans (pZ nc);refine⟨_,rfl,_,rfl,_,rfl,a,_,rfl,s1.seq hS,fun l2 n2=>⟨l2,rfl,⟨_,a8.of bE⟩,?_⟩⟩;have Tj:H c=none:=(pZ n1).free nc;have Tn:=n2
  have hcc:∃ms:List Int,ms.length=min 12 ns.length/\cD (ns.map V.int) none (some 12)=ms.map V.int:=by
   refine⟨_,?_,zF ns none (some 12)⟩;rw[We,XJ];have e1:HT.a0 ns.length 0 none=0:=HT.KI _ _;have e2:HT.a0 ns.length ns.length (some 12)=min 12 ns.length:=HT.xn ns.length ns.length 12;rw[e1,e2];omega
  have kI:(cD (ns.map V.int) (some 12) (some 63)).length=ns.length-12:=by
   rw[zF,nU,We,XJ];have e1:HT.a0 ns.length 0 (some 12)=min 12 ns.length:=HT.xn ns.length 0 12;have e2:HT.a0 ns.length ns.length (some 63)=min 63 ns.length:=HT.xn ns.length ns.length 63;rw[e1,e2];omega
  have HF:∀i x,(cD (ns.map V.int) (some 12) (some 63))[i]?=some x->∃n:Int,x=V.int n:=fun i x e=>by
   rw[zF,Lq] at e
   cases q:((ns.drop (HT.a0 ns.length 0 (some 12))).take (HT.a0 ns.length ns.length (some 63)-HT.a0 ns.length 0 (some 12)))[i]? with
   |none=>rw[q] at e;cases e
   |some n=>rw[q] at e;exact⟨n,(VY e).symm⟩
  generalize cD (ns.map V.int) (some 12) (some 63)=rest at kI HF n2 ⊢;obtain⟨ms,To,Tp⟩:=hcc
  refine LW (K:=Z.K) (a:=l2) (xs:=rest) (fun i σ H2=>∃(ks:List Int)(v1 v2:Option V),σ=[some (.ref a),some (.ref c),v1,v2]/\H2 c=some (.lst (ks.map V.int))/\ks.length=min 12 ns.length/\H2 l2=some (.lst rest)/\aE H H2)
   ⟨ms,none,none,rfl,?_,To,bE,?_⟩ (fun i σ H2 _ ⟨_,_,_,_,_,_,q,_⟩=>a8.of q) ?_ ?_
  ·rw[aU (cL bE n2),bE,Tp]
  ·exact s1.trans (pZ n2)
  ·rintro i x T σ H2 hi ⟨ks,v1,v2,rfl,hc,hk,qW,sm⟩ hT
   obtain⟨n,rfl⟩:=HF i x hi;have ou:i<rest.length:=(nV.mp hi).1;have Tq:ks.length=12:=by omega
   have cT:c≠T:=cL hc hT;have gx:upd H2 T (.tup [.int i,.int n]) c=some (.lst (ks.map V.int)):=by rw[aU cT];exact hc
   have j0:0<=((i:Int))%12:=W_ _ (by decide);have j1:((i:Int))%12<12:=Wz _ (by decide);obtain⟨m,em⟩:=Pf (ns:=ks) j0 (by omega)
   have ix:iU (ks.map V.int).length ((i:Int)%12)=some ((i:Int)%12).toNat:=by
    unfold iU;rw[VB j0,VB (by rw[nU];omega)]
   refine⟨T,_,rfl,bw.of bE,rfl,_,_,rfl,_,_,rfl,rfl,?_⟩;refine⟨_,rfl,_,rfl,_,_,rfl,rfl,(show(0:Int)<12 by decide),_,_,_,_,rfl,rfl,a8.of gx,em,_,rfl,_,_,rfl,rfl,_,rfl,_,rfl,_,_,rfl,rfl,(show(0:Int)<12 by decide),_,_,_,_,rfl,rfl,gx,ix,?_⟩;refine⟨ks.set ((i:Int)%12).toNat (m+n),_,_,rfl,?_,by rw[Xj];exact hk,?_,?_⟩
   ·rw[bE,List.map_set]
   ·have Tr:l2≠c:=by
     intro z;subst z;exact absurd Tn (by rw[bE];intro y;cases y)
    rw[aU Tr,aU (cL qW hT)];exact qW
   ·intro b o e
    rw[aU (cL e Tj)];exact pZ hT b o (sm b o e)
  ·rintro σ H2 ⟨ks,v1,v2,rfl,hc,hk,qW,sm⟩
   refine⟨_,rfl,(by show 3<=sizeLine;decide),fun p np=>?_⟩;have Tt:H p=none:=sm.free np;exact fin p c _ (sm.trans (pZ np)) Tt ⟨bE,⟨ks,by rw[aU (cL hc np)];exact hc,by omega⟩,Int.le_refl 0⟩
noncomputable abbrev qi:Stmt:=top 55
theorem Tu{f oY:Addr}{fd l4:FuncData}(F:g7 Z.K "law" "law" qi f fd)(B:BT Z.mg)(GO:Fn Z.P Z.w Z.K Z.mg Z.base 1 "_law_open" ["script"] (E6 Z.K) oY l4)(Vr:Ht Z)(Vs:Hn Z)(Vt:Hj Z)(vE:qh Z)(SU:Bp Z)(Vu:HE Z)(Vv:Hh Z):cV Z.P Z.w Z.K Z.mg Z.base gn 21 f fd ["script"] (u_ Z.K):=by
 have sc:my ["script", "pen", "turn", "web", "forest", "told", "steps", "inside", "outside", "k", "step"] ["script"] (cN qi):=jh (by decide +kernel);refine F.xO (k:=20) sc (fun vs H Q E h=>?_) (fun a6 A outer s H vs Q E hr h=>?_)
 ·obtain⟨a,ns,rfl,_⟩:=h
  rfl
 obtain⟨a,ns,rfl,hS,hlen,hT,fin⟩:=h;have nd:=sc.nd;have hu:=hr.units;have rest:cM (eF gn Z.P Z.w Z.K Z.mg Z.base ["script", "pen", "turn", "web", "forest", "told", "steps", "inside", "outside", "k", "step"] "law" (cN qi) f a6 A outer s H E).kF ((gm qi).drop 1) (cY Bd):=(by ac_rfl);refine⟨_,tZ (wU (i:=1) nd rfl (by trivial) (xj GO.ok (hr.mono (by decide)) (by rfl) GO.yh GO.kp GO.bd .nil xN (nY (jv 0) bx))) rest,?_⟩;refine⟨_,rfl,a,ns,rfl,hS,hlen,fun p c H1 sm hp N1=>?_⟩;obtain⟨F',ms,hm,S⟩:=Pg (a:=a) (n:=9) (aH.same hT sm) N1;exact Ph S (RZ ms hm) fin
end
noncomputable def c6:List j5:=[⟨121,⟨44,40,44,76⟩,(("order_of" : Str)++".<locals>.")++"<lambda>"⟩,⟨154,⟨69,25,69,63⟩,(("greatest_of" : Str)++".<locals>.")++"<lambda>"⟩,⟨147,⟨67,25,67,63⟩,(("least_of" : Str)++".<locals>.")++"<lambda>"⟩]
noncomputable def Bt:List (Str×Stmt×Addr):=[("order_of",GH,121),("greatest_of",GR,154),("least_of",GP,147)]
noncomputable abbrev dp(x:Str)(s:Stmt):Str×Stmt:=(x,s)
noncomputable def HG:List (Str×Stmt):=[dp "is_whole" Gp,dp "is_within" Gr,dp "is_tuple_of" Gs,dp "are_ends" Gu,dp "is_way" Gw,dp "are_ways" Gz,dp "is_web" GB,dp "need_web" GF,dp "rank_of" GG,dp "joined" GK,dp "firsts_of" GL,dp "is_rising" GN,dp "leads_out" GU,dp "ways_out" GW,dp "lot_at" GY,dp "ends_of" G0,dp "is_ring" G2,dp "parts" G4,dp "road_of" G6,dp "way_by_cut" G8,dp "way_by_ring" G_,dp "way_by_step" Hb,dp "stand_of" Hd,dp "step_for" He,dp "step_of" Hg,dp "forest_of" Hi,dp "_law_spread" Hk,dp "_law_open" vF,dp "_law_anew" Hm,dp "_law_take" Ho,dp "_law_pairs_of" Hq,dp "_law_web" Hs,dp "_law_marks_by" Hu,dp "_law_lots" Hv,dp "_law_lot_at" Hx,dp "_law_road" Hz,dp "_law_all" HA,dp "_law_some_step" HD,dp "_law_any_road" HB,dp "law" qi]
theorem Tv{l:PySem.W.OpenLaw}{w:World}{K:PySem.W.Frag}{h:Heap}{mg:Str->Option Value}{fa:Addr}(X:K.In h)(G:h.Ns mainGlobals mg)(Tw:mg "law" = some (.ref fa))(DS:gf K HG)(LS:dO K Bt)(N:∀x∈Bi,PySem.W.nsIn K mainGlobals x=some none)(gg:Ck K "MOST_HOUSES" 12)(ip:Ck K "MOST_WAYS" 30)(gP:Ck K "MOST_PRICE" 1000000000)
  : ∃fd:FuncData,(∀(s:Shared)(v:Value),BindsTo s fd ⟨[v],[]⟩ [("script",v)])/\∀base:Heap,K.In base->base.Ns mainGlobals mg->(∀t∈c6,base.BuiltinsAt mg t.T)->cV l.prog w K mg base gn 21 fa fd ["script"] (@u_ (lU c6) K):=by
 obtain⟨f,fd,a,F⟩:=DS.at (x:="law") (st:=qi) 39 rfl;cases Tw.symm.trans (Zy X G a)
 letI:aH:=lU c6;have B:=Sb X G N;refine⟨fd,fun s v=>by obtain⟨_,_,_,_,_,_,_,_,_,rfl,_⟩:=F.ex;exact .of_eq rfl,fun base KB _ hB=>?_⟩;have D:∀(i:Nat){x:Str}{st:Stmt},HG[i]?=some (x,st)->Dx ⟨l.prog,w,K,mg,base⟩ x st:=fun i _ _ e=>(DS.at i e).v X G;have M:∀(i:Nat){x:Str}{st:Stmt}{T:Addr}{lp:Pos}{q:Str},Bt[i]?=some (x,st,T)->c6[i]?=some ⟨T,lp,q⟩->qf ⟨l.prog,w,K,mg,base⟩ x st T lp q:=fun i _ _ _ _ _ e e2=>(LS.at i e).v X G KB hB (by decide) (by decide) (V0 e2);have Tx:=Si (D 0 rfl) B;have vG:=Sj (D 1 rfl) B Tx;have Bu:=Sk (D 2 rfl) B;have Tz:=Sl (D 3 rfl) B vG;have TB:=Sm (D 4 rfl) B (gP.v X G) Bu Tz vG
 have TC:=Sn (D 5 rfl) B (ip.v X G) TB;have TF:=So (D 6 rfl) B (gg.v X G) Bu vG TC;have HH:=Sq (D 7 rfl) B TF;have Bv:=Sr (D 8 rfl) B;have TH:=Ss (M 0 rfl rfl) B HH Bv;have HI:=Su (D 9 rfl) B;have vH:=Sv (D 10 rfl) B HI;have HJ:=Sx (D 11 rfl) B vG;have TJ:=Sy (M 2 rfl rfl) B Bv;have TK:=Sz (M 1 rfl rfl) B Bv;have TL:=SA (D 12 rfl) B;have TM:=SD (D 13 rfl) B TL;have TN:=SE (D 14 rfl) B vH;have TQ:=SF (D 15 rfl) B;have TR:=SG (D 16 rfl) B TQ vH;have TU:=SH (D 17 rfl) B vH;have TV:=SI (D 18 rfl) B TU;have TX:=SJ (D 19 rfl) B HJ TM TJ;have TY:=SM (D 20 rfl) B HJ TR TK;have TZ:=SN (D 21 rfl) B Bu TX TY
 have HK:=SO (D 22 rfl) B HH TZ;have T1:=SQ (D 23 rfl) B TN TV;have T2:=SS (D 24 rfl) B HK T1;have T3:=SV (D 25 rfl) B TH vH HI;have T4:=SW (D 26 rfl) B;have T5:=SX (D 28 rfl) B;have tK:=SY (D 29 rfl) B T4;have T6:=S7 (D 30 rfl) B tK;have T7:=S8 (D 31 rfl) B tK T6;have HL:=S9 (D 32 rfl) B;have T8:=S_ (D 33 rfl) B HL;have T9:=Tb (D 34 rfl) B HL;have HM:=Tc (D 35 rfl) B;have HN:=Td (D 36 rfl) B;have T_:=Te (D 38 rfl) B HN tK T9 HM;have Ua:=Th (D 37 rfl) B tK HN HM T_ T8;obtain⟨fo,Vw,ao,Fo⟩:=D 27 (x:="_law_open") (st:=vF) rfl;exact Tu (Z:=⟨l.prog,w,K,mg,base⟩) F B ⟨Ti Fo B.list B.enumerate,ao,Fo.kp,Fo.binds lZ⟩ T7 T5 T3 tK HK Ua T2
theorem Ub{K:PySem.W.Frag}{h:Heap}(X:K.In h)(LS:dO K Bt):∀t∈c6,∃cc,PySem.W.CodeHd h cc t.T:=fun t ht=>LS.code X t.T (show t.T∈c6.map (·.T) from WQ ht)
end LJ
open PySem PySem.W PyProof.Rows
theorem PySem.W.Fast.tw14381451064109887174:True:=trivial
theorem PySem.W.Fast.tw13967695938882411938:True:=trivial
theorem PySem.W.Fast.tw15255102349048313355:True:=trivial
theorem PySem.W.Fast.tw10750840685917303441:True:=trivial
theorem PySem.W.Fast.tw10904652457391719070:True:=trivial
theorem PySem.W.Fast.tw18366332287030302412:True:=trivial
theorem PySem.W.Fast.tw12243532954514307318:True:=trivial
theorem PySem.W.Fast.tw11867254908375379078:True:=trivial
theorem PySem.W.Fast.tw12571228959949746448:True:=trivial
theorem PySem.W.Fast.tw6289820198915620386:True:=trivial
theorem PySem.W.Fast.tw8636691768387237322:True:=trivial
set_option maxRecDepth 100000 in
set_option maxHeartbeats 0 in
theorem PySem.Challenge.cw_lotjoin_k32_whole_any_steps_holds : PySem.Challenge.rw_lotjoin_k32_whole_any_steps.Holds := by
 w_on;o_law;k_head;(case hw=>w_witness2)
 k_fill
 refine LJ.PY (l:=PySem.Challenge.rw_lotjoin_k32_whole_any_steps) (kk:=21) LJ.c6 rfl rfl rfl ⟨rfl,by decide,by decide⟩ ?C (fun P=>by kernel_rfl) ?F
 case C =>
  intro w h KX;refine LJ.Ub KX ?_
  repeat' first|exact LJ.dO.nil|refine LJ.tG (by k_is) (by k_is) (by k_is) (by k_is) (by kernel_rfl) ?_
 case F =>
  intro w mg fa h KX G lh;refine LJ.Tv KX G lh ?dD ?dL ?dN ⟨_,by k_is,_,rfl⟩ ⟨_,by k_is,_,rfl⟩ ⟨_,by k_is,_,rfl⟩
  (case dD=>repeat' first|exact LJ.gf.nil|refine LJ.Bh (by k_is) (by k_is) (by k_is) (by k_is) ?_)
  (case dL=>repeat' first|exact LJ.dO.nil|refine LJ.tG (by k_is) (by k_is) (by k_is) (by k_is) (by kernel_rfl) ?_)
  (case dN=>repeat' first|exact List.forall_mem_nil _|refine LJ.R_ (by k_is) ?_)
