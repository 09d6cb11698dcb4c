import PyProof.Rows.All
import Wide.All
import OpenK.AllK
import Wide.FinOn
import Lean
import PyProof.Rows.SetFrom
import PyProof.TupleKey
import PyProof.SetRoads
import PySem.SetOps
import PyProof.EqAt
import PyProof.EqKinds
import PyProof.TupleCall
import KE.KDictList
import KE.KDictLaws
import PyProof.NeKinds
import PyProof.Draws
import KE.KSortTup
import KE.KLam
import PyProof.ListRange
import PyProof.TupleOfSeq
import KE.KNestM
import PySem.Challenge.RW_lotjoin_k03_lots_told
set_option Elab.async false
set_option linter.all false
set_option maxRecDepth 100000
local macro_rules | `(tactic| trivial) => `(tactic| first | exact Or.inl rfl | exact Or.inr rfl)
theorem el7 {α β γ ε : Type} {A B C : α → β → γ → ε → Prop} {R : Prop} (h : ∃ F ad δ K, A F ad δ K ∧ B F ad δ K ∧ C F ad δ K) (k : ∀ F ad δ K, A F ad δ K → B F ad δ K → C F ad δ K → R) : R := h.elim fun F h => h.elim fun a h => h.elim fun d h => h.elim fun K h => k F a d K h.1 h.2.1 h.2.2
theorem el5 {α β : Type} {A B C : α → β → Prop} {R : Prop} (h : ∃ F ad, A F ad ∧ B F ad ∧ C F ad) (k : ∀ F ad, A F ad → B F ad → C F ad → R) : R := h.elim fun F h => h.elim fun a h => k F a h.1 h.2.1 h.2.2
theorem el3 {α : Type} {A B : α → Prop} {R : Prop} (h : ∃ F, A F ∧ B F) (k : ∀ F, A F → B F → R) : R := h.elim fun F h => k F h.1 h.2
set_option compiler.extract_closed false
local macro_rules | `(tactic| omega) => `(tactic| first | lia | omega (config := {}))
namespace LJS
open PySem PySem.SetTable
noncomputable def nx (m i:Nat):Nat:=(i * 5 + 1) % (m + 1)
noncomputable def la (m:Nat):Nat->Nat->Nat
 | 0,i=>i
 | n + 1,i=>la m n (nx m i)
theorem uT (m:Nat):∀ a b i,la m (a + b) i=la m b (la m a i)
 | 0,b,i=>by rw[Nat.zero_add];rfl
 | a + 1,b,i=>by rw[Nat.succ_add];exact uT m a b (nx m i)
noncomputable def xn (m:Nat):Nat->Nat->List Nat
 | 0,_=>[]
 | n + 1,i=>i :: xn m n (nx m i)
theorem Bg (m:Nat):∀ {n i e:Nat},e∈xn m n i->∃ k,k < n/\la m k i=e
 | 0,_,_,h=>nomatch h
 | n + 1,i,e,h=>by
  rcases List.mem_cons.mp h with rfl | h
  ·exact⟨0,Nat.succ_pos _,rfl⟩
  ·obtain⟨k,hk,e⟩:=Bg m h
   exact⟨k + 1,Nat.succ_lt_succ hk,e⟩
noncomputable def Mk (m:Nat):Prop:=m=7\/m=31\/m=127
noncomputable def rD (m:Nat):Bool:=(List.range (m + 1)).all fun e=>(xn m (m + 1) 0).contains e
theorem Bh {m:Nat} (h:Mk m):rD m=true/\la m (m + 1) 0=0:=by
 rcases h with rfl | rfl | rfl<;>exact⟨by decide +kernel,by decide +kernel⟩
theorem mF {m:Nat} (h:Mk m) {e:Nat} (he:e <= m):∃ k,k <= m/\la m k 0=e:=by
 have:=List.all_eq_true.mp (Bh h).1 e (List.mem_range.mpr (Nat.lt_succ_of_le he))
 obtain⟨k,hk,q⟩:=Bg m (List.contains_iff_mem.mp this)
 exact⟨k,Nat.le_of_lt_succ hk,q⟩
theorem Gu {m:Nat} (h:Mk m) {i e:Nat} (hi:i <= m) (he:e <= m):∃ n,n <= m/\la m n i=e:=by
 obtain⟨a,ha,rfl⟩:=mF h hi
 obtain⟨b,hb,rfl⟩:=mF h he
 by_cases uU:a <= b
 ·refine⟨b - a,by omega,?_⟩
  rw[<-uT];congr 1;omega
 ·refine⟨m + 1 - a + b,by omega,?_⟩
  rw[<-uT,show a + (m + 1 - a + b)=(m + 1) + b by omega,uT,(Bh h).2]
noncomputable def lp (m:Nat):Nat->Nat->Nat->Nat × Nat
 | 0,i,p=>(i,p)
 | n + 1,i,p=>lp m n (leap m i p).1 (leap m i p).2
theorem xo (m:Nat):∀ a b i p,lp m (a + b) i p=lp m b (lp m a i p).1 (lp m a i p).2
 | 0,b,i,p=>by rw[Nat.zero_add];rfl
 | a + 1,b,i,p=>by rw[Nat.succ_add];exact xo m a b _ _
theorem Bi (m:Nat):∀ n i,lp m n i 0=(la m n i,0)
 | 0,i=>rfl
 | n + 1,i=>by
  show lp m n (leap m i 0).1 (leap m i 0).2=_
  have e:leap m i 0=(nx m i,0):=by unfold leap nx;simp
  rw[e];exact Bi m n _
theorem Bj (m i p:Nat):(leap m i p).1 <= m:=Nat.le_of_lt_succ (Nat.mod_lt _ (Nat.succ_pos _))
theorem Bk (m:Nat):∀ n i p,(lp m n i p).2=p / 32 ^ n
 | 0,i,p=>by simp[lp]
 | n + 1,i,p=>by
  show (lp m n (leap m i p).1 (leap m i p).2).2=_
  rw[Bk m n]
  show p / 32 / 32 ^ n=_
  rw[Nat.div_div_eq_div_mul,Nat.pow_succ,Nat.mul_comm]
theorem reach {m:Nat} (h:Mk m) {i p e:Nat} (hp:p < 2 ^ 64) (he:e <= m):∃ n,n <= 13 + m/\(lp m n i p).1=e:=by
 have z:(lp m 13 i p).2=0:=by
  rw[Bk]
  exact Nat.div_eq_of_lt (Nat.lt_trans hp (by decide))
 have q:(lp m 13 i p).1 <= m:=by
  rw[xo m 12 1];exact Bj _ _ _
 obtain⟨n,hn,en⟩:=Gu h q he
 refine⟨13 + n,by omega,?_⟩
 rw[xo,z,Bi];exact en
theorem Bl (j:Nat):has #[] j=false:=by unfold has;simp
theorem rE {t:SetTable} (hd:t.dummies = #[]) (j:Nat):t.slot j = .empty\/∃ i,t.slot j = .live i/\i < t.place.size/\j∈t.place.toList:=by
 unfold slot
 rw[hd,Bl]
 dsimp only
 by_cases c:(t.place[below t.place j]? == some j)=true
 ·right
  rw[if_pos c]
  have e:=eq_of_beq c
  obtain⟨hl,ev⟩:=Array.getElem?_eq_some_iff.mp e
  exact⟨_,rfl,hl,by rw[<-ev];exact Array.getElem_mem_toList hl⟩
 ·left
  rw[if_neg c];rfl
theorem Gv {t:SetTable} (hd:t.dummies = #[]) {j:Nat} (hj:j∉t.place.toList):t.slot j = .empty:=by
 rcases rE hd j with h | ⟨_,_,_,h⟩
 ·exact h
 ·exact absurd h hj
theorem Bm:∀ {l l':List Nat},l.Nodup->(∀ x∈l,x∈l')->l.length <= l'.length
 | [],_,_,_=>Nat.zero_le _
 | a :: l,l',hn,hs=>by
  have ha:a∈l':=hs a (List.mem_cons_self ..)
  have ij:=List.nodup_cons.mp hn
  have ih:=Bm (l:=l) (l':=l'.erase a) ij.2 fun x hx=>(List.mem_erase_of_ne (fun z=>ij.1 (by rw[<-z];exact hx))).mpr (hs x (List.mem_cons_of_mem _ hx))
  rw[List.length_erase_of_mem ha] at ih
  have:=List.length_pos_of_mem ha
  rw[List.length_cons];omega
theorem Gw {l:List Nat} {m:Nat} (h:l.length <= m):∃ e,e <= m/\e∉l:=by
 refine Classical.byContradiction fun no => ?_
 have all:∀ e,e∈List.range (m + 1)->e∈l:=fun e he=>Classical.byContradiction fun z=>no ⟨e,Nat.le_of_lt_succ (List.mem_range.mp he),z⟩
 have:(List.range (m + 1)).length <= l.length:=Bm List.nodup_range all
 rw[List.length_range] at this
 omega
noncomputable def stateOf (t:SetTable) (i p:Nat):Probe:=⟨i,runEnd t.mask i - i,i,p,none⟩
theorem Bn (m i:Nat):runEnd m i - i <= 9:=by unfold runEnd;split<;>omega
section
variable {t:SetTable} {f:Nat->Int} {h:Int}
theorem nK (F:Nat) (p:Probe):probe.go t f h (F + 1) p=(match t.slot p.j with
  | .empty=>some (.empty p.j p.dummy)
  | .dummy=>probe.go t f h F (t.advance { p with dummy:=some p.j })
  | .live i=>if f i == h then some (.candidate p.j i (t.advance p)) else probe.go t f h F (t.advance p)):=rfl
theorem Bo (hd:t.dummies = #[]) (hf:∀ i,i < t.place.size->f i≠h):∀ (k F:Nat) (p:Probe),p.more=k->p.dummy=none →
  (∃ j,probe.go t f h (F + k + 1) p=some (.empty j none))\/probe.go t f h (F + k + 1) p=probe.go t f h F (stateOf t (leap t.mask p.i p.perturb).1 (leap t.mask p.i p.perturb).2)
 | 0,F,p,hm,rF=>by
  show (∃ j,probe.go t f h (F + 1) p=_)\/probe.go t f h (F + 1) p=_
  rw[nK]
  rcases rE hd p.j with e | ⟨i,e,hi,_⟩
  ·left;rw[e];exact⟨p.j,by rw[rF]⟩
  ·right
   rw[e]
   show (if (f i == h)=true then _ else _)=_
   rw[if_neg (by intro z;exact hf i hi (eq_of_beq z))]
   unfold advance
   rw[hm,if_neg (by omega),rF]
   rfl
 | k + 1,F,p,hm,rF=>by
  have ih:=Bo hd hf k F { p with j:=p.j + 1,more:=p.more - 1 } (by show p.more - 1=k;omega) rF
  rw[show F + (k + 1) + 1=(F + k + 1) + 1 by omega,nK]
  rcases rE hd p.j with e | ⟨i,e,hi,_⟩
  ·left;rw[e];exact⟨p.j,by rw[rF]⟩
  ·rw[e]
   show (∃ j,(if (f i == h)=true then _ else _)=_)\/(if (f i == h)=true then _ else _)=_
   rw[if_neg (by intro z;exact hf i hi (eq_of_beq z))]
   have ea:t.advance p={ p with j:=p.j + 1,more:=p.more - 1 }:=by unfold advance;rw[if_pos (by omega)]
   rw[ea]
   exact ih
theorem Bp (hd:t.dummies = #[]) (hf:∀ i,i < t.place.size->f i≠h):∀ (n F i p:Nat),10 * (n + 1) <= F->t.slot (lp t.mask n i p).1 = .empty->∃ j,probe.go t f h F (stateOf t i p)=some (.empty j none)
 | 0,F,i,p,hF,hs=>by
  obtain⟨G,rfl⟩:∃ G,F=G + 1:=⟨F - 1,by omega⟩
  rw[nK]
  have e:t.slot (stateOf t i p).j = .empty:=hs
  rw[e]
  exact⟨i,rfl⟩
 | n + 1,F,i,p,hF,hs=>by
  have hr:=Bn t.mask i
  obtain⟨G,hG⟩:∃ G,F=G + (runEnd t.mask i - i) + 1:=⟨F - (runEnd t.mask i - i) - 1,by omega⟩
  have:=Bo (f:=f) (h:=h) hd hf (runEnd t.mask i - i) G (stateOf t i p) rfl rfl
  rw[<-hG] at this
  rcases this with h1 | h1
  ·exact h1
  ·rw[h1]
   exact Bp hd hf n G _ _ (by omega) hs
theorem xp (h:Int):bits h < 2 ^ 64:=by
 unfold bits
 have:=Int.emod_lt_of_pos h (show (0:Int) < 2 ^ 64 by decide)
 have:=Int.emod_nonneg h (show (2 ^ 64:Int)≠0 by decide)
 omega
theorem Bq (hd:t.dummies = #[]) (hm:Mk t.mask) (hz:t.place.size <= t.mask) (hf:∀ i,i < t.place.size->f i≠h):∃ j,t.probe f h (t.probeStart h)=some (.empty j none):=by
 obtain⟨e,he,ne⟩:=Gw (l:=t.place.toList) (m:=t.mask) (by rw[Array.length_toList];exact hz)
 obtain⟨n,hn,en⟩:=reach hm (i:=bits h % (t.mask + 1)) (xp h) he
 exact Bp hd hf n _ _ _ (by unfold turns;omega) (by rw[en];exact Gv hd ne)
end
section
variable {m:Nat} {owner:Array (Option Nat)}
theorem xq (F i p:Nat):layClean.free m owner (F + 1) i p=(match (List.range (runEnd m i + 1 - i)).find? fun k=>(owner.getD (i + k) (some 0)).isNone with
   | some k=>some (i + k)
   | none=>layClean.free m owner F (leap m i p).1 (leap m i p).2):=rfl
theorem xr:∀ (n F i p:Nat),n + 1 <= F->(owner.getD (lp m n i p).1 (some 0)).isNone=true->∃ j,layClean.free m owner F i p=some j/\(owner.getD j (some 0)).isNone=true
 | 0,F,i,p,hF,hs=>by
  obtain⟨G,rfl⟩:∃ G,F=G + 1:=⟨F - 1,by omega⟩
  rw[xq]
  cases hc:(List.range (runEnd m i + 1 - i)).find? fun k=>(owner.getD (i + k) (some 0)).isNone with
  | some k =>
   have:=List.find?_some hc
   exact⟨i + k,rfl,this⟩
  | none =>
   have:=List.find?_eq_none.mp hc 0 (List.mem_range.mpr (by unfold runEnd;split<;>omega))
   exact absurd hs this
 | n + 1,F,i,p,hF,hs=>by
  obtain⟨G,rfl⟩:∃ G,F=G + 1:=⟨F - 1,by omega⟩
  rw[xq]
  cases hc:(List.range (runEnd m i + 1 - i)).find? fun k=>(owner.getD (i + k) (some 0)).isNone with
  | some k =>
   have:=List.find?_some hc
   exact⟨i + k,rfl,this⟩
  | none=>exact xr n G _ _ (by omega) hs
end
structure Ow (m:Nat) (owner:Array (Option Nat)) (k:Nat):Prop where
 size:owner.size=m + 1
 cnt:owner.toList.countP Option.isSome=k
 lt:∀ x,some x∈owner.toList->x < k
theorem xt:∀ {l:List (Option Nat)} {j k:Nat},l[j]? = some none->(l.set j (some k)).countP Option.isSome=l.countP Option.isSome + 1
 | [],j,k,h=>by simp at h
 | x :: l,0,k,h=>by
  simp at h;subst h
  rw[List.set_cons_zero,List.countP_cons,List.countP_cons];rfl
 | x :: l,j + 1,k,h=>by
  simp at h
  rw[List.set_cons_succ,List.countP_cons,List.countP_cons,xt h];omega
theorem getD_none {owner:Array (Option Nat)} {j:Nat} (h:(owner.getD j (some 0)).isNone=true):owner.toList[j]? = some none:=by
 rw[Array.getD_eq_getD_getElem?] at h
 rw[Array.getElem?_toList]
 cases e:owner[j]? with
 | none=>rw[e] at h;cases h
 | some x =>
  rw[e] at h
  cases x with
  | none=>rfl
  | some y=>cases h
theorem Br {m:Nat} {owner:Array (Option Nat)} {k:Nat} (O:Ow m owner k) (hk:k <= m):∃ e,e <= m/\(owner.getD e (some 0)).isNone=true:=by
 refine Classical.byContradiction fun no => ?_
 have all:∀ x∈owner.toList,x.isSome=true:=by
  intro x hx
  obtain⟨e,he⟩:=List.mem_iff_getElem?.mp hx
  cases x with
  | some y=>rfl
  | none =>
   have hl:=(List.getElem?_eq_some_iff.mp he).1
   rw[Array.length_toList,O.size] at hl
   refine absurd ⟨e,Nat.le_of_lt_succ hl,?_⟩ no
   rw[Array.getD_eq_getD_getElem?,<-Array.getElem?_toList,he];rfl
 have:=List.countP_eq_length.mpr all
 rw[O.cnt,Array.length_toList,O.size] at this
 omega
theorem Gx {m:Nat} {owner:Array (Option Nat)} {k:Nat} (hm:Mk m) (O:Ow m owner k) (hk:k <= m) (h:Int):∃ j,layClean.free m owner (turns m) (bits h % (m + 1)) (bits h)=some j/\Ow m (owner.setIfInBounds j (some k)) (k + 1):=by
 obtain⟨e,he,hn⟩:=Br O hk
 obtain⟨n,ij,en⟩:=reach hm (i:=bits h % (m + 1)) (xp h) he
 obtain⟨j,ej,hj⟩:=xr (m:=m) (owner:=owner) n (turns m) (bits h % (m + 1)) (bits h) (by unfold turns;omega) (by rw[en];exact hn)
 refine⟨j,ej,by rw[Array.size_setIfInBounds];exact O.size,?_,fun x hx => ?_⟩
 ·rw[Array.toList_setIfInBounds,xt (getD_none hj),O.cnt]
 ·rw[Array.toList_setIfInBounds] at hx
  rcases List.mem_or_eq_of_mem_set hx with h | h
  ·exact Nat.lt_succ_of_lt (O.lt x h)
  ·cases h;exact Nat.lt_succ_self _
theorem Bs (m:Nat):Ow m (Array.replicate (m + 1) none) 0:=by
 refine⟨by simp,?_,fun x hx => ?_⟩
 ·rw[Array.toList_replicate]
  exact List.countP_eq_zero.mpr fun x hx=>by rw[List.eq_of_mem_replicate hx];decide
 ·rw[Array.toList_replicate] at hx
  cases List.eq_of_mem_replicate hx
noncomputable def gH (m:Nat) (owner:Array (Option Nat)):List (Nat × Nat):=(List.range (m + 1)).filterMap fun j=>(owner.getD j none).map (j,·)
theorem xu {m:Nat} {owner:Array (Option Nat)} {k:Nat} (O:Ow m owner k):(gH m owner).length=k:=by
 unfold gH
 rw[List.length_filterMap_eq_countP,<-O.cnt]
 have e:owner.toList=(List.range (m + 1)).map fun j=>owner.getD j none:=by
  refine List.ext_getElem? fun i => ?_
  rw[Array.getElem?_toList,List.getElem?_map]
  by_cases hi:i < m + 1
  ·rw[List.getElem?_range hi,Option.map_some,Array.getElem?_eq_getElem (by rw[O.size];exact hi),Array.getD_eq_getD_getElem?,Array.getElem?_eq_getElem (by rw[O.size];exact hi)];rfl
  ·rw[Array.getElem?_eq_none (by rw[O.size];omega),List.getElem?_eq_none (by rw[List.length_range];omega)];rfl
 rw[e,List.countP_map]
 refine List.countP_congr fun j _ => ?_
 simp
theorem Bt {α : Type} {es:Array α} {order:Array Nat} (h:∀ k∈order.toList,k < es.size):(order.filterMap (es[·]?)).size=order.size/\∀ e∈(order.filterMap (es[·]?)).toList,e∈es.toList:=by
 constructor
 ·rw[<-Array.length_toList,Array.toList_filterMap,List.length_filterMap_eq_countP,List.countP_eq_length.mpr fun k hk => ?_,Array.length_toList]
  rw[Array.getElem?_eq_getElem (h k hk)];rfl
 ·intro e he
  rw[Array.toList_filterMap] at he
  obtain⟨k,_,q⟩:=List.mem_filterMap.mp he
  exact List.mem_iff_getElem?.mpr ⟨k,by rw[Array.getElem?_toList];exact q⟩
theorem xv (t:SetTable) (hd:t.dummies = #[]) (j:Nat):(t.put j).1.dummies = #[]/\(t.put j).1.mask=t.mask/\(t.put j).1.place.size=t.place.size + 1/\(t.put j).1.led=t.led/\(t.put j).1.plain=t.plain/\(t.put j).1.moves=t.moves/\(t.put j).1.finger=t.finger:=by
 unfold put
 dsimp only
 rw[hd,Bl]
 refine⟨rfl,rfl,?_,rfl,rfl,rfl,rfl⟩
 unfold insertAt
 simp only[Array.size_append,Array.size_push,Array.size_extract]
 omega
theorem xw {α : Type} (xs:Array α) (p:Nat) (x : α):(insertAt xs p x).size=xs.size + 1:=by
 unfold insertAt
 simp only[Array.size_append,Array.size_push,Array.size_extract]
 omega
end LJS
namespace LJS
open PySem PySem.SetTable PyProof.Rows
structure fK (t:SetTable) (es:Array (Int × Value)) (hs:List Int):Prop where
 kB:t.dummies = #[]
 kC:Mk t.mask
 gB:t.place.size=es.size
 num:es.size=hs.length
 g_:t.tooFull=false
 ins:∀ e∈es.toList,e.1∈hs
noncomputable def jF (h:Heap) (S:Addr) (hs:List Int):Prop:=∃ o es ep t,h.get? S=some o/\o.ExactSet/\o.data = .set es ep t/\fK t es hs
section
variable {t:SetTable} {es:Array (Int × Value)} {hs:List Int}
theorem fK.fill (T:fK t es hs):t.fill=es.size:=by
 unfold SetTable.fill
 rw[T.gB,T.kB];rfl
theorem fK.lt (T:fK t es hs):es.size * 5 < t.mask * 3:=by
 have:=T.g_
 unfold tooFull at this
 rw[T.fill] at this
 have:=of_decide_eq_false this
 omega
theorem fK.fits (T:fK t es hs):t.fits es.size=true:=by
 have:=T.lt
 unfold SetTable.fits
 rw[T.fill,T.gB]
 simp
 omega
theorem fK.rG (T:fK t es hs):t.gaveWay=false:=by
 unfold SetTable.gaveWay
 rcases T.kC with h | h | h<;>rw[h]<;>rfl
end
theorem Bu:sizeAbove (grown 5) - 1=31:=by decide +kernel
theorem Bv:sizeAbove (grown 19) - 1=127:=by decide +kernel
section
variable {prog:Program} {w:World} {A:Around} {E:Value->Shared->Prop} {s:Shared}
end
end LJS
namespace LJS
open PySem PySem.SetTable
noncomputable def Up (xs:Array Nat):Prop:=xs.toList.Pairwise (· < ·)
theorem Up.lt {xs:Array Nat} (u:Up xs) {i k:Nat} (Gy:i < k) (hk:k < xs.size):xs[i]'(by omega) < xs[k]:=by
 have:=List.pairwise_iff_getElem.mp u i k (by rw[Array.length_toList];omega) (by rw[Array.length_toList];exact hk) Gy
 simpa using this
theorem xx {xs:Array Nat} (u:Up xs) (j:Nat):∀ (fuel lo hi:Nat),hi <= xs.size->lo <= hi->hi - lo <= fuel->(∀ i,(h:i < xs.size)->i < lo->xs[i] < j)->(∀ i,(h:i < xs.size)->hi <= i->j <= xs[i]) →
  below.go xs j fuel lo hi <= xs.size/\(∀ i,(h:i < xs.size)->i < below.go xs j fuel lo hi->xs[i] < j)/\(∀ i,(h:i < xs.size)->below.go xs j fuel lo hi <= i->j <= xs[i])
 | 0,lo,hi,h1,h2,h3,a,b=>by
  have:lo=hi:=by omega
  subst this
  exact⟨h1,a,b⟩
 | fuel + 1,lo,hi,h1,h2,h3,a,b=>by
  unfold below.go
  by_cases c:lo < hi
  ·rw[if_pos c]
   have hm:(lo + hi) / 2 < xs.size:=by omega
   have em:xs.getD ((lo + hi) / 2) j=xs[(lo + hi) / 2]:=by rw[Array.getD_eq_getD_getElem?,Array.getElem?_eq_getElem hm];rfl
   simp only[em]
   by_cases d:xs[(lo + hi) / 2] < j
   ·rw[if_pos d]
    refine xx u j fuel _ hi h1 (by omega) (by omega) (fun i fz hl => ?_) b
    by_cases e:i < (lo + hi) / 2
    ·exact Nat.lt_trans (u.lt e hm) d
    ·have:i=(lo + hi) / 2:=by omega
     subst this;exact d
   ·rw[if_neg d]
    refine xx u j fuel lo _ (by omega) (by omega) (by omega) a fun i fz hl => ?_
    by_cases e:(lo + hi) / 2 < i
    ·exact Nat.le_of_lt (Nat.lt_of_le_of_lt (Nat.le_of_not_lt d) (u.lt e fz))
    ·have:i=(lo + hi) / 2:=by omega
     subst this;exact Nat.le_of_not_lt d
  ·rw[if_neg c]
   have:lo=hi:=by omega
   subst this
   exact⟨h1,a,b⟩
theorem pW {xs:Array Nat} (u:Up xs) (j:Nat):below xs j <= xs.size/\(∀ i,(h:i < xs.size)->i < below xs j->xs[i] < j)/\(∀ i,(h:i < xs.size)->below xs j <= i->j <= xs[i]) :=
 xx u j xs.size 0 xs.size (Nat.le_refl _) (Nat.zero_le _) (by omega) (fun i _ h=>by omega) (fun i h h'=>by omega)
theorem Gz {xs:Array Nat} (u:Up xs) {i:Nat} (hi:i < xs.size):below xs (xs[i] + 1)=i + 1:=by
 obtain⟨h0,h1,h2⟩:=pW u (xs[i] + 1)
 have a:i < below xs (xs[i] + 1):=by
  refine Nat.lt_of_not_le fun z => ?_
  have:=h2 i hi z
  omega
 have b:below xs (xs[i] + 1) <= i + 1:=by
  refine Nat.le_of_not_lt fun z => ?_
  have hk:i + 1 < xs.size:=by omega
  have:=h1 (i + 1) hk z
  have:=u.lt (k:=i + 1) (Nat.lt_succ_self i) hk
  omega
 omega
theorem GA {xs:Array Nat} (u:Up xs):below xs 0=0:=by
 obtain⟨h0,h1,h2⟩:=pW u 0
 refine Nat.eq_zero_of_not_pos fun z => ?_
 have:=h1 0 (by omega) z
 omega
theorem Bw {t:SetTable} (u:Up t.place) {j:Nat} (hj:j∉t.place.toList):Up (t.put j).1.place:=by
 obtain⟨h0,h1,h2⟩:=pW u j
 show Up (insertAt t.place (below t.place j) j)
 unfold Up insertAt
 generalize below t.place j=p at h0 h1 h2
 have eL:(((t.place.extract 0 p).push j) ++ t.place.extract p t.place.size).toList=t.place.toList.take p ++ ([j] ++ t.place.toList.drop p):=by
  simp only[Array.toList_append,Array.toList_push,Array.toList_extract,List.extract_eq_take_drop,List.drop_zero,Nat.sub_zero,List.append_assoc]
  have e2:List.take (t.place.size - p) (List.drop p t.place.toList)=List.drop p t.place.toList:=List.take_of_length_le (by rw[List.length_drop,Array.length_toList];exact Nat.le_refl _)
  rw[e2]
 rw[eL]
 have lo:∀ x∈t.place.toList.take p,x < j:=by
  intro x hx
  obtain⟨i,hi,e⟩:=List.mem_iff_getElem.mp hx
  rw[List.length_take,Array.length_toList] at hi
  rw[List.getElem_take] at e
  have:=h1 i (by omega) (by omega)
  rw[<-e];simpa using this
 have fz:∀ x∈t.place.toList.drop p,j < x:=by
  intro x hx
  obtain⟨i,hi,e⟩:=List.mem_iff_getElem.mp hx
  rw[List.length_drop,Array.length_toList] at hi
  rw[List.getElem_drop] at e
  have:=h2 (p + i) (by omega) (by omega)
  have GB:j <= x:=by rw[<-e];simpa using this
  refine Nat.lt_of_le_of_ne GB fun z=>hj ?_
  rw[z];exact List.mem_of_mem_drop hx
 refine List.pairwise_append.mpr ⟨u.sublist (List.take_sublist _ _),?_,fun a ha b hb => ?_⟩
 ·exact List.pairwise_cons.mpr ⟨fz,u.sublist (List.drop_sublist _ _)⟩
 ·rcases List.mem_cons.mp hb with rfl | hb
  ·exact lo a ha
  ·exact Nat.lt_trans (lo a ha) (fz b hb)
theorem GC (n:Nat) (f:Nat->Option Nat):(((List.range n).filterMap fun j=>(f j).map fun x=>(j,x)).map (·.1)).Pairwise (· < ·):=by
 rw[List.pairwise_map]
 refine List.Pairwise.filterMap _ (fun a a' c_ b hb b' dc => ?_) (List.pairwise_lt_range (n:=n))
 obtain⟨x,_,rfl⟩:=Option.map_eq_some_iff.mp hb
 obtain⟨y,_,rfl⟩:=Option.map_eq_some_iff.mp dc
 exact c_
theorem Bx (m:Nat) (owner:Array (Option Nat)):((gH m owner).map (·.1)).Pairwise (· < ·):=GC (m + 1) fun j=>owner.getD j none
theorem By {α : Type} (next:Nat->Nat):∀ (fuel k:Nat) (left:List α) (out:Array α),left.length <= fuel->(pickOrder.go next fuel k left out).toList.Perm (out.toList ++ left)
 | 0,k,left,out,h=>by
  have:left=[]:=List.length_eq_zero_iff.mp (by omega)
  subst this
  rw[List.append_nil]
  exact List.Perm.refl _
 | fuel + 1,k,left,out,h=>by
  unfold pickOrder.go
  cases left with
  | nil=>simp
  | cons a l =>
   have c_:next k % (a :: l).length < (a :: l).length:=Nat.mod_lt _ (by rw[List.length_cons];omega)
   rw[List.getElem?_eq_getElem c_]
   refine (By next fuel (k + 1) _ _ ?_).trans ?_
   ·rw[List.length_eraseIdx_of_lt c_];omega
   ·rw[Array.toList_push,List.append_assoc]
    refine List.Perm.append_left _ ?_
    generalize next k % (a :: l).length=j at c_
    exact (ik c_).symm
where
 ik {α : Type}:∀ {l:List α} {j:Nat} (h:j < l.length),List.Perm l (l[j] :: l.eraseIdx j)
  | [],_,h=>by simp at h
  | a :: l,0,_=>List.Perm.refl _
  | a :: l,j + 1,h=>(List.Perm.cons a (ik (l:=l) (j:=j) (by simpa using h))).trans (List.Perm.swap _ _ _)
theorem GG {α : Type} (next:Nat->Nat) (xs:Array α):(pickOrder next xs).toList.Perm xs.toList:=by
 have:=By next xs.size 0 xs.toList #[] (by rw[Array.length_toList];exact Nat.le_refl _)
 unfold pickOrder
 simpa using this
theorem uV {t:SetTable} {f:Nat->Int} {h:Int}:∀ {fuel:Nat} {p:Probe} {j:Nat} {d:Option Nat},probe.go t f h fuel p=some (.empty j d)->t.slot j = .empty
 | 0,_,_,_,e=>nomatch e
 | fuel + 1,p,j,d,e=>by
  rw[nK] at e
  cases q:t.slot p.j with
  | empty =>
   rw[q] at e
   cases e
   exact q
  | dummy =>
   rw[q] at e
   exact uV e
  | live i =>
   rw[q] at e
   by_cases c:(f i == h)=true
   ·simp only[c,if_true] at e;cases e
   ·simp only[c,if_false] at e;exact uV e
theorem Bz {t:SetTable} (u:Up t.place) {j:Nat} (e:t.slot j = .empty):j∉t.place.toList:=by
 intro hm
 obtain⟨i,hi,ei⟩:=List.mem_iff_getElem.mp hm
 have fz:i < t.place.size:=by rw[<-Array.length_toList];exact hi
 have xy:t.place[i]=j:=by simpa using ei
 obtain⟨h0,h1,h2⟩:=pW u j
 have a:¬ i < below t.place j:=fun z=>by have:=h1 i fz z;omega
 have b:¬ below t.place j < i:=fun z=>by
  have:=h2 (below t.place j) (by omega) (Nat.le_refl _)
  have:=u.lt z fz
  omega
 have eb:below t.place j=i:=by omega
 unfold slot at e
 rw[eb] at e
 have:(t.place[i]? == some j)=true:=by rw[Array.getElem?_eq_getElem fz,xy];simp
 simp only[this,if_true] at e
 cases e
noncomputable def kD (owner:Array (Option Nat)) (k:Nat):Prop:=(owner.toList.filterMap id).Perm (List.range k)
theorem xA:∀ {l:List (Option Nat)} {j k:Nat},l[j]? = some none->((l.set j (some k)).filterMap id).Perm (k :: l.filterMap id)
 | [],j,k,h=>by simp at h
 | x :: l,0,k,h=>by
  simp at h;subst h
  rw[List.set_cons_zero]
  show (k :: l.filterMap id).Perm (k :: l.filterMap id)
  exact List.Perm.refl _
 | x :: l,j + 1,k,h=>by
  simp at h
  rw[List.set_cons_succ]
  cases x with
  | none =>
   show ((l.set j (some k)).filterMap id).Perm (k :: l.filterMap id)
   exact xA h
  | some y =>
   show (y :: (l.set j (some k)).filterMap id).Perm (k :: y :: l.filterMap id)
   exact (List.Perm.cons y (xA h)).trans (List.Perm.swap _ _ _)
theorem GH {owner:Array (Option Nat)} {j k:Nat} (P:kD owner k) (h:owner.toList[j]? = some none):kD (owner.setIfInBounds j (some k)) (k + 1):=by
 unfold kD at P ⊢
 rw[Array.toList_setIfInBounds,List.range_succ]
 exact (xA h).trans ((List.Perm.cons k P).trans (List.perm_append_singleton k _).symm)
theorem GI {m:Nat} {owner:Array (Option Nat)} {k:Nat} (hm:Mk m) (O:Ow m owner k) (Pm:kD owner k) (hk:k <= m) (h:Int):∃ j,layClean.free m owner (turns m) (bits h % (m + 1)) (bits h)=some j/\Ow m (owner.setIfInBounds j (some k)) (k + 1)/\kD (owner.setIfInBounds j (some k)) (k + 1):=by
 obtain⟨e,he,hn⟩:=Br O hk
 obtain⟨n,ij,en⟩:=reach hm (i:=bits h % (m + 1)) (xp h) he
 obtain⟨j,ej,hj⟩:=xr (m:=m) (owner:=owner) n (turns m) (bits h % (m + 1)) (bits h) (by unfold turns;omega) (by rw[en];exact hn)
 refine⟨j,ej,⟨by rw[Array.size_setIfInBounds];exact O.size,?_,fun x hx => ?_⟩,GH Pm (getD_none hj)⟩
 ·rw[Array.toList_setIfInBounds,xt (getD_none hj),O.cnt]
 ·rw[Array.toList_setIfInBounds] at hx
  rcases List.mem_or_eq_of_mem_set hx with h | h
  ·exact Nat.lt_succ_of_lt (O.lt x h)
  ·cases h;exact Nat.lt_succ_self _
theorem BA {m:Nat} (hm:Mk m):∀ (hs:List Int) (owner:Array (Option Nat)) (k:Nat),Ow m owner k->kD owner k->k + hs.length <= m + 1 →
  ∃ aK,(hs.foldl (init:=some (owner,k)) fun acc h=>do
   let (owner,k) <- acc
   let j <- layClean.free m owner (turns m) (bits h % (m + 1)) (bits h)
   pure (owner.setIfInBounds j (some k),k + 1))=some (aK,k + hs.length)/\Ow m aK (k + hs.length)/\kD aK (k + hs.length)
 | [],owner,k,O,Pm,_=>⟨owner,rfl,O,Pm⟩
 | h :: hs,owner,k,O,Pm,hl=>by
  rw[List.length_cons] at hl ⊢
  obtain⟨j,ej,O',P'⟩:=GI hm O Pm (by omega) h
  obtain⟨o2,e2,O2,P2⟩:=BA hm hs _ (k + 1) O' P' (by omega)
  refine⟨o2,?_,by rw[show k + (hs.length + 1)=k + 1 + hs.length by omega];exact⟨O2,P2⟩⟩
  rw[List.foldl_cons,show k + (hs.length + 1)=k + 1 + hs.length by omega,<-e2]
  congr 1
  show (do let j <- layClean.free m owner (turns m) (bits h % (m + 1)) (bits h);pure (owner.setIfInBounds j (some k),k + 1))=_
  rw[ej];rfl
theorem GJ (m:Nat):kD (Array.replicate (m + 1) none) 0:=by
 unfold kD
 rw[Array.toList_replicate,List.filterMap_eq_nil_iff.mpr fun x hx=>by rw[List.eq_of_mem_replicate hx];rfl]
 exact List.Perm.refl _
theorem BB {m:Nat} (hm:Mk m) (hs:Array Int) (hz:hs.size <= m + 1):∃ owner,layClean m hs=some owner/\Ow m owner hs.size/\kD owner hs.size:=by
 obtain⟨o,e,O,Pm⟩:=BA hm hs.toList _ 0 (Bs m) (GJ m) (by rw[Array.length_toList];omega)
 rw[Nat.zero_add,Array.length_toList] at O Pm
 refine⟨o,?_,O,Pm⟩
 unfold layClean
 rw[<-Array.foldl_toList,e];rfl
theorem BC {m:Nat} {owner:Array (Option Nat)} (hs:owner.size=m + 1):(gH m owner).map (·.2)=owner.toList.filterMap id:=by
 unfold gH
 rw[List.map_filterMap]
 have e:owner.toList=(List.range (m + 1)).map fun j=>owner.getD j none:=by
  refine List.ext_getElem? fun i => ?_
  rw[Array.getElem?_toList,List.getElem?_map]
  by_cases hi:i < m + 1
  ·rw[List.getElem?_range hi,Option.map_some,Array.getElem?_eq_getElem (by rw[hs];exact hi),Array.getD_eq_getD_getElem?,Array.getElem?_eq_getElem (by rw[hs];exact hi)];rfl
  ·rw[Array.getElem?_eq_none (by rw[hs];omega),List.getElem?_eq_none (by rw[List.length_range];omega)];rfl
 rw[e,List.filterMap_map]
 congr 1
 funext j
 show Option.map (fun x:Nat × Nat=>x.2) (Option.map (fun x=>(j,x)) (owner.getD j none))=owner.getD j none
 cases owner.getD j none<;>rfl
theorem GK {m:Nat} (hm:Mk m) (t:SetTable) (hs:Array Int) (wanted:Nat) (hw:sizeAbove wanted - 1=m) (hz:hs.size <= m + 1) :
  ∃ t' order,t.relaid hs wanted=some (t',order)/\t'.mask=m/\t'.dummies = #[]/\t'.place.size=hs.size/\t'.led=t.led/\t'.plain=t.plain/\Up t'.place/\order.toList.Perm (List.range hs.size):=by
 obtain⟨owner,e,O,Pm⟩:=BB hm hs hz
 refine⟨{ mask:=m,place:=((gH m owner).map (·.1)).toArray,dummies := #[],finger:=t.finger,led:=t.led,moves:=t.movedTo m,plain:=t.plain },((gH m owner).map (·.2)).toArray,?_,rfl,rfl,?_,rfl,rfl,?_,?_⟩
 ·unfold relaid laid
  rw[hw,e];rfl
 ·rw[List.size_toArray,List.length_map,xu O]
 ·unfold Up
  exact Bx m owner
 ·show ((gH m owner).map (·.2)).Perm _
  rw[BC O.size];exact Pm
theorem GL {order:Array Nat} {n:Nat} (h:order.toList.Perm (List.range n)):coversAll order n=true:=by
 unfold coversAll
 exact List.isPerm_iff.mpr h
end LJS
namespace LJS
open PySem PySem.SetTable PyProof.Rows
noncomputable def keyOf (e:Int × Value):Int:=match e.2 with
 | .int k _=>k
 | _=>0
structure b5 (t:SetTable) (es:Array (Int × Value)) (led:Bool) (ks:List Int):Prop where
 kB:t.dummies = #[]
 kC:Mk t.mask
 gB:t.place.size=es.size
 g_:t.tooFull=false
 up:Up t.place
 rH:t.plain=true
 xB:t.led=led
 uW:∀ e∈es.toList,∃ k tk,e=(hashInt k,Value.int k tk)
 keys:(es.toList.map keyOf).Perm ks
 lb:ks.Nodup
noncomputable def d4 (h:Heap) (S:Addr) (led:Bool) (ks:List Int):Prop:=∃ o es ep t,h.get? S=some o/\o.ExactSet/\o.data = .set es ep t/\b5 t es led ks
section
variable {t:SetTable} {es:Array (Int × Value)} {led:Bool} {ks:List Int}
theorem b5.num (T:b5 t es led ks):es.size=ks.length:=by rw[<-T.keys.length_eq,List.length_map,Array.length_toList]
theorem b5.fill (T:b5 t es led ks):t.fill=es.size:=by unfold SetTable.fill;rw[T.gB,T.kB];rfl
theorem b5.lt (T:b5 t es led ks):es.size * 5 < t.mask * 3:=by
 have:=T.g_
 unfold tooFull at this
 rw[T.fill] at this
 have:=of_decide_eq_false this
 omega
theorem b5.fits (T:b5 t es led ks):t.fits es.size=true:=by
 have:=T.lt
 unfold SetTable.fits
 rw[T.fill,T.gB]
 simp
 omega
theorem b5.elems {prog:Program} {w:World} (T:b5 t es led ks):ElemsOf (intKind prog w) es.toList:=fun e he=>by
 obtain⟨k,tk,rfl⟩:=T.uW e he
 exact⟨⟨k,intKind_is ..,rfl⟩,rfl⟩
theorem b5.lay (T:b5 t es led ks) (k:Int) (tk:Tok):∃ j,j∉t.place.toList/\layNew t es (hashInt k) (.int k tk)=(insertAt es (t.put j).2 (hashInt k,.int k tk),(t.put j).1,false,false):=by
 have lt:=T.lt
 obtain⟨j,ej⟩:=Bq (t:=t) (f:=fun _=>hashInt k + 1) (h:=hashInt k) T.kB T.kC (by rw[T.gB];omega) (fun i _ z=>by omega)
 have hs:t.slot j = .empty:=uV ej
 obtain⟨p1,p2,p3,_⟩:=xv t T.kB j
 refine⟨j,Bz T.up hs,?_⟩
 have ff:(t.put j).1.fits (insertAt es (t.put j).2 (hashInt k,Value.int k tk)).size=true:=by
  unfold SetTable.fits SetTable.fill
  rw[p1,p2,p3,xw,T.gB]
  simp
  omega
 unfold layNew freeSlot
 rw[ej]
 show (insertAt es (t.put j).2 (hashInt k,Value.int k tk),(t.put j).1.orStandIn (insertAt es (t.put j).2 (hashInt k,Value.int k tk)).size,false,!(t.put j).1.fits (insertAt es (t.put j).2 (hashInt k,Value.int k tk)).size)=_
 unfold SetTable.orStandIn
 rw[ff,if_pos rfl];rfl
end
section
variable {prog:Program} {w:World} {A:Around} {E:Value->Shared->Prop} {s:Shared}
theorem add_int {S:Addr} {k:Int} {tk:Tok} {led:Bool} {ks:List Int} {Q:Bool->Shared->Prop} (hS:d4 s.heap S led ks) (hl:ks.length < 60)
  (fin:∀ (b:Bool) h',Heap.SameBut S s.heap h'->d4 h' S led (if k∈ks then ks else ks ++ [k])->Q b { s with heap:=h' }):wpAny (model prog w) A (setAddHashed S (.int k tk) (hashInt k)) Q E s:=by
 obtain⟨o,es,ep,t,ho,hex,hd,T⟩:=hS
 have hb:es.size < scanBound:=by rw[T.num];unfold scanBound;omega
 have el:=T.elems (prog:=prog) (w:=w)
 unfold setAddHashed
 refine wpAny_holding ?_
 show wpAny _ _ (setAddHashedIn S (.int k tk) (hashInt k) (99999 + 1)) _ _ _
 unfold setAddHashedIn
 refine wpAny_bind (wpAny_setState_of ho hd T.fits ?_)
 dsimp only
 rw[byScan_of (knd:=intKind prog w) rfl hb el]
 simp only[↓reduceIte]
 unfold setAddByScan
 refine wpAny_bind ?_
 refine wpAny_bind (wpAny_rule ?_)
 refine wpAny_bind (wpAny_setScan_of (knd:=intKind prog w) (k:=k) (intKind_is ..) ho hd T.fits el ?_)
 have BE:∀ e∈es.toList,(intKind prog w).is k e.2=decide (k=keyOf e):=fun e he=>by
  obtain⟨k',pX,rfl⟩:=T.uW e he
  exact KeyKind.is_eq_decide (intKind_is ..) k
 cases hr:es.toList.findIdx? (fun e=>(intKind prog w).is k e.2) with
 | some j =>
  obtain⟨hj,BF,_⟩:=List.findIdx?_eq_some_iff_getElem.mp hr
  have hm:es.toList[j]∈es.toList:=List.getElem_mem hj
  rw[BE _ hm] at BF
  have hk:k∈ks:=T.keys.mem_iff.mp (by rw[of_decide_eq_true BF];exact List.mem_map.mpr ⟨_,hm,rfl⟩)
  dsimp only
  refine wpAny_pure (wpAny_pure ?_)
  have e:s={ s with heap:=s.heap }:=by cases s;rfl
  rw[e]
  exact fin false s.heap (Heap.SameBut.refl S s.heap) (by rw[if_pos hk];exact⟨o,es,ep,t,ho,hex,hd,T⟩)
 | none =>
  have hk:k∉ks:=fun z=>by
   obtain⟨e,he,ek⟩:=List.mem_map.mp (T.keys.mem_iff.mpr z)
   have:=List.findIdx?_eq_none_iff.mp hr e he
   rw[BE e he,<-ek,decide_eq_true rfl] at this
   cases this
  dsimp only
  obtain⟨j,nj,ej⟩:=T.lay k tk
  rw[ej]
  rw[if_neg hk] at fin
  obtain⟨p1,p2,p3,p4,p5,p6,p7⟩:=xv t T.kB j
  have up1:=Bw T.up nj
  have gm:=xw es (t.put j).2 (hashInt k,Value.int k tk)
  have mG:(insertAt es (t.put j).2 (hashInt k,Value.int k tk)).toList.Perm (es.toList ++ [(hashInt k,Value.int k tk)]):=by
   have:=SetTable.insertAt_perm es (t.put j).2 (hashInt k,Value.int k tk)
   rw[Array.toList_push] at this
   exact this
  have lt:=T.lt
  have GP:es.size < 60:=by rw[T.num];exact hl
  generalize (t.put j).1=t2 at p1 p2 p3 p4 p5 up1 ⊢
  generalize insertAt es (t.put j).2 (hashInt k,Value.int k tk)=bx at gm mG ⊢
  have ints2:∀ e∈bx.toList,∃ k tk,e=(hashInt k,Value.int k tk):=fun e he=>by
   rcases List.mem_append.mp (mG.mem_iff.mp he) with q | q
   ·exact T.uW e q
   ·exact⟨k,tk,List.mem_singleton.mp q⟩
  have mH:(bx.toList.map keyOf).Perm (ks ++ [k]):=by
   refine (mG.map keyOf).trans ?_
   rw[List.map_append]
   exact List.Perm.append_right _ T.keys
  have jG:(ks ++ [k]).Nodup:=List.nodup_append.mpr ⟨T.lb,by simp,fun a ha b hb z=>hk (by rw[<-List.mem_singleton.mp hb,<-z];exact ha)⟩
  have xC:t2.place.size=bx.size:=by rw[p3,T.gB,gm]
  have fl:t2.fill=es.size + 1:=by unfold SetTable.fill;rw[p1,p3,T.gB];rfl
  have mI:t2.fits bx.size=true:=by
   unfold SetTable.fits
   rw[fl,p3,gm,p2,T.gB]
   simp
   rcases T.kC with e | e | e<;>rw[e] at lt ⊢ <;> omega
  refine wpAny_bind (wpAny_pure ?_)
  dsimp only
  rw[p5,T.rH,if_pos rfl]
  refine wpAny_bind ?_
  rw[hashByValue_scannable 8 rfl]
  refine wpAny_pure ?_
  rw[if_pos (show plainKind (Value.int k tk)=true from rfl)]
  refine wpAny_bind (wpAny_storeSet_of ho hd ?_ (by rw[gm,sizeLine_eq];omega))
  have hC:(s.heap.update S (Obj.putSet bx t2)).get? S=some { o with data := .set bx (ep + 1) t2 }:=by
   have:=Heap.get?_update_self (Obj.putSet bx t2) ho (by rw[putSet_of bx t2 hd];rfl)
   rw[putSet_of bx t2 hd] at this;exact this
  by_cases tf:t2.tooFull=true
  ·rw[if_pos (by rw[tf];rfl)]
   have nL:t.mask * 3 <= (es.size + 1) * 5:=by
    unfold tooFull at tf
    rw[fl,p2] at tf
    have:=of_decide_eq_true tf
    omega
   obtain⟨m,hm,hw,hsz⟩:∃ m,Mk m/\sizeAbove (grown bx.size) - 1=m/\(es.size + 1) * 5 < m * 3:=by
    rw[gm]
    rcases T.kC with e | e | e
    ·rw[e] at lt nL
     have:es.size + 1=5:=by omega
     rw[this]
     exact⟨31,.inr (.inl rfl),Bu,by omega⟩
    ·rw[e] at lt nL
     have:es.size + 1=19:=by omega
     rw[this]
     exact⟨127,.inr (.inr rfl),Bv,by omega⟩
    ·rw[e] at nL;omega
   obtain⟨t3,order,er,r1,r2,r3,r4,r5,r6,r7⟩:=GK hm t2 (bx.map (·.1)) (grown bx.size) hw (by rw[Array.size_map,gm];omega)
   rw[Array.size_map] at r3 r7
   have rJ:=relayAll_perm t2 bx (grown bx.size)
   have e3:relayAll t2 bx (grown bx.size)=(order.filterMap (bx[·]?),t3,false):=by
    have GQ:(order.filterMap (bx[·]?)).size=bx.size:=by
     have:=Bt (es:=bx) (order:=order) fun x hx=>List.mem_range.mp (r7.mem_iff.mp hx)
     rw[this.1,<-Array.length_toList,r7.length_eq,List.length_range]
    have ff:t3.fits (order.filterMap (bx[·]?)).size=true:=by
     unfold SetTable.fits SetTable.fill
     rw[GQ,r2,r3,r1,gm]
     simp
     omega
    unfold relayAll
    rw[er]
    show (if (coversAll order bx.size && t3.fits (order.filterMap (bx[·]?)).size)=true then _ else _)=_
    rw[GL r7,ff];rfl
   rw[e3] at rJ ⊢
   refine wpAny_bind (wpAny_pure ?_)
   dsimp only
   generalize order.filterMap (bx[·]?)=uX at rJ ⊢
   have BG:uX.size=bx.size:=by rw[<-Array.length_toList,rJ.length_eq,Array.length_toList]
   refine wpAny_bind (wpAny_storeSet_of hC rfl ?_ (by rw[BG,gm,sizeLine_eq];omega))
   have g6:((s.heap.update S (Obj.putSet bx t2)).update S (Obj.putSet uX t3)).get? S=some { o with data := .set uX (ep + 1 + 1) t3 }:=by
    have:=Heap.get?_update_self (Obj.putSet uX t3) hC (by rw[putSet_of _ t3 rfl];rfl)
    rw[putSet_of _ t3 rfl] at this;exact this
   refine wpAny_pure (wpAny_pure (fin true _ ((Heap.SameBut.update ..).trans (Heap.SameBut.update ..)) ⟨_,_,_,_,g6,hex,rfl,r2,by rw[r1];exact hm,by rw[r3,BG],?_,r6,by rw[r5,p5];exact T.rH,by rw[r4,p4];exact T.xB,fun e he=>ints2 e (rJ.mem_iff.mp he),(rJ.map keyOf).trans mH,jG⟩))
   unfold tooFull SetTable.fill
   rw[r2,r3,r1,gm]
   simp
   omega
  ·have rK:t2.tooFull=false:=by cases q:t2.tooFull<;>simp_all
   rw[if_neg (by rw[rK];decide)]
   refine wpAny_pure (wpAny_pure (fin true _ (Heap.SameBut.update ..) ⟨_,_,_,_,hC,hex,rfl,p1,by rw[p2];exact T.kC,xC,rK,up1,by rw[p5];exact T.rH,by rw[p4];exact T.xB,ints2,mH,jG⟩))
theorem BH {ks:List Int}:∀ {vs:List Value},ItemsAre (intKind prog w) ks vs->∀ v∈vs,∃ i t,v = .int i t:=by
 induction ks with
 | nil=>intro vs h v hv;cases h;cases hv
 | cons k ks ih =>
  intro vs h v hv
  cases h with
  | cons h1 h2 =>
   rcases List.mem_cons.mp hv with rfl | hv
   ·obtain⟨t,e⟩:=Value.isInt_shape (k:=k) (v:=v) (by first | exact h1 | simpa [intKind] using h1)
    exact⟨_,_,e⟩
   ·exact ih h2 v hv
theorem GR {ks:List Int} {a:Addr} {Q:Bool->Shared->Prop} (hk:IsTupleKey (intKind prog w) s.heap ks a) (h:∀ b,Q b s):wpAny (model prog w) A (hashByValue 8 (.ref a)) Q E s:=by
 have hT:=hk.typeIs
 obtain⟨o,ag,n,ho,_,hd,hi⟩:=hk
 show wpAny _ _ (hashByValue (7 + 1) (.ref a)) _ _ _
 unfold hashByValue
 refine wpAny_bind (wpAny_specialOf hT F.slot_tuple_hash.lookup ?_)
 show wpAny _ _ (seqItems? (.ref a) >>= _) _ _ s
 refine wpAny_bind (wpAny_seqItems ho hd ?_)
 refine wpAny_bind ?_
 show wpAny _ _ (forIn ag _ _) _ _ s
 rw[<-Array.forIn_toList]
 refine wpAny_forIn_list _ (fun rest _ s'=>s'=s/\∀ v∈rest,∃ i t,v=Value.int i t) _ ?_ ?_ _ _ ⟨rfl,BH hi⟩
 ·rintro v rest r s' ⟨rfl,fL⟩
  obtain⟨i,t,rfl⟩:=fL v List.mem_cons_self
  have e:hashByValue 7 (.int i t)=pure true:=by unfold hashByValue;rfl
  rw[e]
  refine wpAny_bind (wpAny_pure ?_)
  simp only[Bool.not_true,Bool.false_eq_true,if_false]
  exact wpAny_pure ⟨rfl,fun u hu=>fL u (List.mem_cons_of_mem _ hu)⟩
 ·rintro ⟨r1,r2⟩ s' ⟨rfl,_⟩
  cases r1 with
  | none=>exact wpAny_pure (h _)
  | some b=>exact wpAny_pure (h _)
theorem xD {h h':Heap} {ks:List Int} {a:Addr} (x:IsTupleKey (intKind prog w) h ks a) (k:∀ o,h.get? a=some o->h'.get? a=some o):IsTupleKey (intKind prog w) h' ks a:=by
 obtain⟨o,ag,n,ho,r⟩:=x
 exact⟨o,ag,n,k o ho,r⟩
noncomputable abbrev hT (prog:Program) (w:World) (ks:List Int):Int:=tupleKeyHash (intKind prog w) ks
theorem GS {h h':Heap} {S:Addr} {hs:List Int} (x:jF h S hs) (k:∀ o,h.get? S=some o->h'.get? S=some o):jF h' S hs:=by
 obtain⟨o,es,ep,t,ho,r⟩:=x
 exact⟨o,es,ep,t,k o ho,r⟩
end
section
variable {prog:Program} {w:World} {A:Around} {R:Result->Shared->Prop} {I S:Addr} {fp wr:List Addr} {G:Array GenState->Array GenState->Prop} {n:Nat} {P:Nat->Value->Prop} {St:Nat->Shared->Prop}
end
theorem xE {h h':Heap} {S:Addr} {led:Bool} {ks:List Int} (x:d4 h S led ks) (k:∀ o,h.get? S=some o->h'.get? S=some o):d4 h' S led ks:=by
 obtain⟨o,es,ep,t,ho,r⟩:=x
 exact⟨o,es,ep,t,k o ho,r⟩
noncomputable def once (ks:List Int) (n:Int):List Int:=if n∈ks then ks else ks ++ [n]
noncomputable def jf (ns:List Int):Nat->List Int
 | 0=>[]
 | i + 1=>once (jf ns i) (ns.getD i 0)
theorem xF (ns:List Int):∀ i,(jf ns i).length <= i
 | 0=>Nat.le_refl _
 | i + 1=>by
  have:=xF ns i
  show (once (jf ns i) (ns.getD i 0)).length <= i + 1
  unfold once
  split
  ·omega
  ·rw[List.length_append,List.length_singleton];omega
section
variable {prog:Program} {w:World} {A:Around} {R:Result->Shared->Prop} {I S:Addr} {fp wr:List Addr} {G:Array GenState->Array GenState->Prop} {n:Nat} {P:Nat->Value->Prop} {St:Nat->Shared->Prop}
theorem GU (W:WalksS prog w A.in1 I fp wr G n P St) (out:S∉fp) {led:Bool} (ns:List Int) (isInt:∀ i v,P i v->∃ t,v = .int (ns.getD i 0) t) (lg:n <= 40) :
  ∀ (left i:Nat) (s:Shared),i + left=n->St i s->d4 s.heap S led (jf ns i)->(∀ s',Moved (S :: wr) G s s'->d4 s'.heap S led (jf ns n)->R (.ok (.ret .none)) s') →
   codeAny (model prog w) A (.builtin "set.update.loop" ⟨[.ref S,.ref I],[]⟩) R s:=by
 have jH:S∉wr:=fun z=>out (W.sub _ z)
 have more:∀ b,b∈wr->b∈S :: wr:=fun b hb=>List.mem_cons_of_mem _ hb
 intro left
 induction left with
 | zero =>
  intro i s hi st se fin
  obtain rfl:i=n:=by omega
  refine codeAny_builtin F.entry_set_update_loop ?_
  rw[Around.under_plainId F.plain_set_update_loop _]
  show wpAny _ A.in1 (pyNext (.ref I) >>= _) _ _ s
  refine wpAny_bind (W.done s _ _ st fun s' mv => ?_)
  show wpAny _ A.in1 (ret Value.none) _ _ s'
  exact wpAny_pure (fin s' (mv.mono more) (xE se fun o e=>mv.heap S o jH e))
 | succ left ih =>
  intro i s hi st se fin
  have c_:i < n:=by omega
  refine codeAny_builtin F.entry_set_update_loop ?_
  rw[Around.under_plainId F.plain_set_update_loop _]
  show wpAny _ A.in1 (pyNext (.ref I) >>= _) _ _ s
  refine wpAny_bind (W.item i s _ _ c_ st fun v s1 hP jI mv => ?_)
  obtain⟨t,rfl⟩:=isInt i v hP
  show wpAny _ A.in1 (holding [Value.int (ns.getD i 0) t] (setAdd S (.int (ns.getD i 0) t)) >>= _) _ _ s1
  refine wpAny_bind (wpAny_holding ?_)
  unfold setAdd
  refine wpAny_holding (wpAny_bind ((intKind prog w).pyHash (k:=ns.getD i 0) (intKind_is _ _ _ _) ?_))
  have hlen:=xF ns i
  refine add_int (s:={ s1 with toks:=s1.toks + 1 }) (xE se fun o e=>mv.heap S o jH e) (by omega) fun b h2 sb xG => ?_
  have nS:∀ b,b∈fp->b≠S:=fun b hb z=>out (by rw[<-z];exact hb)
  refine wpAny_pure ⟨plainId_quiet F.plain_set_update_loop _,ih (i + 1) _ (by omega) (W.frame _ s1 _ _ jI (Nat.le_add_right _ _) fun b hb o e=>by rw[sb.2 b (nS b hb)];exact e) xG fun s3 xH xI => ?_⟩
  refine fin s3 (Moved.trans W.gtrans ((mv.mono more).then_heap (Nat.le_add_right _ _) fun b o hb e => ?_) xH) xI
  rw[sb.2 b (fun z=>hb (by rw[z];exact List.mem_cons_self))];exact e
end
noncomputable abbrev b6 (led:Bool):Obj:={ cls := .type "set",dict:=none,data := .set #[] 0 (.fresh 0 0 led) }
section
variable {prog:Program} {w:World} {A:Around} {E:Value->Shared->Prop} {s:Shared}
end
noncomputable abbrev gI (w:World):Bool := !w.params.followText "set-order"
theorem GV {h:Heap} {S:Addr} {led:Bool} (e:h.get? S=some (b6 led)):d4 h S led [] :=
 ⟨_,#[],0,_,e,⟨rfl,rfl,rfl⟩,rfl,rfl,.inl rfl,rfl,by cases led<;>decide,List.Pairwise.nil,rfl,rfl,(fun _ h=>nomatch h),List.Perm.refl _,List.nodup_nil⟩
section
variable {prog:Program} {w:World} {A:Around} {E:Value->Shared->Prop} {s:Shared}
theorem GW (a:Value) {Q₁ : Value->Shared->Prop} (h:Q₁ (.ref s.heap.objs.size) { s with heap:=s.heap.push (b6 (gI w)) }) :
  codeAny (model prog w) A (.call (.builtin "set.__new__") ⟨[.type "set",a],[]⟩) (wants Q₁ E) s:=by
 refine codeAny_of_tree ?_
 show wpAny _ A.in1 (checkBuiltinCall "set.__new__" ⟨[.type "set",a],[]⟩ >>= fun _=>again (.builtin "set.__new__" ⟨[.type "set",a],[]⟩)) _ _ s
 refine wpAny_bind (wpAny_of_eq (F.newCall_set_1 a) (wpAny_pure ⟨plainId_quiet F.plain_set_new _,?_⟩))
 refine codeAny_builtin F.entry_set_new ?_
 rw[Around.under_plainId F.plain_set_new _]
 have x1:=sub_set_self
 unfold Builtin.«set.__new__» Builtin.Frozenset.newClass newSet setsByText
 obtain⟨hp,g,d,tk,os⟩:=s
 dsimp only
 wp_walk
 refine wpAny_askSetting (wpAny_pure ?_)
 dsimp only
 simp only[newObj]
 exact wpAny_bind (wpAny_alloc (wpAny_pure (wpAny_pure h)))
set_option maxHeartbeats 3200000 in
theorem GX {l:Addr} {items:Array Value} {Q:Value->Shared->Prop} (ns:List Int) (hh:A.handled=none) (xJ:s.heap.IsList l items) (isInt:∀ (i:Nat) (v:Value),items[i]? = some v->∃ t,v = .int (ns.getD i 0) t) (BI:items.size <= 40)
  (fin:∀ (h':Heap) (tk:Nat),d4 h' s.heap.objs.size (gI w) (jf ns items.size)->(∀ b o,b < s.heap.objs.size->s.heap.get? b=some o->h'.get? b=some o)->Q (.ref s.heap.objs.size) { s with heap:=h',toks:=tk }) :
  wpAny (model prog w) A (call (.type "set") [.ref l]) Q E s:=by
 obtain⟨c,tl,xK⟩:=F.called_set.mro
 have m1:=F.called_set.made
 have m2:=F.called_set.sub
 have m3:=F.called_set.notType
 have m4:=F.called_set.canCreate
 have m5:=F.typeCall_set_1 (.ref l)
 refine wpAny_call (codeAny_of_tree ?_)
 show wpAny _ _ (callAny (.type "set") _) _ _ _
 refine wpAny_pure ⟨Code.quiet_builtin _ (by decide +kernel),codeAny_builtin F.entry_type_call ?_⟩
 rw[Around.under_plain (weight_type_call_type "set" [.ref l] []) rfl]
 repeat (any_goals (first | assumption | wp_step))
 refine codeAny_mono (GW (.ref l) (E:=E) (Q₁ := fun r s1=>r = .ref s.heap.objs.size/\s1={ s with heap:=s.heap.push (b6 (gI w)) }) ⟨rfl,rfl⟩) fun r s1 hr => ?_
 cases r with
 | error e=>exact hr
 | ok fl =>
  cases fl with
  | ret obj =>
   obtain⟨rfl,rfl⟩:=hr
   generalize GY:gI w=led at fin ⊢
   have gS:(s.heap.push (b6 led)).get? s.heap.objs.size=some (b6 led):=Heap.get?_push_size _ rfl
   have tS:Shared.TypeIs { s with heap:=s.heap.push (b6 led) } (.ref s.heap.objs.size) "set" := ⟨_,gS,rfl⟩
   have m6:=F.called_set.init.lookup
   have m7:=F.called_set.init.bind (.ref s.heap.objs.size)
   repeat (any_goals (first | assumption | wp_step))
   refine codeAny_mono (codeAny_call_builtin (R:=wants (fun r s2=>r = .none/\∃ h' tk,s2={ s with heap:=h',toks:=tk }/\d4 h' s.heap.objs.size led (jf ns items.size) ∧
     ∀ b o,b < s.heap.objs.size->s.heap.get? b=some o->h'.get? b=some o) E) F.called_set.init.plain F.entry_set_init (check_set_init_1 tS ?_)) fun r2 s2 jJ => ?_
   ·obtain⟨ol,gl,cl,nl,dl⟩:=xJ
    obtain⟨c0,d0,GZ,xM⟩:=ol
    simp only at cl dl
    subst cl
    subst dl
    have xN:(s.heap.push (b6 led)).get? l=some { cls := .type "list",dict:=d0,data := .seq items nl,slots:=xM }:=Heap.get?_push_of_some _ gl
    have x1:=F.sub_list_set
    have x2:=F.sub_list_frozenset
    have x3:(Value.type "list" == Value.type "dict")=false:=by decide
    have jK:(s.heap.push (b6 led)).IsList l items:=⟨_,xN,rfl,nl,rfl⟩
    have ll:l < s.heap.objs.size:=Heap.lt_size gl
    unfold Builtin.«set.__init__» noKeywords Builtin.Frozenset.updateFrom
    generalize xO:pyIter=PI
    wp_walk
    subst xO
    refine wpAny_pyIter_list jK (wpAny_bind (wpAny_runValue ?_))
    have h3:A.in1.in1.in1.handled=none:=by simp[hh]
    have ez:(s.heap.push (b6 led)).objs.size=s.heap.objs.size + 1:=Heap.size_push ..
    have nI:l≠(s.heap.push (b6 led)).objs.size:=by rw[ez];exact Nat.ne_of_lt (Nat.lt_succ_of_lt ll)
    refine GU ((Walks.list h3 _ l nI items).toS) (S:=s.heap.objs.size) ?out (led:=led) ns (fun i v hv=>isInt i v hv) BI items.size 0 _ (Nat.zero_add _)
     ⟨⟨_,Heap.get?_push_size _ rfl,rfl,rfl⟩,jK.push _⟩ ?fresh ?fin
    case out =>
     simp only[List.mem_cons,List.not_mem_nil,or_false,not_or,ez]
     exact⟨Nat.ne_of_lt (Nat.lt_succ_self _),Nat.ne_of_gt ll⟩
    case fresh =>
     exact GV (led:=led) (Heap.get?_push_of_some _ gS)
    case fin =>
     intro s' mv se
     obtain⟨h',g',d',pX,rL⟩:=s'
     obtain rfl:g'=s.gens:=mv.gens
     obtain rfl:d'=s.drawn:=mv.drawn
     obtain rfl:rL=s.os:=mv.os
     show wpAny _ _ _ _ _ _
     refine wpAny_pure ?_
     show wpAny _ _ (ret Value.none) _ _ _
     refine wpAny_pure ⟨rfl,h',pX,rfl,se,fun b o hb e => ?_⟩
     refine mv.heap b o ?_ (Heap.get?_push_of_some _ (Heap.get?_push_of_some _ e))
     simp only[List.mem_cons,List.not_mem_nil,or_false,not_or,ez]
     exact⟨Nat.ne_of_lt hb,Nat.ne_of_lt (Nat.lt_succ_of_lt hb)⟩
   ·cases r2 with
    | error e=>exact jJ
    | ok xP =>
     cases xP with
     | ret r =>
      obtain⟨rfl,h',pX,rfl,se,kp⟩:=jJ
      repeat (any_goals (first | assumption | wp_step))
      exact fin _ _ se kp
     | next=>exact jJ
     | brk=>exact jJ
     | cont=>exact jJ
  | next=>exact hr
  | brk=>exact hr
  | cont=>exact hr
end
theorem aF:Slot "set_iterator" "__next__" "set_iterator.__next__" :=
 .of (owner := "set_iterator") (n := "__next__") (by rw[typeLookup_type,builtinLookup_eq_fast];kernel_rfl) (by decide +kernel) (by decide +kernel) (by decide +kernel)
  (by first | exact .inl (by decide +kernel) | exact .inr (by decide +kernel)) (by rw[isSubtype_type];kernel_rfl)
theorem BJ:Slot "set_iterator" "__iter__" "set_iterator.__iter__" :=
 .of (owner := "set_iterator") (n := "__iter__") (by rw[typeLookup_type,builtinLookup_eq_fast];kernel_rfl) (by decide +kernel) (by decide +kernel) (by decide +kernel)
  (by first | exact .inl (by decide +kernel) | exact .inr (by decide +kernel)) (by rw[isSubtype_type];kernel_rfl)
theorem BK:entryFor table "set_iterator.__next__" = some Builtin.«set_iterator.__next__» := entryFor_of_fast (by kernel_rfl)
theorem G0:entryFor table "set_iterator.__iter__" = some Builtin.«dict_keyiterator.__iter__» :=
 entryFor_alias (id' := "dict_keyiterator.__iter__") (by kernel_rfl) rfl (by decide +kernel) (by kernel_rfl)
theorem G1:entryFor table "set.__iter__" = some Builtin.«frozenset.__iter__» :=
 entryFor_alias (id' := "frozenset.__iter__") (by kernel_rfl) rfl (by decide +kernel) (by kernel_rfl)
theorem BL (a:Value):argsOk "set_iterator.__next__" ⟨[a],[]⟩:=by unfold argsOk;kernel_rfl
theorem G2 (a:Value):argsOk "set_iterator.__iter__" ⟨[a],[]⟩:=by unfold argsOk;kernel_rfl
noncomputable def bB (h:Heap) (I S:Addr) (first:Value) (i n ep:Nat):Prop:=∃ o,h.get? I=some o/\o.cls = .type "set_iterator" /\ o.data = .fields #[first,.int i 0,.ref S,.int n 0,.int ep 0]
theorem bB.typeIs {s:Shared} {I S:Addr} {f:Value} {i n ep:Nat} (x:bB s.heap I S f i n ep):s.TypeIs (.ref I) "set_iterator" := let ⟨o,ho,hc,_⟩:=x; ⟨o,ho,hc⟩
theorem bB.at {h h':Heap} {I S:Addr} {f:Value} {i n ep:Nat} (x:bB h I S f i n ep) (e:∀ o,h.get? I=some o->h'.get? I=some o):bB h' I S f i n ep:=let ⟨o,ho,r⟩:=x; ⟨o,e _ ho,r⟩
noncomputable def gC (w:World) (S:Addr) (ep:Nat) (es:Array (Int × Value)):Array (Int × Value):=if w.params.followText "set-order" = true then pickOrder (w.params.setOrder S ep) es else es
theorem xQ (w:World) (S:Addr) (ep:Nat) (es:Array (Int × Value)):(gC w S ep es).toList.Perm es.toList:=by
 unfold gC
 split
 ·exact GG _ _
 ·exact List.Perm.refl _
theorem uY (w:World) (S:Addr) (ep:Nat) (es:Array (Int × Value)):(gC w S ep es).size=es.size:=by
 have:=(xQ w S ep es).length_eq
 simpa using this
noncomputable def slotAt (t:SetTable) (i:Nat):Nat:=if i=0 then 0 else t.place.getD (i - 1) 0 + 1
structure xR (w:World) (I S:Addr) (o:Obj) (es:Array (Int × Value)) (ep:Nat) (t:SetTable) (i:Nat) (h:Heap):Prop where
 set:h.get? S=some o
 it:∃ slot:Nat,bB h I S (.int slot 0) i es.size ep/\(w.params.followText "set-order" = false->slot=slotAt t i)
section
variable {prog:Program} {w:World} {A:Around} {I S:Addr} {o:Obj} {es:Array (Int × Value)} {ep:Nat} {t:SetTable} {ks:List Int}
theorem G3 (T:b5 t es (gI w) ks) {i:Nat} (hi:i <= es.size):below t.place (slotAt t i)=i:=by
 unfold slotAt
 split
 ·rename_i h;subst h;exact GA T.up
 ·rename_i h
  have hl:i - 1 < t.place.size:=by rw[T.gB];omega
  have e:t.place.getD (i - 1) 0=t.place[i - 1]:=by simp[Array.getD,hl]
  rw[e,Gz T.up hl];omega
theorem BM {E:Value->Shared->Prop} {s:Shared} {Q:Option (Value × Nat)->Shared->Prop} (ho:s.heap.get? S=some o) (hd:o.data = .set es ep t) (T:b5 t es (gI w) ks) {slot i:Nat} (hi:i <= es.size) (hs:w.params.followText "set-order" = false->slot=slotAt t i)
  (k:∀ nM:Nat,(w.params.followText "set-order" = false->i < es.size->nM=slotAt t (i + 1))->Q (((gC w S ep es)[i]?).map fun e=>(e.2,nM)) s):wpAny (model prog w) A (setNext S slot i ep) Q E s:=by
 unfold setNext
 refine wpAny_bind (wpAny_setState_of ho hd T.fits ?_)
 dsimp only
 refine wpAny_bind ?_
 unfold setsByText
 refine wpAny_bind (wpAny_askSetting (wpAny_pure ?_))
 dsimp only
 have mw:(model prog w).w=w:=rfl
 cases q:w.params.followText "set-order" with
 | true =>
  rw[mw,q]
  simp only[bne_self_eq_false,Bool.false_eq_true,if_false,if_true]
  refine wpAny_bind ?_
  unfold setWalk
  refine wpAny_bind (wpAny_setState_of ho hd T.fits ?_)
  dsimp only
  refine wpAny_bind ?_
  unfold setsByText
  refine wpAny_bind (wpAny_askSetting (wpAny_pure ?_))
  dsimp only
  rw[mw,q,if_pos rfl]
  refine wpAny_bind (wpAny_askSetting (wpAny_pure ?_))
  refine wpAny_pure ?_
  have:=k slot fun z=>by rw[q] at z;cases z
  unfold gC at this
  rw[if_pos q] at this
  exact this
 | false =>
  rw[mw,q,if_neg (by decide)]
  have xS:=hs q
  subst xS
  have hb:=G3 T hi
  rw[hb]
  refine wpAny_ite_split (fun h=>absurd (show (!t.plain && decide (es.size > 1))=true from h) (by rw[T.rH];simp)) (fun _ => ?_)
  refine wpAny_bind ?_
  refine wpAny_ite_split (c:=(!t.led && !es.isEmpty)=true) (fun h=>absurd h (by rw[T.xB];unfold gI;rw[q];simp)) (fun _ => ?_)
  refine wpAny_pure (wpAny_pure ?_)
  have hk:=k (slotAt t (i + 1)) fun _ _=>rfl
  unfold gC at hk
  rw[if_neg (by rw[q];decide)] at hk
  by_cases hl:i < es.size
  ·have hp:i < t.place.size:=by rw[T.gB];exact hl
   rw[Array.getElem?_eq_getElem hl] at hk
   rw[Array.getElem?_eq_getElem hl,Array.getElem?_eq_getElem hp]
   have e:slotAt t (i + 1)=t.place[i] + 1:=by
    unfold slotAt
    rw[if_neg (by omega),Nat.add_sub_cancel]
    simp[Array.getD,hp]
   rw[e] at hk
   exact hk
  ·rw[Array.getElem?_eq_none (by omega)] at hk
   rw[Array.getElem?_eq_none (by omega)]
   exact hk
theorem BN {E:Value->Shared->Prop} {s:Shared} {a:Addr} {ob:Obj} {vs:Array Value} {Q:Array Value->Shared->Prop} (ho:s.heap.get? a=some ob) (hd:ob.data = .fields vs) (h:Q vs s):wpAny (model prog w) A (fieldsOf (.ref a)) Q E s:=by
 unfold fieldsOf
 refine wpAny_bind (wpAny_load ho ?_)
 rw[hd];exact wpAny_pure h
theorem G4 (hh:A.handled=none) (iM:S≠I) (hex:o.ExactSet) (hd:o.data = .set es ep t) (T:b5 t es (gI w) ks) :
  Walks prog w A I [I,S] [I] es.size (fun i v=>∃ e,(gC w S ep es)[i]? = some e/\v=e.2) (xR w I S o es ep t) where
 sub:=fun b hb=>by simp at hb;simp[hb]
 frame:=fun i h h' st hk=>⟨hk S (by simp) _ st.set,let ⟨slot,x,y⟩:=st.it; ⟨slot,x.at fun o e=>hk I (by simp) o e,y⟩⟩
 item:=fun i s Q E hi st hQ=>by
  obtain⟨slot,hit,hs⟩:=st.it
  obtain⟨oi,pY,hc,nN⟩:=id hit
  unfold pyNext
  refine wpAny_bind (wpAny_attempt (wpAny_callSpecial?_slot (name:=Str.ofString "__next__") hit.typeIs aF
   (wpAny_call_entry aF hit.typeIs BK ?_ (BL _))))
  unfold Builtin.«set_iterator.__next__»
  refine wpAny_bind (m:=slotArgs _ _ _) (wpAny_pure ?_)
  refine wpAny_bind (BN pY nN ?_)
  dsimp only
  refine wpAny_bind (wpAny_setEntries_of st.set hd T.fits ?_)
  rw[if_neg (by simp)]
  refine wpAny_bind (BM st.set hd T (slot:=slot) (i:=i) (by omega) hs fun nM hn => ?_)
  have ei:(gC w S ep es)[i]? = some ((gC w S ep es)[i]'(by rw[uY];exact hi)):=Array.getElem?_eq_getElem _
  rw[ei]
  dsimp only [Option.map]
  refine wpAny_bind (wpAny_setField pY nN (by simp) ?_)
  have hC:=Heap.get?_update_self (Obj.mapFields (·.setIfInBounds 0 (rawInt nM))) pY (Obj.isFreed_of_fields (Obj.data_mapFields nN _))
  have xT:=Obj.data_mapFields nN (·.setIfInBounds 0 (rawInt (nM:Int)))
  refine wpAny_bind (wpAny_setField hC xT (by simp) ?_)
  have g6:=Heap.get?_update_self (Obj.mapFields (·.setIfInBounds 1 (rawInt ((i:Int) + 1)))) hC (Obj.isFreed_of_fields (Obj.data_mapFields xT _))
  have hd2:=Obj.data_mapFields xT (·.setIfInBounds 1 (rawInt ((i:Int) + 1)))
  refine wpAny_pure ⟨_,rfl,wpAny_pure (hQ _ _ s.toks ⟨_,ei,rfl⟩ ⟨?_,nM,⟨_,g6,?_,?_⟩,fun z=>hn z hi⟩ fun b ob hb e => ?_)⟩
  ·rw[Heap.get?_update_other _ _ (Ne.symm iM),Heap.get?_update_other _ _ (Ne.symm iM)];exact st.set
  ·exact (Obj.cls_mapFields ..).trans ((Obj.cls_mapFields ..).trans hc)
  ·rw[hd2];simp[rawInt]
  ·have dc:I≠b:=fun z=>hb (by simp[z])
   rw[Heap.get?_update_other _ _ dc,Heap.get?_update_other _ _ dc];exact e
 done:=fun s Q E st hQ=>by
  obtain⟨slot,hit,hs⟩:=st.it
  obtain⟨oi,pY,hc,nN⟩:=id hit
  unfold pyNext
  refine wpAny_bind (wpAny_attempt (wpAny_callSpecial?_slot (name:=Str.ofString "__next__") hit.typeIs aF
   (wpAny_call_entry aF hit.typeIs BK ?_ (BL _))))
  unfold Builtin.«set_iterator.__next__»
  refine wpAny_bind (m:=slotArgs _ _ _) (wpAny_pure ?_)
  refine wpAny_bind (BN pY nN ?_)
  dsimp only
  refine wpAny_bind (wpAny_setEntries_of st.set hd T.fits ?_)
  rw[if_neg (by simp)]
  refine wpAny_bind (BM st.set hd T (slot:=slot) (i:=es.size) (Nat.le_refl _) hs fun nM hn => ?_)
  rw[Array.getElem?_eq_none (by rw[uY];exact Nat.le_refl _)]
  dsimp only [Option.map]
  refine wpAny_bind (wpAny_setField pY nN (by simp) ?_)
  show wpAny _ _ (newExc (.type "StopIteration") [] >>= _) _ _ _
  refine wpAny_bind ?_
  simp only[newExc,newTuple]
  refine wpAny_bind (wpAny_newObj_type ?_ (by size_fits))
  refine wpAny_bind (m:=firstArgMember _ _) (wpAny_of_eq (a:=Value.none) (by first | rfl | (simp only[firstArgMember];rfl)) ?_)
  refine wpAny_newObj_type ?_ (by size_fits)
  simp only[raiseNew]
  refine wpAny_bind (wpAny_handled ?_)
  rw[show A.in1.handled=none from hh]
  refine wpAny_bind (wpAny_pure (wpAny_throw ?_))
  refine wpAny_bind (wpAny_isInstance (T := "StopIteration") (b:=true) ⟨_,Heap.get?_push_size _ rfl,rfl⟩ isSubtype_stop ?_)
  refine wpAny_pure (hQ _ s.toks fun b ob hb e => ?_)
  have dc:b≠I:=fun z=>hb (by simp[z])
  exact (((Heap.SameBut.update ..).extBut.push _).push _) b ob dc e
 self:=fun i s Q E st hQ=>by
  obtain⟨slot,hit,_⟩:=st.it
  refine wpAny_pyIter_slot hit.typeIs BJ (wpAny_call_entry BJ hit.typeIs G0 ?_ (G2 _))
  show wpAny _ _ (ret (.ref I)) _ _ s
  exact wpAny_pure ⟨_,rfl, "set_iterator",_,hit.typeIs,aF.lookup,hQ⟩
theorem G5 {E:Value->Shared->Prop} {s:Shared} {Q:Bool->Shared->Prop} (ho:s.heap.get? S=some o) (hd:o.data = .set es ep t) (T:b5 t es (gI w) ks) (k:Q false s):wpAny (model prog w) A (setDrawn S) Q E s:=by
 unfold setDrawn
 refine wpAny_bind (wpAny_setState_of ho hd T.fits ?_)
 dsimp only
 refine wpAny_bind ?_
 unfold setsByText
 refine wpAny_bind (wpAny_askSetting (wpAny_pure ?_))
 refine wpAny_pure ?_
 have e:(!(model prog w).w.params.followText "set-order" && (!t.plain && decide (es.size > 1)))=false:=by rw[T.rH];simp
 exact e ▸ k
theorem G6 {E:Value->Shared->Prop} {s:Shared} {Q:Value->Shared->Prop} (ho:s.heap.get? S=some o) (hex:o.ExactSet) (hd:o.data = .set es ep t) (T:b5 t es (gI w) ks)
  (k:∀ h',(∀ b ob,s.heap.get? b=some ob->h'.get? b=some ob)->xR w s.heap.objs.size S o es ep t 0 h'->Q (.ref s.heap.objs.size) { s with heap:=h' }):wpAny (model prog w) A (pyIter (.ref S)) Q E s:=by
 have tS:s.TypeIs (.ref S) "set" := ⟨o,ho,hex.1⟩
 refine wpAny_pyIter_slot tS F.slot_set_iter (wpAny_call_entry F.slot_set_iter tS G1 ?_ (F.args_set_iter_1 _))
 unfold Builtin.«frozenset.__iter__»
 refine wpAny_bind (m:=Builtin.Frozenset.slot0 _ _) (wpAny_pure (a:=S) ?_)
 refine wpAny_bind (m:=Builtin.Frozenset.sizeOf _) ?_
 unfold Builtin.Frozenset.sizeOf
 refine wpAny_bind (wpAny_setEntries_of ho hd T.fits (wpAny_pure ?_))
 refine wpAny_bind (G5 ho hd T ?_)
 simp only[Bool.false_eq_true,if_false]
 refine wpAny_bind (wpAny_pure ?_)
 refine wpAny_bind (wpAny_setEpoch_of ho hd T.fits ?_)
 refine wpAny_bind (m:=newFields _ _) (wpAny_newObj_type (wpAny_pure ⟨_,rfl, "set_iterator",_,⟨_,Heap.get?_push_size _ rfl,rfl⟩,aF.lookup,?_⟩))
 refine k _ (fun b ob e=>Heap.get?_push_of_some _ e) ⟨Heap.get?_push_of_some _ ho,0,⟨_,Heap.get?_push_size _ rfl,rfl,rfl⟩,fun _=>rfl⟩
end
section
variable {prog:Program} {w:World} {A:Around} {S:Addr} {o:Obj} {es:Array (Int × Value)} {ep:Nat} {t:SetTable} {ks:List Int}
theorem G7 {E:Value->Shared->Prop} {s:Shared} {Q:Bool->Shared->Prop} (tS:s.TypeIs (.ref S) "set") (k:Q false s):wpAny (model prog w) A (Builtin.List.listLengthHint (.ref S)) Q E s:=by
 unfold Builtin.List.listLengthHint
 refine wpAny_bind (wpAny_specialOf tS F.slot_set_len.lookup ?_)
 generalize iN:("set.__len__" : String)=G8
 wp_delta
 rw[show splitId G8=some ("set", "__len__") from by subst iN;decide +kernel]
 subst iN
 refine wpAny_bind (wpAny_isInstance (T := "set") (b:=true) tS (by rw[isSubtype_type];kernel_rfl) ?_)
 refine wpAny_ite_split (fun uU=>absurd uU (by decide)) (fun _ => ?_)
 refine wpAny_ite_split (fun _ => ?_) (fun uU=>absurd (by decide +kernel) uU)
 refine wpAny_bind (wpAny_typeOf tS ?_)
 exact wpAny_pure k
theorem G9 {E:Value->Shared->Prop} {s:Shared} {Q:List Value->Shared->Prop} (hh:A.handled=none) (ho:s.heap.get? S=some o) (hex:o.ExactSet) (hd:o.data = .set es ep t) (T:b5 t es (gI w) ks) (hn:es.size <= 1000)
  (h:∀ (h':Heap) (tk:Nat),(∀ b ob,s.heap.get? b=some ob->h'.get? b=some ob)->s.heap.objs.size <= h'.objs.size->Q ((gC w S ep es).toList.map (·.2)) { s with heap:=h',toks:=tk }):wpAny (model prog w) A (collect (.ref S)) Q E s:=by
 have tS:s.TypeIs (.ref S) "set" := ⟨o,ho,hex.1⟩
 have lS:S < s.heap.objs.size:=Heap.lt_size ho
 unfold collect
 refine wpAny_bind (wpAny_runValue (codeAny_builtin F.entry_proto_collect ?_))
 rw[Around.under_plainId F.plain_proto_collect _]
 show wpAny _ A.in1 (newList [] >>= fun l=>again (.builtin "list.__iadd__" ⟨[l,.ref S],[]⟩)) _ _ s
 refine wpAny_bind (wpAny_newObj_type ?_)
 refine wpAny_pure ⟨plainId_quiet F.plain_list_iadd _,codeAny_builtin F.entry_list_iadd ?_⟩
 rw[Around.under_plainId F.plain_list_iadd _]
 generalize uZ:({ s with heap:=s.heap.push { cls := .type "list",data := .seq ([]:List Value).toArray } }:Shared)=s1
 have hC:s1.heap.get? S=some o:=by rw[<-uZ];exact Heap.get?_push_of_some _ ho
 have gL:s1.heap.get? s.heap.objs.size=some { cls := .type "list",data := .seq ([]:List Value).toArray }:=by rw[<-uZ];exact Heap.get?_push_size _ rfl
 have z1:s1.heap.objs.size=s.heap.objs.size + 1:=by rw[<-uZ];exact Heap.size_push ..
 show wpAny _ A.in1 (Builtin.List.listExtendWith (.ref s.heap.objs.size) (.ref S) (.ref s.heap.objs.size)) _ _ _
 unfold Builtin.List.listExtendWith
 refine wpAny_bind (wpAny_typeOf (T := "set") ⟨o,hC,hex.1⟩ ?_)
 have h1:Builtin.List.listSameRef (.ref s.heap.objs.size) (.ref S)=false:=by simp[Builtin.List.listSameRef];exact Nat.ne_of_gt lS
 have h2:(Value.type "set" == Value.type "list")=false:=by decide
 have h3:(Value.type "set" == Value.type "tuple")=false:=by decide
 simp only[h1,h2,h3,Bool.or_false,Bool.false_eq_true,if_false]
 refine wpAny_bind (G6 hC hex hd T fun hJ nO ip => ?_)
 refine wpAny_bind (wpAny_holding (G7 ⟨o,nO _ _ hC,hex.1⟩ ?_))
 have iM:S≠s1.heap.objs.size:=by rw[z1];exact Nat.ne_of_lt (Nat.lt_succ_of_lt lS)
 have W:=(G4 (prog:=prog) (A:=A.in1) (I:=s1.heap.objs.size) (by simp[hh]) iM hex hd T).toS
 have G_:s.heap.objs.size∉[s1.heap.objs.size,S]:=by
  simp only[List.mem_cons,List.not_mem_nil,or_false,not_or,z1]
  exact⟨Nat.ne_of_lt (Nat.lt_succ_self _),Nat.ne_of_gt lS⟩
 have key:∀ (rM:Heap) (c:Nat),xR w s1.heap.objs.size S o es ep t 0 rM->rM.get? s.heap.objs.size=some { cls := .type "list",data := .seq #[] c }->(∀ b ob,b≠s.heap.objs.size->hJ.get? b=some ob->rM.get? b=some ob) →
   codeAny (model prog w) A (.builtin "list.extend.loop" ⟨[.ref s.heap.objs.size,.ref s1.heap.objs.size,.ref s.heap.objs.size],[]⟩) (fun r s'=>match r with
    | .ok (.ret v)=>wpAny (model prog w) A (match v with
     | .ref a=>do match (<- load a).data with
      | .seq xs _=>pure xs.toList
      | _=>unsupported "internal:collect"
     | _=>unsupported "internal:collect") Q E s'
    | .ok _=>False
    | .error e=>E e s') { s1 with heap:=rM }:=by
  intro rM c st hL kp
  refine codeAny_extend_loopS W (by rw[sizeLine_eq];omega) _ G_ _ es.size 0 _ #[] c rfl (Nat.zero_le _) st hL (ItemsOf.nil _) fun s' d5 c' hm BO nP => ?_
  show wpAny _ A (load s.heap.objs.size >>= _) _ _ s'
  refine wpAny_bind (wpAny_load BO (wpAny_pure ?_))
  have ea:d5.toList=(gC w S ep es).toList.map (·.2):=by
   refine List.ext_getElem? fun i => ?_
   rw[List.getElem?_map]
   by_cases hi:i < es.size
   ·have BP:i < d5.size:=by rw[nP.1];exact hi
    obtain⟨e,he,hv⟩:=nP.2 i _ (Array.getElem?_eq_getElem BP)
    rw[Array.getElem?_toList,Array.getElem?_eq_getElem BP,Array.getElem?_toList,he,hv];rfl
   ·rw[Array.getElem?_toList,Array.getElem?_eq_none (by rw[nP.1];omega),Array.getElem?_toList,Array.getElem?_eq_none (by rw[uY];omega)];rfl
  rw[ea]
  obtain⟨U8,g3,d3,U9,Ha⟩:=s'
  obtain rfl:g3=s1.gens:=hm.gens
  obtain rfl:d3=s1.drawn:=hm.drawn
  obtain rfl:Ha=s1.os:=hm.os
  subst uZ
  refine h _ _ (fun b ob e => ?_) (Nat.le_of_lt (Heap.lt_size BO))
  have hb:b < s.heap.objs.size:=Heap.lt_size e
  refine hm.heap b ob ?_ (kp b ob (Nat.ne_of_lt hb) (nO b ob (Heap.get?_push_of_some _ e)))
  simp only[List.mem_cons,List.not_mem_nil,or_false,not_or]
  exact⟨Nat.ne_of_lt hb,by show b≠(s.heap.push _).objs.size;rw[Heap.size_push];exact Nat.ne_of_lt (Nat.lt_succ_of_lt hb)⟩
 have nQ:=nO _ _ gL
 refine wpAny_ite_split (fun _ => ?_) (fun _=>wpAny_pure ⟨plainId_quiet F.plain_extend_loop _,key _ _ ip nQ (fun b ob _ e=>e)⟩)
 refine wpAny_bind (wpAny_rule ?_)
 refine wpAny_bind ?_
 show wpAny _ _ (updateSeq s.heap.objs.size (·.push .none) >>= fun _=>updateSeq s.heap.objs.size (·.pop)) _ _ _
 refine wpAny_bind (wpAny_updateSeq nQ rfl ?_)
 have BQ:=Heap.get?_update_self (Obj.mapSeq (·.push Value.none)) nQ rfl
 refine wpAny_updateSeq (hz:=by seq_fits) BQ rfl ?_
 have Hb:=Heap.get?_update_self (Obj.mapSeq (·.pop)) BQ rfl
 have xU:∀ b ob,b≠s.heap.objs.size->hJ.get? b=some ob->((hJ.update s.heap.objs.size (Obj.mapSeq (·.push Value.none))).update s.heap.objs.size (Obj.mapSeq (·.pop))).get? b=some ob :=
  fun b ob hb e=>(Heap.get?_update_other _ _ (Ne.symm hb)).trans ((Heap.get?_update_other _ _ (Ne.symm hb)).trans e)
 refine wpAny_pure ⟨plainId_quiet F.plain_extend_loop _,key _ _ ?_ Hb xU⟩
 obtain⟨slot,it,sl⟩:=ip.it
 exact⟨xU _ _ (Nat.ne_of_lt lS) ip.set,slot,it.at fun ob e=>xU _ _ (by rw[z1];exact Nat.ne_of_gt (Nat.lt_succ_self _)) e,sl⟩
end
end LJS
namespace L2
open PySem PySem.Spec PyProof.Rows
noncomputable abbrev Key:=Sum Int Str
noncomputable def pZ:Key->Value->Bool
 | .inl k,v=>Value.isInt k v
 | .inr x,v=>Value.isStrOf x v
noncomputable def xV (w:World):Key->Int
 | .inl k=>hashInt k
 | .inr x=>hashStr w x
theorem lh:∀ {k:Key} {v:Value},pZ k v=true->(∃ i t,k=Sum.inl i/\v=Value.int i t)\/(∃ x t,k=Sum.inr x/\v=Value.str x t)
 | .inl i,v,h=>by
  obtain⟨t,e⟩:=Value.isInt_shape (k:=i) (v:=v) h
  exact .inl ⟨i,t,rfl,e⟩
 | .inr x,v,h=>by
  obtain⟨t,e⟩:=Value.isStrOf_shape (x:=x) (v:=v) h
  exact .inr ⟨x,t,rfl,e⟩
theorem Hc (i:Int) (t:Tok):pZ (.inl i) (.int i t)=true:=by simp[pZ,Value.isInt]
theorem Hd (x:Str) (t:Tok):pZ (.inr x) (.str x t)=true:=by simp[pZ,Value.isStrOf]
theorem He (a b:Int):decide ((Sum.inl a:Key)=Sum.inl b)=(a == b):=by
 by_cases e:a=b
 ·subst e;simp
 ·have h:¬ (Sum.inl a:Key)=Sum.inl b:=fun q=>e (Sum.inl.inj q)
  rw[decide_eq_false h]
  exact (beq_eq_false_iff_ne.mpr e).symm
theorem Hf (a b:Str):decide ((Sum.inr a:Key)=Sum.inr b)=decide (a=b):=by
 by_cases e:a=b
 ·subst e;simp
 ·have h:¬ (Sum.inr a:Key)=Sum.inr b:=fun q=>e (Sum.inr.inj q)
  rw[decide_eq_false h,decide_eq_false e]
theorem Hg (a:Int) (b:Str):decide ((Sum.inl a:Key)=Sum.inr b)=false:=decide_eq_false (fun q=>nomatch q)
theorem Hh (a:Str) (b:Int):decide ((Sum.inr a:Key)=Sum.inl b)=false:=decide_eq_false (fun q=>nomatch q)
noncomputable def gJ (prog:Program) (w:World):PySem.KeyKind prog w Key where
 is:=pZ
 hash:=xV w
 inj:=fun v a b ha hb=>by
  rcases lh ha with⟨i,t,rfl,rfl⟩ | ⟨x,t,rfl,rfl⟩
  ·rcases lh hb with⟨j,u,rfl,e⟩ | ⟨y,u,rfl,e⟩
   ·injection e with e1 _;rw[e1]
   ·exact nomatch e
  ·rcases lh hb with⟨j,u,rfl,e⟩ | ⟨y,u,rfl,e⟩
   ·exact nomatch e
   ·injection e with e1 _;rw[e1]
 byValue:=fun k v h=>by
  rcases lh h with⟨i,t,rfl,rfl⟩ | ⟨x,t,rfl,rfl⟩<;>rfl
 pyHash:=fun hv h=>by
  rcases lh hv with⟨i,t,rfl,rfl⟩ | ⟨x,t,rfl,rfl⟩
  ·exact wpAny_pyHash_int h
  ·exact wpAny_pyHash_str h
 eqBool:=fun hu hv h=>by
  rcases lh hu with⟨i,t,rfl,rfl⟩ | ⟨x,t,rfl,rfl⟩
  ·rcases lh hv with⟨j,u,rfl,rfl⟩ | ⟨y,u,rfl,rfl⟩
   ·rw[He] at h;exact wpAny_eqBool_int h
   ·rw[Hg] at h;exact SeqAt.EqAt.int_str i t y u _ _ _ _ h
  ·rcases lh hv with⟨j,u,rfl,rfl⟩ | ⟨y,u,rfl,rfl⟩
   ·rw[Hh] at h;exact SeqAt.EqAt.str_int x t j u _ _ _ _ h
   ·rw[Hf] at h;exact wpAny_eqBool_str h
 «strs» := fun k x t v h=>by
  rcases lh h with⟨i,u,rfl,e⟩ | ⟨y,u,rfl,e⟩
  ·exact nomatch e
  ·injection e with e1 _
   subst e1
   cases v<;>rfl
theorem Hi (prog:Program) (w:World) (i:Int) (t:Tok):(gJ prog w).is (.inl i) (.int i t)=true:=Hc i t
theorem Hj (prog:Program) (w:World) (x:Str) (t:Tok):(gJ prog w).is (.inr x) (.str x t)=true:=Hd x t
inductive V where
 | non | bl (b:Bool) | int (i:Int) | str (x:Str) | byt (b:Array UInt8) | flt (b:UInt64) | ref (a:Addr) | ty (n:String)
 deriving DecidableEq
noncomputable def RelV:V->Value->Prop
 | .non,u=>u=Value.none
 | .bl b,u=>u=Value.bool b
 | .int i,u=>∃ t,u=Value.int i t
 | .str x,u=>∃ t,u=Value.str x t
 | .byt b,u=>∃ t,u=Value.bytes b t
 | .flt b,u=>∃ t,u=Value.float b t
 | .ref a,u=>u=Value.ref a
 | .ty n,u=>u=Value.type n
noncomputable abbrev Vals:List V->List Value->Prop:=Paired RelV
theorem Vals.length {xs:List V} {us:List Value} (r:Vals xs us):xs.length=us.length:=Paired.length r
theorem Vals.get:∀ {xs:List V} {us:List Value} {i:Nat} {x:V},Vals xs us->xs[i]? = some x->∃ u,us[i]? = some u/\RelV x u
 | _,_,_,_,.nil,e=>by simp at e
 | _,_,0,_,.cons r _,e=>by simp at e;subst e;exact⟨_,rfl,r⟩
 | _,_,i + 1,x,.cons _ t,e=>by
  obtain⟨u,h1,h2⟩:=Vals.get (i:=i) (x:=x) t (by simpa using e)
  exact⟨u,by simpa using h1,h2⟩
theorem Vals.set {x:V} {u:Value} (r:RelV x u):∀ {xs:List V} {us:List Value} (i:Nat),Vals xs us->Vals (xs.set i x) (us.set i u)
 | _,_,_,.nil => .nil
 | _,_,0,.cons _ t => .cons r t
 | _,_,i + 1,.cons q t => .cons q (Vals.set r i t)
theorem Vals.append:∀ {xs ys:List V} {us ws:List Value},Vals xs us->Vals ys ws->Vals (xs ++ ys) (us ++ ws)
 | _,_,_,_,.nil,s=>s
 | _,_,_,_,.cons r t,s => .cons r (Vals.append t s)
theorem Vals.take:∀ {xs:List V} {us:List Value} (n:Nat),Vals xs us->Vals (xs.take n) (us.take n)
 | _,_,0,_ => .nil
 | _,_,_ + 1,.nil => .nil
 | _,_,n + 1,.cons r t => .cons r (Vals.take n t)
theorem Vals.drop:∀ {xs:List V} {us:List Value} (n:Nat),Vals xs us->Vals (xs.drop n) (us.drop n)
 | _,_,0,r=>r
 | _,_,_ + 1,.nil => .nil
 | _,_,n + 1,.cons _ t=>Vals.drop n t
noncomputable def hU:Option V->Option Value->Prop
 | some v,some u=>RelV v u
 | none,none=>True
 | _,_=>False
noncomputable def KV {κ : Type}:List (κ × V)->List (κ × Value)->Prop:=Paired fun (p : κ × V) (q : κ × Value)=>p.1=q.1/\RelV p.2 q.2
noncomputable def kV:Key->V
 | .inl i => .int i
 | .inr x => .str x
inductive HO where
 | lst (xs:List V)
 | tup (xs:List V)
 | dK (kvs:List (Key × V)) | dT (kvs:List (List Key × V))
 | set (S:Int->Bool) (n:Nat)
 | ins (C dx:Addr) (fs:List (Str × V))
 | own (x:Addr)
 | xd (fs:List (Str × V))
 | met (f x:Addr)
 | rng (lo hi:Int)
 | frz (o:Obj) (u:HO)
 | tbl (ps:Array Value)
 | ext (φ : Heap->Prop)
noncomputable abbrev Hp:=Addr->Option HO
noncomputable def upd (H:Hp) (a:Addr) (o:HO):Hp:=fun b=>if b=a then some o else H b
theorem bF {H:Hp} {a:Addr} {o:HO}:upd H a o a=some o:=by unfold upd;rw[if_pos rfl]
theorem aS {H:Hp} {a b:Addr} {o:HO} (h:b≠a):upd H a o b=H b:=by unfold upd;rw[if_neg h]
theorem Hk {H:Hp} {a b:Addr} {o u:HO} (h:H a=some o) (h':H b=some u) (d:o≠u):a≠b:=by
 intro e;subst e;rw[h] at h';exact d (Option.some.inj h')
theorem cv {H:Hp} {a b:Addr} {o:HO} (h:H a=some o) (h':H b=none):a≠b:=by
 intro e;subst e;rw[h] at h';cases h'
section
variable (P:Program) (w:World)
noncomputable def aI (H:Hp) (h:Heap) (a:Addr):HO->Prop
 | .lst xs=>xs.length <= sizeLine/\∃ (ag:List Value) (n:Nat),Vals xs ag/\h.get? a=some { cls := .type "list",data := .seq ag.toArray n }
 | .tup xs=>xs.length <= sizeLine/\∃ ag:List Value,Vals xs ag/\IsTup h a ag.toArray
 | .dK kvs=>kvs.length <= sizeLine/\(a == sysModules)=false/\∃ vs,KV kvs vs/\h.DictOf (gJ P w) a vs
 | .dT kvs=>kvs.length <= sizeLine/\(a == sysModules)=false/\∃ xs:List (List Key × Addr × Value),
   Paired (fun (p:List Key × V) (q:List Key × Addr × Value)=>p.1=q.1/\H q.2.1=some (.tup (p.1.map kV))/\RelV p.2 q.2.2) kvs xs ∧
   ∃ o es ep,h.get? a=some o/\o.ExactDict/\o.data = .dict es ep/\es.toList=xs.map (entryOfKey (tupleKind (gJ P w)))/\(xs.map (·.1)).Nodup
 | .set S n=>h.SetOf (intKind P w) a S n
 | .ins C dx fs=>H dx=some (.own a)/\fs.length <= 1000/\dx≠a/\h.get? a=some (PySem.W.instObj C dx) ∧
   ∃ mA,h.Ns1 dx mA/\(∀ f,hU (fs.lookup f) (mA f))/\PySem.Within mA (fs.map (·.1))
 | .own _=>∃ o,h.get? a=some o
 | .xd fs=>∃ mA,h.Ns1 a mA/\∀ f,hU (fs.lookup f) (mA f)
 | .rng lo hi=>∃ t u v,h.get? a=some { cls := .type "range",data := .fields #[.int lo t,.int hi u,.int 1 v] }
 | .frz o u=>h.get? a=some o/\aI H h a u
 | .tbl ps=>h.get? a=some { cls := .none,data := .fields ps }
 | .met f x=>h.get? a=some (PySem.W.methodObj (.ref f) (.ref x))
 | .ext φ => φ h/\(∃ o,h.get? a=some o)/\∀ h1 h2:Heap,φ h1->(∀ o,h1.get? a=some o->h2.get? a=some o) -> φ h2
noncomputable def dh (H:Hp) (h:Heap):Prop:=∀ a o,H a=some o->aI P w H h a o
end
section
variable {P:Program} {w:World} {H H':Hp} {h h':Heap} {a:Addr} {o:HO}
theorem aI.lt (x:aI P w H h a o):a < h.objs.size:=by
 cases o with
 | lst xs=>obtain⟨_,_,_,_,e⟩:=x;exact Heap.lt_size e
 | tup xs=>obtain⟨_,_,_,p⟩:=x;exact p.lt
 | dK kvs=>obtain⟨_,_,_,_,o,_,_,e,_⟩:=x;exact Heap.lt_size e
 | dT kvs=>obtain⟨_,_,_,_,o,_,_,e,_⟩:=x;exact Heap.lt_size e
 | set S n=>obtain⟨o,_,_,_,e,_⟩:=x;exact Heap.lt_size e
 | ins C dx fs=>obtain⟨_,_,_,e,_⟩:=x;exact Heap.lt_size e
 | own y=>obtain⟨_,e⟩:=x;exact Heap.lt_size e
 | xd fs=>obtain⟨_,⟨_,_,_,e,_⟩,_⟩:=x;exact Heap.lt_size e
 | rng lo hi=>obtain⟨_,_,_,e⟩:=x;exact Heap.lt_size e
 | frz ob u=>obtain⟨e,_⟩:=x;exact Heap.lt_size e
 | tbl ps=>exact Heap.lt_size (show h.get? a=some _ from x)
 | met f y=>exact Heap.lt_size (show h.get? a=some _ from x)
 | ext φ => obtain⟨_,⟨_,e⟩,_⟩:=x;exact Heap.lt_size e
theorem Paired.nR {α β : Type} {F G : α -> β -> Prop}:∀ {l₁ : List α} {l₂ : List β},Paired F l₁ l₂ -> (∀ a b,F a b->G a b)->Paired G l₁ l₂
 | _,_,.nil,_ => .nil
 | _,_,.cons r t,f => .cons (f _ _ r) (Paired.nR t f)
theorem aI.hV (x:aI P w H h a o) (k:∀ b u,(b=a\/H b=some (.own a))->h.get? b=some u->h'.get? b=some u)
  (ho:∀ b,H b=some (.own a)->H' b=some (.own a)) (ht:∀ b xs,H b=some (.tup xs)->H' b=some (.tup xs)):aI P w H' h' a o:=by
 induction o with
 | lst xs=>obtain⟨z,ag,n,r,e⟩:=x;exact⟨z,ag,n,r,k _ _ (.inl rfl) e⟩
 | tup xs=>obtain⟨z,ag,r,ob,e,c⟩:=x;exact⟨z,ag,r,ob,k _ _ (.inl rfl) e,c⟩
 | dK kvs=>obtain⟨z,y,vs,r,ob,es,ep,e,c⟩:=x;exact⟨z,y,vs,r,ob,es,ep,k _ _ (.inl rfl) e,c⟩
 | dT kvs =>
  obtain⟨z,y,xs,r,ob,es,ep,e,c⟩:=x
  exact⟨z,y,xs,Paired.nR r fun p q z=>⟨z.1,ht _ _ z.2.1,z.2.2⟩,ob,es,ep,k _ _ (.inl rfl) e,c⟩
 | set S n=>obtain⟨ob,es,ep,t,e,c⟩:=x;exact⟨ob,es,ep,t,k _ _ (.inl rfl) e,c⟩
 | ins C dx fs =>
  obtain⟨d,z,ne,e,mA,⟨od,es,ep,e2,c⟩,r⟩:=x
  exact⟨ho _ d,z,ne,k _ _ (.inl rfl) e,mA,⟨od,es,ep,k _ _ (.inr d) e2,c⟩,r⟩
 | own y=>obtain⟨ob,e⟩:=x;exact⟨ob,k _ _ (.inl rfl) e⟩
 | xd fs=>obtain⟨mA,⟨od,es,ep,e,c⟩,r⟩:=x;exact⟨mA,⟨od,es,ep,k _ _ (.inl rfl) e,c⟩,r⟩
 | rng lo hi=>obtain⟨t,u,v,e⟩:=x;exact⟨t,u,v,k _ _ (.inl rfl) e⟩
 | frz ob u ih=>obtain⟨e,q⟩:=x;exact⟨k _ _ (.inl rfl) e,ih q⟩
 | tbl ps =>
  have e:h.get? a=some { cls := .none,data := .fields ps }:=x
  show h'.get? a=some { cls := .none,data := .fields ps }
  exact k a _ (.inl rfl) e
 | met f y =>
  have e:h.get? a=some (PySem.W.methodObj (.ref f) (.ref y)):=x
  show h'.get? a=some (PySem.W.methodObj (.ref f) (.ref y))
  exact k a _ (.inl rfl) e
 | ext φ => obtain⟨p,⟨o,e⟩,st⟩:=x;exact⟨st _ _ p fun o q=>k _ _ (.inl rfl) q,⟨o,k _ _ (.inl rfl) e⟩,st⟩
theorem dh.lt (x:dh P w H h) (e:H a=some o):a < h.objs.size:=(x a o e).lt
theorem dh.fresh (x:dh P w H h) (e:h.objs.size <= a):H a=none:=by
 cases q:H a with
 | none=>rfl
 | some u=>exact absurd (Nat.lt_of_lt_of_le (x.lt q) e) (Nat.lt_irrefl _)
theorem dh.kept (x:dh P w H h) (k:∀ b u,h.get? b=some u->h'.get? b=some u):dh P w H h':=fun a o e =>
 (x a o e).hV (fun b u _ q=>k b u q) (fun _ q=>q) fun _ _ q=>q
theorem dh.laid (x:dh P w H h) (k:∀ b u,h.get? b=some u->h'.get? b=some u) (hp:h.objs.size <= a) (new:aI P w (upd H a o) h' a o):dh P w (upd H a o) h':=fun b u e=>by
 have hn:=x.fresh hp
 by_cases hb:b=a
 ·subst hb;rw[bF] at e;cases e;exact new
 ·rw[aS hb] at e
  exact (x b u e).hV (fun c v _ q=>k c v q) (fun c q=>by rw[aS (cv q hn)];exact q) fun c xs q=>by rw[aS (cv q hn)];exact q
end
noncomputable def Rd (H:Hp) (a:Addr) (u:HO):Prop:=H a=some u\/∃ o,H a=some (.frz o u)
theorem Rd.ok {P:Program} {w:World} {H:Hp} {h:Heap} {a:Addr} {u:HO} (r:Rd H a u) (x:dh P w H h):aI P w H h a u:=by
 rcases r with r | ⟨o,r⟩
 ·exact x a u r
 ·obtain⟨_,q⟩:=x a _ r
  exact q
noncomputable def rN:Option HO->Prop
 | some (.lst _)=>True
 | some (.dK _)=>True
 | some (.dT _)=>True
 | some (.set _ _)=>True
 | some (.ins _ _ _)=>True
 | some (.ext _)=>True
 | _=>False
section
variable {P:Program} {w:World} {H:Hp} {h h':Heap} {x e:Addr} {o':HO}
theorem dh.write (ok:dh P w H h) (mu:rN (H x)) (he:e=x\/H e=some (.own x)) (k:∀ b u,b≠e->h.get? b=some u->h'.get? b=some u) (kE:∃ u,h'.get? e=some u)
  (new:aI P w (upd H x o') h' x o'):dh P w (upd H x o') h':=fun b u q=>by
 have rO:∀ c y,H c=some (.own y)->c≠x:=fun c y r z=>by subst z;rw[r] at mu;exact mu
 have xW:∀ c xs,H c=some (.tup xs)->c≠x:=fun c xs r z=>by subst z;rw[r] at mu;exact mu
 by_cases hb:b=x
 ·subst hb;rw[bF] at q;cases q;exact new
 ·rw[aS hb] at q
  by_cases nT:b=e
  ·have q':H b=some (.own x):=by
    rcases he with z | z
    ·exact absurd (nT.trans z) hb
    ·rw[nT];exact z
   rw[q] at q';cases q'
   obtain⟨v,hv⟩:=kE
   exact⟨v,by rw[nT];exact hv⟩
  ·refine (ok b u q).hV (fun c v hc r=>k c v ?_ r) (fun c r=>by rw[aS (rO c b r)];exact r) fun c xs r=>by rw[aS (xW c xs r)];exact r
   rcases hc with rfl | hc
   ·exact nT
   ·rintro rfl
    rcases he with z | z
    ·exact rO c b hc z
    ·rw[hc] at z;cases z;exact hb rfl
end
structure Un (fs ex:List Addr) (H H':Hp) (h h':Heap):Prop where
 keep:∀ b o,h.get? b=some o->H b=none->b∉fs->b∉ex->h'.get? b=some o
 slot:∀ b o,h.get? b=some o->H b=none->b∈fs->b∉ex->∃ sl,h'.get? b=some { o with slots:=sl }
 free:∀ b o,h.get? b=some o->H b=none->b∉ex->H' b=none
 there:∀ b o,h.get? b=some o->b∉ex->∃ o',h'.get? b=some o'
 fM:∀ b xs,H b=some (.tup xs)->H' b=some (.tup xs)
 gn:∀ b o u,H b=some (.frz o u)->H' b=some (.frz o u)
 gK:∀ b ps,H b=some (.tbl ps)->∃ more,H' b=some (.tbl (ps ++ more))
section
variable {fs Hl ex U_:List Addr} {H H1 H2:Hp} {h h1 h2 h':Heap} {a x e:Addr} {o:HO}
theorem Un.any (u:Un fs ex H H1 h h1) {b:Addr} {ob:Obj} (q:h.get? b=some ob) (n:H b=none) (hx:b∉ex):∃ sl,h1.get? b=some { ob with slots:=sl }:=by
 by_cases hb:b∈fs
 ·exact u.slot b ob q n hb hx
 ·exact⟨ob.slots,u.keep b ob q n hb hx⟩
theorem Un.kept (k:∀ b u,h.get? b=some u->h'.get? b=some u):Un fs ex H H h h' :=
 ⟨fun b ob q _ _ _=>k b ob q,fun b ob q _ _ _=>⟨ob.slots,k b ob q⟩,fun _ _ _ n _=>n,fun b ob q _=>⟨ob,k b ob q⟩,fun _ _ q=>q,fun _ _ _ q=>q,fun _ ps q=>⟨#[],by rw[q];simp⟩⟩
theorem Un.refl:Un fs ex H H h h:=Un.kept fun _ _ q=>q
theorem Un.laid (k:∀ b u,h.get? b=some u->h'.get? b=some u) (hp:h.objs.size <= a) (hn:H a=none):Un fs ex H (upd H a o) h h' where
 keep:=fun b u q _ _ _=>k b u q
 slot:=fun b u q _ _ _=>⟨u.slots,k b u q⟩
 free:=fun b u q n _=>by rw[aS (Nat.ne_of_lt (Nat.lt_of_lt_of_le (Heap.lt_size q) hp))];exact n
 there:=fun b u q _=>⟨u,k b u q⟩
 fM:=fun b xs q=>by rw[aS (cv q hn)];exact q
 gn:=fun b u xs q=>by rw[aS (cv q hn)];exact q
 gK:=fun b ps q=>⟨#[],by rw[aS (cv q hn),q];simp⟩
theorem Un.write (mu:rN (H x)) (he:e=x\/H e=some (.own x)) (k:∀ b u,b≠e->h.get? b=some u->h'.get? b=some u) (kE:∃ u,h'.get? e=some u):Un fs ex H (upd H x o) h h':=by
 have hx:∀ b,H b=none->b≠x:=fun b n z=>by subst z;rw[n] at mu;exact mu
 have hb:∀ b,H b=none->b≠e:=fun b n z=>by
  subst z
  rcases he with r | r
  ·exact hx b n r
  ·rw[n] at r;cases r
 have hm:∀ b u,H b=some u->¬ rN (some u)->b≠x:=fun b u q nm z=>by subst z;rw[q] at mu;exact nm mu
 refine⟨fun b u q n _ _=>k b u (hb b n) q,fun b u q n _ _=>⟨u.slots,k b u (hb b n) q⟩,fun b u q n _=>by rw[aS (hx b n)];exact n,fun b u q _ => ?_,
  fun b xs q=>by rw[aS (hm b _ q fun z=>z)];exact q,fun b u xs q=>by rw[aS (hm b _ q fun z=>z)];exact q,fun b ps q=>⟨#[],by rw[aS (hm b _ q fun z=>z),q];simp⟩⟩
 by_cases nT:b=e
 ·subst nT;exact kE
 ·exact⟨u,k b u nT q⟩
end
noncomputable def u2 (h:Heap) (H:Hp):List Addr:=(List.range h.objs.size).filter fun a=>(H a).isSome
noncomputable def gp (h:Heap) (H:Hp):Heap:=PySem.W.hideAll h (u2 h H)
theorem Hm (h:Heap) (H:Hp):(gp h H).objs.size=h.objs.size:=PySem.W.hideAll_size _ _
theorem Hn {h:Heap} {H:Hp} {b:Addr} {o:Obj} (e:h.get? b=some o) (n:H b=none):(gp h H).get? b=some o :=
 PySem.W.hideAll_get _ e fun hm=>by
  have q:(H b).isSome=true:=(List.mem_filter.mp hm).2
  rw[n] at q;simp at q
theorem Ho {h:Heap} {H:Hp} {b:Addr} {o:Obj} (e:(gp h H).get? b=some o):h.get? b=some o/\H b=none:=by
 have e':h.get? b=some o:=PySem.W.of_hideAll (u2 h H) e
 refine⟨e',?_⟩
 cases q:H b with
 | none=>rfl
 | some x =>
  have hm:b∈u2 h H:=List.mem_filter.mpr ⟨List.mem_range.mpr (Heap.lt_size e'),by simp[q]⟩
  have z:(gp h H).get? b=none:=PySem.W.hideAll_none (u2 h H) hm
  rw[z] at e;cases e
structure Mod (K:PySem.W.Frag) (mg:Str->Option Value) (base:Heap):Prop where
 mJ:K.In base
 glob:base.Ns mainGlobals mg
 blt:∃ mb,base.Ns builtinsNs mb/\∀ x:Str,x ≠ "__name__" -> mb x=bootBuiltins x
 nolimit:base.NoLimit
structure Cx where
 prog:Program
 w:World
 K:PySem.W.Frag
 mg:Str->Option Value
 base:Heap
 A:Around
 N:List Str
 s₀ : Shared
 H₀ : Hp
 env:Env
 outer:List Env
 stack:List Env
 ex:List Addr
 fn:Str->Bool
 calm:Bool
 pn:List (Addr × Obj)
 xe:Value->Shared->Prop
noncomputable def jg (l:List Env):List Addr:=l.filterMap (·.frame)
noncomputable abbrev Cx.fs (X:Cx):List Addr:=jg X.outer
noncomputable def nU (sc:Scope) (x:Str):Prop:=sc.names.lookup x=some .local\/sc.names.lookup x=some .cell\/sc.names.lookup x=some .free
noncomputable def Loc (sc:Scope) (x:Str):Prop:=sc.names.lookup x=some .local\/sc.names.lookup x=some .cell
noncomputable def Look (env:Env) (h:Heap) (m:Str->Option Value) (x:Str) (u:Value):Prop :=
 (env.kindOf x=some .local/\m x=some u)\/((env.kindOf x=some .cell\/env.kindOf x=some .free)/\∃ c,env.cells.lookup x=some c/\h.IsCell c (some u))
structure Cx.Ok (X:Cx):Prop where
 mod:Mod X.K X.mg X.base
 kind:X.env.scope.kind = .function
 glob:X.env.globals=mainGlobals
 blt:X.env.builtins=builtinsNs
 above:X.s₀.heap.objs.size <= X.env.locals
 inj:∀ x y c,X.env.cells.lookup x=some c->X.env.cells.lookup y=some c->x=y
 has:∀ x,(X.env.kindOf x=some .cell\/X.env.kindOf x=some .free)->∃ c,X.env.cells.lookup x=some c
 rP:∀ x c,X.fn x=true->X.env.cells.lookup x=some c->X.s₀.heap.objs.size <= c
 hd:X.calm=true->X.A.handled=none
 frames:X.A.frames=some X.stack
 u3:X.stack=X.outer\/(X.stack=X.env :: X.outer/\X.env.frame=some X.env.locals)
 BR:∀ b∈X.ex,b≠X.env.locals/\∀ x c,X.env.cells.lookup x=some c->c≠b
 bs:∀ b o,X.base.get? b=some o->X.s₀.heap.get? b=some o/\X.H₀ b=none
 nV:X.base.objs.size <= X.s₀.heap.objs.size
 jL:∀ b o,X.base.get? b=some o->b∉X.ex
 lj:∀ b∈X.ex,b∉X.fs
 eR:X.s₀.heap.FunFrames X.base X.outer
 p8:∀ b∈X.fs,X.H₀ b=none
structure Inv (X:Cx) (pins:List (Addr × Obj)) (σ : List (Option V)) (H:Hp) (s:Shared):Prop where
 ok:X.Ok
 os:s.os=X.s₀.os
 bare:AllBare s.gens
 base:Un X.fs X.ex X.H₀ H X.s₀.heap s.heap
 loc:∃ m,s.heap.Ns X.env.locals m/\∀ (i:Nat) (x:Str) (v:V),X.N[i]? = some x -> σ[i]? = some (some v)->nU X.env.scope x->∃ u,RelV v u/\Look X.env s.heap m x u
 cell:∀ x c,X.env.cells.lookup x=some c->∃ v,s.heap.IsCell c v
 free:H X.env.locals=none
 c5:∀ x c,X.env.cells.lookup x=some c->H c=none
 pin:∀ p∈X.pn ++ pins,s.heap.get? p.1=some p.2/\H p.1=none/\p.1≠X.env.locals/\p.1∉X.fs/\∀ v,p.2.data ≠ .cell v
 aJ:dh X.prog X.w H s.heap
 len : σ.length=X.N.length
section
variable {X:Cx} {pins:List (Addr × Obj)} {σ : List (Option V)} {H H':Hp} {s:Shared} {h':Heap}
theorem Cx.Ok.xX (ok:X.Ok) {b:Addr} {o:Obj} (e:X.base.get? b=some o):b∉X.fs:=fun hb=>by
 have:=(ok.eR.mem hb).1
 rw[e] at this;cases this
theorem Inv.bs (I:Inv X pins σ H s):∀ b o,X.base.get? b=some o->s.heap.get? b=some o/\H b=none:=fun b o e =>
 ⟨I.base.keep b o (I.ok.bs b o e).1 (I.ok.bs b o e).2 (I.ok.xX e) (I.ok.jL b o e),I.base.free b o (I.ok.bs b o e).1 (I.ok.bs b o e).2 (I.ok.jL b o e)⟩
theorem Inv.bk (I:Inv X pins σ H s):∀ b o,X.base.get? b=some o->s.heap.get? b=some o:=fun b o e=>(I.bs b o e).1
theorem Inv.mod (I:Inv X pins σ H s):Mod X.K X.mg X.base:=I.ok.mod
theorem Inv.gM (I:Inv X pins σ H s):X.K.In s.heap:=I.ok.mod.mJ.keeps I.bk
theorem Inv.lt (I:Inv X pins σ H s):X.env.locals < s.heap.objs.size:=let ⟨_,hn,_⟩:=I.loc;hn.lt
theorem Inv.sz (I:Inv X pins σ H s):X.s₀.heap.objs.size <= s.heap.objs.size:=Nat.le_trans I.ok.above (Nat.le_of_lt I.lt)
theorem Inv.xY (I:Inv X pins σ H s) {a:Addr} (h:s.heap.objs.size <= a):a∉X.fs:=fun hb=>by
 obtain⟨_,o,ho,_⟩:=I.ok.eR.mem hb
 exact absurd (Nat.lt_of_lt_of_le (Heap.lt_size ho) (Nat.le_trans I.sz h)) (Nat.lt_irrefl _)
theorem Inv.nW (I:Inv X pins σ H s):∀ x c,X.env.cells.lookup x=some c->c≠X.env.locals:=fun x c e z=>by
 obtain⟨v,o,ho,hd⟩:=I.cell x c e
 obtain⟨m,⟨o',es,ep,iO,rQ,_⟩,_⟩:=I.loc
 rw[z,iO] at ho;cases ho;rw[rQ] at hd;cases hd
theorem Inv.eR (I:Inv X pins σ H s):s.heap.FunFrames X.base X.outer:=by
 have all:∀ (l:List Env),(∀ b∈jg l,b∈X.fs)->X.s₀.heap.FunFrames X.base l->s.heap.FunFrames X.base l:=by
  intro l
  induction l with
  | nil=>intro _ _;trivial
  | cons env r ih =>
   intro hs hl
   obtain⟨hk,⟨L,o,hf,hn,ho,hd⟩,hr⟩:=hl
   have hL:L∈X.fs:=hs L (by unfold jg;rw[List.filterMap_cons,hf];exact List.mem_cons_self)
   obtain⟨sl,e⟩:=I.base.slot L o ho (I.ok.p8 L hL) hL fun z=>I.ok.lj L z hL
   exact⟨hk,⟨L,_,hf,hn,e,hd⟩,ih (fun b hb=>hs b (by unfold jg;rw[List.filterMap_cons,hf];exact List.mem_cons_of_mem _ hb)) hr⟩
 exact all X.outer (fun _ hb=>hb) I.ok.eR
theorem Inv.stack (I:Inv X pins σ H s):s.heap.FunFrames X.base X.stack:=by
 rcases I.ok.u3 with e | ⟨e,hf⟩
 ·rw[e];exact I.eR
 ·rw[e]
  obtain⟨m,hn,_⟩:=I.loc
  refine .cons (by rw[I.ok.kind];decide) hf hn ?_ I.eR
  exact Heap.get?_none_of_le (Nat.le_trans I.ok.nV I.ok.above)
theorem Inv.gq (I:Inv X pins σ H s):∀ b∈jg X.stack,b∈X.env.locals :: X.fs:=fun b hb=>by
 rcases I.ok.u3 with e | ⟨e,hf⟩
 ·rw[e] at hb;exact List.mem_cons_of_mem _ hb
 ·rw[e] at hb
  unfold jg at hb
  rw[List.filterMap_cons,hf] at hb
  exact hb
theorem Inv.iq (I:Inv X pins σ H s):∀ b∈jg X.stack,H b=none:=fun b hb=>by
 rcases List.mem_cons.mp (I.gq b hb) with e | hb
 ·rw[e];exact I.free
 ·obtain⟨_,o,ho,_⟩:=I.ok.eR.mem hb
  exact I.base.free b o ho (I.ok.p8 b hb) fun z=>I.ok.lj b z hb
theorem Inv.step {g':Array GenState} {t':Nat} {d':Drawn} {ch:List Addr} (I:Inv X pins σ H s)
  (kF:∀ b∈ch,(b∈X.ex\/X.s₀.heap.objs.size <= b)/\b≠X.env.locals/\(∀ x c,X.env.cells.lookup x=some c->c≠b)/\∀ p∈X.pn ++ pins,p.1≠b)
  (keep:∀ b o,b≠X.env.locals->b∉X.fs->b∉ch->s.heap.get? b=some o->H b=none->h'.get? b=some o)
  (slot:∀ b o,b≠X.env.locals->b∈X.fs->b∉ch->s.heap.get? b=some o->H b=none->∃ sl,h'.get? b=some { o with slots:=sl }) (free:∀ b o,b∉ch->s.heap.get? b=some o->H b=none->H' b=none)
  (there:∀ b o,b∉ch->s.heap.get? b=some o->∃ o',h'.get? b=some o')
  (fM:∀ b xs,H b=some (.tup xs)->H' b=some (.tup xs)) (gn:∀ b o u,H b=some (.frz o u)->H' b=some (.frz o u)) (gK:∀ b ps,H b=some (.tbl ps)->∃ more,H' b=some (.tbl (ps ++ more)))
  (ns:∀ m,s.heap.Ns X.env.locals m->h'.Ns X.env.locals m) (aJ:dh X.prog X.w H' h') (hg:AllBare g') :
  Inv X pins σ H' { s with heap:=h',gens:=g',drawn:=d',toks:=t' }:=by
 have BS:∀ b o,X.s₀.heap.get? b=some o->b≠X.env.locals:=fun b o e=>Nat.ne_of_lt (Nat.lt_of_lt_of_le (Heap.lt_size e) I.ok.above)
 have u4:∀ b o,X.s₀.heap.get? b=some o->b∉X.ex->b∉ch:=fun b o e hx hb=>by
  rcases (kF b hb).1 with z | z
  ·exact hx z
  ·exact absurd (Nat.lt_of_lt_of_le (Heap.lt_size e) z) (Nat.lt_irrefl _)
 have cellK:∀ x c,X.env.cells.lookup x=some c->∀ v,s.heap.IsCell c v->h'.IsCell c v:=fun x c e v ⟨o,ho,hd⟩=>by
  have jM:c∉ch:=fun z=>(kF c z).2.2.1 x c e rfl
  by_cases hc:c∈X.fs
  ·obtain⟨sl,q⟩:=slot c o (I.nW x c e) hc jM ho (I.c5 x c e)
   exact⟨_,q,hd⟩
  ·exact⟨o,keep c o (I.nW x c e) hc jM ho (I.c5 x c e),hd⟩
 refine⟨I.ok,I.os,hg,⟨fun b o e n hb hx => ?_,fun b o e n hb hx => ?_,fun b o e n hx => ?_,fun b o e hx => ?_,fun b xs e=>fM b xs (I.base.fM b xs e),fun b o xs e=>gn b o xs (I.base.gn b o xs e),fun b ps e => ?_⟩,?_,fun x c e => ?_,?_,fun x c e => ?_,fun p hp => ?_,aJ,I.len⟩
 ·exact keep b o (BS b o e) hb (u4 b o e hx) (I.base.keep b o e n hb hx) (I.base.free b o e n hx)
 ·obtain⟨sl,e1⟩:=I.base.slot b o e n hb hx
  obtain⟨Hq,e2⟩:=slot b _ (BS b o e) hb (u4 b o e hx) e1 (I.base.free b o e n hx)
  exact⟨Hq,e2⟩
 ·obtain⟨o',e1⟩:=I.base.there b o e hx
  exact free b o' (u4 b o e hx) e1 (I.base.free b o e n hx)
 ·obtain⟨o',e1⟩:=I.base.there b o e hx
  exact there b o' (u4 b o e hx) e1
 ·obtain⟨m1,e1⟩:=I.base.gK b ps e
  obtain⟨m2,e2⟩:=gK b _ e1
  exact⟨m1 ++ m2,by rw[e2,Array.append_assoc]⟩
 ·obtain⟨m,hn,hl⟩:=I.loc
  refine⟨m,ns m hn,fun i x v e1 e2 e3 => ?_⟩
  obtain⟨u,r,l⟩:=hl i x v e1 e2 e3
  refine⟨u,r,?_⟩
  rcases l with l | ⟨k,c,e,z⟩
  ·exact .inl l
  ·exact .inr ⟨k,c,e,cellK x c e _ z⟩
 ·obtain⟨v,z⟩:=I.cell x c e
  exact⟨v,cellK x c e v z⟩
 ·obtain⟨m,⟨o,_,_,ho,_⟩,_⟩:=I.loc
  exact free _ o (fun z=>(kF _ z).2.1 rfl) ho I.free
 ·obtain⟨v,o,ho,hd⟩:=I.cell x c e
  exact free c o (fun z=>(kF c z).2.2.1 x c e rfl) ho (I.c5 x c e)
 ·obtain⟨e,n,ne,nf,d⟩:=I.pin p hp
  have jM:p.1∉ch:=fun z=>(kF p.1 z).2.2.2 p hp rfl
  exact⟨keep p.1 p.2 ne nf jM e n,free p.1 p.2 jM e n,ne,nf,d⟩
theorem Inv.un {t':Nat} (I:Inv X pins σ H s) (u:Un X.fs [] H H' s.heap h') (aJ:dh X.prog X.w H' h'):Inv X pins σ H' { s with heap:=h',toks:=t' }:=by
 obtain⟨m,⟨o,es,ep,ho,r⟩,_⟩:=id I.loc
 obtain⟨sl,hL⟩:=u.any ho I.free (by simp)
 exact I.step (g':=s.gens) (d':=s.drawn) (ch:=[]) (fun _ z=>nomatch z) (fun b o _ hb _ e n=>u.keep b o e n hb (by simp)) (fun b o _ hb _ e n=>u.slot b o e n hb (by simp)) (fun b o _ e n=>u.free b o e n (by simp)) (fun b o _ e=>u.there b o e (by simp)) u.fM u.gn u.gK (fun m' hm=>by
  obtain⟨o',rR,xZ,iO,r'⟩:=hm
  rw[ho] at iO;cases iO
  exact⟨_,rR,xZ,hL,r'⟩) aJ I.bare
theorem Inv.call {g':Array GenState} {t':Nat} {d':Drawn} {ch:List Addr} (I:Inv X pins σ H s) (u:Un (jg X.stack) ch H H' s.heap h') (aJ:dh X.prog X.w H' h') (hg:AllBare g')
  (kF:∀ b∈ch,(b∈X.ex\/X.s₀.heap.objs.size <= b)/\b≠X.env.locals/\(∀ x c,X.env.cells.lookup x=some c->c≠b)/\∀ p∈X.pn ++ pins,p.1≠b) :
  Inv X pins σ H' { s with heap:=h',gens:=g',drawn:=d',toks:=t' }:=by
 obtain⟨m,⟨o,es,ep,ho,r⟩,_⟩:=id I.loc
 obtain⟨sl,hL⟩:=u.any ho I.free fun z=>(kF _ z).2.1 rfl
 exact I.step (ch:=ch) kF (fun b o hL hb hc e n=>u.keep b o e n (fun z=>(List.mem_cons.mp (I.gq b z)).elim hL hb) hc) (fun b o _ _ hc e n=>u.any e n hc) (fun b o hc e n=>u.free b o e n hc) (fun b o hc e=>u.there b o e hc) u.fM u.gn u.gK (fun m' hm=>by
  obtain⟨o',rR,xZ,iO,r'⟩:=hm
  rw[ho] at iO;cases iO
  exact⟨_,rR,xZ,hL,r'⟩) aJ hg
theorem Inv.turned {t':Nat} {it:Addr} (I:Inv X pins σ H s) (k:∀ b o,b≠it->s.heap.get? b=some o->h'.get? b=some o) (hn:H it=none) (hL:it≠X.env.locals)
  (h1:it∈X.ex\/X.s₀.heap.objs.size <= it) (h2:∀ x c,X.env.cells.lookup x=some c->c≠it) (h3:∀ p∈X.pn ++ pins,p.1≠it):Inv X pins σ H { s with heap:=h',toks:=t' }:=by
 have BU:∀ b u,H b=some u->b≠it:=fun b u e z=>by rw[z,hn] at e;cases e
 refine I.step (g':=s.gens) (d':=s.drawn) (ch:=[it]) (fun b hb => ?_) (fun b o _ _ hc e _=>k b o (fun z=>hc (by simp[z])) e) (fun b o _ _ hc e _=>⟨o.slots,k b o (fun z=>hc (by simp[z])) e⟩) (fun _ _ _ _ n=>n)
  (fun b o hc e=>⟨o,k b o (fun z=>hc (by simp[z])) e⟩) (fun _ _ e=>e) (fun _ _ _ e=>e) (fun b ps e=>⟨#[],by rw[e];simp⟩) (fun m hm => ?_) (fun b u e => ?_) I.bare
 ·have e:b=it:=by simpa using hb
  subst e
  exact⟨h1,hL,h2,h3⟩
 ·obtain⟨o,es,ep,ho,r⟩:=hm
  exact⟨o,es,ep,k _ o (Ne.symm hL) ho,r⟩
 ·refine (I.aJ b u e).hV (fun c v hc q=>k c v ?_ q) (fun _ q=>q) fun _ _ q=>q
  rcases hc with z | z
  ·rw[z];exact BU b u e
  ·exact BU c _ z
theorem Inv.tok (I:Inv X pins σ H s) (t:Nat):Inv X pins σ H { s with toks:=t }:=I.un (h':=s.heap) (t':=t) Un.refl I.aJ
theorem Inv.kept {t':Nat} (I:Inv X pins σ H s) (k:∀ b u,s.heap.get? b=some u->h'.get? b=some u):Inv X pins σ H { s with heap:=h',toks:=t' }:=I.un (Un.kept k) (I.aJ.kept k)
theorem Inv.laid {a:Addr} {o:HO} {t':Nat} (I:Inv X pins σ H s) (k:∀ b u,s.heap.get? b=some u->h'.get? b=some u) (hp:s.heap.objs.size <= a) (new:aI X.prog X.w (upd H a o) h' a o) :
  Inv X pins σ (upd H a o) { s with heap:=h',toks:=t' }:=I.un (Un.laid k hp (I.aJ.fresh hp)) (I.aJ.laid k hp new)
theorem Inv.write {x e:Addr} {o:HO} {t':Nat} (I:Inv X pins σ H s) (mu:rN (H x)) (he:e=x\/H e=some (.own x)) (k:∀ b u,b≠e->s.heap.get? b=some u->h'.get? b=some u) (kE:∃ u,h'.get? e=some u)
  (new:aI X.prog X.w (upd H x o) h' x o):Inv X pins σ (upd H x o) { s with heap:=h',toks:=t' }:=I.un (Un.write mu he k kE) (I.aJ.write mu he k kE new)
theorem Inv.ir {mK:List (Addr × Obj)} (I:Inv X pins σ H s) (h:∀ p∈mK,s.heap.get? p.1=some p.2/\H p.1=none/\p.1≠X.env.locals/\p.1∉X.fs/\∀ v,p.2.data ≠ .cell v):Inv X mK σ H s :=
 ⟨I.ok,I.os,I.bare,I.base,I.loc,I.cell,I.free,I.c5,fun p hp=>(List.mem_append.mp hp).elim (fun z=>I.pin p (List.mem_append_left _ z)) (h p),I.aJ,I.len⟩
theorem BV {N:List Str} (hN:N.Nodup) {i j:Nat} {x:Str} (a:N[i]? = some x) (b:N[j]? = some x):i=j:=by
 obtain⟨h1,e1⟩:=List.getElem?_eq_some_iff.mp a
 obtain⟨h2,e2⟩:=List.getElem?_eq_some_iff.mp b
 exact (List.getElem_inj hN).mp (e1.trans e2.symm)
theorem BW {M:Model} {A:Around} {E:Value->Shared->Prop} {i:Nat} {x:Str} {v:V} {u:Value} {Q:Unit->Shared->Prop} (I:Inv X pins σ H s) (hN:X.N.Nodup) (hi:X.N[i]? = some x) (hx:Loc X.env.scope x) (r:RelV v u)
  (h:∀ s',Inv X pins (σ.set i (some v)) H s'->(∃ a,Heap.SameBut a s.heap s'.heap/\(a=X.env.locals\/X.env.cells.lookup x=some a))->Q () s') (hf:X.fn x=true\/X.env.scope.names.lookup x=some .local:=by first | exact .inl rfl | exact .inr rfl | assumption):wpAny M A (storeName X.env x u) Q E s:=by
 obtain⟨m,hn,hl⟩:=id I.loc
 have x6:(X.env.scope.kind == .class || (X.env.scope.kind == .module && X.env.locals != X.env.globals))=false:=by rw[I.ok.kind];rfl
 have BX:i < σ.length:=by rw[I.len];exact (List.getElem?_eq_some_iff.mp hi).1
 have nW:=I.nW
 have tracked:∀ {a:Addr} {h':Heap},(∃ o,s.heap.get? a=some o/\H a=none)->Heap.SameBut a s.heap h'->dh X.prog X.w H h':=fun {a h'} ha hs b ob e=>by
  obtain⟨_,_,mL⟩:=ha
  refine (I.aJ b ob e).hV (fun c w' hc q=>(hs.2 c ?_).trans q) (fun _ q=>q) fun _ _ q=>q
  rintro rfl
  rcases hc with rfl | hc
  ·rw[mL] at e;cases e
  ·rw[mL] at hc;cases hc
 rcases hx with hk | hk
 ·refine wpAny_storeName_local hk hn (fun h' ij hs => ?_) x6
  obtain⟨oL,_,_,rS,_⟩:=id hn
  refine h _ ⟨I.ok,I.os,I.bare,⟨fun b o e n hb hx => ?_,fun b o e n hb hx => ?_,I.base.free,fun b o e hx => ?_,I.base.fM,I.base.gn,I.base.gK⟩,⟨_,ij,fun j y v' e1 e2 e3 => ?_⟩,fun y c e => ?_,I.free,I.c5,fun p hp => ?_,tracked ⟨oL,rS,I.free⟩ hs,by simpa using I.len⟩ ⟨_,hs,.inl rfl⟩
  ·exact (hs.2 b (Nat.ne_of_lt (Nat.lt_of_lt_of_le (Heap.lt_size e) I.ok.above))).trans (I.base.keep b o e n hb hx)
  ·obtain⟨sl,e1⟩:=I.base.slot b o e n hb hx
   exact⟨sl,(hs.2 b (Nat.ne_of_lt (Nat.lt_of_lt_of_le (Heap.lt_size e) I.ok.above))).trans e1⟩
  ·obtain⟨o',e1⟩:=I.base.there b o e hx
   exact⟨o',(hs.2 b (Nat.ne_of_lt (Nat.lt_of_lt_of_le (Heap.lt_size e) I.ok.above))).trans e1⟩
  ·by_cases hj:j=i
   ·subst hj
    rw[hi] at e1;cases e1
    rw[List.getElem?_set_self BX] at e2
    cases e2
    exact⟨u,r,.inl ⟨hk,by simp⟩⟩
   ·rw[List.getElem?_set_ne (Ne.symm hj)] at e2
    obtain⟨u',r',q⟩:=hl j y v' e1 e2 e3
    refine⟨u',r',?_⟩
    rcases q with⟨k,e⟩ | ⟨k,c,e,z⟩
    ·refine .inl ⟨k,?_⟩
     have:y≠x:=fun e=>hj (BV hN e1 (e ▸ hi))
     simp[this,e]
    ·exact .inr ⟨k,c,e,z.sameBut hs (nW y c e)⟩
  ·obtain⟨w',z⟩:=I.cell y c e
   exact⟨w',z.sameBut hs (nW y c e)⟩
  ·obtain⟨e,n,ne,nf,d⟩:=I.pin p hp
   exact⟨(hs.2 p.1 ne).trans e,n,ne,nf,d⟩
 ·have lq:X.fn x=true:=by
   rcases hf with z | z
   ·exact z
   ·rw[z] at hk;cases hk
  obtain⟨c,hc⟩:=I.ok.has x (.inl hk)
  obtain⟨w',z⟩:=I.cell x c hc
  refine wpAny_storeName_cell I.ok.kind hk hc z (fun h' mM hs => ?_)
  obtain⟨oc,BY,x8⟩:=id z
  refine h { s with heap:=h' } ⟨I.ok,I.os,I.bare,⟨fun b o e n hb hx => ?_,fun b o e n hb hx => ?_,I.base.free,fun b o e hx => ?_,I.base.fM,I.base.gn,I.base.gK⟩,⟨m,hn.sameBut hs (Ne.symm (nW x c hc)),fun j y v' e1 e2 e3 => ?_⟩,fun y c' e => ?_,I.free,I.c5,fun p hp => ?_,tracked ⟨oc,BY,I.c5 x c hc⟩ hs,by simpa using I.len⟩ ⟨c,hs,.inr hc⟩
  ·exact (hs.2 b (Nat.ne_of_lt (Nat.lt_of_lt_of_le (Heap.lt_size e) (I.ok.rP x c lq hc)))).trans (I.base.keep b o e n hb hx)
  ·obtain⟨sl,e1⟩:=I.base.slot b o e n hb hx
   exact⟨sl,(hs.2 b (Nat.ne_of_lt (Nat.lt_of_lt_of_le (Heap.lt_size e) (I.ok.rP x c lq hc)))).trans e1⟩
  ·obtain⟨o',e1⟩:=I.base.there b o e hx
   exact⟨o',(hs.2 b (Nat.ne_of_lt (Nat.lt_of_lt_of_le (Heap.lt_size e) (I.ok.rP x c lq hc)))).trans e1⟩
  ·by_cases hj:j=i
   ·subst hj
    rw[hi] at e1;cases e1
    rw[List.getElem?_set_self BX] at e2
    cases e2
    exact⟨u,r,.inr ⟨.inl hk,c,hc,mM⟩⟩
   ·rw[List.getElem?_set_ne (Ne.symm hj)] at e2
    obtain⟨u',r',q⟩:=hl j y v' e1 e2 e3
    refine⟨u',r',?_⟩
    rcases q with q | ⟨k,c',e,z'⟩
    ·exact .inl q
    ·refine .inr ⟨k,c',e,z'.sameBut hs ?_⟩
     rintro rfl
     exact hj (BV hN e1 (I.ok.inj _ _ _ e hc ▸ hi))
  ·by_cases hcc:c'=c
   ·subst hcc;exact⟨_,mM⟩
   ·obtain⟨w2,z2⟩:=I.cell y c' e
    exact⟨w2,z2.sameBut hs hcc⟩
  ·obtain⟨e,n,ne,nf,d⟩:=I.pin p hp
   refine⟨(hs.2 p.1 ?_).trans e,n,ne,nf,d⟩
   intro q
   rw[q,BY] at e
   have q':oc=p.2:=Option.some.inj e
   exact d w' (by rw[<-q'];exact x8)
theorem BZ {M:Model} {A:Around} {E:Value->Shared->Prop} {i:Nat} {x:Str} {v:V} {u:Value} {Q:Unit->Shared->Prop} (I:Inv X pins σ H s) (hN:X.N.Nodup) (hi:X.N[i]? = some x) (hx:Loc X.env.scope x) (r:RelV v u)
  (h:∀ s',Inv X pins (σ.set i (some v)) H s'->Q () s') (hf:X.fn x=true\/X.env.scope.names.lookup x=some .local:=by first | exact .inl rfl | exact .inr rfl | assumption):wpAny M A (storeName X.env x u) Q E s :=
 BW I hN hi hx r (fun s' I' _=>h s' I') hf
theorem Inv.rT {s':Shared} {ch:List Addr} (I:Inv X pins σ H s) (ho:s'.os=s.os) (u:Un (jg X.stack) ch H H' s.heap s'.heap) (aJ:dh X.prog X.w H' s'.heap) (hg:AllBare s'.gens)
  (kF:∀ b∈ch,(b∈X.ex\/X.s₀.heap.objs.size <= b)/\b≠X.env.locals/\(∀ x c,X.env.cells.lookup x=some c->c≠b)/\∀ p∈X.pn ++ pins,p.1≠b):Inv X pins σ H' s':=by
 obtain⟨h',g',d',t',o'⟩:=s'
 have e:o'=s.os:=ho
 subst e
 exact I.call (g':=g') (t':=t') (d':=d') u aJ hg kF
end
noncomputable abbrev XK:=Value->Option Addr->Hp->Prop
noncomputable abbrev St:=List (Option V)
noncomputable abbrev VK:=V->Hp->Prop
noncomputable abbrev TE:=St->Hp->VK->Prop
noncomputable abbrev TT:=St->Hp->(Bool->Hp->Prop)->Prop
noncomputable abbrev TA:=St->Hp->(List V->Hp->Prop)->Prop
structure Ends where
 nx:St->Hp->Prop
 rt:VK
 bk:St->Hp->Prop:=fun _ _=>False
 ct:St->Hp->Prop:=fun _ _=>False
noncomputable abbrev TS:=Ends->St->Hp->Prop
noncomputable def EP (X:Cx) (pins:List (Addr × Obj)) (σ : St) (Q:VK) (u:Value) (s':Shared):Prop:=∃ v H',Inv X pins σ H' s'/\RelV v u/\Q v H'
noncomputable def TP (X:Cx) (pins:List (Addr × Obj)) (σ : St) (Q:Bool->Hp->Prop) (b:Bool) (s':Shared):Prop:=∃ H',Inv X pins σ H' s'/\Q b H'
noncomputable def AP (X:Cx) (pins:List (Addr × Obj)) (σ : St) (Q:List V->Hp->Prop) (us:List Value) (s':Shared):Prop:=∃ vs H',Inv X pins σ H' s'/\Vals vs us/\Q vs H'
noncomputable def SP (X:Cx) (pins:List (Addr × Obj)) (D:Ends) (f:Flow) (s':Shared):Prop :=
 match f with
 | .next=>∃ σ' H',Inv X pins σ' H' s'/\D.nx σ' H'
 | .brk=>∃ σ' H',Inv X pins σ' H' s'/\D.bk σ' H'
 | .cont=>∃ σ' H',Inv X pins σ' H' s'/\D.ct σ' H'
 | .ret u=>∃ v σ' H',Inv X pins σ' H' s'/\RelV v u/\D.rt v H'
noncomputable def PE (X:Cx) (e:Expr) (t:TE):Prop :=
 ∀ (pins:List (Addr × Obj)) (s:Shared) (σ : St) (H:Hp) (Q:VK),Inv X pins σ H s->t σ H Q->wpAny (model X.prog X.w) X.A (eval e X.env) (EP X pins σ Q) X.xe s
noncomputable def PT (X:Cx) (e:Expr) (t:TT):Prop :=
 ∀ (pins:List (Addr × Obj)) (s:Shared) (σ : St) (H:Hp) (Q:Bool->Hp->Prop),Inv X pins σ H s->t σ H Q->wpAny (model X.prog X.w) X.A (isTrue e X.env (eval e X.env)) (TP X pins σ Q) X.xe s
noncomputable def PW (X:Cx) (e:Expr) (t:TT):Prop :=
 ∀ (whole:Sem Value) (pins:List (Addr × Obj)) (s:Shared) (σ : St) (H:Hp) (Q:Bool->Hp->Prop),Inv X pins σ H s->t σ H Q->wpAny (model X.prog X.w) X.A (isTrue e X.env whole) (TP X pins σ Q) X.xe s
theorem PW.pt {X:Cx} {e:Expr} {t:TT} (h:PW X e t):PT X e t:=h _
noncomputable def PA (X:Cx) (es:List Expr) (t:TA):Prop :=
 ∀ (pos:Pos) (pins:List (Addr × Obj)) (s:Shared) (σ : St) (H:Hp) (Q:List V->Hp->Prop),Inv X pins σ H s->t σ H Q->wpAny (model X.prog X.w) X.A (spliced (backTo pos (starEach es X.env))) (AP X pins σ Q) X.xe s
noncomputable def PS (X:Cx) (st:Stmt) (t:TS):Prop :=
 ∀ (pins:List (Addr × Obj)) (s:Shared) (σ : St) (H:Hp) (D:Ends),Inv X pins σ H s->t D σ H->wpAny (model X.prog X.w) X.A (exec st X.env) (SP X pins D) X.xe s
noncomputable def gN (X:Cx) (st:List Stmt) (t:TS):Prop :=
 ∀ (pins:List (Addr × Obj)) (s:Shared) (σ : St) (H:Hp) (D:Ends),Inv X pins σ H s->t D σ H->wpAny (model X.prog X.w) X.A (execs st X.env) (SP X pins D) X.xe s
theorem aW {α : Type} {t:Sem α} {Q Q' : α -> Shared->Prop} {M:Model} {A:Around} {E:Value->Shared->Prop} {s:Shared} (h:wpAny M A t Q E s) (hQ:∀ a s,Q a s->Q' a s):wpAny M A t Q' E s:=wpAny_mono h hQ fun _ _ x=>x
section
variable {X:Cx}
noncomputable def eE (i:Nat):TE:=fun σ H Q=>∃ v,σ[i]? = some (some v)/\Q v H
noncomputable def tC (v:V):TE:=fun _ H Q=>Q v H
theorem B0 {i:Nat} {x:Str} {pos:Pos} (hN:X.N[i]? = some x) (hv:nU X.env.scope x) (hd:(x == ("__debug__" : Str))=false:=by decide) (gO:(x == ("__classdict__" : Str))=false:=by decide):PE X (.Name x pos) (eE i):=by
 intro pins s σ H Q I h
 obtain⟨v,e,h⟩:=h
 obtain⟨m,hn,hl⟩:=I.loc
 obtain⟨u,r,l⟩:=hl i x v hN e hv
 have fin:EP X pins σ Q u s:=⟨v,H,I,r,h⟩
 rcases l with⟨hk,hm⟩ | ⟨hk,c,hc,mN⟩
 ·exact wpAny_Name (wpAny_loadName_local I.ok.kind hk hn hm fin) hd
 ·rcases hk with hk | hk
  ·exact wpAny_Name (wpAny_loadName_cell I.ok.kind hk hc mN fin) hd
  ·exact wpAny_Name (wpAny_loadName_free I.ok.kind hk hc mN fin gO) hd
theorem B2 {i j pos}:PE X (.Constant (.int i) j pos) (tC (.int i)):=fun _ _ _ H _ I h=>wpAny_Constant_int ⟨.int i,H,I.tok _,⟨_,rfl⟩,h⟩
theorem Hr {b j pos}:PE X (.Constant (.bool b) j pos) (tC (.bl b)):=fun _ _ _ H _ I h=>Constant_bool ⟨.bl b,H,I,rfl,h⟩
theorem Hs {j pos}:PE X (.Constant .none j pos) (tC .non):=fun _ _ _ H _ I h=>Constant_none ⟨.non,H,I,rfl,h⟩
noncomputable def Gl (X:Cx) (x:Str):Prop:=X.env.kindOf x=some .globalImplicit
theorem B3 {E:Value->Shared->Prop} {pins:List (Addr × Obj)} {s:Shared} {σ : St} {H:Hp} {x:Str} {u:Value} {pos:Pos} {Q:Value->Shared->Prop} (I:Inv X pins σ H s) (hg:Gl X x) (hm:X.mg x=some u) (h:Q u s)
  (hd:(x == ("__debug__" : Str))=false:=by decide):wpAny (model X.prog X.w) X.A (eval (.Name x pos) X.env) Q E s :=
 Calls.Name_function_global I.ok.kind hg (Calls.loadGlobal_global (by rw[I.ok.glob];exact I.mod.glob.keeps I.bk) hm h) hd
theorem mO {E:Value->Shared->Prop} {pins:List (Addr × Obj)} {s:Shared} {σ : St} {H:Hp} {x:Str} {u:Value} {pos:Pos} {Q:Value->Shared->Prop} (I:Inv X pins σ H s) (hg:Gl X x) (hm:X.mg x=none) (hv:bootBuiltins x=some u) (h:Q u s)
  (hn:x ≠ "__name__" := by decide) (hd:(x == ("__debug__" : Str))=false:=by decide):wpAny (model X.prog X.w) X.A (eval (.Name x pos) X.env) Q E s:=by
 obtain⟨mb,h1,h2⟩:=I.mod.blt
 exact Calls.Name_function_global I.ok.kind hg (Calls.loadGlobal_builtin (by rw[I.ok.glob];exact I.mod.glob.keeps I.bk) hm (by rw[I.ok.blt];exact h1.keeps I.bk) ((h2 x hn).trans hv) h) hd
theorem Ht {x:Str} {v:V} {u:Value} {pos:Pos} (hg:Gl X x) (hm:X.mg x=some u) (r:RelV v u) (hd:(x == ("__debug__" : Str))=false:=by decide):PE X (.Name x pos) (tC v) :=
 fun _ _ _ H _ I h=>B3 I hg hm ⟨v,H,I,r,h⟩ hd
theorem Hu {x:Str} {v:V} {u:Value} {pos:Pos} (hg:Gl X x) (hm:X.mg x=none) (hv:bootBuiltins x=some u) (r:RelV v u) (hn:x ≠ "__name__" := by decide) (hd:(x == ("__debug__" : Str))=false:=by decide):PE X (.Name x pos) (tC v) :=
 fun _ _ _ H _ I h=>mO I hg hm hv ⟨v,H,I,r,h⟩ hn hd
variable {a b:Expr} {ta tb:TE} {pos:Pos}
noncomputable def PC (X:Cx) (op:CmpOp) (a b:Expr) (t:TE):Prop :=
 ∀ (pins:List (Addr × Obj)) (s:Shared) (σ : St) (H:Hp) (Q:VK),Inv X pins σ H s->t σ H Q →
  wpAny (model X.prog X.w) X.A (eval a X.env) (fun v s₁ => wpAny (model X.prog X.w) X.A (eval b X.env) (fun u s₂ => wpAny (model X.prog X.w) X.A (compareOp op v u) (EP X pins σ Q) X.xe s₂) X.xe s₁) X.xe s
noncomputable def tB (t:TE):TT:=fun σ H Q=>t σ H fun x H1=>∃ c,x = .bl c/\Q c H1
theorem Hv {op:CmpOp} {t:TE} (h:PC X op a b t) (h1:behindInMarks op b=false:=by first | exact Hw _ (by decide) (by decide) | rfl):PT X (.Compare a [op] [b] pos) (tB t):=by
 intro pins s σ H Q I hw
 refine wpAny_isTrue_Compare1 (aW (h pins s σ H _ I hw) fun v s1 h1=>aW h1 fun u s2 h2=>aW h2 fun c s3 h0_ => el5 h0_ fun x H1 I1 r1 q1 => ?_) h1
 obtain⟨d,rfl,q⟩:=q1
 cases r1
 exact wpAny_truthy_bool ⟨H1,I1,q⟩
theorem Hx {e:Expr} {t:TE} (h:PE X e t) (he:∀ whole,isTrue e X.env whole=(do let v <- whole;standAt e.pos;holding [v] (truthy v)):=by intro _;rfl):PT X e (tB t):=by
 intro pins s σ H Q I hw
 refine isTrue_plain (aW (h pins s σ H _ I hw) fun v s1 h0_ => el5 h0_ fun x H1 I1 r1 q1 => ?_) (he _)
 obtain⟨d,rfl,q⟩:=q1
 cases r1
 exact wpAny_truthy_bool ⟨H1,I1,q⟩
variable {tA kG:TT} {rest:List Expr}
noncomputable def nX (t u:TT):TT:=fun σ H Q=>t σ H fun c H1=>if c=true then u σ H1 Q else Q false H1
noncomputable def x9 (t u:TT):TT:=fun σ H Q=>t σ H fun c H1=>if c=true then Q true H1 else u σ H1 Q
noncomputable def rV (t:TT):TT:=fun σ H Q=>t σ H fun c H1=>Q (!c) H1
theorem Hy (ha:PT X a tA):PW X (.BoolOp .And [a] pos) tA:=by
 intro wh pins s σ H Q I h
 refine isTrue_and (aW (ha pins s σ H Q I h) fun c s1 e => ?_)
 cases c with
 | true=>exact isTrue_and_nil e
 | false=>exact e
theorem Hz (ha:PT X a tA):PW X (.BoolOp .Or [a] pos) tA:=by
 intro wh pins s σ H Q I h
 refine isTrue_or (aW (ha pins s σ H Q I h) fun c s1 e => ?_)
 cases c with
 | false=>exact isTrue_or_nil e
 | true=>exact e
theorem HA (ha:PT X a tA) (hb:PW X (.BoolOp .And (b :: rest) pos) kG):PW X (.BoolOp .And (a :: b :: rest) pos) (nX tA kG):=by
 intro wh pins s σ H Q I h
 refine isTrue_and (aW (ha pins s σ H _ I h) fun c s1 h0_ => el3 h0_ fun H1 I1 q1 => ?_)
 cases c with
 | true=>exact hb wh pins s1 σ H1 Q I1 q1
 | false=>exact⟨H1,I1,q1⟩
theorem HB (ha:PT X a tA) (hb:PW X (.BoolOp .Or (b :: rest) pos) kG):PW X (.BoolOp .Or (a :: b :: rest) pos) (x9 tA kG):=by
 intro wh pins s σ H Q I h
 refine isTrue_or (aW (ha pins s σ H _ I h) fun c s1 h0_ => el3 h0_ fun H1 I1 q1 => ?_)
 cases c with
 | true=>exact⟨H1,I1,q1⟩
 | false=>exact hb wh pins s1 σ H1 Q I1 q1
theorem HC (ha:PT X a tA):PT X (.UnaryOp .Not a pos) (rV tA):=by
 intro pins s σ H Q I h
 exact isTrue_not (ha pins s σ H (fun c H1=>Q (!c) H1) I h)
noncomputable def B4 (ta tb:TE):TE:=fun σ H Q=>ta σ H fun x H1=>∃ c,x = .bl c/\if c=true then tb σ H1 Q else Q (.bl false) H1
noncomputable def B5 (ta:TE):TE:=fun σ H Q=>ta σ H fun x H1=>∃ c,x = .bl c/\Q (.bl (!c)) H1
theorem HD {op} {t:TE} (h:PE X a t):PE X (.BoolOp op [a] pos) t:=fun pins s σ H Q I hw=>BoolOp_one (h pins s σ H Q I hw)
theorem HE (ha:PE X a ta) (hb:PE X (.BoolOp .And (b :: rest) pos) tb):PE X (.BoolOp .And (a :: b :: rest) pos) (B4 ta tb):=by
 intro pins s σ H Q I h
 refine BoolOp_and (aW (ha pins s σ H _ I h) fun v s1 h0_ => el5 h0_ fun x H1 I1 r1 q1 => ?_)
 obtain⟨c,rfl,q1⟩:=q1
 cases r1
 refine wpAny_truthy_bool ?_
 cases c with
 | true=>exact hb pins s1 σ H1 Q I1 q1
 | false=>exact⟨.bl false,H1,I1,rfl,q1⟩
theorem HF (ha:PE X a ta):PE X (.UnaryOp .Not a pos) (B5 ta):=by
 intro pins s σ H Q I h
 refine UnaryOp_ (aW (ha pins s σ H _ I h) fun v s1 h0_ => el5 h0_ fun x H1 I1 r1 q1 => ?_)
 obtain⟨c,rfl,q1⟩:=q1
 cases r1
 exact not_of (wpAny_truthy_bool ⟨.bl (!c),H1,I1,rfl,q1⟩)
noncomputable def B6 (t:TT) (ta tb:TE):TE:=fun σ H Q=>t σ H fun c H1=>if c=true then ta σ H1 Q else tb σ H1 Q
theorem HG {c:Expr} (hc:PT X c tA) (ha:PE X a ta) (hb:PE X b tb):PE X (.IfExp c a b pos) (B6 tA ta tb):=by
 intro pins s σ H Q I h
 refine wpAny_IfExp (aW (hc pins s σ H _ I h) fun d s1 h0_ => el3 h0_ fun H1 I1 q1 => ?_)
 cases d with
 | true=>exact ha pins s1 σ H1 Q I1 q1
 | false=>exact hb pins s1 σ H1 Q I1 q1
end
noncomputable def aP (K:PySem.W.Frag) (H:Hp) (a:Addr) (xs:List V):Prop :=
 Rd H a (.lst xs) ∨
  ∃ (o:Obj) (ag:Array Value) (n:Nat),K.lookup a=some o/\o.cls = .type "list" /\ o.dict=none/\o.data = .seq ag n/\ag.size <= sizeLine/\Vals xs ag.toList
noncomputable def bw (K:PySem.W.Frag) (H:Hp) (a:Addr) (xs:List V):Prop :=
 Rd H a (.tup xs) ∨
  ∃ (o:Obj) (ag:Array Value) (n:Nat),K.lookup a=some o/\o.cls = .type "tuple" /\ o.data = .seq ag n/\ag.size <= sizeLine/\Vals xs ag.toList
noncomputable def x_:Value->Option V
 | .none=>some .non
 | .bool b=>some (.bl b)
 | .int i _=>some (.int i)
 | .str x _=>some (.str x)
 | .bytes b _=>some (.byt b)
 | .float b _=>some (.flt b)
 | .ref a=>some (.ref a)
 | .type n=>some (.ty n)
 | _=>none
theorem RelV.abs {x:V} {u:Value} (r:RelV x u):x_ u=some x:=by
 cases x with
 | non=>cases r;rfl
 | bl _=>cases r;rfl
 | int _=>obtain⟨t,rfl⟩:=r;rfl
 | str _=>obtain⟨t,rfl⟩:=r;rfl
 | byt _=>obtain⟨t,rfl⟩:=r;rfl
 | flt _=>obtain⟨t,rfl⟩:=r;rfl
 | ref _=>cases r;rfl
 | ty _=>cases r;rfl
theorem RelV.inj {x y:V} {u:Value} (r:RelV x u) (q:RelV y u):x=y:=Option.some.inj (r.abs.symm.trans q.abs)
theorem Vals.inj:∀ {xs ys:List V} {us:List Value},Vals xs us->Vals ys us->xs=ys
 | _,_,_,.nil,.nil=>rfl
 | _,_,_,.cons r t,.cons r' t'=>by rw[r.inj r',Vals.inj t t']
section
variable {X:Cx} {pins:List (Addr × Obj)} {σ : St} {H:Hp} {s:Shared} {a:Addr} {xs ys:List V}
theorem aP.of {K:PySem.W.Frag} (h:H a=some (.lst xs)):aP K H a xs := .inl (.inl h)
theorem bw.of {K:PySem.W.Frag} (h:H a=some (.tup xs)):bw K H a xs := .inl (.inl h)
theorem Inv.list (I:Inv X pins σ H s) (h:aP X.K H a xs):∃ ag:List Value,Vals xs ag/\PlainL s.heap a ag.toArray/\xs.length <= sizeLine:=by
 rcases h with h | ⟨o,ag,n,hk,hc,hd,hs,hz,r⟩
 ·obtain⟨z,ag,n,r,e⟩:=h.ok I.aJ
  exact⟨ag,r,⟨_,n,e,rfl,rfl,rfl⟩,z⟩
 ·refine⟨ag.toList,r,⟨o,n,I.gM a o hk,hc,hd,by simpa using hs⟩,?_⟩
  have e:=r.length
  simp only[Array.length_toList] at e
  omega
theorem Inv.tuple (I:Inv X pins σ H s) (h:bw X.K H a xs):∃ ag:List Value,Vals xs ag/\IsTup s.heap a ag.toArray/\xs.length <= sizeLine:=by
 rcases h with h | ⟨o,ag,n,hk,hc,hs,hz,r⟩
 ·obtain⟨z,ag,r,p⟩:=h.ok I.aJ
  exact⟨ag,r,p,z⟩
 ·refine⟨ag.toList,r,⟨o,I.gM a o hk,hc,n,by simpa using hs⟩,?_⟩
  have e:=r.length
  simp only[Array.length_toList] at e
  omega
theorem Inv.dm (I:Inv X pins σ H s) (h:aP X.K H a xs) (h':aP X.K H a ys):xs=ys:=by
 obtain⟨ag,r,⟨o,n,e,_,_,d⟩,_⟩:=I.list h
 obtain⟨its',r',⟨o',n',e',_,_,d'⟩,_⟩:=I.list h'
 rw[e] at e';cases e'
 rw[d] at d'
 injection d' with d1 _
 have:ag=its':=by simpa using congrArg Array.toList d1
 subst this
 exact r.inj r'
theorem Inv.fV (I:Inv X pins σ H s) (h:bw X.K H a xs) (h':bw X.K H a ys):xs=ys:=by
 obtain⟨ag,r,⟨o,e,_,n,d⟩,_⟩:=I.tuple h
 obtain⟨its',r',⟨o',e',_,n',d'⟩,_⟩:=I.tuple h'
 rw[e] at e';cases e'
 rw[d] at d'
 injection d' with d1 _
 have:ag=its':=by simpa using congrArg Array.toList d1
 subst this
 exact r.inj r'
end
noncomputable abbrev Cx.fO (X:Cx) (E:Value->Shared->Prop):Cx:={ X with xe:=E }
noncomputable abbrev Cx.nY (X:Cx):Cx:=X.fO fun _ _=>False
theorem Cx.Ok.fO {X:Cx} (ok:X.Ok) (E:Value->Shared->Prop):(X.fO E).Ok :=
 ⟨ok.mod,ok.kind,ok.glob,ok.blt,ok.above,ok.inj,ok.has,ok.rP,ok.hd,ok.frames,ok.u3,ok.BR,ok.bs,ok.nV,ok.jL,ok.lj,ok.eR,ok.p8⟩
theorem Cx.Ok.cF {X:Cx} {E:Value->Shared->Prop} (ok:(X.fO E).Ok):X.Ok :=
 ⟨ok.mod,ok.kind,ok.glob,ok.blt,ok.above,ok.inj,ok.has,ok.rP,ok.hd,ok.frames,ok.u3,ok.BR,ok.bs,ok.nV,ok.jL,ok.lj,ok.eR,ok.p8⟩
section
variable {X:Cx} {pins:List (Addr × Obj)} {σ : St} {H:Hp} {s:Shared} {E:Value->Shared->Prop}
theorem Inv.fO (I:Inv X pins σ H s) (E:Value->Shared->Prop):Inv (X.fO E) pins σ H s:=⟨I.ok.fO E,I.os,I.bare,I.base,I.loc,I.cell,I.free,I.c5,I.pin,I.aJ,I.len⟩
theorem Inv.cF (I:Inv (X.fO E) pins σ H s):Inv X pins σ H s:=⟨I.ok.cF,I.os,I.bare,I.base,I.loc,I.cell,I.free,I.c5,I.pin,I.aJ,I.len⟩
theorem SP.cF {D:Ends} {f:Flow} {s':Shared} (h:SP (X.fO E) pins D f s'):SP X pins D f s':=by
 cases f with
 | next=>obtain⟨σ',H',I,q⟩:=h;exact⟨σ',H',I.cF,q⟩
 | brk=>obtain⟨σ',H',I,q⟩:=h;exact⟨σ',H',I.cF,q⟩
 | cont=>obtain⟨σ',H',I,q⟩:=h;exact⟨σ',H',I.cF,q⟩
 | ret u=>obtain⟨v,σ',H',I,r,q⟩:=h;exact⟨v,σ',H',I.cF,r,q⟩
theorem gN.nY {st:List Stmt} {t:TS} (h:gN X.nY st t):gN X st t:=fun pins s σ H D I hw =>
 wpAny_mono (h pins s σ H D (I.fO _) hw) (fun _ _ q=>q.cF) fun _ _ z=>False.elim z
end
section
variable {X:Cx} {st:Stmt} {rest:List Stmt} {t u:TS} {e:Expr} {te:TE} {pos:Pos}
noncomputable def u5:TS:=fun D σ H=>D.nx σ H
noncomputable def gP (t u:TS):TS:=fun D σ H=>t { D with nx:=u D } σ H
theorem HH:gN X [] u5:=fun _ _ σ H _ I h=>wpAny_execs_nil ⟨σ,H,I,h⟩
theorem HI (h1:PS X st t) (h2:gN X rest u):gN X (st :: rest) (gP t u):=by
 intro pins s σ H D I h
 refine wpAny_execs_cons (aW (h1 pins s σ H { D with nx:=u D } I h) fun f s1 q => ?_)
 cases f with
 | next =>
  obtain⟨σ',H',I',q⟩:=q
  exact h2 pins s1 σ' H' D I' q
 | ret v=>exact q
 | brk=>exact q
 | cont=>exact q
theorem HJ (h1:PS X st t):gN X [st] t:=by
 intro pins s σ H D I h
 refine wpAny_execs_cons (aW (h1 pins s σ H D I h) fun f s1 q => ?_)
 cases f with
 | next=>exact wpAny_execs_nil q
 | ret v=>exact q
 | brk=>exact q
 | cont=>exact q
theorem Inv.quiet {pins:List (Addr × Obj)} {σ : St} {H:Hp} {s:Shared} (I:Inv X pins σ H s):interactive X.env=false:=by simp[interactive,I.ok.kind]
noncomputable def rW (te:TE):TS:=fun D σ H=>te σ H fun _ H1=>D.nx σ H1
theorem HK (he:PE X e te) (hs:swapsWith e none pos.line X.env=pure false:=by rfl):PS X (.Expr e pos) (rW te):=by
 intro pins s σ H D I h
 exact wpAny_Expr_any (aW (he pins s σ H _ I h) fun v s1 h0_ => el5 h0_ fun x H1 I1 r1 q1 =>⟨σ,H1,I1,q1⟩) I.quiet hs
noncomputable def nZ (te:TE):TS:=fun D σ H=>te σ H D.rt
theorem HL (he:PE X e te):PS X (.Return (some e) pos) (nZ te):=by
 intro pins s σ H D I h
 exact wpAny_Return_some (aW (he pins s σ H _ I h) fun v s1 h0_ => el5 h0_ fun x H1 I1 r1 q1 =>⟨x,σ,H1,I1,r1,q1⟩)
noncomputable def lu (c:TT) (t u:TS):TS:=fun D σ H=>c σ H fun b H1=>if b=true then t D σ H1 else u D σ H1
theorem HM {c:Expr} {a b:List Stmt} {tc:TT} (hc:PT X c tc) (ha:gN X a t) (hb:gN X b u):PS X (.If c a b pos) (lu tc t u):=by
 intro pins s σ H D I h
 refine wpAny_If (aW (hc pins s σ H _ I h) fun d s1 h0_ => el3 h0_ fun H1 I1 q1 => ?_)
 cases d with
 | true=>exact ha pins s1 σ H1 D I1 q1
 | false=>exact hb pins s1 σ H1 D I1 q1
end
noncomputable abbrev TG:=V->St->Hp->(St->Hp->Prop)->Prop
noncomputable abbrev iw:=List V->St->Hp->(St->Hp->Prop)->Prop
noncomputable def PG (X:Cx) (target:Expr) (t:TG):Prop :=
 ∀ (pins:List (Addr × Obj)) (s:Shared) (σ : St) (H:Hp) (v:V) (u:Value) (Q:St->Hp->Prop),Inv X pins σ H s->RelV v u->t v σ H Q →
  wpAny (model X.prog X.w) X.A (assign target X.env u) (fun _ s'=>∃ σ' H',Inv X pins σ' H' s'/\Q σ' H') X.xe s
noncomputable def rX (X:Cx) (ts:List Expr) (t:iw):Prop :=
 ∀ (pins:List (Addr × Obj)) (s:Shared) (σ : St) (H:Hp) (vs:List V) (us:List Value) (Q:St->Hp->Prop),Inv X pins σ H s->Vals vs us->t vs σ H Q →
  wpAny (model X.prog X.w) X.A (assignInOrder ((assignEach ts X.env).map (·.2)) us) (fun _ s'=>∃ σ' H',Inv X pins σ' H' s'/\Q σ' H') X.xe s
noncomputable abbrev lx:=V->V->V->Hp->(Hp->Prop)->Prop
noncomputable def n5 (X:Cx) (t:lx):Prop :=
 ∀ (pins:List (Addr × Obj)) (s:Shared) (σ : St) (H:Hp) (o i v:V) (ov iv u:Value) (Q:Hp->Prop),Inv X pins σ H s->RelV o ov->RelV i iv->RelV v u->t o i v H Q →
  wpAny (model X.prog X.w) X.A (setItem ov iv u) (fun _ s'=>∃ H',Inv X pins σ H' s'/\Q H') X.xe s
section
variable {X:Cx} {pos:Pos}
noncomputable def jh (i:Nat):TG:=fun v σ H Q=>Q (σ.set i (some v)) H
theorem HN {i:Nat} {x:Str} (hN:X.N.Nodup) (hi:X.N[i]? = some x) (hx:Loc X.env.scope x) (hf:X.fn x=true\/X.env.scope.names.lookup x=some .local:=by first | exact .inl rfl | exact .inr rfl | assumption):PG X (.Name x pos) (jh i):=by
 intro pins s σ H v u Q I r h
 exact wpAny_assign_Name (BZ I hN hi hx r (fun s' I'=>⟨_,H,I',h⟩) hf)
noncomputable def n6:iw:=fun vs σ H Q=>vs=[]/\Q σ H
noncomputable def u6 (t:TG) (u:iw):iw:=fun vs σ H Q=>∃ v r,vs=v :: r/\t v σ H fun σ' H'=>u r σ' H' Q
theorem HP:rX X [] n6:=by
 intro pins s σ H vs us Q I r h
 obtain⟨e,h⟩:=h
 subst e
 cases r
 exact assignInOrder_nil ⟨σ,H,I,h⟩
theorem HQ {e:Expr} {es:List Expr} {t:TG} {u:iw} (h1:PG X e t) (h2:rX X es u)
  (hs:(assignEach (e :: es) X.env).map (·.2)=assign e X.env :: (assignEach es X.env).map (·.2):=by rfl):rX X (e :: es) (u6 t u):=by
 intro pins s σ H vs us Q I r h
 obtain⟨v,vr,e1,h⟩:=h
 subst e1
 cases r with
 | cons r rr =>
  rw[hs]
  refine assignInOrder_cons (aW (h1 pins s σ H _ _ _ I r h) fun _ s1 ⟨σ1,H1,I1,q1⟩ => ?_)
  exact h2 pins s1 σ1 H1 _ _ Q I1 rr q1
noncomputable def n8 (K:PySem.W.Frag) (n:Nat) (t:iw):TG:=fun v σ H Q=>∃ a xs,v = .ref a/\bw K H a xs/\xs.length=n/\t xs σ H Q
theorem HR {es:List Expr} {k:Nat} {t:iw} {n:Nat} (hc:X.calm=true) (h:rX X es t)
  (hn:(assignEach es X.env).length=n:=by rfl) (jN:(assignEach es X.env).findIdx? (·.1)=none:=by rfl):PG X (.Tuple es k pos) (n8 X.K n t):=by
 intro pins s σ H v u Q I r hw
 obtain⟨a,xs,e1,hq,hl,hw⟩:=hw
 subst e1
 cases r
 obtain⟨ag,rv,ht,hz⟩:=I.tuple hq
 refine assign_Tuple_tuple (I.ok.hd hc) ht (by simp[hn,<-hl,rv.length]) jN fun h' hx => ?_
 have I1:Inv X pins σ H { s with heap:=h' }:=I.kept (t':=s.toks) fun b o e=>hx b o (Nat.ne_of_lt (Heap.lt_size e)) e
 exact h pins _ σ H xs _ Q I1 (by simpa using rv) hw
noncomputable def n9 (to ti:TE) (t:lx):TG:=fun v σ H Q=>to σ H fun o H1=>ti σ H1 fun i H2=>t o i v H2 fun H3=>Q σ H3
theorem HS {o i:Expr} {to ti:TE} {t:lx} (ho:PE X o to) (hi:PE X i ti) (hs:n5 X t)
  (ha:∀ v,assign (.Subscript o i pos) X.env v=(do
   let ov <- holding [v] (eval o X.env)
   let iv <- holding [v,ov] (eval i X.env)
   standAt pos
   holding [v,ov,iv] (setItem ov iv v)
   release [v,ov,iv] []):=by intro _;rfl):PG X (.Subscript o i pos) (n9 to ti t):=by
 intro pins s σ H v u Q I r h
 rw[ha]
 refine wpAny_bind (wpAny_holding (aW (ho pins s σ H _ I h) fun ov s1 h0_ => el5 h0_ fun x H1 I1 r1 q1 => ?_))
 refine wpAny_bind (wpAny_holding (aW (hi pins s1 σ H1 _ I1 q1) fun iv s2 h0_ => el5 h0_ fun y H2 I2 r2 q2 => ?_))
 refine wpAny_bind (wpAny_standAt (wpAny_bind (wpAny_holding (aW (hs pins s2 σ H2 x y v ov iv u _ I2 r1 r2 r q2) fun _ s3 h0_ => el3 h0_ fun H3 I3 q3 => ?_))))
 exact wpAny_release ⟨σ,H3,I3,q3⟩
noncomputable def eS (te:TE) (g:TG):TS:=fun D σ H=>te σ H fun x H1=>g x σ H1 D.nx
theorem HU {tg e:Expr} {te:TE} {g:TG} (he:PE X e te) (hg:PG X tg g) (hs:swapsWithSole [tg] e pos.line X.env=pure false:=by rfl) (hw:swappedStores [tg] e X.env=pure none:=by rfl)
  (h1:(assignEach [tg] X.env).map (·.2)=[assign tg X.env]:=by rfl):PS X (.Assign [tg] e pos) (eS te g):=by
 intro pins s σ H D I h
 refine wpAny_Assign_stores (aW (he pins s σ H _ I h) fun v s1 h0_ => el5 h0_ fun x H1 I1 r1 q1 => ?_) hs hw
 rw[h1]
 exact aW (hg pins s1 σ H1 x v _ I1 r1 q1) fun _ s2 q=>q
theorem HV {i:Nat} {x:Str} {e:Expr} {te:TE} {pos':Pos} (hN:X.N.Nodup) (hi:X.N[i]? = some x) (hx:Loc X.env.scope x) (he:PE X e te) (hs:swapsWith e (some (.Name x pos')) pos.line X.env=pure false:=by rfl) (hf:X.fn x=true\/X.env.scope.names.lookup x=some .local:=by first | exact .inl rfl | exact .inr rfl | assumption) :
  PS X (.Assign [.Name x pos'] e pos) (eS te (jh i)):=by
 intro pins s σ H D I h
 refine wpAny_Assign_Name (aW (he pins s σ H _ I h) fun v s1 h0_ => el5 h0_ fun y H1 I1 r1 q1 => ?_) hs
 exact BZ I1 hN hi hx r1 (fun s2 I2=>⟨_,H1,I2,q1⟩) hf
end
structure It where
 go:Nat->Hp->Prop
 p9:Nat->Hp->V->Hp->Prop
 stop:Nat->Hp->Prop
noncomputable def cy (X:Cx) (pins:List (Addr × Obj)) (H:Hp) (b:Addr):Prop :=
 H b=none/\b≠X.env.locals/\b∉X.fs/\(b∈X.ex\/X.s₀.heap.objs.size <= b)/\(∀ x c,X.env.cells.lookup x=some c->c≠b)/\∀ p∈X.pn ++ pins,p.1≠b
theorem Inv.iP {X:Cx} {pins:List (Addr × Obj)} {σ : St} {H H':Hp} {s:Shared} {b:Addr} (I:Inv X pins σ H s) (hb:s.heap.objs.size <= b) (hn:H' b=none):cy X pins H' b:=by
 refine⟨hn,Nat.ne_of_gt (Nat.lt_of_lt_of_le I.lt hb),I.xY hb,.inr (Nat.le_trans I.sz hb),fun x c e z => ?_,fun p hp z => ?_⟩
 ·obtain⟨v,q⟩:=I.cell x c e
  exact absurd (Nat.lt_of_lt_of_le q.lt (by rw[z];exact hb)) (Nat.lt_irrefl _)
 ·exact absurd (Nat.lt_of_lt_of_le (Heap.lt_size (I.pin p hp).1) (by rw[z];exact hb)) (Nat.lt_irrefl _)
structure Turn (P:Program) (w:World) (K:PySem.W.Frag) (tg:Expr) (J:It) (fp:List Addr) (it:Addr) (tn:Nat->Heap->Prop):Prop where
 mem:it∈fp
 obj:∀ i h,tn i h->∀ b∈fp,∃ o,h.get? b=some o/\∀ v,o.data ≠ .cell v
 keep:∀ i h h',tn i h->(∀ b∈fp,∀ o,h.get? b=some o->h'.get? b=some o)->tn i h'
 item:∀ (X:Cx),X.prog=P->X.w=w->X.K=K->X.calm=true->∀ (i:Nat) (pins:List (Addr × Obj)) (s:Shared) (σ : St) (H:Hp) (E:Value->Shared->Prop),Inv X pins σ H s->(∀ b∈fp,cy X pins H b)->tn i s.heap->J.go i H →
  wpAny (model P w) X.A (pyNext (.ref it)) (fun r s1=>∃ u,r=some u ∧
   wpAny (model P w) X.A (letOwnedTupleGo tg (.ref it) u) (fun _ s2=>∃ x H',Inv X pins σ H' s2/\RelV x u/\J.p9 i H x H'/\tn (i + 1) s2.heap/\∀ b∈fp,H' b=none) E s1) E s
 done:∀ (X:Cx),X.prog=P->X.w=w->X.K=K->X.calm=true->∀ (i:Nat) (pins:List (Addr × Obj)) (s:Shared) (σ : St) (H:Hp) (E:Value->Shared->Prop),Inv X pins σ H s->(∀ b∈fp,cy X pins H b)->tn i s.heap->J.stop i H →
  wpAny (model P w) X.A (pyNext (.ref it)) (fun r s1=>r=none/\Inv X pins σ H s1) E s
 self:∀ (A:Around) (i:Nat) (s:Shared) (Q:Value->Shared->Prop) (E:Value->Shared->Prop),tn i s.heap->Q (.ref it) s->wpAny (model P w) A (pyIter (.ref it)) Q E s
noncomputable abbrev TI:=St->Hp->(It->Hp->Prop)->Prop
noncomputable def B7 (X:Cx) (pins:List (Addr × Obj)) (σ : St) (tg:Expr) (R:It->Hp->Prop) (ya:Value) (s2:Shared):Prop :=
 ∃ (it:Addr) (fp:List Addr) (tn:Nat->Heap->Prop) (J:It) (H':Hp),ya = .ref it/\Inv X pins σ H' s2/\Turn X.prog X.w X.K tg J fp it tn/\tn 0 s2.heap/\(∀ b∈fp,cy X pins H' b)/\R J H'
noncomputable def PI (X:Cx) (tg iter:Expr) (wi:TI):Prop :=
 ∀ (pins:List (Addr × Obj)) (s:Shared) (σ : St) (H:Hp) (R:It->Hp->Prop),Inv X pins σ H s->wi σ H R →
  wpAny (model X.prog X.w) X.A (eval iter X.env) (fun v s1=>wpAny (model X.prog X.w) X.A (pyIter v) (B7 X pins σ tg R) X.xe s1) X.xe s
theorem yb {M:Model} {A:Around} {E:Value->Shared->Prop} {s:Shared} {tg:Expr} {it:Addr} {u:Value} {o:Obj} {n:String} {vs:Array Value} {Q:Unit->Shared->Prop} (ho:s.heap.get? it=some o) (hc:o.cls = .type n) (hd:o.data = .fields vs)
  (hn:["enumerate", "zip", "dict_itemiterator", "dict_reverseitemiterator", "odict_iterator", "itertools.zip_longest", "itertools.pairwise"].contains n=false) (hQ:Q () s):wpAny M A (letOwnedTupleGo tg (.ref it) u) Q E s:=by
 unfold letOwnedTupleGo
 cases tg<;>first
  | exact wpAny_pure hQ
  | (cases u<;>first
    | exact wpAny_pure hQ
    | (refine wpAny_bind (wpAny_load ho ?_)
       rw[hc,hd]
       show wpAny M A (if (["enumerate", "zip", "dict_itemiterator", "dict_reverseitemiterator", "odict_iterator", "itertools.zip_longest", "itertools.pairwise"].contains n && vs[0]? == some (rawInt _))=true then _ else _) Q E s
       rw[if_neg (by intro h;rw[hn,Bool.false_and] at h;cases h)]
       exact wpAny_pure hQ))
noncomputable def B8 (K:PySem.W.Frag) (a:Addr):It :=
 ⟨fun i H=>∃ xs x,aP K H a xs/\xs[i]? = some x,fun i H x H'=>H'=H/\∀ xs,aP K H a xs->xs[i]? = some x,fun i H=>∃ xs,aP K H a xs/\xs.length <= i⟩
noncomputable def B9 (K:PySem.W.Frag) (a:Addr):It :=
 ⟨fun i H=>∃ xs x,bw K H a xs/\xs[i]? = some x,fun i H x H'=>H'=H/\∀ xs,bw K H a xs->xs[i]? = some x,fun i H=>∃ xs,bw K H a xs/\xs.length <= i⟩
noncomputable def rY (lo:Int) (n:Nat):It:=⟨fun i _=>i < n,fun i H x H'=>H'=H/\x = .int (lo + i),fun i _=>n <= i⟩
theorem HW {P:Program} {w:World} {K:PySem.W.Frag} {tg:Expr} (a it:Addr):Turn P w K tg (B8 K a) [it] it (fun i h=>h.IsListIter it a i) where
 mem:=by simp
 obj:=fun i h st b hb=>by
  have e:b=it:=by simpa using hb
  subst e
  obtain⟨o,e,c,d⟩:=st
  exact⟨o,e,fun v z=>by rw[d] at z;cases z⟩
 keep:=fun i h h' st k=>st.at fun o e=>k it (by simp) o e
 item:=by
  intro X hP hw hK hc i pins s σ H E I hf st hg
  subst hP hw hK
  obtain⟨xs,x,hq,hx⟩:=hg
  obtain⟨ag,rv,p,hz⟩:=I.list hq
  obtain⟨u,hu,ru⟩:=rv.get hx
  obtain⟨f0,f1,f2,f3,f4,f5⟩:=hf it (by simp)
  refine wpAny_pyNext_list_item st p.isList (x:=u) (by simpa using hu) fun h' mP sb => ?_
  have I1:Inv X pins σ H { s with heap:=h' }:=I.turned (t':=s.toks) (fun b o hb e=>(sb.2 b hb).trans e) f0 f1 f3 f4 f5
  obtain⟨o,e,c,d⟩:=id mP
  exact⟨u,rfl,yb (s:={ s with heap:=h' }) e c d (by decide) ⟨x,H,I1,ru,⟨rfl,fun ys hy=>by rw[I.dm hy hq];exact hx⟩,mP,fun b hb=>(hf b hb).1⟩⟩
 done:=by
  intro X hP hw hK hc i pins s σ H E I hf st hg
  subst hP hw hK
  obtain⟨xs,hq,hx⟩:=hg
  obtain⟨ag,rv,p,hz⟩:=I.list hq
  obtain⟨f0,f1,f2,f3,f4,f5⟩:=hf it (by simp)
  have hl:=rv.length
  exact wpAny_pyNext_list_end (I.ok.hd hc) st p.isList (by simp;omega) fun h' eb=>⟨rfl,I.turned (t':=s.toks) (fun b o hb e=>eb b o hb e) f0 f1 f3 f4 f5⟩
 self:=fun _ _ _ _ _ st h=>wpAny_pyIter_listiter st h
theorem HX {P:Program} {w:World} {K:PySem.W.Frag} {tg:Expr} (a it:Addr):Turn P w K tg (B9 K a) [it] it (fun i h=>h.IsTupleIter it a i) where
 mem:=by simp
 obj:=fun i h st b hb=>by
  have e:b=it:=by simpa using hb
  subst e
  obtain⟨o,e,c,d⟩:=st
  exact⟨o,e,fun v z=>by rw[d] at z;cases z⟩
 keep:=fun i h h' st k=>st.at fun o e=>k it (by simp) o e
 item:=by
  intro X hP hw hK hc i pins s σ H E I hf st hg
  subst hP hw hK
  obtain⟨xs,x,hq,hx⟩:=hg
  obtain⟨ag,rv,p,hz⟩:=I.tuple hq
  obtain⟨u,hu,ru⟩:=rv.get hx
  obtain⟨f0,f1,f2,f3,f4,f5⟩:=hf it (by simp)
  refine wpAny_pyNext_tuple_item st (show s.heap.IsTuple a ag.toArray from p) (x:=u) (by simpa using hu) fun h' mP sb => ?_
  have I1:Inv X pins σ H { s with heap:=h' }:=I.turned (t':=s.toks) (fun b o hb e=>(sb.2 b hb).trans e) f0 f1 f3 f4 f5
  obtain⟨o,e,c,d⟩:=id mP
  exact⟨u,rfl,yb (s:={ s with heap:=h' }) e c d (by decide) ⟨x,H,I1,ru,⟨rfl,fun ys hy=>by rw[I.fV hy hq];exact hx⟩,mP,fun b hb=>(hf b hb).1⟩⟩
 done:=by
  intro X hP hw hK hc i pins s σ H E I hf st hg
  subst hP hw hK
  obtain⟨xs,hq,hx⟩:=hg
  obtain⟨ag,rv,p,hz⟩:=I.tuple hq
  obtain⟨f0,f1,f2,f3,f4,f5⟩:=hf it (by simp)
  have hl:=rv.length
  exact wpAny_pyNext_tuple_end (I.ok.hd hc) st (show s.heap.IsTuple a ag.toArray from p) (by simp;omega) fun h' eb=>⟨rfl,I.turned (t':=s.toks) (fun b o hb e=>eb b o hb e) f0 f1 f3 f4 f5⟩
 self:=fun _ _ _ _ _ st h=>wpAny_pyIter_tupleiter st h
theorem HY {P:Program} {w:World} {K:PySem.W.Frag} {tg:Expr} (it:Addr) (lo:Int) (n:Nat):Turn P w K tg (rY lo n) [it] it (fun i h=>IsRangeIter h it (lo + (i:Nat) * 1) ((n:Int) - (i:Nat)) 1) where
 mem:=by simp
 obj:=fun i h st b hb=>by
  have e:b=it:=by simpa using hb
  subst e
  exact⟨_,st,fun v z=>by
   have z':Data.fields _=Data.cell v:=z
   cases z'⟩
 keep:=fun i h h' st k=>k it (by simp) _ st
 item:=by
  intro X hP hw hK hc i pins s σ H E I hf st hg
  subst hP hw hK
  obtain⟨f0,f1,f2,f3,f4,f5⟩:=hf it (by simp)
  have W:=Walks.range (prog:=X.prog) (w:=X.w) (I.ok.hd hc) it lo 1 n
  refine W.item i s _ _ hg st fun v h' tk hv mP kk => ?_
  obtain⟨t,rfl⟩:=hv
  have I1:Inv X pins σ H { s with heap:=h',toks:=tk }:=I.turned (fun b o hb e=>kk b o (by simpa using hb) e) f0 f1 f3 f4 f5
  refine⟨_,rfl,yb (s:={ s with heap:=h',toks:=tk }) (n := "range_iterator") mP rfl rfl (by decide) ⟨.int (lo + i),H,I1,⟨t,?_⟩,⟨rfl,rfl⟩,mP,fun b hb=>(hf b hb).1⟩⟩
  rw[Int.mul_one]
 done:=by
  intro X hP hw hK hc i pins s σ H E I hf st hg
  subst hP hw hK
  obtain⟨f0,f1,f2,f3,f4,f5⟩:=hf it (by simp)
  exact wpAny_pyNext_range_end (I.ok.hd hc) st (by have:n <= i:=hg;omega) fun h' eb=>⟨rfl,I.turned (t':=s.toks) (fun b o hb e=>eb b o hb e) f0 f1 f3 f4 f5⟩
 self:=fun _ _ _ _ _ st h=>wpAny_pyIter_rangeiter st h
section
variable {X:Cx} {tg:Expr}
theorem B_ {pins:List (Addr × Obj)} {σ : St} {H:Hp} {s:Shared} {R:It->Hp->Prop} {E:Value->Shared->Prop} {lo hi:Int} {t u v:Tok} {tk:Nat} (I:Inv X pins σ H s) (h1 : -(2 ^ 62) <= lo) (h2:lo < 2 ^ 62) (h3 : -(2 ^ 62) <= hi) (h4:hi < 2 ^ 62)
  (q:R (rY lo (hi - lo).toNat) H):wpAny (model X.prog X.w) X.A (pyIter (.ref s.heap.objs.size)) (B7 X pins σ tg R) E { s with heap:=s.heap.push { cls := .type "range",data := .fields #[.int lo t,.int hi u,.int 1 v] },toks:=tk }:=by
 refine wpAny_pyIter_range (IsRange.new ..) (small_one h1 h2 h3 h4) ?_
 have I1:Inv X pins σ H { s with heap:=s.heap.push { cls := .type "range",data := .fields #[.int lo t,.int hi u,.int 1 v] },toks:=tk }:=I.kept fun b o e=>Heap.get?_push_of_some _ e
 refine⟨(s.heap.push { cls := .type "range",data := .fields #[.int lo t,.int hi u,.int 1 v] }).objs.size,[(s.heap.push { cls := .type "range",data := .fields #[.int lo t,.int hi u,.int 1 v] }).objs.size],_,_,H,rfl,
  I1.kept (t':=tk) fun b o e=>Heap.get?_push_of_some _ e,HY _ lo (hi - lo).toNat,?_,fun b hb => ?_,q⟩
 ·have e1:lo + ((0:Nat):Int) * 1=lo:=by simp
  have e2:(((hi - lo).toNat:Nat):Int) - ((0:Nat):Int)=Builtin.Range.rangeSize lo hi 1:=by rw[rangeSize_one];split<;>omega
  show IsRangeIter _ _ (lo + ((0:Nat):Int) * 1) ((((hi - lo).toNat:Nat):Int) - ((0:Nat):Int)) 1
  rw[e1,e2]
  exact Heap.get?_push_size _ rfl
 ·have e:b=(s.heap.push { cls := .type "range",data := .fields #[.int lo t,.int hi u,.int 1 v] }).objs.size:=by simpa using hb
  subst e
  exact I1.iP (Nat.le_refl _) (I1.aJ.fresh (Nat.le_refl _))
noncomputable def Ca (ta:TA):TI:=fun σ H R=>ta σ H fun vs H1=>∃ j:Int,vs=[.int j] /\ -(2 ^ 62) <= j/\j < 2 ^ 62/\R (rY 0 j.toNat) H1
noncomputable def Cb (ta:TA):TI:=fun σ H R=>ta σ H fun vs H1=>∃ i j:Int,vs=[.int i,.int j]/\(-(2 ^ 62) <= i/\i < 2 ^ 62 /\ -(2 ^ 62) <= j/\j < 2 ^ 62)/\R (rY i (j - i).toNat) H1
theorem HZ {a:Expr} {ta:TA} {p pos:Pos} (hg:Gl X "range") (hm:X.mg "range" = none) (ha:PA X [a] ta) (hs:starEach [a] X.env=[(false,eval a X.env)]:=by rfl):PI X tg (.Call (.Name "range" p) [a] [] pos) (Ca ta):=by
 intro pins s σ H R I h
 refine Call_ (mO I hg hm boot_range (PyProof.Rows.callWith_type1 (aW (ha pos pins s σ H _ I h) fun us s1 h0_ => el5 h0_ fun vs H1 I1 r1 q1 => ?_) hs rfl))
 obtain⟨j,e,q1,q2,q⟩:=q1
 subst e
 cases r1 with
 | cons r rr =>
  cases rr
  obtain⟨t,rfl⟩:=r
  exact call_range_1 (B_ I1 (by omega) (by omega) q1 q2 (by simpa using q))
theorem H_ {a b:Expr} {ta:TA} {p pos:Pos} (hg:Gl X "range") (hm:X.mg "range" = none) (ha:PA X [a,b] ta) (hs:starEach [a,b] X.env=[(false,eval a X.env),(false,eval b X.env)]:=by rfl) (dW:starEach [b] X.env=[(false,eval b X.env)]:=by rfl) :
  PI X tg (.Call (.Name "range" p) [a,b] [] pos) (Cb ta):=by
 intro pins s σ H R I h
 refine Call_ (mO I hg hm boot_range (PyProof.Rows.callWith_type1 (aW (ha pos pins s σ H _ I h) fun us s1 h0_ => el5 h0_ fun vs H1 I1 r1 q1 => ?_) (by rw[hs,dW]) (by rw[dW];rfl)))
 obtain⟨i,j,e,⟨q1,q2,q3,q4⟩,q⟩:=q1
 subst e
 cases r1 with
 | cons r rr =>
  cases rr with
  | cons r' rr =>
   cases rr
   obtain⟨t,rfl⟩:=r
   obtain⟨t',rfl⟩:=r'
   exact call_range_2 (B_ I1 q1 q2 q3 q4 q)
noncomputable def n_ (wi:TI) (g:TG) (tb:TS):TS:=fun D σ H=>wi σ H fun J H1=>∃ W:Nat->Nat->St->Hp->Prop,(∃ m,W 0 m σ H1)/\∀ i m σ H,W i m σ H →
 (J.stop i H/\D.nx σ H)\/(J.go i H/\∃ N:St->Hp->Prop,(∀ σ' H',N σ' H'->∃ m',m' < m/\W (i + 1) m' σ' H')/\∀ x H',J.p9 i H x H'->g x σ H' fun σ2 H2=>tb { D with nx:=N,ct:=N,bk:=D.nx } σ2 H2)
noncomputable def rZ (fp:List Addr) (h:Heap):List (Addr × Obj):=fp.filterMap fun b=>(h.get? b).map fun o=>(b,o)
theorem u7 {fp:List Addr} {h:Heap} {b:Addr} {o:Obj} (hb:b∈fp) (e:h.get? b=some o):(b,o)∈rZ fp h:=List.mem_filterMap.mpr ⟨b,hb,by rw[e];rfl⟩
theorem Ia {fp:List Addr} {h:Heap} {p:Addr × Obj} (hp:p∈rZ fp h):p.1∈fp/\h.get? p.1=some p.2:=by
 obtain⟨b,hb,e⟩:=List.mem_filterMap.mp hp
 cases q:h.get? b with
 | none=>rw[q] at e;cases e
 | some o =>
  rw[q] at e
  have e':(b,o)=p:=Option.some.inj e
  subst e'
  exact⟨hb,q⟩
theorem Inv.pinned {pins:List (Addr × Obj)} {σ : St} {H:Hp} {s:Shared} {fp:List Addr} (I:Inv X pins σ H s) (hf:∀ b∈fp,cy X pins H b) (ho:∀ b∈fp,∃ o,s.heap.get? b=some o/\∀ v,o.data ≠ .cell v):Inv X (pins ++ rZ fp s.heap) σ H s :=
 I.ir fun p hp=>(List.mem_append.mp hp).elim (fun z=>I.pin p (List.mem_append_right _ z)) fun z=>by
  obtain⟨hb,e⟩:=Ia z
  obtain⟨f0,f1,f2,_⟩:=hf p.1 hb
  obtain⟨o,e',d⟩:=ho p.1 hb
  rw[e] at e';cases e'
  exact⟨e,f0,f1,f2,d⟩
theorem Inv.dn {pins pl:List (Addr × Obj)} {σ : St} {H:Hp} {s:Shared} (I:Inv X (pins ++ pl) σ H s):Inv X pins σ H s:=I.ir fun p hp=>I.pin p (List.mem_append_right _ (List.mem_append_left _ hp))
theorem Ib {iter:Expr} {body:List Stmt} {wi:TI} {g:TG} {tb:TS} {pos:Pos} (hp:PassesOwn (model X.prog X.w) X.A X.env X.xe) (hc:X.calm=true) (hi:PI X tg iter wi) (hg:PG X tg g) (hb:gN X body tb)
  (hs:∀ x,foldedSetIterable iter X.env x=pure x:=by intro _;rfl):PS X (.For tg iter body [] pos) (n_ wi g tb):=by
 intro pins s σ H D I h
 refine wpAny_For (aW (hi pins s σ H _ I h) fun v s1 h1=>aW h1 fun ya s2 h2 => ?_) hs
 obtain⟨it,fp,tn,J,H2,e,I2,T,ip,f2,W,⟨m0,w0⟩,turn⟩:=h2
 subst e
 have hW:∀ {H':Hp},(∀ b∈fp,H' b=none)->∀ b∈fp,cy X pins H' b:=fun hn b hb=>⟨hn b hb,(f2 b hb).2⟩
 refine codeAny_forLoop_any (fun n s'=>∃ i σ' H',Inv X pins σ' H' s'/\tn i s'.heap/\(∀ b∈fp,H' b=none)/\W i n σ' H') ?_ m0 ⟨0,σ,H2,I2,ip,fun b hb=>(f2 b hb).1,w0⟩
 rintro n s3 ⟨i,σ3,H3,I3,mQ,r_,w3⟩
 rcases turn i n σ3 H3 w3 with⟨stop,qn⟩ | ⟨go,N,hN,step⟩
 ·refine wpAny_passesOwn hp (aW (T.done X rfl rfl rfl hc i pins s3 σ3 H3 X.xe I3 (hW r_) mQ stop) fun r s4 ⟨hr,I4⟩ => ?_)
  subst hr
  exact wpAny_execs_nil ⟨σ3,H3,I4,qn⟩
 ·refine wpAny_passesOwn hp (aW (T.item X rfl rfl rfl hc i pins s3 σ3 H3 X.xe I3 (hW r_) mQ go) fun r s4 ⟨u,hr,h4⟩ => ?_)
  subst hr
  refine wpAny_passesOwn hp (aW h4 fun _ s5 ⟨x,H5,I5,r5,y5,oa,yc⟩ => ?_)
  have yd:=I5.pinned (hW yc) (T.obj _ _ oa)
  refine wpAny_passesOwn hp (aW (hg _ s5 σ3 H5 x u _ yd r5 (step x H5 y5)) fun _ s6 ⟨σ6,H6,I6,q6⟩ => ?_)
  refine wpAny_passesOwn hp (aW (hb _ s6 σ6 H6 _ I6 q6) fun f s7 q7 => ?_)
  have again:∀ {σ7:St} {H7:Hp},Inv X (pins ++ rZ fp s5.heap) σ7 H7 s7->N σ7 H7->∃ m,m < n/\∃ i σ' H',Inv X pins σ' H' s7/\tn i s7.heap/\(∀ b∈fp,H' b=none)/\W i m σ' H':=fun {σ7 H7} I7 n7=>by
   obtain⟨m',hm,w7⟩:=hN σ7 H7 n7
   refine⟨m',hm,i + 1,σ7,H7,I7.dn,T.keep _ _ _ oa fun b hb o e=>(I7.pin (b,o) (List.mem_append_right _ (List.mem_append_right _ (u7 hb e)))).1,fun b hb => ?_,w7⟩
   obtain⟨o,e,d⟩:=T.obj _ _ oa b hb
   exact (I7.pin (b,o) (List.mem_append_right _ (List.mem_append_right _ (u7 hb e)))).2.1
  cases f with
  | next=>obtain⟨σ7,H7,I7,n7⟩:=q7;exact again I7 n7
  | cont=>obtain⟨σ7,H7,I7,n7⟩:=q7;exact again I7 n7
  | brk=>obtain⟨σ7,H7,I7,q7⟩:=q7;exact⟨σ7,H7,I7.dn,q7⟩
  | ret v=>obtain⟨x7,σ7,H7,I7,r7,q7⟩:=q7;exact⟨x7,σ7,H7,I7.dn,r7,q7⟩
end
noncomputable abbrev R2:=V->V->Hp->VK->Prop
noncomputable def cC (X:Cx) (f:Value->Value->Sem Value) (r:R2):Prop :=
 ∀ (pins:List (Addr × Obj)) (s:Shared) (σ : St) (H:Hp) (x y:V) (v u:Value) (Q:VK),Inv X pins σ H s->RelV x v->RelV y u->r x y H Q →
  wpAny (model X.prog X.w) X.A (f v u) (EP X pins σ Q) X.xe s
noncomputable def ye (X:Cx) (f:Value->Sem Value) (r:V->Hp->VK->Prop):Prop :=
 ∀ (pins:List (Addr × Obj)) (s:Shared) (σ : St) (H:Hp) (x:V) (v:Value) (Q:VK),Inv X pins σ H s->RelV x v->r x H Q →
  wpAny (model X.prog X.w) X.A (f v) (EP X pins σ Q) X.xe s
noncomputable def fA (X:Cx) (f:Value) (r:List V->Hp->VK->Prop):Prop :=
 ∀ (pins:List (Addr × Obj)) (s:Shared) (σ : St) (H:Hp) (xs:List V) (us:List Value) (Q:VK),Inv X pins σ H s->Vals xs us->r xs H Q →
  wpAny (model X.prog X.w) X.A (call f us) (EP X pins σ Q) X.xe s
noncomputable def kH (r:R2) (ta tb:TE):TE:=fun σ H Q=>ta σ H fun x H1=>tb σ H1 fun y H2=>r x y H2 Q
noncomputable def Ic (r:V->Hp->VK->Prop) (ta:TE):TE:=fun σ H Q=>ta σ H fun x H1=>r x H1 Q
noncomputable def rI (C:Int->Int->Prop) (g:Int->Int->V):R2:=fun x y H Q=>∃ i j,x = .int i/\y = .int j/\C i j/\Q (g i j) H
noncomputable def ly (g:Int->Int->V):R2:=fun x y H Q=>∃ i j,x = .int i/\y = .int j/\Q (g i j) H
noncomputable def rU (g:Int->V):V->Hp->VK->Prop:=fun x H Q=>∃ i,x = .int i/\Q (g i) H
section
variable {X:Cx} {a b c:Expr} {ta tb tc:TE} {pos:Pos}
theorem oe (ha:PE X a ta) (hb:PE X b tb) {pins:List (Addr × Obj)} {s:Shared} {σ : St} {H:Hp} {R:V->V->Hp->Prop} (I:Inv X pins σ H s)
  (h:ta σ H fun x H1=>tb σ H1 fun y H2=>R x y H2) {Q:Value->Shared->Prop} {f:Value->Value->Sem Value}
  (hf:∀ v u s2 x y H2,Inv X pins σ H2 s2->RelV x v->RelV y u->R x y H2->wpAny (model X.prog X.w) X.A (f v u) Q X.xe s2) :
  wpAny (model X.prog X.w) X.A (eval a X.env) (fun v s₁ => wpAny (model X.prog X.w) X.A (eval b X.env) (fun u s₂ => wpAny (model X.prog X.w) X.A (f v u) Q X.xe s₂) X.xe s₁) X.xe s:=by
 refine aW (ha pins s σ H _ I h) fun v s1 h0_ => el5 h0_ fun x H1 I1 r1 q1 => ?_
 refine aW (hb pins s1 σ H1 _ I1 q1) fun u s2 h0_ => el5 h0_ fun y H2 I2 r2 q2 => ?_
 exact hf v u s2 x y H2 I2 r1 r2 q2
theorem Ie {op:Operator} {r:R2} (ho:cC X (binaryOp op) r) (ha:PE X a ta) (hb:PE X b tb):PE X (.BinOp a op b pos) (kH r ta tb):=by
 intro pins s σ H Q I h
 exact wpAny_BinOp (oe ha hb I h fun v u s2 x y H2 I2 rx ry q=>ho pins s2 σ H2 x y v u Q I2 rx ry q)
theorem Ig {op:UnaryOp} {r:V->Hp->VK->Prop} (ho:ye X (unaryOp op) r) (ha:PE X a ta):PE X (.UnaryOp op a pos) (Ic r ta):=by
 intro pins s σ H Q I h
 exact UnaryOp_ (aW (ha pins s σ H _ I h) fun v s1 h0_ => el5 h0_ fun x H1 I1 r1 q1 =>ho pins s1 σ H1 x v Q I1 r1 q1)
theorem u9 {f:Value->Value->Sem Value} {C:Int->Int->Prop} {g:Int->Int->Int}
  (rule:∀ (i j:Int) (t u:Tok) (s:Shared) (Q:Value->Shared->Prop) (E:Value->Shared->Prop),C i j->Q (.int (g i j) s.toks) { s with toks:=s.toks + 1 }->wpAny (model X.prog X.w) X.A (f (.int i t) (.int j u)) Q E s) :
  cC X f (rI C fun i j => .int (g i j)):=by
 intro pins s σ H x y v u Q I rx ry h
 obtain⟨i,j,rfl,rfl,hc,q⟩:=h
 obtain⟨t,rfl⟩:=rx
 obtain⟨t',rfl⟩:=ry
 exact rule i j t t' s _ _ hc ⟨.int (g i j),H,I.tok _,⟨_,rfl⟩,q⟩
theorem sd {f:Value->Value->Sem Value} {g:Int->Int->Int}
  (rule:∀ (i j:Int) (t u:Tok) (s:Shared) (Q:Value->Shared->Prop) (E:Value->Shared->Prop),Q (.int (g i j) s.toks) { s with toks:=s.toks + 1 }->wpAny (model X.prog X.w) X.A (f (.int i t) (.int j u)) Q E s) :
  cC X f (ly fun i j => .int (g i j)):=by
 intro pins s σ H x y v u Q I rx ry h
 obtain⟨i,j,rfl,rfl,q⟩:=h
 obtain⟨t,rfl⟩:=rx
 obtain⟨t',rfl⟩:=ry
 exact rule i j t t' s _ _ ⟨.int (g i j),H,I.tok _,⟨_,rfl⟩,q⟩
theorem lz {f:Value->Value->Sem Value} {g:Int->Int->Bool}
  (rule:∀ (i j:Int) (t u:Tok) (s:Shared) (Q:Value->Shared->Prop) (E:Value->Shared->Prop),Q (.bool (g i j)) s->wpAny (model X.prog X.w) X.A (f (.int i t) (.int j u)) Q E s) :
  cC X f (ly fun i j => .bl (g i j)):=by
 intro pins s σ H x y v u Q I rx ry h
 obtain⟨i,j,rfl,rfl,q⟩:=h
 obtain⟨t,rfl⟩:=rx
 obtain⟨t',rfl⟩:=ry
 exact rule i j t t' s _ _ ⟨.bl (g i j),H,I,rfl,q⟩
noncomputable def sg (i j:Int):Prop:=j≠0/\j.natAbs < 1073741824
noncomputable def gr (i j:Int):Prop:=0 <= j/\j <= 1000000/\i.natAbs < 2 ^ 64
noncomputable def lA (i j:Int):Prop:=(-(2 ^ 64) < i/\i < 2 ^ 64)\/(-(2 ^ 64) < j/\j < 2 ^ 64)
theorem lA.ok {i j:Int} (h:lA i j):IntMulOk i j:=by
 rcases h with⟨h1,h2⟩ | ⟨h1,h2⟩
 ·exact .of_left (intBits_le_64 h1 h2)
 ·exact .of_right (intBits_le_64 h1 h2)
theorem Cc:cC X (binaryOp .Add) (ly fun i j => .int (i + j)):=sd fun _ _ _ _ _ _ _ q=>add_int q
theorem Ih:cC X (binaryOp .Sub) (ly fun i j => .int (i - j)):=sd fun _ _ _ _ _ _ _ q=>sub_int q
theorem Ii:cC X (binaryOp .Mult) (rI lA fun i j => .int (i * j)):=u9 fun _ _ _ _ _ _ _ hc q=>mul_int q hc.ok
theorem Ij:cC X (binaryOp .FloorDiv) (rI sg fun i j => .int (i.fdiv j)):=u9 fun _ _ _ _ _ _ _ hc q=>floordiv_int hc.1 q (.inl (PyProof.noPylong_small hc.2))
theorem yf:cC X (binaryOp .Mod) (rI (fun _ j=>0 < j) fun i j => .int (i % j)):=u9 fun i j _ _ _ _ _ hc q=>by
 have h1:(0:Int) < j:=hc
 exact mod_int' (by omega) (by rw[Int.fmod_eq_emod_of_nonneg i (by omega)];exact q)
theorem Ik:cC X (binaryOp .Pow) (rI gr fun i j => .int (i ^ j.toNat)):=u9 fun _ _ _ _ _ _ _ hc q=>pow_int_small hc.1 hc.2.1 hc.2.2 q
theorem Il {f:Value->Sem Value} {g:Int->Int}
  (rule:∀ (i:Int) (t:Tok) (s:Shared) (Q:Value->Shared->Prop) (E:Value->Shared->Prop),Q (.int (g i) s.toks) { s with toks:=s.toks + 1 }->wpAny (model X.prog X.w) X.A (f (.int i t)) Q E s) :
  ye X f (rU fun i => .int (g i)):=by
 intro pins s σ H x v Q I rx h
 obtain⟨i,rfl,q⟩:=h
 obtain⟨t,rfl⟩:=rx
 exact rule i t s _ _ ⟨.int (g i),H,I.tok _,⟨_,rfl⟩,q⟩
theorem Im:ye X (unaryOp .USub) (rU fun i => .int (-i)):=Il fun _ _ _ _ _ q=>neg_int q
theorem Cd {pins:List (Addr × Obj)} {σ : St} {H:Hp} {s:Shared} {Q:VK} {k k':Bool} (I:Inv X pins σ H s) (q:Q (.bl k) H) (e:k=k'):EP X pins σ Q (.bool k') s:=by
 subst e
 exact⟨.bl k,H,I,rfl,q⟩
theorem Io:cC X (compareOp .Lt) (ly fun i j => .bl (decide (i < j))):=lz fun _ _ _ _ _ _ _ q=>lt_int q
theorem Ip:cC X (compareOp .LtE) (ly fun i j => .bl (decide (i <= j))):=lz fun _ _ _ _ _ _ _ q=>le_int q
theorem Iq:cC X (compareOp .Gt) (ly fun i j => .bl (decide (j < i))):=lz fun _ _ _ _ _ _ _ q=>gt_int q
theorem Ir:cC X (compareOp .GtE) (ly fun i j => .bl (decide (j <= i))):=lz fun _ _ _ _ _ _ _ q=>ge_int q
theorem Iu:cC X (compareOp .Is) (fun x y H Q=>y = .non/\Q (.bl (decide (x = .non))) H):=by
 intro pins s σ H x y v u Q I rx ry h
 obtain⟨rfl,q⟩:=h
 cases ry
 refine is_none_gen (Cd I q ?_)
 cases x<;>first
  | (cases rx;rfl)
  | (obtain⟨t,rfl⟩:=rx;rfl)
theorem Iv:cC X (compareOp .IsNot) (fun x y H Q=>y = .non/\Q (.bl (!decide (x = .non))) H):=by
 intro pins s σ H x y v u Q I rx ry h
 obtain⟨rfl,q⟩:=h
 cases ry
 refine isnot_none_gen (Cd I q ?_)
 cases x<;>first
  | (cases rx;rfl)
  | (obtain⟨t,rfl⟩:=rx;rfl)
theorem yg (b:Expr) {op:CmpOp} (h:op ≠ .In:=by decide) (h2:op ≠ .NotIn:=by decide):behindInMarks op b=false:=by
 have e1:(op == CmpOp.In)=false:=by cases op<;>first | rfl | exact absurd rfl h
 have e2:(op == CmpOp.NotIn)=false:=by cases op<;>first | rfl | exact absurd rfl h2
 cases b<;>simp[behindInMarks,e1,e2]
theorem Iw {op:CmpOp} {r:R2} (ho:cC X (compareOp op) r) (ha:PE X a ta) (hb:PE X b tb) (hm:behindInMarks op b=false):PE X (.Compare a [op] [b] pos) (kH r ta tb):=by
 intro pins s σ H Q I h
 exact wpAny_Compare1 (oe ha hb I h fun v u s2 x y H2 I2 rx ry q=>ho pins s2 σ H2 x y v u Q I2 rx ry q) hm
noncomputable def Ce (t:TE):TT:=fun σ H Q=>t σ H fun x H'=>∃ k,x = .bl k/\Q k H'
theorem Iy {op:CmpOp} {r:R2} (ho:cC X (compareOp op) r) (ha:PE X a ta) (hb:PE X b tb) (hm:behindInMarks op b=false):PT X (.Compare a [op] [b] pos) (Ce (kH r ta tb)):=by
 intro pins s σ H Q I h
 refine wpAny_isTrue_Compare1 (aW (ha pins s σ H _ I h) fun v s1 h0_ => el5 h0_ fun x H1 I1 r1 q1 =>aW (hb pins s1 σ H1 _ I1 q1) fun u s2 h0_ => el5 h0_ fun y H2 I2 r2 q2 =>
  aW (ho pins s2 σ H2 x y v u _ I2 r1 r2 q2) fun c s3 ⟨z,H3,I3,r3,k,e,q3⟩ => ?_) hm
 subst e
 cases r3
 exact wpAny_truthy_bool ⟨H3,I3,q3⟩
noncomputable def Cf (r r':R2) (ta tb tc:TE):TE:=fun σ H Q=>ta σ H fun x H1=>tb σ H1 fun y H2=>r x y H2 fun z H3=>∃ k,z = .bl k ∧
 (if k=true then tc σ H3 fun w' H4=>r' y w' H4 Q else Q (.bl false) H3)
theorem Iz {op jO:CmpOp} {r r':R2} (ho:cC X (compareOp op) r) (iO:cC X (compareOp jO) r') (ha:PE X a ta) (hb:PE X b tb) (hc:PE X c tc)
  (hm:lastMarks [op,jO] [b,c]=false:=by with_unfolding_all rfl):PE X (.Compare a [op,jO] [b,c] pos) (Cf r r' ta tb tc):=by
 intro pins s σ H Q I h
 refine Compare_chain (aW (ha pins s σ H _ I h) fun v s1 h0_ => el5 h0_ fun x H1 I1 r1 q1 =>chain_link (aW (hb pins s1 σ H1 _ I1 q1) fun u s2 h0_ => el5 h0_ fun y H2 I2 r2 q2 =>
  aW (ho pins s2 σ H2 x y v u _ I2 r1 r2 q2) fun d s3 ⟨z,H3,I3,r3,k,e,q3⟩ => ?_)) hm
 subst e
 cases r3
 refine wpAny_truthy_bool ?_
 cases k with
 | false=>exact ite_ff ⟨.bl false,H3,I3,rfl,q3⟩
 | true=>exact ite_tt (chain_last (aW (hc pins s3 σ H3 _ I3 q3) fun w' s4 ⟨z',H4,I4,r4,q4⟩=>iO pins s4 σ H4 y z' u w' Q I4 r2 r4 q4))
theorem p_:(sizeLine:Nat) < 2 ^ 63:=by rw[sizeLine_eq];decide
theorem IA:cC X (binaryOp .Add) (fun x y H Q=>∃ i j,x = .str i/\y = .str j/\i.length + j.length <= sizeLine/\Q (.str (i ++ j)) H):=by
 intro pins s σ H x y v u Q I rx ry h
 obtain⟨i,j,rfl,rfl,hz,q⟩:=h
 obtain⟨t,rfl⟩:=rx
 obtain⟨t',rfl⟩:=ry
 exact add_str (fun t' tk=>⟨.str (i ++ j),H,I.tok _,⟨_,rfl⟩,q⟩) hz
theorem vals1 {x:V} {us:List Value} (r:Vals [x] us):∃ u,us=[u]/\RelV x u:=by
 cases r with
 | cons r1 r2=>cases r2;exact⟨_,rfl,r1⟩
theorem vals2 {x y:V} {us:List Value} (r:Vals [x,y] us):∃ u w',us=[u,w']/\RelV x u/\RelV y w':=by
 cases r with
 | cons r1 r2 =>
  cases r2 with
  | cons r3 r4=>cases r4;exact⟨_,_,rfl,r1,r3⟩
theorem IB (hc:X.calm=true):fA X (.builtin "max") (fun xs H Q=>∃ i j,xs=[.int i,.int j]/\Q (.int (if j > i then j else i)) H):=by
 intro pins s σ H xs us Q I r h
 obtain⟨i,j,rfl,q⟩:=h
 obtain⟨u,w',rfl,⟨t,rfl⟩,⟨t',rfl⟩⟩:=vals2 r
 refine max_two_ints (I.ok.hd hc) fun h' tk k=>⟨_,H,I.kept k,?_,q⟩
 by_cases hj:j > i
 ·rw[if_pos hj,if_pos hj];exact⟨_,rfl⟩
 ·rw[if_neg hj,if_neg hj];exact⟨_,rfl⟩
theorem IC (hc:X.calm=true):fA X (.builtin "min") (fun xs H Q=>∃ i j,xs=[.int i,.int j]/\Q (.int (if j < i then j else i)) H):=by
 intro pins s σ H xs us Q I r h
 obtain⟨i,j,rfl,q⟩:=h
 obtain⟨u,w',rfl,⟨t,rfl⟩,⟨t',rfl⟩⟩:=vals2 r
 refine min_two_ints (I.ok.hd hc) fun h' tk k=>⟨_,H,I.kept k,?_,q⟩
 by_cases hj:j < i
 ·rw[if_pos hj,if_pos hj];exact⟨_,rfl⟩
 ·rw[if_neg hj,if_neg hj];exact⟨_,rfl⟩
end
structure oh (h:Heap) (x dx C:Addr) (mA:Str->Option Value):Prop where
 obj:h.get? x=some (PySem.W.instObj C dx)
 ns:h.Ns1 dx mA
 ne:dx≠x
theorem ID {h:Heap} {dx:Addr} {mA:Str->Option Value} (n:h.Ns1 dx mA):∃ od,h.get? dx=some od/\∀ name,PySem.W.lookIn name od=some (mA name):=by
 obtain⟨o,es,ep,ho,hd,hk,_,hm⟩:=n
 refine⟨o,ho,fun name => ?_⟩
 have e:=hm name
 unfold nsFind findBy at e
 rw[<-Array.find?_toList] at e
 unfold PySem.W.lookIn
 rw[hd]
 dsimp only
 split
 ·rename_i y q
  rw[q] at e
  exact congrArg some e
 ·rename_i q
  rw[q] at e
  have a:es.toList.any (·.refKey)=false:=by
   rw[List.any_eq_false]
   intro y hy
   obtain⟨z,t,yh⟩:=hk y (Array.mem_toList_iff.mp hy)
   simp[DictEntry.refKey,yh]
  have a':¬ es.toList.any (·.refKey)=true:=by rw[a];exact Bool.false_ne_true
  rw[if_neg a']
  exact congrArg some e
theorem oh.look {h:Heap} {x dx C:Addr} {mA:Str->Option Value} (I:oh h x dx C mA):∃ od,PySem.W.InstAt h x (PySem.W.instObj C dx) C (some od)/\∀ name,PySem.W.lookIn name od=some (mA name) :=
 let ⟨od,ho,hl⟩:=ID I.ns
 ⟨od,⟨I.obj,rfl,rfl,ho⟩,hl⟩
section
variable {prog:Program} {w:World} {A:Around} {E:Value->Shared->Prop} {s:Shared} {K:PySem.W.Frag} {x dx C f:Addr} {mA:Str->Option Value} {name:Str} {v:Value}
end
section
variable {P:Program} {w:World} {H H':Hp} {h h':Heap} {a C dx:Addr} {fs Hl:List (Str × V)}
theorem IE (aJ:dh P w H h) (e:H a=some (.ins C dx fs)):∃ mA,oh h a dx C mA/\(∀ f,hU (fs.lookup f) (mA f))/\PySem.Within mA (fs.map (·.1))/\fs.length <= 1000/\H dx=some (.own a):=by
 obtain⟨d,z,ne,ob,mA,n,r,q⟩:=(show aI P w H h a (.ins C dx fs) from aJ a _ e)
 exact⟨mA,⟨ob,n,ne⟩,r,q,z,d⟩
end
structure yi (K:PySem.W.Frag) (C:Addr):Prop where
 pg:PySem.W.plainGet K C Str.empty=true
 hd:PySem.W.hasDictIn K C=true
 po:PySem.W.plainOver K C=true
 sa:PySem.W.findIn K (.ref C) "__setattr__" = some (some (.builtin "object.__setattr__"))
theorem yi.get {K:PySem.W.Frag} {C:Addr} (c:yi K C) (f:Str):PySem.W.plainGet K C f=true:=c.pg
section
variable {X:Cx} {pins:List (Addr × Obj)} {σ : St} {H:Hp} {s:Shared} {a C dx:Addr} {fs:List (Str × V)} {f:Str} {v:V} {A:Around} {E:Value->Shared->Prop}
end
section
variable {X:Cx} {o e value:Expr} {f:Str} {pos pos' yj:Pos} {ta tv:TE}
end
section
variable {X:Cx} {pins:List (Addr × Obj)} {σ : St} {H:Hp} {s:Shared} {A:Around} {E:Value->Shared->Prop} {Q:Value->Shared->Prop} {c:Value} {b:Bool}
inductive dq (K:PySem.W.Frag) (H:Hp):V->Value->Prop where
 | non:dq K H .non (.type "NoneType")
 | bl (x:Bool):dq K H (.bl x) (.type "bool")
 | int (i:Int):dq K H (.int i) (.type "int")
 | str (x:Str):dq K H (.str x) (.type "str")
 | flt (x:UInt64):dq K H (.flt x) (.type "float")
 | lst {a:Addr} {xs:List V} (e:H a=some (.lst xs)):dq K H (.ref a) (.type "list")
 | frz {a:Addr} {o:Obj} {xs:List V} (e:H a=some (.frz o (.lst xs))):dq K H (.ref a) (.type "list")
 | tup {a:Addr} {xs:List V} (e:H a=some (.tup xs)):dq K H (.ref a) (.type "tuple")
 | dK {a:Addr} {kvs:List (Key × V)} (e:H a=some (.dK kvs)):dq K H (.ref a) (.type "dict")
 | dT {a:Addr} {kvs:List (List Key × V)} (e:H a=some (.dT kvs)):dq K H (.ref a) (.type "dict")
 | ins {a C dx:Addr} {fs:List (Str × V)} (e:H a=some (.ins C dx fs)) (cl:yi K C) (ha:PySem.W.findIn K (.ref C) "__class__" = some (some (.builtin "object.__class__")))
   (hn:PySem.W.specialIn K (.builtin "object.__class__") "__get__" = some (some (.builtin "getset_descriptor.__get__"))) (Cg:PySem.W.takesIn K (.builtin "object.__class__")=some true)
   (hm:PySem.W.mroIn K C (.type "object")=some true):dq K H (.ref a) (.ref C)
theorem IF {x:V} {u t:Value} (I:Inv X pins σ H s) (rx:RelV x u) (ty:dq X.K H x t) (e:PySem.W.kitOne X.K t c=some b) (h:∀ tk,Q (.bool b) { s with toks:=tk }) :
  wpAny (model X.prog X.w) A (call (.builtin "isinstance") [u,c]) Q E s:=by
 cases ty with
 | non=>cases (show u=Value.none from rx);exact PySem.W.kia_one PySem.W.kitx_none I.gM True.intro e (fun z=>nomatch z) h
 | bl y=>cases (show u=Value.bool y from rx);exact PySem.W.kia_one PySem.W.kitx_bool I.gM True.intro e (fun z=>nomatch z) h
 | int i=>obtain⟨t,q⟩:=(show ∃ t,u=Value.int i t from rx);cases q;exact PySem.W.kia_one PySem.W.kitx_int I.gM True.intro e (fun z=>nomatch z) h
 | str y=>obtain⟨t,q⟩:=(show ∃ t,u=Value.str y t from rx);cases q;exact PySem.W.kia_one PySem.W.kitx_str I.gM True.intro e (fun z=>nomatch z) h
 | flt y=>obtain⟨t,q⟩:=(show ∃ t,u=Value.float y t from rx);cases q;exact PySem.W.kia_one PySem.W.kitx_float I.gM True.intro e (fun z=>nomatch z) h
 | @lst a xs ea =>
  cases (show u=Value.ref a from rx)
  obtain⟨_,_,n,_,h1⟩:=(show aI X.prog X.w H s.heap a (.lst xs) from I.aJ a _ ea)
  exact PySem.W.kia_one PySem.W.kitx_list I.gM ⟨_,h1,rfl⟩ e (fun z=>nomatch z) h
 | @frz a ob xs ea =>
  cases (show u=Value.ref a from rx)
  obtain⟨_,_,_,n,_,h1⟩:=(show aI X.prog X.w H s.heap a (.frz ob (.lst xs)) from I.aJ a _ ea)
  exact PySem.W.kia_one PySem.W.kitx_list I.gM ⟨_,h1,rfl⟩ e (fun z=>nomatch z) h
 | @tup a xs ea =>
  cases (show u=Value.ref a from rx)
  obtain⟨_,_,_,p⟩:=(show aI X.prog X.w H s.heap a (.tup xs) from I.aJ a _ ea)
  obtain⟨o,h1,h2,_⟩:=p
  exact PySem.W.kia_one PySem.W.kitx_tuple I.gM ⟨o,h1,h2⟩ e (fun z=>nomatch z) h
 | @dK a kvs ea =>
  cases (show u=Value.ref a from rx)
  obtain⟨_,_,vs,_,p⟩:=(show aI X.prog X.w H s.heap a (.dK kvs) from I.aJ a _ ea)
  obtain⟨o,es,ep,h1,h2,_⟩:=p
  exact PySem.W.kia_one PySem.W.kitx_dict I.gM ⟨o,h1,h2.1⟩ e (fun z=>nomatch z) h
 | @dT a kvs ea =>
  cases (show u=Value.ref a from rx)
  obtain⟨_,_,xs,_,o,es,ep,h1,h2,_⟩:=(show aI X.prog X.w H s.heap a (.dT kvs) from I.aJ a _ ea)
  exact PySem.W.kia_one PySem.W.kitx_dict I.gM ⟨o,h1,h2.1⟩ e (fun z=>nomatch z) h
 | @ins a C dx fs ea cl ha hn Cg hm =>
  cases (show u=Value.ref a from rx)
  obtain⟨mA,O,_⟩:=IE I.aJ ea
  obtain⟨od,J,_⟩:=O.look
  exact PySem.W.kia_one (PySem.W.kitx_own (cl.get _) cl.hd ha hn Cg hm) I.gM J e (fun z=>nomatch z) h
end
structure bG (k:Nat) (A:Around):Prop where
 hd:A.handled=none
 dp:A.depth + 3 * k + 5 < recursionLimit
 un:A.units + 16 * k + 200 < cLine
theorem bG.mono {j k:Nat} {A:Around} (r:bG k A) (h:j <= k):bG j A:=⟨r.hd,by have:=r.dp;omega,by have:=r.un;omega⟩
theorem bG.deeper {k:Nat} {A:Around} (r:bG (k + 1) A) (env:Env):bG k (A.deeper env) :=
 ⟨r.hd,by have:=r.dp;show A.depth + 1 + 3 * k + 5 < _;omega,by have:=r.un;show A.units + 3 + 16 * k + 200 < _;omega⟩
theorem bG.depth {k:Nat} {A:Around} (r:bG k A):A.depth < recursionLimit:=by have:=r.dp;omega
theorem bG.units {k:Nat} {A:Around} (r:bG k A):A.units + 64 < cLine:=by have:=r.un;omega
noncomputable def eT:TA:=fun _ H Q=>Q [] H
noncomputable def eM (ta:TE) (tr:TA):TA:=fun σ H Q=>ta σ H fun x H1=>tr σ H1 fun xs H2=>Q (x :: xs) H2
section
variable {X:Cx} {e:Expr} {es:List Expr} {te:TE} {t:TA} {pos:Pos}
theorem IG:PA X [] eT:=fun _ _ _ _ H Q I h=>Calls.spliced_nil ⟨[],H,I,.nil,h⟩
theorem oj (ha:PE X e te) (hr:PA X es t) (hs:starEach (e :: es) X.env=(false,eval e X.env) :: starEach es X.env:=by rfl):PA X (e :: es) (eM te t):=by
 intro pos pins s σ H Q I h
 rw[hs]
 show wpAny _ _ (spliced ((false,eval e X.env) :: backTo pos (starEach es X.env))) _ _ s
 refine Calls.spliced_cons (aW (ha pins s σ H _ I h) fun u s1 h0_ => el5 h0_ fun x H1 I1 r1 q1 => ?_)
 exact aW (hr pos pins s1 σ H1 _ I1 q1) fun us s2 h0_ => el5 h0_ fun xs H2 I2 r2 q2 =>⟨x :: xs,H2,I2,.cons r1 r2,q2⟩
noncomputable def sh (t:TA):TE:=fun σ H Q=>t σ H fun xs H1=>xs.length <= sizeLine/\∀ p,H1 p=none->Q (.ref p) (upd H1 p (.tup xs))
noncomputable def lB (t:TA):TE:=fun σ H Q=>t σ H fun xs H1=>xs.length <= sizeLine/\∀ p,H1 p=none->Q (.ref p) (upd H1 p (.lst xs))
theorem IH {x1} (h:PA X es t):PE X (.Tuple es x1 pos) (sh t):=by
 intro pins s σ H Q I hq
 refine wpAny_Tuple_spliced (aW (h pos pins s σ H _ I hq) fun us s1 ⟨xs,H1,I1,r,z,q⟩=>⟨by rw[<-r.length];exact z,?_⟩)
 have hf:H1 s1.heap.objs.size=none:=I1.aJ.fresh (Nat.le_refl _)
 refine⟨.ref s1.heap.objs.size,upd H1 s1.heap.objs.size (.tup xs),I1.laid (t':=s1.toks) (fun b u e=>Heap.get?_push_of_some _ e) (Nat.le_refl _) ?_,rfl,q _ hf⟩
 exact⟨z,us,r,⟨_,Heap.get?_push_size _ rfl,rfl,_,rfl⟩⟩
theorem II (h:PA X es t):PE X (.List es pos) (lB t):=by
 intro pins s σ H Q I hq
 refine wpAny_List_spliced (aW (h pos pins s σ H _ I hq) fun us s1 ⟨xs,H1,I1,r,z,q⟩=>⟨by rw[<-r.length];exact z,?_⟩)
 have hf:H1 s1.heap.objs.size=none:=I1.aJ.fresh (Nat.le_refl _)
 refine⟨.ref s1.heap.objs.size,upd H1 s1.heap.objs.size (.lst xs),I1.laid (t':=s1.toks) (fun b u e=>Heap.get?_push_of_some _ e) (Nat.le_refl _) ?_,rfl,q _ hf⟩
 exact⟨z,us,0,r,Heap.get?_push_size _ rfl⟩
end
noncomputable abbrev Sp:=List V->Hp->VK->XK->Prop
noncomputable abbrev iQ:=List Env->Hp->Shared->XK->Value->Shared->Prop
structure lC (P:Program) (w:World) (K:PySem.W.Frag) (mg:Str->Option Value) (base:Heap) (A:Around) (outer:List Env) (s:Shared) (H:Hp):Prop where
 frames:A.frames=some outer
 mod:Mod K mg base
 bs:∀ b o,base.get? b=some o->s.heap.get? b=some o/\H b=none
 nV:base.objs.size <= s.heap.objs.size
 eR:s.heap.FunFrames base outer
 p8:∀ b∈jg outer,H b=none
 aJ:dh P w H s.heap
 bare:AllBare s.gens
noncomputable def CE (outer:List Env) (P:Program) (w:World) (H:Hp) (s:Shared) (Q:VK) (u:Value) (s':Shared):Prop :=
 ∃ v H',s'.os=s.os/\AllBare s'.gens/\Un (jg outer) [] H H' s.heap s'.heap/\dh P w H' s'.heap/\RelV v u/\Q v H'
noncomputable def CR (CX:iQ) (outer:List Env) (P:Program) (w:World) (H:Hp) (s:Shared) (Q:VK) (E:XK) (r:Result) (s':Shared):Prop :=
 match r with
 | .ok (.ret u)=>CE outer P w H s Q u s'
 | .ok _=>False
 | .error e=>CX outer H s E e s'
structure aT (P:Program) (w:World) (K:PySem.W.Frag) (mg:Str->Option Value) (base:Heap) (CX:iQ) (k:Nat) (f:Addr) (fd:FuncData) (ps:List Str) (sp:Sp):Prop where
 len:∀ vs H Q E,sp vs H Q E->vs.length=ps.length
 run:∀ (A:Around) (outer:List Env) (s:Shared) (H:Hp) (args:Args) (us:List Value) (vs:List V) (Q:VK) (E:XK),bG k A->lC P w K mg base A outer s H->BindsTo s fd args (ps.zip us)->Vals vs us->sp vs H Q E →
  codeAny (model P w) A (.call (.ref f) args) (CR CX outer P w H s Q E) s
section
variable {X:Cx} {pins:List (Addr × Obj)} {σ : St} {H:Hp} {s s':Shared}
theorem Inv.yk (I:Inv X pins σ H s):lC X.prog X.w X.K X.mg X.base X.A X.stack s H :=
 ⟨I.ok.frames,I.ok.mod,I.bs,Nat.le_trans I.ok.nV I.sz,I.stack,I.iq,I.aJ,I.bare⟩
theorem Inv.after {Q:VK} {u:Value} (I:Inv X pins σ H s) (h:CE X.stack X.prog X.w H s Q u s'):EP X pins σ Q u s':=by
 obtain⟨v,H',os,bare,un,aJ,r,q⟩:=h
 obtain⟨hh,g,d,t,rL⟩:=s'
 obtain rfl:rL=s.os:=os
 exact⟨v,H',I.call (h':=hh) (g':=g) (d':=d) (t':=t) (ch:=[]) un aJ bare (fun b z=>absurd z (by simp)),r,q⟩
end
noncomputable def om (sp:Sp) (jP:List V) (E:XK) (t:TA):TE:=fun σ H Q=>t σ H fun vs H1=>sp (vs ++ jP) H1 Q E
noncomputable def Binds (K:PySem.W.Frag) (fd:FuncData) (ps:List Str) (ds:List Value):Prop :=
 ∀ (s:Shared) (us:List Value),K.In s.heap->(us ++ ds).length=ps.length->BindsTo s fd ⟨us,[]⟩ (ps.zip (us ++ ds))
theorem Binds.all {K:PySem.W.Frag} {fd:FuncData} {ps:List Str} (h:∀ us:List Value,us.length=ps.length->bindArgs fd ⟨us,[]⟩=pure (ps.zip us)):Binds K fd ps []:=fun s us _ hl=>by
 rw[List.append_nil] at hl ⊢
 exact .of_eq (h us hl)
noncomputable def u_ (CX:iQ) (X:Cx) (E:XK):Prop:=∀ (pins:List (Addr × Obj)) (σ : St) (H:Hp) (s:Shared) (e:Value) (s':Shared),Inv X pins σ H s->CX X.stack H s E e s'->X.xe e s'
section
variable {X:Cx} {CX:iQ} {k:Nat} {f C:Addr} {fd:FuncData} {ps:List Str} {sp:Sp} {jP:List V} {ds:List Value} {E:XK} {x m:Str} {p pos apos:Pos} {e o:Expr} {es:List Expr} {ta:TE} {t:TA}
theorem IJ {pins:List (Addr × Obj)} {σ : St} {H:Hp} {s:Shared} {Q:VK} {us:List Value} {vs:List V} (F:aT X.prog X.w X.K X.mg X.base CX k f fd ps sp) (hr:bG k X.A) (hb:Binds X.K fd ps ds) (hd:Vals jP ds) (hx:u_ CX X E)
  (I:Inv X pins σ H s) (r:Vals vs us) (h:sp (vs ++ jP) H Q E):wpAny (model X.prog X.w) X.A (call (.ref f) us) (EP X pins σ Q) X.xe s:=by
 have r2:Vals (vs ++ jP) (us ++ ds):=r.append hd
 have hl:(us ++ ds).length=ps.length:=by rw[<-r2.length];exact F.len _ _ _ _ h
 refine wpAny_call (codeAny_mono (F.run X.A X.stack s H ⟨us,[]⟩ (us ++ ds) (vs ++ jP) Q E hr I.yk (hb s us I.gM hl) r2 h) fun r s' hq => ?_)
 cases r with
 | error e=>exact hx pins σ H s e s' I hq
 | ok fl =>
  cases fl with
  | ret u=>exact I.after hq
  | next=>exact False.elim hq
  | brk=>exact False.elim hq
  | cont=>exact False.elim hq
theorem IK (F:aT X.prog X.w X.K X.mg X.base CX k f fd ps sp) (hr:bG k X.A) (hg:Gl X x) (hm:X.mg x=some (.ref f)) (hk:PySem.W.keepIn X.K (.ref f)=true) (hb:Binds X.K fd ps ds) (hd:Vals jP ds) (hx:u_ CX X E)
  (ha:PA X (e :: es) t) (gs:(x == ("__debug__" : Str))=false:=by decide) (he:starEach (e :: es) X.env=(false,eval e X.env) :: starEach es X.env:=by rfl) (fW:(backTo pos (starEach es X.env)).any (·.1)=false:=by rfl) :
  PE X (.Call (.Name x p) (e :: es) [] pos) (om sp jP E t):=by
 intro pins s σ H Q I h
 refine wpAny_Call_Name_kw (B3 I hg hm ?_ gs)
 refine PySem.W.callWith_K (h₀ := X.base) I.ok.mod.mJ hk (aW (ha pos pins s σ H _ I h) fun us s1 h0_ => el5 h0_ fun vs H1 I1 r q =>⟨I1.gM,?_⟩) he fW
 exact IJ F hr hb hd hx I1 r q
end
section
variable {X:Cx} {CX:iQ} {k:Nat} {f C:Addr} {fd:FuncData} {ps ks:List Str} {sp:Sp} {E:XK} {x m:Str} {p pos apos ym:Pos} {e o:Expr} {es:List Expr} {Va:List Keyword} {te ta:TE} {t tk:TA} {nm:Option Str}
variable {g:List Value->List Value->List Value} {gV:List V->List V->List V}
end
structure di (N P:List Str) (sc:Scope):Prop where
 kind:sc.kind = .function
 co:sc.isCoroutine=false
 gen:sc.isGenerator=false
 nd:N.Nodup
 pre:N.take P.length=P
 par:∀ x∈P,sc.names.lookup x=some .local\/sc.names.lookup x=some .cell
 oo:∀ y∈sc.names,y.2 ≠ .free
theorem Ci {kindOf:Str->Option NameKind} {x:Str}:∀ {binds:List (Str × Value)} {m:Str->Option Value},(∀ v,(x,v)∉binds)->bindL kindOf binds m x=m x
 | [],_,_=>rfl
 | (n,v) :: r,m,h=>by
  unfold bindL
  rw[Ci fun w hw=>h w (List.mem_cons_of_mem _ hw)]
  split
  ·have:x≠n:=by rintro rfl;exact h v List.mem_cons_self
   simp[this]
  ·rfl
theorem Cj {kindOf:Str->Option NameKind} {x:Str}:∀ {binds:List (Str × Value)} {m:Str->Option Value},(∀ v,(x,v)∉binds)->bindC kindOf binds m x=m x
 | [],_,_=>rfl
 | (n,v) :: r,m,h=>by
  unfold bindC
  rw[Cj fun w hw=>h w (List.mem_cons_of_mem _ hw)]
  split
  ·rfl
  ·have:x≠n:=by rintro rfl;exact h v List.mem_cons_self
   simp[this]
theorem Ck {kindOf:Str->Option NameKind} {x:Str} {v:Value}:∀ {P:List Str} {vs:List Value} {i:Nat} {m:Str->Option Value},P.Nodup->P[i]? = some x->vs[i]? = some v->kindOf x=some .local →
  bindL kindOf (P.zip vs) m x=some v
 | [],_,_,_,_,h,_,_=>by simp at h
 | _ :: _,[],_,_,_,_,h,_=>by simp at h
 | p :: P,w :: vs,0,m,nd,h1,h2,hk=>by
  simp at h1 h2;subst h1;subst h2
  show bindL kindOf ((p,w) :: P.zip vs) m p=_
  unfold bindL
  rw[Ci fun v hv=>(List.nodup_cons.mp nd).1 (List.of_mem_zip hv).1,if_pos hk]
  simp
 | p :: P,w :: vs,i + 1,m,nd,h1,h2,hk=>by
  show bindL kindOf ((p,w) :: P.zip vs) m x=_
  unfold bindL
  exact Ck (i:=i) (List.nodup_cons.mp nd).2 (by simpa using h1) (by simpa using h2) hk
theorem Cm {kindOf:Str->Option NameKind} {x:Str} {v:Value}:∀ {P:List Str} {vs:List Value} {i:Nat} {m:Str->Option Value},P.Nodup->P[i]? = some x->vs[i]? = some v->kindOf x≠some .local →
  bindC kindOf (P.zip vs) m x=some v
 | [],_,_,_,_,h,_,_=>by simp at h
 | _ :: _,[],_,_,_,_,h,_=>by simp at h
 | p :: P,w :: vs,0,m,nd,h1,h2,hk=>by
  simp at h1 h2;subst h1;subst h2
  show bindC kindOf ((p,w) :: P.zip vs) m p=_
  unfold bindC
  rw[Cj fun v hv=>(List.nodup_cons.mp nd).1 (List.of_mem_zip hv).1,if_neg hk]
  simp
 | p :: P,w :: vs,i + 1,m,nd,h1,h2,hk=>by
  show bindC kindOf ((p,w) :: P.zip vs) m x=_
  unfold bindC
  exact Cm (i:=i) (List.nodup_cons.mp nd).2 (by simpa using h1) (by simpa using h2) hk
noncomputable def start (N:List Str) (vs:List V):St:=vs.map some ++ List.replicate (N.length - vs.length) none
noncomputable def gu (CX:iQ) (P:Program) (w:World) (K:PySem.W.Frag) (mg:Str->Option Value) (base:Heap) (N:List Str) (qual:Str) (scope:Scope) (f:Addr) (cd:Value) (A:Around) (outer:List Env) (s:Shared) (H:Hp) (E:XK):Cx where
 prog:=P
 w:=w
 K:=K
 mg:=mg
 base:=base
 A:=A.deeper (envOfC qual scope s.heap.objs.size f cd)
 N:=N
 s₀ := s
 H₀ := H
 env:=envOfC qual scope s.heap.objs.size f cd
 outer:=outer
 stack:=envOfC qual scope s.heap.objs.size f cd :: outer
 ex:=[]
 calm:=true
 fn:=fun _=>true
 pn:=[]
 xe:=fun e s'=>wpAny (model P w) (A.deeper (envOfC qual scope s.heap.objs.size f cd)) (leaving (envOfC qual scope s.heap.objs.size f cd) e) (fun _ si=>CX outer H s E e si) (fun e' si=>CX outer H s E e' si) s'
theorem Co {sc:Scope} {n:Nat} {x:Str} (h:sc.names.lookup x=some .cell):∃ c,(cellsFrom n sc.names []).lookup x=some c:=by
 have q:=PySem.W.cellsFrom_some sc.names n [] (.inl h)
 exact Option.isSome_iff_exists.mp q
theorem IL {CX:iQ} {P:Program} {w:World} {K:PySem.W.Frag} {mg:Str->Option Value} {base:Heap} {N ps:List Str} {qual:Str} {scope:Scope} {f:Addr} {cd:Value} {A:Around} {outer:List Env} {s s1:Shared} {H:Hp} {E:XK} {us:List Value} {vs:List V}
  (S:di N ps scope) (hd:A.handled=none) (e0:lC P w K mg base A outer s H) (hl:vs.length=ps.length) (r:Vals vs us)
  (x:InCallC s s.heap.objs.size (bindL (envOfC qual scope s.heap.objs.size f cd).kindOf (ps.zip us) fun _=>none) (cellsFrom (s.heap.objs.size + 1) scope.names []) (bindC (envOfC qual scope s.heap.objs.size f cd).kindOf (ps.zip us) fun _=>none) s1) :
  Inv (gu CX P w K mg base N qual scope f cd A outer s H E) [] (start N vs) H s1:=by
 have fW:ps.length <= N.length:=by have:=congrArg List.length S.pre;rw[List.length_take] at this;omega
 obtain⟨h1,tk,rfl,hk⟩:=x.done
 have sj:∀ b:Addr,b∉(gu CX P w K mg base N qual scope f cd A outer s H E).ex:=fun b z=>absurd (show b∈([]:List Addr) from z) (by simp)
 refine⟨⟨e0.mod,S.kind,rfl,rfl,Nat.le_refl _,fun y z c h1 h2 => ?_,fun y hy => ?_,fun y c _ h => ?_,fun _=>hd,Around.frames_deeper e0.frames,.inr ⟨rfl,rfl⟩,fun b z=>absurd z (sj b),e0.bs,e0.nV,fun b _ _=>sj b,fun b z=>absurd z (sj b),e0.eR,e0.p8⟩,
  rfl,e0.bare,Un.kept hk,⟨_,x.toInCall.ns,fun i y v h1 h2 h3 => ?_⟩,fun y c h=>⟨_,x.cell y c h⟩,e0.aJ.fresh (Nat.le_refl _),fun y c h => ?_,fun p hp=>absurd (show p∈([]:List (Addr × Obj)) from hp) (by simp),e0.aJ.kept hk,?_⟩
 ·exact name_of_addr x.apart (PySem.mem_of_lookup h1) (PySem.mem_of_lookup h2)
 ·have hy:scope.names.lookup y=some .cell\/scope.names.lookup y=some .free:=hy
  rcases hy with hy | hy
  ·exact Co hy
  ·exact absurd rfl (S.oo _ (PySem.mem_of_lookup hy))
 ·exact Nat.le_of_lt (x.above y c (PySem.mem_of_lookup h))
 ·have hi:i < vs.length:=by
   unfold start at h2
   by_cases hi:i < vs.length
   ·exact hi
   ·rw[List.getElem?_append_right (by simpa using hi)] at h2
    rw[List.getElem?_replicate] at h2
    split at h2<;>cases h2
  have ha:vs[i]? = some v:=by
   unfold start at h2
   rw[List.getElem?_append_left (by simpa using hi),List.getElem?_map] at h2
   cases e:vs[i]? with
   | none=>rw[e] at h2;cases h2
   | some a=>rw[e] at h2;cases h2;rfl
  obtain⟨u,hu,rv⟩:=r.get ha
  have hp:ps[i]? = some y:=by
   rw[<-S.pre,List.getElem?_take_of_lt (by omega)];exact h1
  have Cp:ps.Nodup:=by rw[<-S.pre];exact S.nd.sublist (List.take_sublist _ _)
  refine⟨u,rv,?_⟩
  rcases S.par y (List.mem_of_getElem? hp) with k | k
  ·exact .inl ⟨k,Ck Cp hp hu k⟩
  ·obtain⟨c,e⟩:=Co (n:=s.heap.objs.size + 1) k
   refine .inr ⟨.inl k,c,e,?_⟩
   have q:=x.cell y c e
   rw[Cm Cp hp hu (by show scope.names.lookup y≠_;rw[k];decide)] at q
   exact q
 ·exact e0.aJ.fresh (Nat.le_of_lt (x.above y c (PySem.mem_of_lookup h)))
 ·unfold start
  show _=N.length
  rw[List.length_append,List.length_map,List.length_replicate]
  omega
theorem IM {CX:iQ} {P:Program} {w:World} {K:PySem.W.Frag} {mg:Str->Option Value} {base:Heap} {k:Nat} {f:Addr} {name qual:Str} {params:Arguments} {body:List Stmt} {scope:Scope} {dV kV doc pm bc ct oc:Value} {an od:Option Addr}
  {mR:Array (Option Value)} {N ps:List Str} {sp:Sp} (lk:K.lookup f=some ⟨oc,od,.func (PySem.W.fnOf name qual params body scope dV kV doc pm an bc ct),mR⟩) (gO:PySem.W.codeIn K bc qual=true) (S:di N ps scope)
  (len:∀ vs H Q E,sp vs H Q E->vs.length=ps.length)
  (eU:∀ (A:Around) (outer:List Env) (s:Shared) (H:Hp) (vs:List V) (Q:VK) (E:XK),bG k (A.deeper (envOfC qual scope s.heap.objs.size f bc))->sp vs H Q E →
   ∃ t,gN (gu CX P w K mg base N qual scope f bc A outer s H E) body t/\t { nx:=fun _ H'=>Q .non H',rt:=Q } (start N vs) H) :
  aT P w K mg base CX (k + 1) f (PySem.W.fnOf name qual params body scope dV kV doc pm an bc ct) ps sp:=by
 refine⟨len,fun A outer s H args us vs Q E hr e0 hb r mS => ?_⟩
 have hl:=len _ _ _ _ mS
 have KX:K.In s.heap:=e0.mod.mJ.keeps fun b o e=>(e0.bs b o e).1
 have lim:s.heap.NoLimit:=e0.mod.nolimit.keeps fun b o e=>(e0.bs b o e).1
 have sk:∀ y∈ps.zip us,scope.names.lookup y.1=some .local\/(scope.names.lookup y.1=some .cell/\((cellsFrom (s.heap.objs.size + 1) scope.names []).lookup y.1).isSome=true):=fun ⟨n,v⟩ hy=>by
  rcases S.par n (List.of_mem_zip hy).1 with q | q
  ·exact .inl q
  ·exact .inr ⟨q,PySem.W.cellsFrom_some _ _ _ (.inl q)⟩
 refine codeAny_call_function hr.depth (KX _ _ lk) rfl S.co S.gen rfl (PySem.W.codeRec_of KX gO) (hb _ _ _ _ ?_)
 refine wpAny_newFunctionEnv_cells S.kind sk fun env he s1 x => ?_
 subst he
 refine⟨lim.keeps x.toInCall.keep,codeAny_func ?_⟩
 obtain⟨t,ht,hq⟩:=eU A outer s H vs Q E (hr.deeper _) mS
 have I:Inv (gu CX P w K mg base N qual scope f bc A outer s H E) [] (start N vs) H s1:=IL S hr.hd e0 hl r x
 refine wpAny_mono (ht [] s1 (start N vs) H _ I hq) (fun fl s' hs => ?_) fun e s' hs=>hs
 have fin:∀ {σ':St} {H':Hp} {v:V} {u:Value},Inv (gu CX P w K mg base N qual scope f bc A outer s H E) [] σ' H' s'->RelV v u->Q v H'->CE outer P w H s Q u s' :=
  fun {σ' H' v u} J rv q=>⟨v,H',J.os,J.bare,J.base,J.aJ,rv,q⟩
 cases fl with
 | ret u =>
  obtain⟨v,σ',H',J,rv,q⟩:=hs
  exact fin J rv q
 | next =>
  obtain⟨σ',H',J,q⟩:=hs
  exact fin (v:=V.non) (u:=Value.none) J rfl q
 | brk =>
  obtain⟨_,_,_,q⟩:=hs
  exact False.elim q
 | cont =>
  obtain⟨_,_,_,q⟩:=hs
  exact False.elim q
section
variable {X:Cx} {x:Str} {p pos:Pos} {e:Expr} {es:List Expr} {t:TA} {id T:String} {r:List V->Hp->VK->Prop}
noncomputable def qa (r:List V->Hp->VK->Prop) (t:TA):TE:=fun σ H Q=>t σ H fun vs H1=>r vs H1 Q
theorem IP (hc:fA X (.builtin id) r) (hg:Gl X x) (hm:X.mg x=none) (hv:bootBuiltins x=some (.builtin id)) (ha:PA X (e :: es) t) (hn:x ≠ "__name__" := by decide) (gs:(x == ("__debug__" : Str))=false:=by decide)
  (he:starEach (e :: es) X.env=(false,eval e X.env) :: starEach es X.env:=by rfl) (fW:(backTo pos (starEach es X.env)).any (·.1)=false:=by rfl):PE X (.Call (.Name x p) (e :: es) [] pos) (qa r t):=by
 intro pins s σ H Q I h
 refine wpAny_Call_Name_kw (mO I hg hm hv ?_ hn gs)
 exact PyProof.Rows.callWith_builtin1 (aW (ha pos pins s σ H _ I h) fun us s1 h0_ => el5 h0_ fun vs H1 I1 r1 q1 =>hc pins s1 σ H1 vs us Q I1 r1 q1) he fW
theorem IQ (hc:fA X (.type T) r) (hg:Gl X x) (hm:X.mg x=none) (hv:bootBuiltins x=some (.type T)) (ha:PA X (e :: es) t) (hn:x ≠ "__name__" := by decide) (gs:(x == ("__debug__" : Str))=false:=by decide)
  (he:starEach (e :: es) X.env=(false,eval e X.env) :: starEach es X.env:=by rfl) (fW:(backTo pos (starEach es X.env)).any (·.1)=false:=by rfl):PE X (.Call (.Name x p) (e :: es) [] pos) (qa r t):=by
 intro pins s σ H Q I h
 refine wpAny_Call_Name_kw (mO I hg hm hv ?_ hn gs)
 exact PyProof.Rows.callWith_type1 (aW (ha pos pins s σ H _ I h) fun us s1 h0_ => el5 h0_ fun vs H1 I1 r1 q1 =>hc pins s1 σ H1 vs us Q I1 r1 q1) he fW
end
end L2
namespace HT
open PySem PyProof.Rows
noncomputable def lexLt:List Int->List Int->Bool
 | [],[]=>false
 | [],_ :: _=>true
 | _ :: _,[]=>false
 | x :: xs,y :: ys=>if x=y then lexLt xs ys else decide (x < y)
theorem Cq (x y:Int) (xs ys:List Int):lexLt (x :: xs) (y :: ys)=if x=y then lexLt xs ys else decide (x < y):=rfl
theorem IS:lexLt [] []=false:=rfl
theorem IT (y:Int) (ys:List Int):lexLt [] (y :: ys)=true:=rfl
theorem IU (x:Int) (xs:List Int):lexLt (x :: xs) []=false:=rfl
theorem IV (A:Around) (s:Shared) (a:Int) (t:Tok) (c:Int) (u:Tok):∃ e,SeqAt.EqAt A s (.int a t) (.int c u) e/\(e=true↔a=c) :=
 ⟨(a == c),SeqAt.EqAt.int_int a t c u,by simp⟩
theorem IW (A:Around) (s:Shared) (a:Int) (t:Tok) (c:Int) (u:Tok) (prog:Program) (w:World) (E:Value->Shared->Prop) (Q:Value->Shared->Prop) (h:Q (.bool (decide (a < c))) s) :
  wpAny (model prog w) A (richCompare .Lt (.int a t) (.int c u)) Q E s :=
 (PyProof.Rows.lt_int h:wpAny (model prog w) A (compareOp .Lt (.int a t) (.int c u)) Q E s)
section
open PySem.SeqAt
open PySem.AutoSeq1 (wpAny_loadPart')
open PySem.MeetsSeq PySem.MeetsSeq2 PySem.MeetsSeq3
theorem IX (l b:Addr) (items bQ:Array Value) (n n2:Nat) (dd mT:Option Addr) (sl mU:Array (Option Value)) (ns ms:List Int) (hi:IntsAre items.toList ns) (hj:IntsAre bQ.toList ms) :
  Meets (Builtin.«tuple.__lt__» ⟨[.ref l,.ref b],[]⟩)
   (fun _ R s=>s.heap.get? l=some { cls := .type "tuple",dict:=dd,data := .seq items n,slots:=sl }/\s.heap.get? b=some { cls := .type "tuple",dict:=mT,data := .seq bQ n2,slots:=mU } ∧
    R (.ok (.ret (.bool (lexLt ns ms)))) s) :=
 .of_wp fun prog w A R s h=>by
  obtain⟨hp,g,d,tk,os⟩:=s;obtain⟨hl,hb,h⟩:=h
  have f2:=AutoSeq1.sub_tuple_tuple
  have z1:items.size=ns.length:=by rw[<-hi.length];simp
  have z2:bQ.size=ms.length:=by rw[<-hj.length];simp
  wp_walk using wpAny_loadPart' hl,wpAny_loadPart' hb,wpAny_forIn_list _ (fun rest b s'=>b.1=none/\s'=⟨hp,g,d,tk,os⟩/\∃ (vs ws:List Value) (dX qb:List Int),rest=vs.zip ws ∧
   IntsAre vs dX/\IntsAre ws qb/\dX.length + bQ.size=qb.length + items.size/\R (.ok (.ret (.bool (lexLt dX qb)))) ⟨hp,g,d,tk,os⟩) _
  case turn =>
   rintro ⟨y,x⟩ rest b s' ⟨dc,rfl,vs,ws,dX,qb,hz,yn,va,hlen,hR⟩
   cases yn with
   | nil=>rw[List.zip_nil_left] at hz;cases hz
   | cons a t yo =>
    cases va with
    | nil=>rw[List.zip_nil_right] at hz;cases hz
    | cons c u yp =>
     rw[List.zip_cons_cons] at hz
     injection hz with IY so
     injection IY with hy hx
     subst hy hx
     rw[Cq] at hR
     simp only[List.length_cons] at hlen
     obtain⟨e,he,sq⟩:=IV A.in1 ⟨hp,g,d,tk,os⟩ a t c u
     refine wpAny_bind (he prog w _ _ ?_)
     cases e with
     | true =>
      rw[if_pos (sq.mp rfl)] at hR
      wp_walk
      exact⟨rfl,rfl,_,_,_,_,so,yo,yp,by omega,hR⟩
     | false =>
      rw[if_neg (fun q=>absurd (sq.mpr q) Bool.false_ne_true)] at hR
      have IZ:=IW A.in1 ⟨hp,g,d,tk,os⟩ a t c u prog w
      wp_walk using IZ
      exact⟨_,rfl,by simpa using hR⟩
  case fin =>
   rintro ⟨b1,b2⟩ s' ⟨dc,rfl,vs,ws,dX,qb,hz,yn,va,hlen,hR⟩
   simp only at dc
   subst dc
   have hv:lexLt dX qb=decide (items.size < bQ.size):=by
    cases yn with
    | nil =>
     cases va with
     | nil =>
      simp only[List.length_nil] at hlen
      rw[IS]
      exact (decide_eq_false (by omega)).symm
     | cons c u hw =>
      simp only[List.length_nil,List.length_cons] at hlen
      rw[IT]
      exact (decide_eq_true (by omega)).symm
    | cons a t hv =>
     cases va with
     | nil =>
      simp only[List.length_nil,List.length_cons] at hlen
      rw[IU]
      exact (decide_eq_false (by omega)).symm
     | cons c u hw =>
      rw[List.zip_cons_cons] at hz
      cases hz
   rw[hv] at hR
   wp_walk
   exact⟨_,rfl,by simpa [Builtin.Tuple.tupleCompareSizes] using hR⟩
  case h =>
   exact⟨rfl,rfl,items.toList,bQ.toList,ns,ms,rfl,hi,hj,by omega,h⟩
end
section
variable {prog:Program} {w:World} {A:Around} {E:Value->Shared->Prop} {s:Shared}
theorem I0 {l b:Addr} {items bQ:Array Value} {ns ms:List Int} {Q:Value->Shared->Prop} (hl:IsTup s.heap l items) (hb:IsTup s.heap b bQ) (hi:IntsAre items.toList ns) (hj:IntsAre bQ.toList ms)
  (hu:A.units < cLine) (h:Q (.bool (lexLt ns ms)) s):wpAny (model prog w) A (compareOp .Lt (.ref l) (.ref b)) Q E s:=by
 obtain⟨⟨cls,dd,data,sl⟩,ho,hc,n,hd⟩:=id hl
 obtain⟨⟨su,mT,data2,mU⟩,g6,mV,n2,hd2⟩:=id hb
 simp only at hc hd mV hd2
 subst hc hd mV hd2
 exact richCompare_meets_room (op := .Lt) ⟨_,ho,rfl⟩ ⟨_,g6,rfl⟩ PySem.F.slot_tuple_lt PySem.F.entry_tuple_lt (PySem.F.args_tuple_lt_2 _ _) (IX l b items bQ n n2 dd mT sl mU ns ms hi hj)
  ⟨ho,g6,show Value.bool (lexLt ns ms)≠Value.notImplemented/\Q (.bool (lexLt ns ms)) s from ⟨(fun x=>nomatch x),h⟩⟩ hu
theorem I_ {t b:Addr} {vs ws:List Value} {Q:Value->Shared->Prop} (ht:IsTup s.heap t vs.toArray) (hb:IsTup s.heap b ws.toArray) (hv:vs≠[])
  (h1:ws=[]->Q (.ref t) s) (h2:ws≠[]->Q (.ref s.heap.objs.size) { s with heap:=s.heap.push { cls := .type "tuple",data := .seq (vs ++ ws).toArray } })
  (hsz:vs.length + ws.length <= sizeLine):wpAny (model prog w) A (binaryOp .Add (.ref t) (.ref b)) Q E s:=by
 obtain⟨⟨cls,dd,data,sl⟩,ho,hc,n,hd⟩:=id ht
 obtain⟨⟨su,mT,data2,mU⟩,g6,mV,n2,hd2⟩:=id hb
 simp only at hc hd mV hd2
 subst hc hd mV hd2
 have e:vs.toArray ++ ws.toArray=(vs ++ ws).toArray:=by simp
 by_cases hw:ws=[]
 ·exact concat_meets ⟨_,ho,rfl⟩ ⟨_,g6,rfl⟩ noFill_tuple_add seq_tuple_add PySem.F.slot_tuple_add PySem.F.entry_tuple_add (PySem.F.args_tuple_add_2 _ _)
   (tuple_addW1 t b vs.toArray ws.toArray n n2 dd mT sl mU (by simpa using hv) (by simp[hw])) ⟨ho,g6,h1 hw⟩
 ·refine concat_meets ⟨_,ho,rfl⟩ ⟨_,g6,rfl⟩ noFill_tuple_add seq_tuple_add PySem.F.slot_tuple_add PySem.F.entry_tuple_add (PySem.F.args_tuple_add_2 _ _)
   (tuple_addW2 t b vs.toArray ws.toArray n n2 dd mT sl mU (by simpa using hv) (by simpa using hw) (by rw[List.size_toArray,List.size_toArray];exact hsz)) ⟨ho,g6,?_⟩
  rw[e]
  exact h2 hw
noncomputable def aU (n d:Nat):Option Int->Nat
 | none=>d
 | some v=>if v < 0 then (v + (n:Int)).toNat else min v.toNat n
theorem Ja (n d:Nat):aU n d none=d:=rfl
theorem yq (n d k:Nat):aU n d (some (k:Int))=min k n:=by
 show (if (k:Int) < 0 then ((k:Int) + (n:Int)).toNat else min (k:Int).toNat n)=min k n
 rw[if_neg (by omega),Int.toNat_natCast]
theorem Jb (n d:Nat) (hd:d <= n) (o:Option Int):aU n d o <= n:=by
 cases o with
 | none=>exact hd
 | some v =>
  show (if v < 0 then (v + (n:Int)).toNat else min v.toNat n) <= n
  by_cases hv:v < 0
  ·rw[if_pos hv];omega
  ·rw[if_neg hv];exact Nat.min_le_right _ _
theorem Cr (v:Int) (n d:Nat):(if v < 0 then max (v + (n:Int)) 0 else min v (n:Int))=((aU n d (some v):Nat):Int):=by
 show (if v < 0 then max (v + (n:Int)) 0 else min v (n:Int))=(((if v < 0 then (v + (n:Int)).toNat else min v.toNat n):Nat):Int)
 by_cases hv:v < 0
 ·simp only[if_pos hv];omega
 ·simp only[if_neg hv];omega
theorem Jc (lo hi:Option Int) (n:Nat):Builtin.Slice.sliceAdjust lo hi 1 (n:Int)=(((aU n 0 lo:Nat):Int),((aU n n hi:Nat):Int)):=by
 have h1:¬ ((1:Int) < 0):=by omega
 unfold Builtin.Slice.sliceAdjust
 simp only[h1,if_false]
 refine Prod.ext ?_ ?_
 ·cases lo with
  | none=>rfl
  | some v=>exact Cr v n 0
 ·cases hi with
  | none=>rfl
  | some v=>exact Cr v n n
theorem Jd (i j:Nat):Builtin.Slice.slicePlaces (i:Int) (j:Int) 1=j - i:=by
 unfold Builtin.Slice.slicePlaces
 have h1:(1:Int) > 0:=by omega
 simp only[h1,if_true,Int.ediv_one]
 split<;>omega
theorem sv {v:Value} {o:Option Int} {Q:Option Int->Shared->Prop} (p:IsPart v o) (h:Q o s):wpAny (model prog w) A (Builtin.Slice.slicePartIndex v) Q E s:=by
 cases p with
 | none=>exact slicePart_none h
 | int i t=>exact slicePart_int h
theorem Cs {sl:Addr} {vl vu:Value} {lo hi:Option Int} {n:Nat} {Q:Int × Int × Nat->Shared->Prop} (hs:s.heap.IsSliceOf sl vl vu .none) (pl:IsPart vl lo) (pu:IsPart vu hi)
  (h:Q (((aU n 0 lo:Nat):Int),1,aU n n hi - aU n 0 lo) s):wpAny (model prog w) A (Builtin.Slice.sliceApplied (.ref sl) (pure (n:Int))) Q E s:=by
 obtain⟨os,iR,lD,kI⟩:=id hs
 unfold Builtin.Slice.sliceApplied Builtin.Slice.sliceFields
 refine wpAny_bind (wpAny_bind (wpAny_field iR kI (x:=vl) rfl (wpAny_bind (wpAny_field iR kI (x:=vu) rfl (wpAny_bind (wpAny_field iR kI (x := .none) rfl (wpAny_pure ?_)))))))
 refine wpAny_bind (slicePart_none ?_)
 show wpAny _ _ (if ((1:Int) == 0)=true then _ else _) _ _ s
 rw[if_neg (by decide)]
 refine wpAny_bind (sv pl (wpAny_bind (sv pu (wpAny_bind (wpAny_pure ?_)))))
 show wpAny _ _ (match Builtin.Slice.sliceAdjust lo hi 1 (n:Int) with | (lo,hi)=>pure (lo,(1:Int),Builtin.Slice.slicePlaces lo hi 1)) _ _ s
 rw[Jc lo hi n]
 show wpAny _ _ (pure (((aU n 0 lo:Nat):Int),(1:Int),Builtin.Slice.slicePlaces ((aU n 0 lo:Nat):Int) ((aU n n hi:Nat):Int) 1)) _ _ s
 rw[Jd]
 exact wpAny_pure h
theorem Je (xs:Array Value) (i k:Nat):((List.range k).filterMap fun (m:Nat)=>xs[((i:Int) + (m:Int) * 1).toNat]?).toArray=((xs.toList.drop i).take k).toArray:=by
 have e:(fun (m:Nat)=>xs[((i:Int) + (m:Int) * 1).toNat]?)=fun m=>xs[i + m]? := by
  funext m
  have:((i:Int) + (m:Int) * 1).toNat=i + m:=by omega
  rw[this]
 rw[e]
 have:=pick_run xs i k
 rw[List.filterMap_map] at this
 have e2:((fun x=>xs[x]?) ∘ fun x=>i + x)=fun m=>xs[i + m]? := rfl
 rw[e2] at this
 rw[this]
theorem Jf {t sl:Addr} {items:Array Value} {vl vu:Value} {lo hi:Option Int} {Q:Value->Shared->Prop} (ht:IsTup s.heap t items) (hs:s.heap.IsSliceOf sl vl vu .none) (pl:IsPart vl lo) (pu:IsPart vu hi)
  (hw:¬ (aU items.size 0 lo=0/\aU items.size items.size hi=items.size))
  (h:Q (.ref s.heap.objs.size) { s with heap:=s.heap.push { cls := .type "tuple",data := .seq ((items.toList.drop (aU items.size 0 lo)).take (aU items.size items.size hi - aU items.size 0 lo)).toArray } })
  (hsz:items.size <= sizeLine):wpAny (model prog w) A (getItem (.ref t) (.ref sl)) Q E s:=by
 have dr:sizeOk (.seq ((items.toList.drop (aU items.size 0 lo)).take (aU items.size items.size hi - aU items.size 0 lo)).toArray):=by
  show ((items.toList.drop (aU items.size 0 lo)).take (aU items.size items.size hi - aU items.size 0 lo)).toArray.size <= sizeLine
  rw[List.size_toArray,List.length_take,List.length_drop,Array.length_toList]
  omega
 have hj:aU items.size items.size hi <= items.size:=Jb _ _ (Nat.le_refl _) hi
 obtain⟨os,iR,lD,kI⟩:=id hs
 have sx:s.TypeIs (.ref sl) "slice" := ⟨os,iR,lD⟩
 unfold getItem
 try with_reducible refine wpAny_holding ?_
 first | refine wpAny_bind (wpAny_pure ?_) | skip
 refine wpAny_bind (wpAny_sequenceKey ht.typeIs (by decide) ?_)
 refine wpAny_bind (wpAny_callSpecial?_slot (name:=Str.ofString "__getitem__") ht.typeIs PyProof.Rows.slot_tuple_getitem
  (wpAny_call_entry PyProof.Rows.slot_tuple_getitem ht.typeIs entry_tuple_getitem ?_ (args_tuple_getitem _ _)))
 show wpAny _ _ (Builtin.Tuple.tupleItemsOf (.ref t) >>= _) _ _ s
 refine wpAny_bind (tupleItemsOf_ ht ?_)
 refine wpAny_bind (wpAny_typeOf sx ?_)
 rw[if_pos (by decide)]
 refine wpAny_bind (Cs hs pl pu ?_)
 have Jg:¬ ((((aU items.size 0 lo:Nat):Int) == 0 && (1:Int) == 1 && (aU items.size items.size hi - aU items.size 0 lo) == items.size)=true):=by
  intro q
  rw[Bool.and_eq_true,Bool.and_eq_true] at q
  have q1:((aU items.size 0 lo:Nat):Int)=0:=eq_of_beq q.1.1
  have q2:aU items.size items.size hi - aU items.size 0 lo=items.size:=eq_of_beq q.2
  exact hw ⟨by omega,by omega⟩
 show wpAny _ _ (if (((aU items.size 0 lo:Nat):Int) == 0 && (1:Int) == 1 && (aU items.size items.size hi - aU items.size 0 lo) == items.size)=true then _ else _) _ _ s
 rw[if_neg Jg,Je]
 first
  | exact wpAny_bind (m:=Builtin.Tuple.tupleExact _) (wpAny_newObj_type (wpAny_pure ⟨_,rfl,wpAny_pure h⟩) dr)
  | exact wpAny_bind (m:=Builtin.Tuple.tupleExact _) (wpAny_newObj_type (wpAny_bind (wpAny_pure (wpAny_pure ⟨_,rfl,wpAny_pure h⟩))) dr)
  | exact wpAny_bind (wpAny_bind (m:=Builtin.Tuple.tupleExact _) (wpAny_newObj_type (wpAny_pure (wpAny_pure ⟨_,rfl,wpAny_pure h⟩)) dr))
  | exact wpAny_bind (wpAny_bind (m:=Builtin.Tuple.tupleExact _) (wpAny_newObj_type (wpAny_pure ⟨_,rfl,wpAny_pure h⟩) dr))
end
end HT
namespace L2
open PySem PySem.Spec PyProof.Rows
noncomputable abbrev TO:=St->Hp->(Option Int->Hp->Prop)->Prop
noncomputable def PO (X:Cx) (e:Option Expr) (t:TO):Prop :=
 ∀ (pins:List (Addr × Obj)) (s:Shared) (σ : St) (H:Hp) (Q:Option Int->Hp->Prop),Inv X pins σ H s->t σ H Q →
  wpAny (model X.prog X.w) X.A (evalPart e X.env) (fun u s'=>∃ o H',Inv X pins σ H' s'/\IsPart u o/\Q o H') X.xe s
noncomputable def Jh:TO:=fun _ H Q=>Q none H
noncomputable def Ji (t:TE):TO:=fun σ H Q=>t σ H fun x H1=>∃ i,x = .int i/\Q (some i) H1
theorem intsAre_of {ns:List Int}:∀ {us:List Value},Vals (ns.map V.int) us->IntsAre us ns:=by
 induction ns with
 | nil=>intro us r;rw[List.map_nil] at r;cases r;exact .nil
 | cons n ns ih =>
  intro us r
  rw[List.map_cons] at r
  cases r with
  | cons r1 r2 =>
   obtain⟨t,e⟩:=r1
   subst e
   exact .cons n t (ih r2)
section
variable {X:Cx} {e:Expr} {te:TE} {lo hi:Option Expr} {tl th:TO} {pos p2:Pos}
theorem Ct:PO X none Jh:=by
 intro pins s σ H Q I h
 rw[evalPart_none]
 exact wpAny_pure ⟨none,H,I,.none,h⟩
theorem vb (h:PE X e te):PO X (some e) (Ji te):=by
 intro pins s σ H Q I hw
 rw[evalPart_some]
 refine aW (h pins s σ H _ I hw) fun u s1 h0_ => el5 h0_ fun x H1 I1 r1 q1 => ?_
 obtain⟨i,rfl,q⟩:=q1
 obtain⟨t,rfl⟩:=r1
 exact⟨some i,H1,I1,.int i t,q⟩
noncomputable def lE (X:Cx) (r:V->Option Int->Option Int->Hp->VK->Prop):Prop :=
 ∀ (pins:List (Addr × Obj)) (s:Shared) (σ : St) (H:Hp) (x:V) (v vl vu:Value) (lo hi:Option Int) (sl:Addr) (Q:VK),Inv X pins σ H s->RelV x v->s.heap.IsSliceOf sl vl vu .none->IsPart vl lo->IsPart vu hi->r x lo hi H Q →
  ∃ T id,typeLookup (.type T) "__getitem__" = pure (some (.builtin id))/\s.TypeIs v T/\wpAny (model X.prog X.w) X.A (getItem v (.ref sl)) (EP X pins σ Q) X.xe s
theorem lE.or {r r':V->Option Int->Option Int->Hp->VK->Prop} (h:lE X r) (h':lE X r'):lE X (fun x lo hi H Q=>r x lo hi H Q\/r' x lo hi H Q):=by
 intro pins s σ H x v vl vu lo hi sl Q I rx hs pl pu q
 rcases q with q | q
 ·exact h pins s σ H x v vl vu lo hi sl Q I rx hs pl pu q
 ·exact h' pins s σ H x v vl vu lo hi sl Q I rx hs pl pu q
noncomputable def Cu (r:V->Option Int->Option Int->Hp->VK->Prop) (te:TE) (tl th:TO):TE:=fun σ H Q=>te σ H fun x H1=>tl σ H1 fun l H2=>th σ H2 fun u H3=>r x l u H3 Q
theorem Jj {r:V->Option Int->Option Int->Hp->VK->Prop} (hr:lE X r) (he:PE X e te) (hl:PO X lo tl) (hu:PO X hi th):PE X (.Subscript e (.Slice lo hi none p2) pos) (Cu r te tl th):=by
 intro pins s σ H Q I h
 refine Subscript_ (aW (he pins s σ H _ I h) fun v s1 h0_ => el5 h0_ fun x H1 I1 r1 q1 => ?_)
 refine wpAny_Slice (aW (hl pins s1 σ H1 _ I1 q1) fun vl s2 h0_ => el5 h0_ fun l H2 I2 pl q2 =>aW (hu pins s2 σ H2 _ I2 q2) fun vu s3 h0_ => el5 h0_ fun u H3 I3 pu q3 => ?_)
 rw[evalPart_none]
 refine wpAny_pure ?_
 have I4:Inv X pins σ H3 { s3 with heap:=s3.heap.push { cls := .type "slice",data := .fields #[vl,vu,.none] } }:=I3.kept (t':=s3.toks) fun b ob q=>Heap.get?_push_of_some _ q
 obtain⟨T,id,hT,ht,hg⟩:=hr pins { s3 with heap:=s3.heap.push { cls := .type "slice",data := .fields #[vl,vu,.none] } } σ H3 x v vl vu l u s3.heap.objs.size Q I4 r1 (Heap.IsSliceOf.new ..) pl pu q3
 show wpAny (model X.prog X.w) X.A (subscriptTail e (.Slice lo hi none p2) v (.ref s3.heap.objs.size)) (EP X pins σ Q) X.xe { s3 with heap:=s3.heap.push { cls := .type "slice",data := .fields #[vl,vu,.none] } }
 exact tail_any (ops:=[.ref s3.heap.objs.size,v]) ht hT hg (by with_unfolding_all rfl)
noncomputable def cG (xs:List V) (lo hi:Option Int):List V:=(xs.drop (HT.aU xs.length 0 lo)).take (HT.aU xs.length xs.length hi - HT.aU xs.length 0 lo)
theorem Cv (xs:List V) (lo hi:Option Int):(cG xs lo hi).length <= xs.length:=by
 unfold cG
 rw[List.length_take,List.length_drop]
 omega
noncomputable def yr (K:PySem.W.Frag):V->Option Int->Option Int->Hp->VK->Prop:=fun x lo hi H Q=>∃ a xs,x = .ref a/\bw K H a xs ∧
 ¬ (HT.aU xs.length 0 lo=0/\HT.aU xs.length xs.length hi=xs.length)/\∀ p,H p=none->Q (.ref p) (upd H p (.tup (cG xs lo hi)))
theorem Jk:lE X (yr X.K):=by
 intro pins s σ H x v vl vu lo hi sl Q I rx hs pl pu h
 obtain⟨a,xs,rfl,hx,hw,q⟩:=h
 cases rx
 obtain⟨ag,r,ht,hz⟩:=I.tuple hx
 have hlen:ag.toArray.size=xs.length:=by rw[List.size_toArray];exact r.length.symm
 refine⟨"tuple",_,PyProof.Rows.slot_tuple_getitem.lookup,ht.typeIs,?_⟩
 refine HT.Jf ht hs pl pu (by rw[hlen];exact hw) ?_ (by rw[hlen];exact hz)
 rw[hlen]
 refine⟨.ref s.heap.objs.size,_,I.laid (t':=s.toks) (o := .tup (cG xs lo hi)) (fun b ob q=>Heap.get?_push_of_some _ q) (Nat.le_refl _) ?_,rfl,q _ (I.aJ.fresh (Nat.le_refl _))⟩
 exact⟨Nat.le_trans (Cv xs lo hi) hz,_,(r.drop (HT.aU xs.length 0 lo)).take (HT.aU xs.length xs.length hi - HT.aU xs.length 0 lo),IsTup.new _ _⟩
noncomputable def yt (K:PySem.W.Frag):R2:=fun x y H Q=>∃ a b ns ms,x = .ref a/\y = .ref b/\bw K H a (ns.map V.int)/\bw K H b (ms.map V.int)/\Q (.bl (HT.lexLt ns ms)) H
theorem Jl (hu:X.A.units < cLine):cC X (compareOp .Lt) (yt X.K):=by
 intro pins s σ H x y v u Q I rx ry h
 obtain⟨a,b,ns,ms,rfl,rfl,ha,hb,q⟩:=h
 cases rx
 cases ry
 obtain⟨ag,r1,p1,_⟩:=I.tuple ha
 obtain⟨aY,r2,p2,_⟩:=I.tuple hb
 have i1:IntsAre ag.toArray.toList ns:=intsAre_of r1
 have i2:IntsAre aY.toArray.toList ms:=intsAre_of r2
 exact HT.I0 p1 p2 i1 i2 hu ⟨.bl (HT.lexLt ns ms),H,I,rfl,q⟩
noncomputable def Jm (K:PySem.W.Frag):R2:=fun x y H Q=>∃ a b xs ys,x = .ref a/\y = .ref b/\bw K H a xs/\bw K H b ys/\xs≠[]/\xs.length + ys.length <= sizeLine ∧
 (ys=[]->Q (.ref a) H)/\(ys≠[]->∀ p,H p=none->Q (.ref p) (upd H p (.tup (xs ++ ys))))
theorem Vals.eN {xs:List V} {us:List Value} (r:Vals xs us):us=[]↔xs=[]:=by
 cases r with
 | nil=>simp
 | cons _ _=>simp
theorem Jn:cC X (binaryOp .Add) (Jm X.K):=by
 intro pins s σ H x y v u Q I rx ry h
 obtain⟨a,b,xs,ys,rfl,rfl,ha,hb,hx,hz,q1,q2⟩:=h
 cases rx
 cases ry
 obtain⟨ag,r1,p1,_⟩:=I.tuple ha
 obtain⟨aY,r2,p2,_⟩:=I.tuple hb
 refine HT.I_ p1 p2 (fun z=>hx (r1.eN.mp z)) (fun z=>⟨.ref a,H,I,rfl,q1 (r2.eN.mp z)⟩) (fun z => ?_) (by rw[<-r1.length,<-r2.length];exact hz)
 refine⟨.ref s.heap.objs.size,_,I.laid (t':=s.toks) (o := .tup (xs ++ ys)) (fun b ob q=>Heap.get?_push_of_some _ q) (Nat.le_refl _) ?_,rfl,q2 (fun w=>z (r2.eN.mpr w)) _ (I.aJ.fresh (Nat.le_refl _))⟩
 exact⟨by rw[List.length_append];exact hz,_,r1.append r2,IsTup.new _ _⟩
end
noncomputable def iy (n:Nat) (i:Int):Option Nat:=if 0 <= i then (if i < n then some i.toNat else none) else if -(n:Int) <= i then some (i + n).toNat else none
noncomputable def eO {α : Type} (xs:List α) (i:Int):Option α := (iy xs.length i).bind fun j=>xs[j]?
theorem Cw {n:Nat} {i:Int} {j:Nat} (h:iy n i=some j):seqIndex? i n=some j/\j < n /\ -(n:Int) <= i/\i < n:=by
 unfold iy at h
 by_cases h0:0 <= i
 ·rw[if_pos h0] at h
  by_cases h1:i < n
  ·rw[if_pos h1] at h
   have e:i.toNat=j:=Option.some.inj h
   exact⟨by rw[seqIndex_of h0 h1,e],by omega,by omega,h1⟩
  ·rw[if_neg h1] at h;cases h
 ·rw[if_neg h0] at h
  by_cases h1 : -(n:Int) <= i
  ·rw[if_pos h1] at h
   have e:(i + n).toNat=j:=Option.some.inj h
   exact⟨by rw[seqIndex_neg (by omega) h1,e],by omega,h1,by omega⟩
  ·rw[if_neg h1] at h;cases h
theorem yu {α : Type} {xs:List α} {i:Int} {v : α} (h:eO xs i=some v):∃ j,seqIndex? i xs.length=some j/\xs[j]? = some v/\j < xs.length /\ -(xs.length:Int) <= i/\i < xs.length:=by
 unfold eO at h
 cases e:iy xs.length i with
 | none=>rw[e] at h;cases h
 | some j =>
  rw[e] at h
  obtain⟨h1,h2,h3,h4⟩:=Cw e
  exact⟨j,h1,h,h2,h3,h4⟩
theorem mW {α : Type} {xs:List α} {j:Nat} {v : α} (h:xs[j]? = some v):eO xs (j:Int)=some v:=by
 have hj:j < xs.length:=(List.getElem?_eq_some_iff.mp h).1
 have e:iy xs.length (j:Int)=some j:=by
  unfold iy
  rw[if_pos (by omega),if_pos (by omega)];simp
 unfold eO;rw[e];exact h
noncomputable def yw (b:Expr):Prop:=∀ o i,subscripted b false o i=operate [o,i] (getItem o i)
noncomputable def qc (X:Cx) (r:R2):Prop :=
 ∀ (value slice:Expr) (pins:List (Addr × Obj)) (s:Shared) (σ : St) (H:Hp) (x y:V) (v u:Value) (Q:VK),Inv X pins σ H s->RelV x v->RelV y u->r x y H Q →
  subscripted slice false v u=operate [v,u] (getItem v u)->wpAny (model X.prog X.w) X.A (subscriptTail value slice v u) (EP X pins σ Q) X.xe s
noncomputable def sy (X:Cx) (id:String) (r:V->List V->Hp->VK->Prop):Prop :=
 ∀ (pins:List (Addr × Obj)) (s:Shared) (σ : St) (H:Hp) (x:V) (xs:List V) (v:Value) (us:List Value) (Q:VK),Inv X pins σ H s->RelV x v->Vals xs us->r x xs H Q →
  wpAny (model X.prog X.w) X.A (call (.builtin id) (v :: us)) (EP X pins σ Q) X.xe s
section
variable {X:Cx} {a b:Expr} {ta tb:TE} {pos:Pos}
theorem Jo {r:R2} (hr:qc X r) (ha:PE X a ta) (hb:PE X b tb) (hs:yw b):PE X (.Subscript a b pos) (kH r ta tb):=by
 intro pins s σ H Q I h
 exact Subscript_ (oe ha hb I h fun v u s2 x y H2 I2 rx ry q=>hr a b pins s2 σ H2 x y v u Q I2 rx ry q (hs _ _))
noncomputable def sA (K:PySem.W.Frag):R2:=fun x y H Q=>∃ p xs i v,x = .ref p/\y = .int i/\aP K H p xs/\eO xs i=some v/\Q v H
noncomputable def yx (K:PySem.W.Frag):R2:=fun x y H Q=>∃ p xs i v,x = .ref p/\y = .int i/\bw K H p xs/\eO xs i=some v/\Q v H
noncomputable def yy:R2:=fun x y H Q=>∃ z i c,x = .str z/\y = .int i/\z.length <= sizeLine/\eO z.cps.toList i=some c/\Q (.str ⟨#[c]⟩) H
theorem yz:qc X (sA X.K):=by
 intro value slice pins s σ H x y v u Q I rx ry h hs
 obtain⟨p,xs,i,z,rfl,rfl,hq,he,q⟩:=h
 cases rx
 obtain⟨t,rfl⟩:=ry
 obtain⟨ag,r,pl,hz⟩:=I.list hq
 obtain⟨j,h1,h2,h3,h4,h5⟩:=yu he
 obtain⟨w,ew,sC⟩:=r.get h2
 have hl:=r.length
 have hn:=p_
 have fin:EP X pins σ Q w s:=⟨z,H,I,sC,q⟩
 by_cases h0:0 <= i
 ·have hj:i.toNat=j:=by
   rw[seqIndex_of h0 h5] at h1
   exact Option.some.inj h1
  exact item_listR pl.isList h0 (by omega) (by rw[hj];simpa using ew) fin hs
 ·have hj:(i + (ag.toArray.size:Int)).toNat=j:=by
   rw[seqIndex_neg (by omega) h4] at h1
   rw[List.size_toArray,<-hl]
   exact Option.some.inj h1
  exact subscriptTail_builtinR (x:=w) pl.isList.typeIs slot_list_getitem.lookup
   (wpAny_getItem_list_neg (Q:=fun r s'=>r=w/\EP X pins σ Q r s') pl.isList (by omega) (by rw[List.size_toArray]<;>omega) (by omega) (by rw[hj];simpa using ew) ⟨rfl,fin⟩) hs
theorem Jp:qc X (yx X.K):=by
 intro value slice pins s σ H x y v u Q I rx ry h hs
 obtain⟨p,xs,i,z,rfl,rfl,hq,he,q⟩:=h
 cases rx
 obtain⟨t,rfl⟩:=ry
 obtain⟨ag,r,pl,hz⟩:=I.tuple hq
 obtain⟨j,h1,h2,h3,h4,h5⟩:=yu he
 obtain⟨w,ew,sC⟩:=r.get h2
 have hl:=r.length
 have hn:=p_
 have fin:EP X pins σ Q w s:=⟨z,H,I,sC,q⟩
 exact subscriptTail_builtinR (x:=w) pl.typeIs slot_tuple_getitem.lookup
  (getItem_tuple (j:=j) (Q:=fun r s'=>r=w/\EP X pins σ Q r s') pl (by omega) (by omega) (by rw[List.size_toArray,<-hl];exact h1) (by simpa using ew) ⟨rfl,fin⟩) hs
theorem Jq:qc X yy:=by
 intro value slice pins s σ H x y v u Q I rx ry h hs
 obtain⟨z,i,c,rfl,rfl,hz,he,q⟩:=h
 obtain⟨t,rfl⟩:=rx
 obtain⟨t',rfl⟩:=ry
 obtain⟨j,h1,h2,h3,h4,h5⟩:=yu he
 have hl:z.cps.toList.length=z.length:=by simp[Str.length]
 rw[hl] at h1 h4 h5
 have hn:=p_
 exact tail_any (typeIs_str s z t) slot_str_getitem.lookup (getItem_str (c:=c) (by
  have e1:decide (i < -(2 ^ 63:Int))=false:=decide_eq_false (by omega)
  have e2:decide (i ≥ 2 ^ 63)=false:=decide_eq_false (by omega)
  rw[e1,e2,Bool.or_false]) (by rw[h1];simpa using h2) ⟨.str ⟨#[c]⟩,H,I.tok _,⟨_,rfl⟩,q⟩) hs
theorem Jr (ag:List Value) (n j:Nat) (u:Value):Obj.mapSeq (·.setIfInBounds j u) { cls := .type "list",data := .seq ag.toArray n }={ cls := .type "list",data := .seq (ag.set j u).toArray n }:=by
 simp[Obj.mapSeq]
theorem Inv.lst {pins:List (Addr × Obj)} {σ : St} {H:Hp} {s:Shared} {p:Addr} {xs:List V} (I:Inv X pins σ H s) (h:H p=some (.lst xs)) :
  ∃ (ag:List Value) (n:Nat),Vals xs ag/\s.heap.get? p=some { cls := .type "list",data := .seq ag.toArray n }/\xs.length <= sizeLine:=by
 obtain⟨z,ag,n,r,e⟩:=I.aJ p _ h
 exact⟨ag,n,r,e,z⟩
theorem Inv.oq {pins:List (Addr × Obj)} {σ : St} {H:Hp} {s:Shared} {p:Addr} {xs ys:List V} {ag its':List Value} {n n':Nat} {f:Obj->Obj} (I:Inv X pins σ H s) (h:H p=some (.lst xs))
  (ho:s.heap.get? p=some { cls := .type "list",data := .seq ag.toArray n }) (hf:f { cls := .type "list",data := .seq ag.toArray n }={ cls := .type "list",data := .seq its'.toArray n' }) (r:Vals ys its') (hz:ys.length <= sizeLine) (t:Nat) :
  Inv X pins σ (upd H p (.lst ys)) { s with heap:=s.heap.update p f,toks:=t }:=by
 have e:(s.heap.update p f).get? p=some { cls := .type "list",data := .seq its'.toArray n' }:=by
  rw[Heap.get?_update_self f ho (by rw[hf]<;>rfl),hf]
 refine I.write (x:=p) (e:=p) (by rw[h];trivial) (.inl rfl) (fun b u hb q=>(Heap.get?_update_other _ _ (Ne.symm hb)).trans q) ⟨_,e⟩ ?_
 exact⟨hz,its',n',r,e⟩
noncomputable def Cy:V->V->V->Hp->(Hp->Prop)->Prop:=fun o i v H Q=>∃ p xs k j,o = .ref p/\i = .int k/\H p=some (.lst xs)/\iy xs.length k=some j/\Q (upd H p (.lst (xs.set j v)))
theorem set_list:n5 X Cy:=by
 intro pins s σ H o i v ov iv u Q I ro ri rv h
 obtain⟨p,xs,k,j,rfl,rfl,hp,hj,q⟩:=h
 cases ro
 obtain⟨t,rfl⟩:=ri
 obtain⟨ag,n,r,ho,hz⟩:=I.lst hp
 obtain⟨h1,h2,h3,h4⟩:=Cw hj
 have hl:=r.length
 have hn:=p_
 have I':Inv X pins σ (upd H p (.lst (xs.set j v))) { s with heap:=s.heap.update p (Obj.mapSeq (·.setIfInBounds j u)) } :=
  I.oq hp ho (Jr ag n j u) (r.set rv j) (by rw[List.length_set];exact hz) s.toks
 by_cases h0:0 <= k
 ·have hk:k.toNat=j:=by
   rw[seqIndex_of h0 h4] at h1
   exact Option.some.inj h1
  exact PySem.W.ki_setAt ho h0 (by omega) (by rw[List.size_toArray,<-hl];exact h4) (by rw[hk];exact⟨_,I',q⟩)
 ·have hk:(k + (ag.toArray.size:Int)).toNat=j:=by
   rw[seqIndex_neg (by omega) h3] at h1
   rw[List.size_toArray,<-hl]
   exact Option.some.inj h1
  exact PySem.W.ki_setBack ho (by omega) (by rw[List.size_toArray,<-hl];exact h3) (by omega) (by rw[hk];exact⟨_,I',q⟩)
theorem Js (lo hi:Option Int) (n:Nat):(sliceBounds lo hi none n).1=((HT.aU n 0 lo:Nat):Int)/\(sliceBounds lo hi none n).2.1=((HT.aU n n hi:Nat):Int)/\(sliceBounds lo hi none n).2.2=1:=by
 refine⟨?_,?_,rfl⟩
 ·cases lo with
  | none=>simp[sliceBounds,HT.aU]
  | some i =>
   simp only[sliceBounds,HT.aU,Option.getD_none,show (1:Int) > 0 by decide,if_true]
   by_cases h:i < 0
   ·simp only[h,if_true]<;>omega
   ·simp only[h,if_false]<;>omega
 ·cases hi with
  | none=>simp[sliceBounds,HT.aU]
  | some i =>
   simp only[sliceBounds,HT.aU,Option.getD_none,show (1:Int) > 0 by decide,if_true]
   by_cases h:i < 0
   ·simp only[h,if_true]<;>omega
   ·simp only[h,if_false]<;>omega
theorem Jt (ag:List Value) (lo hi:Option Int):slicePick ag.toArray lo hi none=((ag.drop (HT.aU ag.length 0 lo)).take (HT.aU ag.length ag.length hi - HT.aU ag.length 0 lo)).toArray:=by
 obtain⟨h1,h2,h3⟩:=Js lo hi ag.toArray.size
 unfold slicePick
 rw[h1,h2,h3]
 simp only[sliceRange_one,pick_run,List.size_toArray]<;>rfl
noncomputable def yA (K:PySem.W.Frag):V->Option Int->Option Int->Hp->VK->Prop:=fun x lo hi H Q=>∃ a xs,x = .ref a/\aP K H a xs/\∀ p,H p=none->Q (.ref p) (upd H p (.lst (cG xs lo hi)))
theorem gv:lE X (yA X.K):=by
 intro pins s σ H x v vl vu lo hi sl Q I rx hs pl pu h
 obtain⟨a,xs,rfl,hx,q⟩:=h
 cases rx
 obtain⟨ag,r,ht,hz⟩:=I.list hx
 have hlen:=r.length
 refine⟨"list",_,slot_list_getitem.lookup,ht.isList.typeIs,?_⟩
 refine wpAny_getItem_list_slice ht.isList hs pl pu .none (by simp) ?_ (by rw[List.size_toArray]<;>omega)
 rw[Jt,<-hlen]
 refine⟨.ref s.heap.objs.size,_,I.laid (t':=s.toks) (o := .lst (cG xs lo hi)) (fun b ob q=>Heap.get?_push_of_some _ q) (Nat.le_refl _) ?_,rfl,q _ (I.aJ.fresh (Nat.le_refl _))⟩
 exact⟨Nat.le_trans (Cv xs lo hi) hz,_,0,(r.drop (HT.aU xs.length 0 lo)).take (HT.aU xs.length xs.length hi - HT.aU xs.length 0 lo),Heap.get?_push_size _ rfl⟩
theorem Cz:fA X (.builtin "len") (fun xs H Q=>∃ p ys,xs=[.ref p]/\(aP X.K H p ys\/bw X.K H p ys)/\Q (.int ys.length) H):=by
 intro pins s σ H xs us Q I r h
 obtain⟨p,ys,rfl,hq,q⟩:=h
 obtain⟨u,rfl,rx⟩:=vals1 r
 cases rx
 have hn:=p_
 rcases hq with hq | hq
 ·obtain⟨ag,r',pl,hz⟩:=I.list hq
  have hlen:=r'.length
  exact Calls.call_len_list pl.isList (by simp only[List.size_toArray]<;>omega) ⟨.int ys.length,H,I.tok _,⟨s.toks + 1,by rw[List.size_toArray,hlen]⟩,q⟩
 ·obtain⟨ag,r',pl,hz⟩:=I.tuple hq
  have hlen:=r'.length
  exact len_tuple pl (by simp only[List.size_toArray]<;>omega) ⟨.int ys.length,H,I.tok _,⟨s.toks + 1,by rw[List.size_toArray,hlen]⟩,q⟩
theorem Ju:fA X (.builtin "len") (fun xs H Q=>∃ z,xs=[.str z]/\z.length <= sizeLine/\Q (.int z.length) H):=by
 intro pins s σ H xs us Q I r h
 obtain⟨z,rfl,hz,q⟩:=h
 obtain⟨u,rfl,t,rfl⟩:=vals1 r
 have hn:=p_
 exact len_str (by omega) ⟨.int z.length,H,I.tok _,⟨_,rfl⟩,q⟩
theorem yB:fA X (.type "list") (fun xs H Q=>∃ p ys,xs=[.ref p]/\(aP X.K H p ys\/bw X.K H p ys)/\∀ l,H l=none->Q (.ref l) (upd H l (.lst ys))):=by
 intro pins s σ H xs us Q I r h
 obtain⟨p,ys,rfl,hq,q⟩:=h
 obtain⟨u,rfl,rx⟩:=vals1 r
 cases rx
 have fin:∀ (ag:List Value),Vals ys ag->ys.length <= sizeLine->∀ (h':Heap) (c':Nat),(∀ b o',s.heap.get? b=some o'->h'.get? b=some o') →
   h'.get? s.heap.objs.size=some { cls := .type "list",dict:=none,data := .seq ag.toArray c',slots := #[] }->EP X pins σ Q (.ref s.heap.objs.size) { s with heap:=h' }:=fun ag r' hz h' c' kp e =>
  ⟨.ref s.heap.objs.size,_,I.laid (t':=s.toks) kp (Nat.le_refl _) (show aI X.prog X.w _ h' _ (.lst ys) from ⟨hz,ag,c',r',e⟩),rfl,q _ (I.aJ.fresh (Nat.le_refl _))⟩
 rcases hq with hq | hq
 ·obtain⟨ag,r',pl,hz⟩:=I.list hq
  have hlen:=r'.length
  obtain⟨o,ho,hc,n,hd⟩:=pl.isList
  exact call_list_seq p (.inl rfl) ho hc hd (fun h' c' kp e=>fin ag r' hz h' c' kp e) (by simp only[List.size_toArray]<;>omega)
 ·obtain⟨ag,r',pl,hz⟩:=I.tuple hq
  have hlen:=r'.length
  obtain⟨o,ho,hc,n,hd⟩:=pl
  exact call_list_seq p (.inr rfl) ho hc hd (fun h' c' kp e=>fin ag r' hz h' c' kp e) (by simp only[List.size_toArray]<;>omega)
theorem CA:fA X (.type "tuple") (fun xs H Q=>∃ p ys,xs=[.ref p]/\((aP X.K H p ys/\∀ l,H l=none->Q (.ref l) (upd H l (.tup ys)))\/(bw X.K H p ys/\Q (.ref p) H))):=by
 intro pins s σ H xs us Q I r h
 obtain⟨p,ys,rfl,h⟩:=h
 obtain⟨u,rfl,rx⟩:=vals1 r
 cases rx
 rcases h with⟨hq,q⟩ | ⟨hq,q⟩
 ·obtain⟨ag,r',pl,hz⟩:=I.list hq
  have hlen:=r'.length
  refine call_tuple_list pl.isList (fun h' kp => ?_) (by simp only[List.size_toArray]<;>omega)
  have I1:Inv X pins σ H { s with heap:=h' }:=I.kept (t':=s.toks) kp
  have I2:Inv X pins σ (upd H h'.objs.size (.tup ys)) { s with heap:=h'.push { cls := .type "tuple",data := .seq ag.toArray } } :=
   I1.laid (t':=s.toks) (fun b o e=>Heap.get?_push_of_some _ e) (Nat.le_refl _) (show aI X.prog X.w _ _ _ (.tup ys) from ⟨hz,ag,r',IsTup.new _ _⟩)
  exact⟨.ref h'.objs.size,_,I2,rfl,q _ (I1.aJ.fresh (Nat.le_refl _))⟩
 ·obtain⟨ag,r',pl,hz⟩:=I.tuple hq
  exact call_tuple_same pl ⟨.ref p,H,I,rfl,q⟩
noncomputable def yC (K:PySem.W.Frag) (T:String) (x:V) (H:Hp):Prop:=match x with
 | .str _=>T = "str"
 | .int _=>T = "int"
 | .ref p=>(T = "list" /\ ∃ xs,aP K H p xs)\/(T = "tuple" /\ ∃ o,K.lookup p=some o/\o.cls = .type "tuple" /\ o.dict=none) ∨
   (T = "dict" /\ ((∃ kvs,H p=some (.dK kvs))\/∃ kvs,H p=some (.dT kvs)))\/(T = "set" /\ ∃ S n,H p=some (.set S n))
 | _=>False
theorem CB {pins:List (Addr × Obj)} {σ : St} {H:Hp} {s:Shared} {T:String} {x:V} {v:Value} (I:Inv X pins σ H s) (r:RelV x v) (ty:yC X.K T x H) :
  s.TypeIs v T/\∀ a,v = .ref a->∃ ob,s.heap.get? a=some ob/\ob.dict=none:=by
 cases x with
 | str z =>
  obtain⟨t,rfl⟩:=r
  cases (show T = "str" from ty)
  exact⟨typeIs_str s z t,fun _ e=>nomatch e⟩
 | int i =>
  obtain⟨t,rfl⟩:=r
  cases (show T = "int" from ty)
  exact⟨typeIs_int s i t,fun _ e=>nomatch e⟩
 | ref p =>
  cases r
  rcases ty with⟨rfl,xs,hq⟩ | ⟨rfl,o,hk,hc,hd⟩ | ⟨rfl,hk⟩ | ⟨rfl,S,n,hk⟩
  ·obtain⟨ag,_,pl,_⟩:=I.list hq
   refine⟨pl.isList.typeIs,fun a e => ?_⟩
   cases e
   obtain⟨o,n,e,c,hd,_⟩:=pl
   exact⟨o,e,hd⟩
  ·refine⟨⟨o,I.gM p o hk,hc⟩,fun a e => ?_⟩
   cases e
   exact⟨o,I.gM _ o hk,hd⟩
  ·have z:∃ o,s.heap.get? p=some o/\o.ExactDict:=by
    rcases hk with⟨kvs,hk⟩ | ⟨kvs,hk⟩
    ·obtain⟨_,_,_,_,o,_,_,e,ex,_⟩:=I.aJ p _ hk
     exact⟨o,e,ex⟩
    ·obtain⟨_,_,_,_,o,_,_,e,ex,_⟩:=I.aJ p _ hk
     exact⟨o,e,ex⟩
   obtain⟨o,e,ex⟩:=z
   refine⟨⟨o,e,ex.1⟩,fun a e2 => ?_⟩
   cases e2
   exact⟨o,e,ex.2.1⟩
  ·obtain⟨o,_,_,_,e,ex,_⟩:=I.aJ p _ hk
   refine⟨⟨o,e,ex.1⟩,fun a e2 => ?_⟩
   cases e2
   exact⟨o,e,ex.2.1⟩
 | _=>exact False.elim ty
noncomputable def ot (K:PySem.W.Frag) (T:String) (r:V->List V->Hp->VK->Prop) (to:TE):TE:=fun σ H Q=>to σ H fun x H1=>yC K T x H1/\r x [] H1 Q
noncomputable def lF (K:PySem.W.Frag) (T:String) (r:V->List V->Hp->VK->Prop) (to:TE) (t:TA):TE:=fun σ H Q=>to σ H fun x H1=>yC K T x H1/\t σ H1 fun xs H2=>r x xs H2 Q
variable {o e:Expr} {es:List Expr} {to:TE} {t:TA} {name:Str} {apos b7:Pos} {T id:String} {r:V->List V->Hp->VK->Prop}
theorem Jv (pa:PlainAttrs T) (slot:Slot T name id) (ou:typeOf (.builtin id)=pure (.type "method_descriptor")) (hm:sy X id r) (ho:PE X o to)
  (eV:attributeBase o name X.env (eval o X.env)=eval o X.env:=by rfl) (eW:(apos.endLine == b7.line)=true:=by rfl):PE X (.Call (.Attribute o name apos) [] [] b7) (ot X.K T r to):=by
 intro pins s σ H Q I h
 refine wpAny_Call_method0_late eV eW (aW (ho pins s σ H _ I h) fun v s1 ⟨x,H1,I1,r1,ty,q1⟩ => ?_)
 obtain⟨h1,h2⟩:=CB I1 r1 ty
 exact⟨T,id,pa,slot,ou,h1,h2,Calls.callWith_builtin rfl (PySem.evalArgs_none (hm pins s1 σ H1 x [] v [] Q I1 r1 .nil q1))⟩
theorem Jw (pa:PlainAttrs T) (slot:Slot T name id) (ou:typeOf (.builtin id)=pure (.type "method_descriptor")) (hm:sy X id r) (ho:PE X o to) (ha:PA X (e :: es) t)
  (eV:attributeBase o name X.env (eval o X.env)=eval o X.env:=by rfl)
  (oy:((backTo b7 (starEach (e :: es) X.env)).all (fun x => !x.1) && (backToKw b7 (keywordEach [] X.env)).all (fun x=>x.1.isSome)
   && decide ((e :: es).length + ([]:List Keyword).length + (if ([]:List Keyword).isEmpty then 0 else 1) < 30))=true:=by rfl)
  (eW:(apos.endLine == b7.line)=true:=by rfl) (hs:starEach (e :: es) X.env=(false,eval e X.env) :: starEach es X.env:=by rfl) (hX:(backTo b7 (starEach es X.env)).any (·.1)=false:=by rfl) :
  PE X (.Call (.Attribute o name apos) (e :: es) [] b7) (lF X.K T r to t):=by
 intro pins s σ H Q I h
 refine wpAny_Call_method_late eV oy eW rfl (aW (ho pins s σ H _ I h) fun v s1 ⟨x,H1,I1,r1,ty,q1⟩ => ?_)
 obtain⟨h1,h2⟩:=CB I1 r1 ty
 refine⟨T,id,pa,slot,ou,h1,h2,?_⟩
 have hA:=ha b7 pins s1 σ H1 _ I1 q1
 rw[hs] at hA ⊢
 refine Calls.callWith_builtin (by show (false || (backTo b7 (starEach es X.env)).any (·.1))=false;rw[hX]<;>rfl) (Calls.evalArgs_plain ?_)
 exact aW hA fun us s2 h0_ => el5 h0_ fun vs H2 I2 r2 q2 =>hm pins s2 σ H2 x vs v us Q I2 r1 r2 q2
end
noncomputable def sE (X:Cx) (id:String) (r:V->List V->Hp->VK->Prop):Prop :=
 ∀ (pins:List (Addr × Obj)) (s:Shared) (σ : St) (H:Hp) (x:V) (xs:List V) (v:Value) (us:List Value) (Q:VK),Inv X pins σ H s->RelV x v->Vals xs us->r x xs H Q →
  wpAny (model X.prog X.w) X.A (call (.builtin id) (v :: us)) (EP X pins σ Q) X.xe s
theorem Vals.one:∀ {x:V} {us:List Value},Vals [x] us->∃ u,us=[u]/\RelV x u
 | _,_,.cons r .nil=>⟨_,rfl,r⟩
theorem Vals.two:∀ {x y:V} {us:List Value},Vals [x,y] us->∃ u v,us=[u,v]/\RelV x u/\RelV y v
 | _,_,_,.cons r (.cons q .nil)=>⟨_,_,rfl,r,q⟩
theorem Vals.eraseIdx:∀ {xs:List V} {us:List Value} (i:Nat),Vals xs us->Vals (xs.eraseIdx i) (us.eraseIdx i)
 | _,_,_,.nil => .nil
 | _,_,0,.cons _ t=>t
 | _,_,i + 1,.cons r t => .cons r (Vals.eraseIdx i t)
theorem Vals.rep {xs:List V} {us:List Value} (h:Vals xs us):∀ k:Nat,Vals (List.replicate k xs).flatten (List.replicate k us).flatten
 | 0 => .nil
 | k + 1=>by
  rw[List.replicate_succ,List.replicate_succ,List.flatten_cons,List.flatten_cons]
  exact Vals.append h (Vals.rep h k)
theorem CC {α : Type}:∀ (l:List α) (i:Nat),(l.eraseIdx i).length <= l.length
 | [],_=>Nat.le_refl _
 | _ :: _,0=>Nat.le_succ _
 | _ :: r,i + 1=>Nat.succ_le_succ (CC r i)
theorem foldl_rep (ag:List Value):∀ (k:Nat) (acc:List Value),
  List.foldl (fun x1 x2=>x1 ++ x2) acc.toArray (List.replicate k ag.toArray)=(acc ++ (List.replicate k ag).flatten).toArray
 | 0,acc=>by simp
 | k + 1,acc=>by
  have e:acc.toArray ++ ag.toArray=(acc ++ ag).toArray:=by simp
  have e2:(acc ++ ag) ++ (List.replicate k ag).flatten=acc ++ (List.replicate (k + 1) ag).flatten:=by
   rw[List.replicate_succ,List.flatten_cons,List.append_assoc]
  rw[<-e2,<-foldl_rep ag k (acc ++ ag),<-e,List.replicate_succ,List.foldl_cons]
section
variable {X:Cx} {pins:List (Addr × Obj)} {σ : St} {H:Hp} {s:Shared} {l b:Addr} {xs ys zs:List V}
theorem Inv.oz {ag its':List Value} {n:Nat} {f:Array Value->Array Value} {t':Nat} (I:Inv X pins σ H s) (hH:H l=some (.lst xs))
  (e:s.heap.get? l=some { cls := .type "list",data := .seq ag.toArray n }) (hf:f ag.toArray=its'.toArray) (hv:Vals ys its') (hz:ys.length <= sizeLine) :
  Inv X pins σ (upd H l (.lst ys)) { s with heap:=s.heap.update l (Obj.mapSeq f),toks:=t' }:=by
 have q:=PySem.IsL.update e f
 rw[hf] at q
 refine I.write (x:=l) (e:=l) (by rw[hH];exact trivial) (.inl rfl) (fun b' u hb hu=>(Heap.get?_update_other s.heap (Obj.mapSeq f) (Ne.symm hb)).trans hu) ⟨_,q⟩ ?_
 exact⟨hz,its',_,hv,q⟩
theorem Inv.b8 {ag:List Value} {t':Nat} (I:Inv X pins σ H s) (hv:Vals ys ag) (hz:ys.length <= sizeLine) :
  Inv X pins σ (upd H s.heap.objs.size (.lst ys)) { s with heap:=s.heap.push { cls := .type "list",data := .seq ag.toArray },toks:=t' } :=
 I.laid (fun _ _ q=>Heap.get?_push_of_some _ q) (Nat.le_refl _) ⟨hz,ag,0,hv,Heap.get?_push_size _ rfl⟩
theorem Inv.fresh (I:Inv X pins σ H s):H s.heap.objs.size=none:=I.aJ.fresh (Nat.le_refl _)
theorem Inv.hZ (I:Inv X pins σ H s) (hH:H l=some (.lst xs)):xs.length <= sizeLine/\∃ (ag:List Value) (n:Nat),Vals xs ag/\xs.length=ag.length/\s.heap.get? l=some { cls := .type "list",data := .seq ag.toArray n }:=by
 obtain⟨z,ag,n,r,e⟩:=I.aJ l _ hH
 exact⟨z,ag,n,r,r.length,e⟩
theorem CD {n:Nat} (h:n <= sizeLine):Builtin.List.listTooLong n=false:=by
 unfold Builtin.List.listTooLong
 exact decide_eq_false (by omega)
end
section
variable {X:Cx}
noncomputable def sF:V->List V->Hp->VK->Prop:=fun x vs H Q=>∃ l xs y,x = .ref l/\vs=[y]/\H l=some (.lst xs)/\xs.length < sizeLine/\Q .non (upd H l (.lst (xs ++ [y])))
theorem qd:sE X "list.append" sF:=by
 intro pins s σ H x vs v us Q I rx rv h
 obtain⟨l,xs,y,rfl,rfl,hH,hz,q⟩:=h
 cases rx
 obtain⟨u,rfl,ru⟩:=rv.one
 obtain⟨z,ag,n,r,hl,e⟩:=I.hZ hH
 refine call_meets F.slot_list_append ⟨_,e,rfl⟩ F.entry_list_append (F.args_list_append_2 _ _) (PySem.list_append l ag.toArray n u (by rw[List.size_toArray];omega)) ⟨e,?_⟩
 refine⟨.non,_,I.oz (its':=ag ++ [u]) hH e (by simp) (r.append (.cons ru .nil)) ?_,rfl,q⟩
 rw[List.length_append,List.length_singleton]
 omega
noncomputable def CF:V->List V->Hp->VK->Prop:=fun x vs H Q=>∃ l b xs zs,x = .ref l/\vs=[.ref b]/\H l=some (.lst xs)/\H b=some (.lst zs)/\xs.length + zs.length <= sizeLine/\Q .non (upd H l (.lst (xs ++ zs)))
theorem Jx:sE X "list.extend" CF:=by
 intro pins s σ H x vs v us Q I rx rv h
 obtain⟨l,b,xs,zs,rfl,rfl,hH,hB,hz,q⟩:=h
 cases rx
 obtain⟨u,rfl,ru⟩:=rv.one
 cases ru
 obtain⟨z,ag,n,r,hl,e⟩:=I.hZ hH
 obtain⟨z2,aY,n2,r2,qe,e2⟩:=I.hZ hB
 have hsz:ag.toArray.size + aY.toArray.size <= sizeLine:=by rw[List.size_toArray,List.size_toArray];omega
 have jQ:¬ (!ag.toArray.isEmpty && Builtin.List.listTooLong (ag.toArray.size + aY.toArray.size))=true:=by
  rw[CD hsz,Bool.and_false]
  exact Bool.false_ne_true
 refine call_meets F.slot_list_extend ⟨_,e,rfl⟩ F.entry_list_extend (F.args_list_extend_2 _ _)
  (AutoSeq1.list_extend_list_list_0 l ag.toArray n b aY.toArray n2 jQ (by rw[List.size_toArray];omega) (by omega)) ⟨e,e2,?_⟩
 refine⟨.non,_,I.oz (its':=ag ++ aY) hH e (by simp) (r.append r2) ?_,rfl,q⟩
 rw[List.length_append]
 omega
noncomputable def CG:V->List V->Hp->VK->Prop:=fun x vs H Q=>∃ l xs i k y,x = .ref l/\vs=[.int i]/\H l=some (.lst xs) /\ -(2 ^ 63) <= i/\i < 2 ^ 63/\seqIndex? i xs.length=some k/\xs[k]? = some y/\Q y (upd H l (.lst (xs.eraseIdx k)))
theorem CH:sE X "list.pop" CG:=by
 intro pins s σ H x vs v us Q I rx rv h
 obtain⟨l,xs,i,k,y,rfl,rfl,hH,h1,h2,hk,hy,q⟩:=h
 cases rx
 obtain⟨u,rfl,ru⟩:=rv.one
 obtain⟨t,rfl⟩:=ru
 obtain⟨z,ag,n,r,hl,e⟩:=I.hZ hH
 obtain⟨w,hw,sC⟩:=r.get hy
 refine call_meets F.slot_list_pop ⟨_,e,rfl⟩ F.entry_list_pop (F.args_list_pop_2 _ _)
  (MeetsSeq.list_pop_at l ag.toArray n i t k w (fitsIndex_both h1 h2) (by rw[List.size_toArray,<-hl];exact hk) (by rw[<-Array.getElem?_toList];exact hw) (by rw[List.size_toArray];omega)) ⟨e,?_⟩
 refine⟨y,_,I.oz (its':=ag.eraseIdx k) hH e ?_ (r.eraseIdx k) ?_,sC,q⟩
 ·show ag.toArray.eraseIdxIfInBounds k=(ag.eraseIdx k).toArray
  rw[List.eraseIdxIfInBounds_toArray]
 ·have:=CC xs k
  omega
noncomputable def yD:R2:=fun x y H Q=>∃ l b xs zs,x = .ref l/\y = .ref b/\H l=some (.lst xs)/\H b=some (.lst zs)/\xs.length + zs.length <= sizeLine/\∀ p,H p=none->Q (.ref p) (upd H p (.lst (xs ++ zs)))
theorem CI:cC X (binaryOp .Add) yD:=by
 intro pins s σ H x y v u Q I rx ry h
 obtain⟨l,b,xs,zs,rfl,rfl,hH,hB,hz,q⟩:=h
 cases rx
 cases ry
 obtain⟨z,ag,n,r,hl,e⟩:=I.hZ hH
 obtain⟨z2,aY,n2,r2,qe,e2⟩:=I.hZ hB
 refine PySem.P.add_list e e2 ?_ (by rw[List.size_toArray,List.size_toArray];omega)
 have ea:ag.toArray ++ aY.toArray=(ag ++ aY).toArray:=by simp
 rw[ea]
 exact⟨.ref _,_,I.b8 (t':=s.toks) (r.append r2) (by rw[List.length_append];omega),rfl,q _ I.fresh⟩
noncomputable def yE:R2:=fun x y H Q=>∃ l k xs,x = .ref l/\y = .int k/\H l=some (.lst xs) /\ -(2 ^ 63) <= k/\k < 2 ^ 63/\xs.length * k.toNat <= sizeLine ∧
 ∀ p,H p=none->Q (.ref p) (upd H p (.lst (List.replicate k.toNat xs).flatten))
theorem len_rep {α : Type} (xs:List α) (k:Nat):(List.replicate k xs).flatten.length=k * xs.length:=by
 induction k with
 | zero=>simp
 | succ k ih=>rw[List.replicate_succ,List.flatten_cons,List.length_append,ih,Nat.succ_mul,Nat.add_comm]
theorem Jy:cC X (binaryOp .Mult) yE:=by
 intro pins s σ H x y v u Q I rx ry h
 obtain⟨l,k,xs,rfl,rfl,hH,h1,h2,hz,q⟩:=h
 cases rx
 obtain⟨t,rfl⟩:=ry
 obtain⟨z,ag,n,r,hl,e⟩:=I.hZ hH
 have hlen:ag.toArray.size * k.toNat <= sizeLine:=by rw[List.size_toArray,<-hl];exact hz
 have yF:¬ ag.toArray.size * k.toNat > (2 ^ 63 - 1) / 8:=by
  have:(sizeLine:Nat) <= (2 ^ 63 - 1) / 8:=by decide
  omega
 have yG:¬ (!Builtin.List.listFitsIndex k)=true:=by
  rw[fitsIndex_both h1 h2]
  exact Bool.false_ne_true
 have jQ:¬ Builtin.List.listTooLong (ag.toArray.size * k.toNat)=true:=by
  rw[CD hlen]
  exact Bool.false_ne_true
 have yH:List.foldl (fun x1 x2=>x1 ++ x2) #[] (List.replicate (if ag.toArray.isEmpty=true then 0 else k.toNat) ag.toArray)=(List.replicate k.toNat ag).flatten.toArray:=by
  have f0:∀ m:Nat,List.foldl (fun x1 x2=>x1 ++ x2) #[] (List.replicate m ag.toArray)=(List.replicate m ag).flatten.toArray:=fun m=>by
   have:=foldl_rep ag m []
   rw[List.nil_append] at this
   exact this
  rw[f0]
  cases ag with
  | nil=>simp
  | cons a r'=>rw[if_neg (by simp)]
 refine wpAny_binaryOp_repeat_ref (T := "list") (U := "int") (by decide) ⟨_,e,rfl⟩ (fun s'=>typeIs_int s' k t) noFill_list_mul F.fills_int_mul F.slot_int_rmul repeat_list F.slot_int_index.lookup
  (call_meets F.slot_int_rmul (typeIs_int s k t) F.entry_int_rmul (F.args_int_rmul_2 _ _) (int___rmul___int_list k t l ag.toArray n)
   ⟨e,rfl,⟨_,e,rfl⟩,call_meets F.slot_list_mul ⟨_,e,rfl⟩ F.entry_list_mul (F.args_list_mul_2 _ _) (AutoListH.list___mul___list_int_3 l ag.toArray n k t yG yF jQ) ⟨e,?_⟩⟩)
 rw[yH]
 exact⟨.ref _,_,I.b8 (t':=s.toks) (r.rep k.toNat) (by rw[len_rep,Nat.mul_comm];exact hz),rfl,q _ I.fresh⟩
end
section
variable {prog:Program} {w:World} {A:Around} {E:Value->Shared->Prop} {s:Shared}
end
section
variable {X:Cx}
end
end L2
namespace Att
open PySem PySem.W PySem.Calls PyProof.Rows
theorem eF {P:Params} {h:Heap}:∀ (ns:List Int) (vs:List Value),WellAll P h vs (ns.map WData.int)->IntsAre vs ns:=by
 intro ns
 induction ns with
 | nil =>
  intro vs w
  rw[List.map_nil] at w
  cases w
  exact .nil
 | cons n ns ih =>
  intro vs w
  rw[List.map_cons] at w
  cases w with
  | cons a b =>
   cases a
   exact .cons _ _ (ih _ b)
theorem iS {l:OpenLaw} {n:Nat} (hn:l.most=some n) {P:Params} {h:Heap} {args:List WData} {vals:List Value}
  (lG:l.row.toRowW.claim.pre args=true) (yI:WellAll P h vals args) :
  ∃ a vs ns,vals=[Value.ref a]/\args=[WData.list (ns.map WData.int)]/\h.get? a=some { cls := .type "list",data := .seq vs.toArray }/\IntsAre vs ns/\ns.length <= n:=by
 have Jz:WShape.hasAll [] args [.list .int]=true:=(pre_splitW lG).1
 have hc:l.pre.holds [] { args:=args }=true:=(pre_splitW lG).2
 obtain⟨d,r,rfl,h1,h2⟩:=hasAllW_cons Jz
 obtain rfl:=hasAllW_nil h2
 obtain⟨xs,rfl,h3⟩:=hasW_list h1
 obtain⟨ns,rfl⟩:=items_int h3
 have hlen:ns.length <= n:=by
  unfold OpenLaw.pre at hc
  have h4:(WTm.not (.lt (.lit (.int (n:Int))) (.len (.arg 0)))).holds [] { args:=[.list (ns.map .int)] }=true:=by
   have h4:=(holds_andW hc).1
   rw[hn] at h4
   exact h4
  have h5:=condW_of h4 (w_not (w_lt w_lit (w_len_list (w_arg rfl))))
  rw[List.length_map] at h5
  refine Nat.le_of_not_lt fun q => ?_
  have q':(n:Int) < ((ns.length:Nat):Int):=by omega
  first
   | (rw[decide_eq_true q'] at h5;exact absurd h5 (by decide))
   | (simp at h5;omega)
 cases yI with
 | cons w1 w2 =>
  cases w2
  cases w1 with
  | list ho fL=>exact⟨_,_,ns,rfl,rfl,ho,eF ns _ fL,hlen⟩
theorem iT (l:OpenLaw) (args:List WData):l.row.toRowW.claim.post args (.bool true) args=true :=
 postW_of (r:=l.row.toRowW) (X:=(true == true))
  (show WShape.has [] (.bool true) .bool=true by first | rfl | decide | simp[WShape.has,WShape.arms,WShape.armsAll])
  (show (WTm.eq .res (.lit (.bool true))).value [] { args:=args,res:=some (.bool true),after:=args }=some (.bool (true == true)) from w_eq_bool (w_res rfl) w_lit) rfl
theorem gQ {l:OpenLaw} {n:Nat} {q:Program} {loose:List Str} {XP:(Str->Option Value)->Heap->Prop} {YP:World->Heap->Prop} {d:DefRec}
  (hn:l.most=some n) (sG:d.params.defaults=[])
  (call:∀ (w:World) (s₀ s₁ : Shared) (mg mb:Str->Option Value) (fa:Addr) (o:Obj) (pm cd doc:Value) (a:Addr) (vs:List Value) (ns:List Int),
   Ground q loose [] XP w s₀ mg mb s₁.heap->YP w s₁.heap →
   s₁.heap.get? fa=some o->o.data = .func (docDef d.name d.params d.body d.scope pm cd doc)->s₁.heap.CodeRec cd d.name->mg d.name=some (.ref fa) →
   s₁.heap.get? a=some { cls := .type "list",data := .seq vs.toArray }->IntsAre vs ns->ns.length <= n->s₁.gens = #[] →
   codeAny (model l.prog w) callerA (.call (.ref fa) ⟨[.ref a],[]⟩) (fun r s'=>r = .ok (.ret (.bool true))/\OldK s₁.heap s'.heap/\s'.os=s₁.os/\AllBare s'.gens) s₁) :
  WalkO q loose XP YP l.row.toRowW d [] (fun f vs=>PySem.call f vs):=by
 intro w s₀ s₁ mg mb G Y fa o pm cd doc dV kV ho hd gO hD oA hg args vals as lG JB Vb yI Vc
 obtain rfl:dV = .none:=Dflts.none hD sG
 obtain rfl:kV = .none:=Dflts.noKw hD
 obtain⟨a,vs,ns,rfl,rfl,oB,hints,hlen⟩:=iS hn lG yI
 refine enter_call (codeAny_mono (call w s₀ s₁ mg mb fa o pm cd doc a vs ns G Y ho (fd_plain hd) gO oA oB hints hlen hg) fun r s' hq => ?_)
 obtain⟨rfl,h2,h3,h4⟩:=hq
 exact⟨.inl ⟨.bool true,.bool true,[],rfl,fun _=>rfl,.bool true,iT l _,fun _=>⟨List.Pairwise.nil,fun _ hm=>(nomatch hm)⟩⟩,h2,h3,h4⟩
section
variable {prog:Program} {w:World} {A:Around} {E:Value->Shared->Prop} {s:Shared} {K:Frag}
end
end Att
namespace L2
open PySem PySem.Spec PyProof.Rows
theorem CJ:∀ {vs:List Value} {ns:List Int},IntsAre vs ns->Vals (ns.map V.int) vs
 | _,_,.nil => .nil
 | _,_,.cons n t h => .cons ⟨t,rfl⟩ (CJ h)
noncomputable def oC (H:Hp):Prop:=∀ b,H b=none\/∃ o xs,H b=some (.frz o (.lst xs))
theorem JD {P:Program} {w:World} {K:PySem.W.Frag} {mg mb:Str->Option Value} {CX:iQ} {k:Nat} {fa a:Addr} {fd:FuncData} {x:Str} {sp:Sp} {s₁ : Shared} {vs:List Value} {ns:List Int}
  (KX:K.In s₁.heap) (CK:s₁.heap.Ns mainGlobals mg) (hb:s₁.heap.Ns builtinsNs mb) (JH:∀ x:Str,x ≠ "__name__" -> mb x=bootBuiltins x) (yJ:s₁.heap.NoLimit) (hg:s₁.gens = #[])
  (ha:s₁.heap.get? a=some { cls := .type "list",data := .seq vs.toArray }) (hi:IntsAre vs ns) (hl:ns.length <= sizeLine) (hr:bG k callerA)
  (F:∀ base:Heap,K.In base->base.Ns mainGlobals mg->aT P w K mg base CX k fa fd [x] sp) (sH:∀ (s:Shared) (u:Value),BindsTo s fd ⟨[u],[]⟩ [(x,u)])
  (mS:∀ H:Hp,oC H->aP K H a (ns.map V.int)->sp [.ref a] H (fun v _=>v = .bl true) fun _ _ _=>False)
  (yK:∀ H e s',CX [] H s₁ (fun _ _ _=>False) e s'->False) :
  codeAny (model P w) callerA (.call (.ref fa) ⟨[.ref a],[]⟩) (fun r s'=>r = .ok (.ret (.bool true))/\OldK s₁.heap s'.heap/\s'.os=s₁.os/\AllBare s'.gens) s₁ := by
 have rv:=CJ hi
 have yL:=hi.length
 have core:∀ H:Hp,oC H->aP K H a (ns.map V.int)->dh P w H s₁.heap->(∀ b,H b≠none->b=a)->(H a≠none->K.lookup a=none) →
   codeAny (model P w) callerA (.call (.ref fa) ⟨[.ref a],[]⟩) (fun r s'=>r = .ok (.ret (.bool true))/\OldK s₁.heap s'.heap/\s'.os=s₁.os/\AllBare s'.gens) s₁ := by
  intro H hO hS aJ hA hK
  have iz:∀ {b:Addr} {o:Obj},s₁.heap.get? b=some o->H b=none->(gp s₁.heap H).get? b=some o:=fun e n=>Hn e n
  have sj:∀ {b:Addr} {o:Obj} {es:Array DictEntry} {ep:Nat},s₁.heap.get? b=some o->o.data = .dict es ep->H b=none:=fun {b o es ep} e d=>by
   cases q:H b with
   | none=>rfl
   | some u =>
    have e':b=a:=hA b (by rw[q];simp)
    subst e'
    rw[ha] at e;cases e
    have d':Data.seq vs.toArray _=Data.dict es ep:=d
    cases d'
  have vc:∀ {b:Addr} {m:Str->Option Value},s₁.heap.Ns b m->(gp s₁.heap H).Ns b m:=fun {b m} ⟨o,es,ep,e,d,r⟩=>⟨o,es,ep,iz e (sj e d),d,r⟩
  have CL:K.In (gp s₁.heap H):=fun b o e=>iz (KX b o e) (by
   cases q:H b with
   | none=>rfl
   | some u =>
    have e':b=a:=hA b (by rw[q];simp)
    subst e'
    rw[hK (by rw[q];simp)] at e;cases e)
  have hM:Mod K mg (gp s₁.heap H):=⟨CL,vc CK,⟨mb,vc hb,JH⟩,let ⟨mc,h1,h2⟩:=yJ; ⟨mc,vc h1,h2⟩⟩
  have e0:lC P w K mg (gp s₁.heap H) callerA [] s₁ H:=⟨rfl,hM,fun b o e=>Ho e,Nat.le_of_eq (Hm _ _),trivial,fun b hb=>absurd (show b∈([]:List Addr) from hb) (by simp),aJ,.of_eq hg⟩
  refine codeAny_mono ((F _ CL (vc CK)).run callerA [] s₁ H ⟨[.ref a],[]⟩ [.ref a] [.ref a] _ _ hr e0 (sH s₁ (.ref a)) (.cons rfl .nil) (mS H hO hS)) fun r s' h => ?_
  cases r with
  | error e=>exact (yK H e s' h).elim
  | ok fl =>
   cases fl with
   | next=>exact False.elim h
   | brk=>exact False.elim h
   | cont=>exact False.elim h
   | ret u =>
    obtain⟨v,H',os,bare,un,yM,r',q⟩:=h
    have q':v = .bl true:=q
    subst q'
    obtain rfl:u=Value.bool true:=r'
    refine⟨rfl,OldK.of_keep fun b o e => ?_,os,bare⟩
    cases q:H b with
    | none=>exact un.keep b o e q (by intro z;exact absurd (show b∈([]:List Addr) from z) (by simp)) (by simp)
    | some u =>
     rcases hO b with z | ⟨ob,xs,z⟩
     ·rw[q] at z;cases z
     ·have z2:=un.gn b ob _ z
      obtain⟨e1,_⟩:=aJ b _ z
      obtain⟨e2,_⟩:=yM b _ z2
      rw[e] at e1;cases e1
      exact e2
 cases hk:K.lookup a with
 | some o =>
  have e:=KX a o hk
  rw[ha] at e
  cases e
  refine core (fun _=>none) (fun _ => .inl rfl) (.inr ⟨_,vs.toArray,_,hk,rfl,rfl,rfl,by rw[List.size_toArray,yL];exact hl,by simpa using rv⟩) (fun b u z=>by have z':(none:Option HO)=some u:=z;cases z') (fun b z=>absurd rfl z) fun z=>absurd rfl z
 | none =>
  refine core (fun b=>if b=a then some (.frz { cls := .type "list",data := .seq vs.toArray } (.lst (ns.map V.int))) else none) (fun b => ?_) (.inl (.inr ⟨{ cls := .type "list",data := .seq vs.toArray },if_pos rfl⟩)) (fun b u z => ?_) (fun b z => ?_) fun _=>hk
  ·by_cases hb:b=a
   ·exact .inr ⟨_,_,if_pos hb⟩
   ·exact .inl (if_neg hb)
  ·by_cases hb:b=a
   ·have z':=(if_pos hb).symm.trans z
    cases z'
    subst hb
    exact⟨ha,by rw[List.length_map];exact hl,vs,_,rv,ha⟩
   ·have z':=(if_neg hb).symm.trans z
    cases z'
  ·by_cases hb:b=a
   ·exact hb
   ·exact absurd (if_neg hb) z
theorem CM {l:PySem.W.OpenLaw} {n k:Nat} {q:Program} {loose:List Str} {XP:(Str->Option Value)->Heap->Prop} {YP:World->Heap->Prop} {d:DefRec} {K:Params->PySem.W.Frag} {CX:World->iQ} {sp:World->Sp} {x:Str}
  (hn:l.most=some n) (JJ:n <= sizeLine) (sG:d.params.defaults=[]) (hr:bG k callerA)
  (hY:∀ (w:World) (h:Heap),YP w h->(K w.params).In h)
  (F:∀ (w:World) (mg:Str->Option Value) (fa:Addr) (h:Heap),(K w.params).In h->h.Ns mainGlobals mg->mg d.name=some (.ref fa) →
   ∃ fd:FuncData,(∀ (s:Shared) (u:Value),BindsTo s fd ⟨[u],[]⟩ [(x,u)]) ∧
    ∀ base:Heap,(K w.params).In base->base.Ns mainGlobals mg->aT l.prog w (K w.params) mg base (CX w) k fa fd [x] (sp w))
  (mS:∀ (w:World) (H:Hp) (a:Addr) (ns:List Int),ns.length <= n->oC H->aP (K w.params) H a (ns.map V.int)->sp w [.ref a] H (fun v _=>v = .bl true) fun _ _ _=>False)
  (yK:∀ (w:World) (H:Hp) (s:Shared) (e:Value) (s':Shared),CX w [] H s (fun _ _ _=>False) e s'->False) :
  PySem.W.WalkO q loose XP YP l.row.toRowW d [] (fun f vs=>PySem.call f vs):=by
 refine Att.gQ hn sG fun w s₀ s₁ mg mb fa o pm cd doc a vs ns G Y ho hd gO oA oB hints hlen hg => ?_
 have KX:=hY w _ Y
 obtain⟨fd,hb,hF⟩:=F w mg fa _ KX G.T.g oA
 exact JD KX G.T.g G.T.b G.T.builtins G.T.nolimit hg oB hints (Nat.le_trans hlen JJ) hr hF hb (fun H hO hS=>mS w H a ns hlen hO hS) fun H e s'=>yK w H s₁ e s'
noncomputable def dj (s:Stmt):Arguments:=match s with
 | .FunctionDef _ a _ _ _ _ _ _ _ _=>a
 | _=>{ posonlyargs:=[],args:=[],vararg:=none,kwonlyargs:=[],kw_defaults:=[],kwarg:=none,defaults:=[] }
noncomputable def cU (s:Stmt):List Stmt:=match s with
 | .FunctionDef _ _ b _ _ _ _ _ _ _=>b
 | _=>[]
noncomputable def a7 (s:Stmt):Scope:=match s with
 | .FunctionDef _ _ _ _ _ _ sc _ _ _=>sc
 | _=>{ kind := .function,names:=[],isGenerator:=false,isCoroutine:=false }
noncomputable abbrev bV:iQ:=fun _ _ _ _ _ _=>False
noncomputable abbrev E0:XK:=fun _ _ _=>False
theorem sI {X:Cx}:u_ bV X E0:=fun _ _ _ _ _ _ _ h=>h.elim
structure cH (K:PySem.W.Frag) (x qual:Str) (st:Stmt) (f:Addr) (fd:FuncData):Prop where
 ex:∃ (oc:Value) (od:Option Addr) (kV doc pm:Value) (an:Option Addr) (bc ct:Value) (mR:Array (Option Value)),
  fd=PySem.W.fnOf x qual (dj st) (cU st) (a7 st) .none kV doc pm an bc ct/\K.lookup f=some ⟨oc,od,.func fd,mR⟩/\PySem.W.codeIn K bc qual=true
 kp:PySem.W.keepIn K (.ref f)=true
section
variable {P:Program} {w:World} {K:PySem.W.Frag} {mg:Str->Option Value} {base:Heap}
theorem cH.ok {x qual:Str} {st:Stmt} {f:Addr} {fd:FuncData} {N ps:List Str} {k:Nat} {sp:Sp} (F:cH K x qual st f fd) (S:di N ps (a7 st)) (len:∀ vs H Q E,sp vs H Q E->vs.length=ps.length)
  (eU:∀ (bc:Value) (A:Around) (outer:List Env) (s:Shared) (H:Hp) (vs:List V) (Q:VK) (E:XK),bG k (A.deeper (envOfC qual (a7 st) s.heap.objs.size f bc))->sp vs H Q E →
   ∃ t,gN (gu bV P w K mg base N qual (a7 st) f bc A outer s H E).nY (cU st) t/\t { nx:=fun _ H'=>Q .non H',rt:=Q } (start N vs) H):aT P w K mg base bV (k + 1) f fd ps sp:=by
 obtain⟨oc,od,kV,doc,pm,an,bc,ct,mR,rfl,lk,gO⟩:=F.ex
 refine IM lk gO S len fun A outer s H vs Q E hr mS => ?_
 obtain⟨t,h,q⟩:=eU bc A outer s H vs Q E hr mS
 exact⟨t,h.nY,q⟩
theorem cH.binds {x qual:Str} {st:Stmt} {f:Addr} {fd:FuncData} {ps:List Str} (F:cH K x qual st f fd)
  (h:∀ (kV doc pm:Value) (an:Option Addr) (bc ct:Value) (us:List Value),us.length=ps.length->bindArgs (PySem.W.fnOf x qual (dj st) (cU st) (a7 st) .none kV doc pm an bc ct) ⟨us,[]⟩=pure (ps.zip us)):Binds K fd ps []:=by
 obtain⟨oc,od,kV,doc,pm,an,bc,ct,mR,rfl,lk,gO⟩:=F.ex
 exact .all (h kV doc pm an bc ct)
theorem eG {x qual:Str} {st:Stmt} {f:Addr} {oc:Value} {od an:Option Addr} {mR:Array (Option Value)} {kV doc pm bc ct:Value} (l:K.lookup f=some ⟨oc,od,.func (PySem.W.fnOf x qual (dj st) (cU st) (a7 st) .none kV doc pm an bc ct),mR⟩)
  (c:PySem.W.codeIn K bc qual=true) (k:PySem.W.keepIn K (.ref f)=true):cH K x qual st f (PySem.W.fnOf x qual (dj st) (cU st) (a7 st) .none kV doc pm an bc ct):=⟨⟨oc,od,kV,doc,pm,an,bc,ct,mR,rfl,l,c⟩,k⟩
end
theorem ji {n:Nat} (h:n <= 1000):n < sizeLine:=Nat.lt_of_le_of_lt h (by decide)
section
variable {X:Cx}
theorem pv (i:Nat) {x:Str} {pos:Pos} (hN:X.N[i]? = some x:=by rfl) (hv:nU X.env.scope x:=by first | exact Or.inl rfl | exact Or.inr (Or.inl rfl) | exact Or.inr (Or.inr rfl)) (hd:(x == ("__debug__" : Str))=false:=by decide)
  (gO:(x == ("__classdict__" : Str))=false:=by decide):PE X (.Name x pos) (eE i):=B0 hN hv hd gO
end
noncomputable def aw (H H':Hp):Prop:=∀ b o,H b=some o->H' b=some o
theorem aw.trans {H H1 H2:Hp} (a:aw H H1) (b:aw H1 H2):aw H H2:=fun c o h=>b c o (a c o h)
theorem aw.free {H H':Hp} (e:aw H H') {l:Addr} (h:H' l=Option.none):H l=Option.none:=by
 cases q:H l with
 | none=>rfl
 | some o =>
  rw[e l o q] at h
  cases h
theorem aw.seq {K:PySem.W.Frag} {H H':Hp} {a:Addr} {xs:List V} (e:aw H H') (h:aP K H a xs):aP K H' a xs:=by
 rcases h with (h | ⟨o,h⟩) | h
 ·exact .inl (.inl (e _ _ h))
 ·exact .inl (.inr ⟨o,e _ _ h⟩)
 ·exact .inr h
theorem JP {prog:Program} {w:World} {A:Around} {R:Result->Shared->Prop} {s:Shared} {elt target iter:Expr} {ifs:List Expr} {scope:Scope} {pos:Pos} {it acc:Value} {env:Env} (I:Nat->Shared->Prop)
  (turn:∀ n s,I n s->wpAny (model prog w) A (pyNext it) (fun r s₁ => match r with
   | none=>R (.ok .next) s₁
   | some v=>wpAny (model prog w) A (letOwnedTupleGo target it v) (fun _ s₂ => wpAny (model prog w) A (assign target env v) (fun _ s₃ =>
     wpAny (model prog w) A (forIn ifs true fun c r=>if r=true then do let ok <- isTrue c env (eval c env);pure (ForInStep.yield ok) else pure (ForInStep.yield r)) (fun ok s₄ =>
      if ok=true then wpAny (model prog w) A (eval elt env) (fun x s₅ =>
       wpAny (model prog w) A (call (.builtin "list.append") [acc,x]) (fun _ s₆ => ∃ m,m < n/\I m s₆) (fun _ _=>False) s₅) (fun _ _=>False) s₄
      else ∃ m,m < n/\I m s₄) (fun _ _=>False) s₃) (fun _ _=>False) s₂) (fun _ _=>False) s₁) (fun _ _=>False) s)
  (n:Nat) (h:I n s) :
  codeAny (model prog w) A (.compLoop (.ListComp elt [⟨target,iter,ifs,0⟩] scope pos) 0 it acc env) R s:=by
 refine codeAny_loop rfl I (fun n s hI => ?_) n h
 show wpAny _ A ((compTurn (.ListComp elt [⟨target,iter,ifs,0⟩] scope pos) 0 it acc env).onRaise (fun x=>do noteFrame x env;theTreesLotGoes x)) _ _ s
 refine wpAny_noted ?_
 rw[compTurn_list]
 refine wpAny_bind (wpAny_standAt (wpAny_bind (wpAny_mono (turn n s hI) (fun r s₁ h₁ => ?_) fun _ _ h'=>False.elim h')))
 cases r with
 | none=>exact wpAny_pure h₁
 | some v =>
  refine wpAny_bind (wpAny_mono h₁ (fun _ s₂ h₂ => ?_) fun _ _ h'=>False.elim h')
  refine wpAny_bind (wpAny_mono h₂ (fun _ s₃ h₃ => wpAny_bind (wpAny_mono h₃ (fun ok s₄ h₄ => ?_) fun _ _ h'=>False.elim h')) fun _ _ h'=>False.elim h')
  cases ok with
  | false=>exact wpAny_pure ⟨rfl,h₄⟩
  | true =>
   exact wpAny_bind (wpAny_bind (wpAny_mono h₄ (fun x s₄ h₄ => wpAny_bind (wpAny_mono h₄ (fun _ s₅ h₅ => wpAny_pure (wpAny_pure ⟨rfl,h₅⟩)) fun _ _ h'=>False.elim h')) fun _ _ h'=>False.elim h'))
theorem yO {env:Env}:∀ (names:List (Str × NameKind)) (acc:List (Str × Addr)),(∀ y∈names,y.2 = .free->∃ c,env.cells.lookup y.1=some c)->(∀ x c,acc.lookup x=some c->env.cells.lookup x=some c) →
  ∃ cl,(forIn names acc (fun (x:Str × NameKind) (cs:List (Str × Addr))=>if x.2 == NameKind.free then cellOf env x.1 >>= fun a=>pure (ForInStep.yield ((x.1,a) :: cs)) else pure (ForInStep.yield cs)):Sem (List (Str × Addr)))=pure cl ∧
   (∀ x c,cl.lookup x=some c->env.cells.lookup x=some c)/\(∀ y∈names,y.2 = .free->∃ c,cl.lookup y.1=some c)/\(∀ x c,acc.lookup x=some c->∃ c,cl.lookup x=some c)
 | [],acc,_,h2=>⟨acc,rfl,h2,fun _ hy=>absurd hy (by simp),fun x c e=>⟨c,e⟩⟩
 | (n,k) :: r,acc,h1,h2=>by
  rw[List.forIn_cons]
  by_cases hk:k = .free
  ·subst hk
   obtain⟨c,hc⟩:=h1 (n,.free) List.mem_cons_self rfl
   have mM:env.cells.lookup n=some c:=hc
   have ec:cellOf env n=pure c:=by unfold cellOf;rw[mM]
   have hJ:∀ x d,((n,c) :: acc).lookup x=some d->env.cells.lookup x=some d:=fun x d e=>by
    rw[List.lookup_cons] at e
    cases q:x == n with
    | true =>
     rw[q] at e
     cases e
     rw[eq_of_beq q];exact mM
    | false =>
     rw[q] at e
     exact h2 x d e
   obtain⟨cl,e,p1,p2,p3⟩:=yO r ((n,c) :: acc) (fun y hy=>h1 y (List.mem_cons_of_mem _ hy)) hJ
   refine⟨cl,?_,p1,fun y hy hf => ?_,fun x d e => ?_⟩
   ·dsimp only
    rw[if_pos (by decide),ec]
    exact e
   ·rcases List.mem_cons.mp hy with rfl | hy
    ·exact p3 n c (by simp)
    ·exact p2 y hy hf
   ·cases q:x == n with
    | true=>exact p3 x c (by rw[List.lookup_cons,q])
    | false=>exact p3 x d (by rw[List.lookup_cons,q];exact e)
  ·obtain⟨cl,e,p1,p2,p3⟩:=yO r acc (fun y hy=>h1 y (List.mem_cons_of_mem _ hy)) h2
   refine⟨cl,?_,p1,fun y hy hf => ?_,p3⟩
   ·dsimp only
    rw[if_neg (by simpa using hk)]
    exact e
   ·rcases List.mem_cons.mp hy with rfl | hy
    ·exact absurd hf hk
    ·exact p2 y hy hf
theorem JQ {scope:Scope} {env:Env} (h:∀ y∈scope.names,y.2 = .free->∃ c,env.cells.lookup y.1=some c) :
  ∃ cl,closureFor scope env=pure cl/\(∀ x c,cl.lookup x=some c->env.cells.lookup x=some c)/\∀ y∈scope.names,y.2 = .free->∃ c,cl.lookup y.1=some c:=by
 obtain⟨cl,e,p1,p2,_⟩:=yO scope.names [] h (fun x c e=>by simp at e)
 refine⟨cl,?_,p1,p2⟩
 have e':closureFor scope env=(forIn scope.names ([]:List (Str × Addr)) (fun (x:Str × NameKind) (cs:List (Str × Addr))=>if x.2 == NameKind.free then cellOf env x.1 >>= fun a=>pure (ForInStep.yield ((x.1,a) :: cs)) else pure (ForInStep.yield cs)):Sem (List (Str × Addr))) >>= pure:=rfl
 rw[e',e]
 rfl
structure BD where
 cl:List (Str × Addr)
 C:Addr
 s:Shared
 H:Hp
 fp:List Addr
@[reducible] noncomputable def b9 (X:Cx) (scope:Scope) (Nb:List Str) (d:BD):Cx where
 prog:=X.prog
 w:=X.w
 K:=X.K
 mg:=X.mg
 base:=X.base
 A:=X.A
 N:=Nb
 s₀ := d.s
 H₀ := d.H
 env:=compEnvC scope d.cl d.C X.env
 outer:=X.stack
 stack:=X.stack
 ex:=d.fp
 fn:=fun x=>decide (scope.names.lookup x=some .cell)
 calm:=X.calm
 pn:=[]
 xe:=fun _ _=>False
noncomputable def kJ (cp:List (Option Nat)) (σ : St):St:=cp.map fun o=>match o with
 | some i=>(σ[i]?).join
 | none=>none
noncomputable def lI (N:List Str) (CS scope:Scope) (Nb:List Str) (cp:List (Option Nat)):Bool :=
 (scope.names.all fun y=>(decide (y.2 ≠ .cell) || decide (scope.names.lookup y.1=some .cell)) && (decide (y.2 ≠ .local) || decide (scope.names.lookup y.1=some .local)) && (decide (y.2 ≠ .free) || decide (CS.names.lookup y.1=some .cell) || decide (CS.names.lookup y.1=some .free))) &&
 decide (cp.length=Nb.length) && (cp.zip Nb).all fun z=>match z.1 with
  | none=>true
  | some i=>decide (N[i]? = some z.2) && decide (scope.names.lookup z.2=some .free)
structure vf (X:Cx) (scope:Scope) (Nb:List Str) (cp:List (Option Nat)):Prop where
 kind:scope.kind = .function
 cell:∀ y∈scope.names,y.2 = .cell->scope.names.lookup y.1=some .cell
 names:∀ y∈scope.names,y.2 = .local->scope.names.lookup y.1=some .local
 free:∀ y∈scope.names,y.2 = .free->(X.env.kindOf y.1=some .cell\/X.env.kindOf y.1=some .free)
 len:cp.length=Nb.length
 yP:∀ (j i:Nat) (x:Str),cp[j]? = some (some i)->Nb[j]? = some x->X.N[i]? = some x/\scope.names.lookup x=some .free
theorem z2y {X:Cx} {scope:Scope} {Nb:List Str} {cp:List (Option Nat)} (hk:scope.kind = .function) (h:lI X.N X.env.scope scope Nb cp=true):vf X scope Nb cp:=by
 unfold lI at h
 simp only[Bool.and_eq_true,List.all_eq_true,Bool.or_eq_true,decide_eq_true_eq] at h
 obtain⟨⟨h1,h2⟩,h3⟩:=h
 refine⟨hk,fun y hy e=>(h1 y hy).1.1.resolve_left (fun z=>z e),fun y hy e => ?_,fun y hy e => ?_,h2,fun j i x e1 e2 => ?_⟩
 ·rcases (h1 y hy).1.2 with z | z
  ·exact absurd e z
  ·exact z
 ·rcases (h1 y hy).2 with (z | z) | z
  ·exact absurd e z
  ·exact .inl z
  ·exact .inr z
 ·have hm:(some i,x)∈cp.zip Nb:=by
   have:(cp.zip Nb)[j]? = some (some i,x):=by
    rw[List.getElem?_zip_eq_some];exact⟨e1,e2⟩
   exact List.mem_of_getElem? this
  have:=h3 _ hm
  simpa using this
theorem yQ {env:Env} {x:Str}:∀ {names:List (Str × NameKind)} {k:NameKind},names.lookup x=some k →
  (names.map fun (n,k)=>if (k == NameKind.free && env.scope.kind == .function && env.kindOf n == some .cell) then (n,NameKind.cell) else (n,k)).lookup x =
   some (if (k == NameKind.free && env.scope.kind == .function && env.kindOf x == some .cell) then NameKind.cell else k)
 | [],k,h=>by simp at h
 | (n,k') :: r,k,h=>by
  have ih:=@yQ env x r k
  show List.lookup x ((if (k' == NameKind.free && env.scope.kind == .function && env.kindOf n == some .cell)=true then (n,NameKind.cell) else (n,k')) :: _)=_
  cases hx:x == n with
  | true =>
   simp only[List.lookup_cons,hx] at h
   cases h
   have e:x=n:=eq_of_beq hx
   subst e
   by_cases hc:(k' == NameKind.free && env.scope.kind == .function && env.kindOf x == some .cell)=true
   ·rw[if_pos hc,if_pos hc];simp[List.lookup_cons]
   ·rw[if_neg hc,if_neg hc];simp[List.lookup_cons]
  | false =>
   simp only[List.lookup_cons,hx] at h
   by_cases hc:(k' == NameKind.free && env.scope.kind == .function && env.kindOf n == some .cell)=true
   ·rw[if_pos hc];simp only[List.lookup_cons,hx];exact ih h
   ·rw[if_neg hc];simp only[List.lookup_cons,hx];exact ih h
theorem CT {env:Env} {x:Str}:∀ {names:List (Str × NameKind)},names.lookup x=none →
  (names.map fun (n,k)=>if (k == NameKind.free && env.scope.kind == .function && env.kindOf n == some .cell) then (n,NameKind.cell) else (n,k)).lookup x=none
 | [],h=>by simp
 | (n,k') :: r,h=>by
  have ih:=@CT env x r
  show List.lookup x ((if (k' == NameKind.free && env.scope.kind == .function && env.kindOf n == some .cell)=true then (n,NameKind.cell) else (n,k')) :: _)=_
  cases hx:x == n with
  | true=>simp only[List.lookup_cons,hx] at h;cases h
  | false =>
   simp only[List.lookup_cons,hx] at h
   by_cases hc:(k' == NameKind.free && env.scope.kind == .function && env.kindOf n == some .cell)=true
   ·rw[if_pos hc];simp only[List.lookup_cons,hx];exact ih h
   ·rw[if_neg hc];simp only[List.lookup_cons,hx];exact ih h
noncomputable def PF (X:Cx) (ifs:List Expr) (t:TT):Prop :=
 ∀ (pins:List (Addr × Obj)) (s:Shared) (σ : St) (H:Hp) (Q:Bool->Hp->Prop),Inv X pins σ H s->t σ H Q →
  wpAny (model X.prog X.w) X.A (forIn ifs true fun c r=>if r=true then do let ok <- isTrue c X.env (eval c X.env);pure (ForInStep.yield ok) else pure (ForInStep.yield r)) (TP X pins σ Q) X.xe s
noncomputable def sJ:TT:=fun _ H Q=>Q true H
theorem JR {X:Cx}:PF X [] sJ:=fun _ _ _ H _ I h=>wpAny_tests_nil ⟨H,I,h⟩
theorem JU {X:Cx} {c:Expr} {t:TT} (h:PT X c t):PF X [c] t:=fun pins s σ H Q I hw=>wpAny_tests_one (h pins s σ H Q I hw)
noncomputable def JV (g:TG) (tf:TT) (te:TE) (l:Addr) (x:V) (τ : St) (H:Hp) (N:St->Hp->Prop):Prop :=
 g x τ H fun τ2 H2=>tf τ2 H2 fun b H3=>if b=true then te τ2 H3 fun y H4=>∃ ys,H4 l=some (.lst ys)/\ys.length < sizeLine/\N τ2 (upd H4 l (.lst (ys ++ [y]))) else N τ2 H3
noncomputable def CU (J:It) (g:TG) (tf:TT) (te:TE) (l:Addr) (τ0:St) (H0:Hp) (Q:VK):Prop :=
 ∃ W:Nat->Nat->St->Hp->Prop,(∃ m,W 0 m τ0 H0)/\∀ i m τ H,W i m τ H →
  (J.stop i H/\Q (.ref l) H)\/(J.go i H/\∃ N:St->Hp->Prop,(∀ τ' H',N τ' H'->∃ m',m' < m/\W (i + 1) m' τ' H')/\∀ x H',J.p9 i H x H'->JV g tf te l x τ H' N)
noncomputable def oG (wi:TI) (cp:List (Option Nat)) (g:BD->TG) (tf:BD->TT) (te:BD->TE):TE:=fun σ H Q=>wi σ H fun J H1=>∀ (d:BD) (l:Addr),H1 l=none->CU J (g d) (tf d) (te d) l (kJ cp σ) (upd H1 l (.lst [])) Q
theorem qg:∀ {names:List (Str × NameKind)} {n:Nat} {acc:List (Str × Addr)} {x:Str} {c:Addr},(cellsFrom n names acc).lookup x=some c->acc.lookup x=some c\/(n <= c/\(x,NameKind.cell)∈names)
 | [],n,acc,x,c,h => .inl h
 | (y,k) :: r,n,acc,x,c,h=>by
  unfold cellsFrom at h
  split at h
  ·rename_i hk
   have ek:k = .cell:=eq_of_beq hk
   subst ek
   rcases qg h with h | ⟨h,m⟩
   ·rw[List.lookup_cons] at h
    cases q:x == y with
    | true=>rw[q] at h;cases h;rw[eq_of_beq q];exact .inr ⟨Nat.le_refl _,List.mem_cons_self ..⟩
    | false=>rw[q] at h;exact .inl h
   ·exact .inr ⟨by omega,List.mem_cons_of_mem _ m⟩
  ·rcases qg h with h | ⟨h,m⟩
   ·exact .inl h
   ·exact .inr ⟨h,List.mem_cons_of_mem _ m⟩
theorem yR:∀ {names:List (Str × NameKind)} {n:Nat} {acc:List (Str × Addr)} {x:Str} {c:Addr},(x,NameKind.cell)∈names->(cellsFrom n names acc).lookup x=some c->n <= c
 | [],n,acc,x,c,m,h=>by cases m
 | (y,k) :: r,n,acc,x,c,m,h=>by
  unfold cellsFrom at h
  by_cases mr:(x,NameKind.cell)∈r
  ·split at h
   ·have:=yR mr h;omega
   ·exact yR mr h
  ·have e:(x,NameKind.cell)=(y,k):=by
    rcases List.mem_cons.mp m with e | e
    ·exact e
    ·exact absurd e mr
   cases e
   rw[if_pos (by decide)] at h
   rcases qg h with h | ⟨h,_⟩
   ·rw[List.lookup_cons,beq_self_eq_true] at h
    cases h;exact Nat.le_refl _
   ·omega
theorem yS:∀ {names:List (Str × NameKind)} {n:Nat} {acc:List (Str × Addr)} {x y:Str} {c:Addr},(∀ u v c,acc.lookup u=some c->acc.lookup v=some c->u=v)->(∀ u c,acc.lookup u=some c->c < n)->(cellsFrom n names acc).lookup x=some c->(cellsFrom n names acc).lookup y=some c->x=y
 | [],n,acc,x,y,c,hi,_,h1,h2=>hi x y c h1 h2
 | (z,k) :: r,n,acc,x,y,c,hi,hb,h1,h2=>by
  unfold cellsFrom at h1 h2
  split at h1
  ·rename_i hk
   rw[if_pos hk] at h2
   refine yS (fun u v c q1 q2 => ?_) (fun u c q => ?_) h1 h2
   ·rw[List.lookup_cons] at q1 q2
    cases e1:u == z with
    | true =>
     rw[e1] at q1;cases q1
     cases e2:v == z with
     | true=>rw[eq_of_beq e1,eq_of_beq e2]
     | false=>rw[e2] at q2;exact absurd (hb v _ q2) (Nat.lt_irrefl _)
    | false =>
     rw[e1] at q1
     cases e2:v == z with
     | true=>rw[e2] at q2;cases q2;exact absurd (hb u _ q1) (Nat.lt_irrefl _)
     | false=>rw[e2] at q2;exact hi u v c q1 q2
   ·rw[List.lookup_cons] at q
    cases e1:u == z with
    | true=>rw[e1] at q;cases q;exact Nat.lt_succ_self _
    | false=>rw[e1] at q;exact Nat.lt_succ_of_lt (hb u c q)
  ·rename_i hk
   rw[if_neg hk] at h2
   exact yS hi hb h1 h2
theorem yT:∀ {names:List (Str × NameKind)} {n:Nat} {acc:List (Str × Addr)} {x:Str},(x,NameKind.cell)∉names->(cellsFrom n names acc).lookup x=acc.lookup x
 | [],n,acc,x,_=>rfl
 | (y,k) :: r,n,acc,x,m=>by
  unfold cellsFrom
  split
  ·rename_i hk
   have ek:k = .cell:=eq_of_beq hk
   subst ek
   rw[yT fun z=>m (List.mem_cons_of_mem _ z),List.lookup_cons]
   cases q:x == y with
   | true=>exact absurd (by rw[eq_of_beq q];exact List.mem_cons_self ..) m
   | false=>rfl
  ·exact yT fun z=>m (List.mem_cons_of_mem _ z)
theorem yU:∀ {names:List (Str × NameKind)} {h:Heap} {acc:List (Str × Addr)} {x:Str} {c:Addr},(∀ u c,acc.lookup u=some c->∃ v,h.IsCell c v)->(cellsFrom h.objs.size names acc).lookup x=some c->∃ v,(pushCells h names).IsCell c v
 | [],h,acc,x,c,hc,e=>hc x c e
 | (y,k) :: r,h,acc,x,c,hc,e=>by
  unfold cellsFrom at e
  unfold pushCells
  split at e
  ·rename_i hk
   rw[if_pos hk]
   have hz:(h.push { cls := .type "cell",data := .cell none }).objs.size=h.objs.size + 1:=Heap.size_push ..
   rw[<-hz] at e
   refine yU (fun u c q => ?_) e
   rw[List.lookup_cons] at q
   cases e1:u == y with
   | true=>rw[e1] at q;cases q;exact⟨none,_,Heap.get?_push_size _ rfl,rfl⟩
   | false =>
    rw[e1] at q
    obtain⟨v,o,g1,g2⟩:=hc u c q
    exact⟨v,o,Heap.get?_push_of_some _ g1,g2⟩
  ·rename_i hk
   rw[if_neg hk]
   exact yU hc e
theorem JX {M:Model} {A:Around} {E:Value->Shared->Prop} {s:Shared} {scope:Scope} {g:Addr} {cl:List (Str × Addr)} {qual:Str} {env:Env} {Q:Env->Shared->Prop}
  (h:Q (newEnv scope s.heap.objs.size g (cellsFrom (s.heap.objs.size + 1) scope.names cl) qual none .none (some env) builtinsNs) { s with heap:=pushCells (s.heap.push { cls := .type "dict",data := .dict #[] }) scope.names }) :
  wpAny M A (newFunctionEnv scope g cl [] qual none .none (some env)) Q E s:=by
 simp only[newFunctionEnv,Option.isSome_some,if_true]
 refine wpAny_bind (wpAny_alloc ?_)
 refine wpAny_bind (wpAny_layCells _ (fun name kind cells=>by cases JY:kind == NameKind.cell<;>simp[JY]) _ _ _ _ ?_)
 rw[show ({ s with heap:=s.heap.push { cls := .type "dict",data := .dict #[] } }:Shared).heap.objs.size=s.heap.objs.size + 1 from Heap.size_push ..]
 refine wpAny_bind ?_
 rw[List.forIn_nil]
 exact wpAny_pure (wpAny_pure h)
section
variable {X:Cx} {elt tg iter:Expr} {ifs:List Expr} {scope:Scope} {pos:Pos} {Nb:List Str} {cp:List (Option Nat)} {wi:TI} {g:BD->TG} {tf:BD->TT} {te:BD->TE}
variable {pins:List (Addr × Obj)} {σ : St} {H:Hp} {s:Shared}
noncomputable abbrev sL (scope:Scope) (s:Shared) (cl:List (Str × Addr)):List (Str × Addr):=cellsFrom (s.heap.objs.size + 1) scope.names cl
theorem JZ {fp:List Addr} {cl:List (Str × Addr)} (S:vf X scope Nb cp) (I:Inv X pins σ H s) (hf:∀ b∈fp,cy X pins H b) (ho:∀ b∈fp,∃ o,s.heap.get? b=some o)
  (c1:∀ x c,cl.lookup x=some c->X.env.cells.lookup x=some c) (c2:∀ y∈scope.names,y.2 = .free->∃ c,cl.lookup y.1=some c):(b9 X scope Nb ⟨sL scope s cl,s.heap.objs.size,s,H,fp⟩).Ok:=by
 have J0:∀ b∈fp,b∉jg X.stack:=fun b hb z=>by
  obtain⟨_,f1,f2,_⟩:=hf b hb
  rcases List.mem_cons.mp (I.gq b z) with e | e
  ·exact f1 e
  ·exact f2 e
 have lt:∀ u c,cl.lookup u=some c->c < s.heap.objs.size:=fun u c e=>by
  obtain⟨v,q⟩:=I.cell u c (c1 _ _ e)
  exact q.lt
 refine⟨I.ok.mod,?_,I.ok.glob,I.ok.blt,Nat.le_refl _,fun x y c h1 h2 => ?_,fun x hx => ?_,fun x c h hc => ?_,I.ok.hd,I.ok.frames,.inl rfl,fun b hb=>⟨?_,fun x c e => ?_⟩,I.bs,Nat.le_trans I.ok.nV I.sz,fun b o e hb => ?_,J0,I.stack,I.iq⟩
 ·exact S.kind
 ·exact yS (fun u v c q1 q2=>I.ok.inj u v c (c1 _ _ q1) (c1 _ _ q2)) (fun u c e=>Nat.lt_succ_of_lt (lt u c e)) h1 h2
 ·cases q:scope.names.lookup x with
  | none =>
   have z:(relabel scope X.env).names.lookup x=none:=CT q
   have g7:(relabel scope X.env).names.lookup x=some .cell\/(relabel scope X.env).names.lookup x=some .free:=hx
   rw[z] at g7
   rcases g7 with h | h<;>cases h
  | some k =>
   have hm:=PySem.mem_of_lookup q
   have z:(relabel scope X.env).names.lookup x=_:=yQ (env:=X.env) q
   have g7:(relabel scope X.env).names.lookup x=some .cell\/(relabel scope X.env).names.lookup x=some .free:=hx
   rw[z] at g7
   have kf:k = .free\/k = .cell:=by
    by_cases hk:k = .free
    ·exact .inl hk
    ·have:(k == NameKind.free)=false:=by simpa using hk
     simp only[this,Bool.false_and,Bool.false_eq_true,if_false] at g7
     rcases g7 with h | h
     ·exact .inr (Option.some.inj h)
     ·exact absurd (Option.some.inj h) hk
   refine Option.isSome_iff_exists.mp (PySem.W.cellsFrom_some scope.names _ cl ?_)
   rcases kf with rfl | rfl
   ·obtain⟨c,e⟩:=c2 (x,.free) hm rfl
    exact .inr (by rw[show cl.lookup x=some c from e];rfl)
   ·exact .inl q
 ·have hl:scope.names.lookup x=some .cell:=of_decide_eq_true h
  have:=yR (PySem.mem_of_lookup hl) hc
  exact Nat.le_of_succ_le this
 ·obtain⟨o,e⟩:=ho b hb
  exact Nat.ne_of_lt (Heap.lt_size e)
 ·rcases qg e with e | ⟨e,_⟩
  ·exact (hf b hb).2.2.2.2.1 x c (c1 _ _ e)
  ·obtain⟨o,eo⟩:=ho b hb
   have yV:=Heap.lt_size eo
   intro z
   subst z
   exact absurd (Nat.lt_of_succ_le e) (Nat.not_lt.mpr (Nat.le_of_lt yV))
 ·rcases (hf b hb).2.2.2.1 with z | z
  ·exact I.ok.jL b o e z
  ·exact absurd (Nat.lt_of_lt_of_le (Heap.lt_size (I.ok.bs b o e).1) z) (Nat.lt_irrefl _)
theorem J1 {cp:List (Option Nat)} {σ : St} {j:Nat} {v:V} (h:(kJ cp σ)[j]? = some (some v)):∃ i,cp[j]? = some (some i) /\ σ[i]? = some (some v):=by
 unfold kJ at h
 rw[List.getElem?_map] at h
 cases e:cp[j]? with
 | none=>rw[e] at h;cases h
 | some o =>
  rw[e] at h
  cases o with
  | none=>cases h
  | some i =>
   refine⟨i,rfl,?_⟩
   have h':(σ[i]?).join=some v:=Option.some.inj h
   cases q : σ[i]? with
   | none=>rw[q] at h';cases h'
   | some z =>
    rw[q] at h'
    have:z=some v:=h'
    rw[this]
theorem J2 {fp:List Addr} {cl:List (Str × Addr)} {h1:Heap} {tk:Nat} (S:vf X scope Nb cp) (I:Inv X pins σ H s) (hf:∀ b∈fp,cy X pins H b) (ho:∀ b∈fp,∃ o,s.heap.get? b=some o)
  (c1:∀ x c,cl.lookup x=some c->X.env.cells.lookup x=some c) (c2:∀ y∈scope.names,y.2 = .free->∃ c,cl.lookup y.1=some c)
  (hn:h1.Ns s.heap.objs.size (fun x=>([]:List (Str × Value)).reverse.lookup x)) (hk:∀ b o,s.heap.get? b=some o->h1.get? b=some o) (lD:∀ x c,(sL scope s cl).lookup x=some c->∃ v,h1.IsCell c v) :
  Inv (b9 X scope Nb ⟨sL scope s cl,s.heap.objs.size,s,H,fp⟩) [] (kJ cp σ) H { s with heap:=h1,toks:=tk }:=by
 refine⟨JZ S I hf ho c1 c2,rfl,I.bare,Un.kept hk,⟨_,hn,fun j x v e1 e2 e3 => ?_⟩,lD,I.aJ.fresh (Nat.le_refl _),fun x c e => ?_,fun p hp=>absurd (show p∈([]:List (Addr × Obj)) from hp) (by simp),I.aJ.kept hk,?_⟩
 ·obtain⟨i,q1,q2⟩:=J1 e2
  obtain⟨q3,q4⟩:=S.yP j i x q1 e1
  have hm:=PySem.mem_of_lookup q4
  have mX:=S.free _ hm rfl
  obtain⟨m,_,hl⟩:=I.loc
  have J3:nU X.env.scope x:=by
   rcases mX with h | h
   ·exact .inr (.inl h)
   ·exact .inr (.inr h)
  obtain⟨u,ru,lk⟩:=hl i x v q3 q2 J3
  refine⟨u,ru,?_⟩
  have nl:X.env.kindOf x≠some .local:=by
   rcases mX with h | h
   ·intro z;rw[h] at z;cases z
   ·intro z;rw[h] at z;cases z
  rcases lk with⟨k,_⟩ | ⟨_,c,ec,hc⟩
  ·exact absurd k nl
  ·obtain⟨c',CV⟩:=c2 (x,.free) hm rfl
   have CW:=c1 _ _ CV
   rw[ec] at CW;cases CW
   have nc:(x,NameKind.cell)∉scope.names:=fun z=>by have:=S.cell _ z rfl;rw[show scope.names.lookup x=some .free from q4] at this;cases this
   refine .inr ⟨?_,c,(yT nc).trans CV,?_⟩
   ·have z:(relabel scope X.env).names.lookup x=_:=yQ (env:=X.env) q4
    show (relabel scope X.env).names.lookup x=some .cell\/(relabel scope X.env).names.lookup x=some .free
    rw[z]
    split
    ·exact .inl rfl
    ·exact .inr rfl
   ·obtain⟨o,e,d⟩:=hc
    exact⟨o,hk _ _ e,d⟩
 ·rcases qg e with e | ⟨e,_⟩
  ·exact I.c5 x c (c1 _ _ e)
  ·exact I.aJ.fresh (Nat.le_of_succ_le e)
 ·unfold kJ
  rw[List.length_map]
  exact S.len
theorem J4 {fp:List Addr} {d:BD} {it l:Addr} {tn:Nat->Heap->Prop} {J:It} {R:Result->Shared->Prop} {Q:VK} {H1:Hp} {s1:Shared} {τ : St} (hc:X.calm=true)
  (hg:PG (b9 X scope Nb d) tg (g d)) (hf:PF (b9 X scope Nb d) ifs (tf d)) (he:PE (b9 X scope Nb d) elt (te d)) (T:Turn X.prog X.w X.K tg J fp it tn)
  (Vi:d.fp=fp) (I1:Inv (b9 X scope Nb d) [] τ H1 s1) (jN:tn 0 s1.heap) (CY:∀ b∈fp,cy (b9 X scope Nb d) [] H1 b)
  (W:Nat->Nat->St->Hp->Prop) (w0:∃ m,W 0 m τ H1)
  (turn:∀ i m τ H,W i m τ H->(J.stop i H/\Q (.ref l) H)\/(J.go i H/\∃ N:St->Hp->Prop,(∀ τ' H',N τ' H'->∃ m',m' < m/\W (i + 1) m' τ' H')/\∀ x H',J.p9 i H x H'->g d x τ H' fun τ2 H2=>tf d τ2 H2 fun b H3 =>
   if b=true then te d τ2 H3 fun y H4=>∃ ys,H4 l=some (.lst ys)/\ys.length < sizeLine/\N τ2 (upd H4 l (.lst (ys ++ [y]))) else N τ2 H3))
  (fin:∀ τ' H' s',Inv (b9 X scope Nb d) [] τ' H' s'->Q (.ref l) H'->R (.ok .next) s') :
  codeAny (model X.prog X.w) X.A (.compStart (.ListComp elt [⟨tg,iter,ifs,0⟩] scope pos) 0 (.ref it) (.ref l) (compEnvC scope d.cl d.C X.env)) R s1:=by
 have hW:∀ {H':Hp},(∀ b∈fp,H' b=none)->∀ b∈fp,cy (b9 X scope Nb d) [] H' b:=fun hn b hb=>⟨hn b hb,(CY b hb).2⟩
 have loop:codeAny (model X.prog X.w) X.A (.compLoop (.ListComp elt [⟨tg,iter,ifs,0⟩] scope pos) 0 (.ref it) (.ref l) (compEnvC scope d.cl d.C X.env)) R s1:=by
  obtain⟨m0,w0⟩:=w0
  refine JP (fun n s'=>∃ i τ' H',Inv (b9 X scope Nb d) [] τ' H' s'/\tn i s'.heap/\(∀ b∈fp,H' b=none)/\W i n τ' H') ?_ m0 ⟨0,τ,H1,I1,jN,fun b hb=>(CY b hb).1,w0⟩
  rintro n s3 ⟨i,σ3,H3,I3,mQ,r_,w3⟩
  rcases turn i n σ3 H3 w3 with⟨stop,qn⟩ | ⟨go,N,hN,step⟩
  ·refine aW (T.done (b9 X scope Nb d) rfl rfl rfl hc i [] s3 σ3 H3 (fun _ _=>False) I3 (hW r_) mQ stop) fun r s4 ⟨hr,I4⟩ => ?_
   subst hr
   exact fin σ3 H3 s4 I4 qn
  ·refine aW (T.item (b9 X scope Nb d) rfl rfl rfl hc i [] s3 σ3 H3 (fun _ _=>False) I3 (hW r_) mQ go) fun r s4 ⟨u,hr,h4⟩ => ?_
   subst hr
   refine aW h4 fun _ s5 ⟨x,H5,I5,r5,y5,oa,yc⟩ => ?_
   have yd:=I5.pinned (hW yc) (T.obj _ _ oa)
   refine aW (hg _ s5 σ3 H5 x u _ yd r5 (step x H5 y5)) fun _ s6 ⟨σ6,H6,I6,q6⟩ => ?_
   have again:∀ {σ7:St} {H7:Hp} {s7:Shared} {m':Nat},Inv (b9 X scope Nb d) ([] ++ rZ fp s5.heap) σ7 H7 s7->m' < n->W (i + 1) m' σ7 H7->∃ m,m < n/\∃ i σ' H',Inv (b9 X scope Nb d) [] σ' H' s7/\tn i s7.heap/\(∀ b∈fp,H' b=none)/\W i m σ' H':=fun {σ7 H7 s7 m'} I7 hm w7=>by
    refine⟨m',hm,i + 1,σ7,H7,I7.dn,T.keep _ _ _ oa fun b hb o e=>(I7.pin (b,o) (List.mem_append_right _ (List.mem_append_right _ (u7 hb e)))).1,fun b hb => ?_,w7⟩
    obtain⟨o,e,d⟩:=T.obj _ _ oa b hb
    exact (I7.pin (b,o) (List.mem_append_right _ (List.mem_append_right _ (u7 hb e)))).2.1
   refine aW (hf _ s6 σ6 H6 _ I6 q6) fun ok s7 h0_ => el3 h0_ fun H7 I7 q7 => ?_
   cases ok with
   | false =>
    rw[if_neg Bool.false_ne_true] at q7 ⊢
    obtain⟨m',hm,w7⟩:=hN _ _ q7
    exact again I7 hm w7
   | true =>
    rw[if_pos rfl] at q7 ⊢
    refine aW (he _ s7 σ6 H7 _ I7 q7) fun y s8 ⟨yv,H8,I8,r8,ys,hy,hz,q8⟩ => ?_
    obtain⟨m',hm,w8⟩:=hN _ _ q8
    refine aW (qd _ s8 σ6 H8 (.ref l) [yv] (.ref l) [y] (fun _ H9=>H9=upd H8 l (.lst (ys ++ [yv]))) I8 rfl (.cons r8 .nil) ⟨l,ys,yv,rfl,rfl,hy,hz,rfl⟩) fun _ s9 h0_ => el5 h0_ fun _ H9 I9 _ e9 => ?_
    subst e9
    exact again I9 hm w8
 exact codeAny_compStart_list loop (T.self _ 0 s1 _ _ jN loop)
theorem J5 {fp:List Addr} {d:BD} {τ : St} {H1 H':Hp} {s1 s':Shared} (I1:Inv X pins σ H1 s1) (hs:d.s=s1) (hH:d.H=H1) (hd:d.fp=fp) (hf:∀ b∈fp,cy X pins H1 b) (J:Inv (b9 X scope Nb d) [] τ H' s'):Inv X pins σ H' s':=by
 subst hs hH hd
 exact I1.rT (ch:=d.fp) J.os J.base J.aJ J.bare fun b hb=>⟨(hf b hb).2.2.2.1,(hf b hb).2.1,(hf b hb).2.2.2.2.1,(hf b hb).2.2.2.2.2⟩
theorem CZ {use:Option (Value->Sem Unit)} {P:Value->Shared->Prop} {Q:VK} (hc:X.calm=true) (S:vf X scope Nb cp) (hi:PI X tg iter wi) (hg:∀ d,PG (b9 X scope Nb d) tg (g d)) (hf:∀ d,PF (b9 X scope Nb d) ifs (tf d)) (he:∀ d,PE (b9 X scope Nb d) elt (te d))
  (hs:∀ x,foldedSetIterable iter X.env x=pure x) (I:Inv X pins σ H s) (h:oG wi cp g tf te σ H Q)
  (fin:∀ (l C:Addr) (H':Hp) (s':Shared) (m:Str->Option Value),Inv X pins σ H' s'->cy X pins H' C->(∀ p c,X.env.cells.lookup p=some c->c≠C)->s'.heap.Ns C m->Q (.ref l) H'->compPost (model X.prog X.w) X.A X.xe use P (.ref l) C (.ok .next) s') :
  wpAny (model X.prog X.w) X.A (comprehension (.ListComp elt [⟨tg,iter,ifs,0⟩] scope pos) scope X.env (firstIterPos [⟨tg,iter,ifs,0⟩] pos) (newList []) false (eval iter X.env) use) P X.xe s:=by
 obtain⟨cl,J6,c1,c2⟩:=JQ (scope:=scope) (env:=X.env) fun y hy J7=>by
  rcases S.free y hy J7 with z | z
  ·exact I.ok.has _ (.inl z)
  ·exact I.ok.has _ (.inr z)
 refine wpAny_comprehension_free (cl:=cl) rfl hs J6 S.kind S.names (aW (hi pins s σ H _ I h) fun v s1 h1=>aW h1 fun ya s2 h2 => ?_)
 obtain⟨it,fp,tn,J,H2,e,I2,T,ip,f2,q2⟩:=h2
 subst e
 refine wpAny_newObj_type ?_
 have hl:H2 s2.heap.objs.size=none:=I2.fresh
 have I3:Inv X pins σ (upd H2 s2.heap.objs.size (.lst [])) { s2 with heap:=s2.heap.push { cls := .type "list",data := .seq ([]:List Value).toArray } }:=I2.b8 (t':=s2.toks) (ys:=[]) .nil (Nat.zero_le _)
 have k3:∀ b o,s2.heap.get? b=some o->(s2.heap.push { cls := .type "list",data := .seq ([]:List Value).toArray }).get? b=some o:=fun b o e=>Heap.get?_push_of_some _ e
 have f3:∀ b∈fp,cy X pins (upd H2 s2.heap.objs.size (.lst [])) b:=fun b hb=>by
  obtain⟨o,e,_⟩:=T.obj _ _ ip b hb
  refine⟨?_,(f2 b hb).2⟩
  rw[aS (Nat.ne_of_lt (Heap.lt_size e))]
  exact (f2 b hb).1
 generalize J8:upd H2 s2.heap.objs.size (.lst [])=H3 at I3 f3
 generalize J9:({ s2 with heap:=s2.heap.push { cls := .type "list",data := .seq ([]:List Value).toArray } }:Shared)=s3 at I3
 have C0:∀ b o,s2.heap.get? b=some o->s3.heap.get? b=some o:=by rw[<-J9];exact k3
 have o3:∀ b∈fp,∃ o,s3.heap.get? b=some o:=fun b hb=>let ⟨o,e,_⟩:=T.obj _ _ ip b hb; ⟨o,C0 b o e⟩
 refine JX ?_
 have k4:∀ b o,s3.heap.get? b=some o->(pushCells (s3.heap.push { cls := .type "dict",data := .dict #[] }) scope.names).get? b=some o:=fun b o e=>pushCells_keeps _ _ _ _ (Heap.get?_push_of_some _ e)
 have sM:(pushCells (s3.heap.push { cls := .type "dict",data := .dict #[] }) scope.names).Ns s3.heap.objs.size (fun x=>([]:List (Str × Value)).reverse.lookup x):=(Heap.Ns.new s3.heap (.type "dict")).keeps (pushCells_keeps _ _)
 have I4:=J2 (Nb:=Nb) (tk:=s3.toks) S I3 f3 o3 c1 c2 sM k4 fun x c e=>by
  have hz:(s3.heap.push { cls := .type "dict",data := .dict #[] }).objs.size=s3.heap.objs.size + 1:=Heap.size_push ..
  have e':(cellsFrom (s3.heap.push { cls := .type "dict",data := .dict #[] }).objs.size scope.names cl).lookup x=some c:=by rw[hz];exact e
  refine yU (fun u c q => ?_) e'
  obtain⟨v,o,g1,g2⟩:=I3.cell u c (c1 _ _ q)
  exact⟨v,o,Heap.get?_push_of_some _ g1,g2⟩
 generalize Vj:pushCells (s3.heap.push { cls := .type "dict",data := .dict #[] }) scope.names=h₁ at k4 sM I4 ⊢
 obtain⟨W,w0,turn⟩:=q2 ⟨sL scope s3 cl,s3.heap.objs.size,s3,H3,fp⟩ s2.heap.objs.size hl
 rw[J8] at w0
 refine J4 (d:=⟨sL scope s3 cl,s3.heap.objs.size,s3,H3,fp⟩) (fp:=fp) (tn:=tn) (J:=J) (Q:=Q) hc (hg _) (hf _) (he _) T rfl I4 (T.keep _ _ _ ip fun b hb o e=>k4 b o (C0 b o e)) (fun b hb => ?_) W w0 turn fun τ' H' s' I5 q5 => ?_
 ·obtain⟨o,e⟩:=o3 b hb
  refine⟨(f3 b hb).1,Nat.ne_of_lt (Heap.lt_size e),fun z => ?_,.inl hb,fun x c ec => ?_,fun p hp=>absurd (show p∈([]:List (Addr × Obj)) from hp) (by simp)⟩
  ·rcases List.mem_cons.mp (I3.gq b z) with r | r
   ·exact (f3 b hb).2.1 r
   ·exact (f3 b hb).2.2.1 r
  ·rcases qg ec with q | ⟨q,_⟩
   ·exact (f3 b hb).2.2.2.2.1 x c (c1 _ _ q)
   ·have yV:=Heap.lt_size e
    intro z
    subst z
    exact absurd (Nat.lt_of_succ_le q) (Nat.not_lt.mpr (Nat.le_of_lt yV))
 ·have I6:Inv X pins σ H' s':=J5 I3 rfl rfl rfl f3 I5
  obtain⟨m,hn,_⟩:=I5.loc
  have fC:cy X pins H' s3.heap.objs.size:=I3.iP (Nat.le_refl _) I5.free
  exact fin _ _ _ _ m I6 fC (fun p c e=>fC.2.2.2.2.1 p c e) hn q5
theorem J_ (cp:List (Option Nat)) (Nb:List Str) (hc:X.calm=true) (hi:PI X tg iter wi) (hg:∀ d,PG (b9 X scope Nb d) tg (g d)) (hf:∀ d,PF (b9 X scope Nb d) ifs (tf d)) (he:∀ d,PE (b9 X scope Nb d) elt (te d))
  (hk:scope.kind = .function:=by rfl) (ho:lI X.N X.env.scope scope Nb cp=true:=by first | rfl | kernel_rfl) (hs:∀ x,foldedSetIterable iter X.env x=pure x:=by intro _;rfl) :
  PE X (.ListComp elt [⟨tg,iter,ifs,0⟩] scope pos) (oG wi cp g tf te):=by
 intro pins s σ H Q I h
 rw[eval_ListComp]
 refine CZ (use:=none) hc (z2y hk ho) hi hg hf he hs I h fun l C H' s' m I' fC hcc hn q=>⟨m,hn,fun h' yW=>⟨.ref l,H',?_,rfl,q⟩⟩
 exact I'.turned (t':=s'.toks) (fun b o hb e=>(yW.2 b hb).trans e) fC.1 fC.2.1 fC.2.2.2.1 fC.2.2.2.2.1 fC.2.2.2.2.2
theorem Ka (cp:List (Option Nat)) (Nb:List Str) {i:Nat} {x:Str} {pos' gR:Pos} (hN:X.N.Nodup) (hi:X.N[i]? = some x) (hx:Loc X.env.scope x) (hc:X.calm=true) (hit:PI X tg iter wi) (hg:∀ d,PG (b9 X scope Nb d) tg (g d)) (hf:∀ d,PF (b9 X scope Nb d) ifs (tf d)) (he:∀ d,PE (b9 X scope Nb d) elt (te d))
  (hk:scope.kind = .function:=by rfl) (ho:lI X.N X.env.scope scope Nb cp=true:=by first | rfl | kernel_rfl) (hs:∀ x,foldedSetIterable iter X.env x=pure x:=by intro _;rfl)
  (sN:swapsWith (.ListComp elt [⟨tg,iter,ifs,0⟩] scope pos) (some (.Name x pos')) gR.line X.env=pure true:=by rfl)
  (lq:X.fn x=true\/X.env.scope.names.lookup x=some .local:=by first | exact .inl rfl | exact .inr rfl | assumption) :
  PS X (.Assign [.Name x pos'] (.ListComp elt [⟨tg,iter,ifs,0⟩] scope pos) gR) (eS (oG wi cp g tf te) (jh i)):=by
 intro pins s σ H D I h
 rw[exec_Assign_Name_used _ _ _ _ sN]
 refine wpAny_bind (wpAny_standAt (wpAny_bind ?_))
 show wpAny _ X.A (do let _ <- comprehension (.ListComp elt [⟨tg,iter,ifs,0⟩] scope pos) scope X.env _ (newList []) false (eval iter X.env) (some (assign (.Name x pos') X.env))) _ _ s
 refine wpAny_bind (aW (CZ (use:=some (assign (.Name x pos') X.env)) (P:=fun _ s'=>SP X pins D .next s') hc (z2y hk ho) hit hg hf he hs I h fun l C H' s' m I' fC hcc hn q => ?_) fun _ s' hq=>wpAny_pure (wpAny_pure hq))
 show wpAny _ X.A (assign (.Name x pos') X.env (.ref l)) _ _ s'
 refine wpAny_assign_Name (BW I' hN hi hx (v := .ref l) rfl (fun si Kb ⟨a,sb,ha⟩ => ?_) lq)
 have nC:C≠a:=by
  rcases ha with e | e
  ·rw[e];exact fC.2.1
  ·exact Ne.symm (hcc _ _ e)
 refine⟨m,hn.sameBut sb nC,fun h' yW=>⟨_,H',?_,q⟩⟩
 exact Kb.turned (t':=si.toks) (fun b o hb e=>(yW.2 b hb).trans e) fC.1 fC.2.1 fC.2.2.2.1 fC.2.2.2.2.1 fC.2.2.2.2.2
end
section
variable {g:TG} {tf:TT} {te:TE}
end
section
variable {X:Cx} {pins:List (Addr × Obj)} {σ : St} {H:Hp} {s:Shared} {h':Heap} {T:Addr} {o:HO} {ch:List Addr} {t':Nat}
theorem Inv.eX (I:Inv X pins σ H s) (hf:∀ b∈ch,cy X pins H b) (k:∀ b u,b∉ch->s.heap.get? b=some u->h'.get? b=some u) (hT:s.heap.objs.size <= T) (new:aI X.prog X.w (upd H T o) h' T o) :
  Inv X pins σ (upd H T o) { s with heap:=h',toks:=t' }:=by
 have hn:H T=none:=I.aJ.fresh hT
 have jM:∀ b u,H b=some u->b∉ch:=fun b u e hb=>by rw[(hf b hb).1] at e;cases e
 refine I.step (g':=s.gens) (d':=s.drawn) (ch:=ch) (fun b hb=>⟨(hf b hb).2.2.2.1,(hf b hb).2.1,(hf b hb).2.2.2.2.1,(hf b hb).2.2.2.2.2⟩) (fun b u _ _ hc e _=>k b u hc e) (fun b u _ _ hc e _=>⟨u.slots,k b u hc e⟩)
  (fun b u _ e n=>by rw[aS (Nat.ne_of_lt (Nat.lt_of_lt_of_le (Heap.lt_size e) hT))];exact n) (fun b u hc e=>⟨u,k b u hc e⟩) (fun b xs e=>by rw[aS (cv e hn)];exact e)
  (fun b u xs e=>by rw[aS (cv e hn)];exact e) (fun b ps e=>⟨#[],by rw[aS (cv e hn),e];simp⟩) (fun m hm => ?_) (fun b u e => ?_) I.bare
 ·obtain⟨u,es,ep,ho,r⟩:=hm
  exact⟨u,es,ep,k _ u (fun hb=>(hf _ hb).2.1 rfl) ho,r⟩
 ·by_cases hb:b=T
  ·subst hb;rw[bF] at e;cases e;exact new
  ·rw[aS hb] at e
   refine (I.aJ b u e).hV (fun c v hc q=>k c v ?_ q) (fun c q=>by rw[aS (cv q hn)];exact q) fun c xs q=>by rw[aS (cv q hn)];exact q
   rcases hc with z | z
   ·rw[z];exact jM b u e
   ·exact jM c _ z
theorem Inv.iU (I:Inv X pins σ H s) (hf:∀ b∈ch,cy X pins H b) (k:∀ b u,b∉ch->s.heap.get? b=some u->h'.get? b=some u):Inv X pins σ H { s with heap:=h',toks:=t' }:=by
 have jM:∀ b u,H b=some u->b∉ch:=fun b u e hb=>by rw[(hf b hb).1] at e;cases e
 refine I.step (g':=s.gens) (d':=s.drawn) (ch:=ch) (fun b hb=>⟨(hf b hb).2.2.2.1,(hf b hb).2.1,(hf b hb).2.2.2.2.1,(hf b hb).2.2.2.2.2⟩) (fun b u _ _ hc e _=>k b u hc e) (fun b u _ _ hc e _=>⟨u.slots,k b u hc e⟩)
  (fun b u _ e n=>n) (fun b u hc e=>⟨u,k b u hc e⟩) (fun b xs e=>e)
  (fun b u xs e=>e) (fun b ps e=>⟨#[],by rw[e];simp⟩) (fun m hm => ?_) (fun b u e => ?_) I.bare
 ·obtain⟨u,es,ep,ho,r⟩:=hm
  exact⟨u,es,ep,k _ u (fun hb=>(hf _ hb).2.1 rfl) ho,r⟩
 ·refine (I.aJ b u e).hV (fun c v hc q=>k c v ?_ q) (fun c q=>q) fun c xs q=>q
  rcases hc with z | z
  ·rw[z];exact jM b u e
  ·exact jM c _ z
end
noncomputable def qh (K:PySem.W.Frag) (a:Addr):It :=
 ⟨fun i H=>∃ xs x,aP K H a xs/\xs[i]? = some x,fun i H x H'=>∃ T v,x = .ref T/\H T=none/\H'=upd H T (.tup [.int (i:Nat),v])/\∀ xs,aP K H a xs->xs[i]? = some v,fun i H=>∃ xs,aP K H a xs/\xs.length <= i⟩
theorem C1 {P:Program} {w:World} {K:PySem.W.Frag} {elts:List Expr} {x1} {tp:Pos} (a e it:Addr) (iM:e≠it) :
  Turn P w K (.Tuple elts x1 tp) (qh K a) [e,it] e (fun i h=>(∃ old,IsEnum h e it (i:Nat) old)/\h.IsListIter it a i) where
 mem:=by simp
 obj:=fun i h st b hb=>by
  obtain⟨⟨old,he⟩,o,hi,hc,hd⟩:=st
  rcases List.mem_cons.mp hb with rfl | hb
  ·exact⟨_,he,fun v z=>by cases z⟩
  ·have z:b=it:=by simpa using hb
   subst z
   exact⟨o,hi,fun v z=>by rw[hd] at z;cases z⟩
 keep:=fun i h h' st k=>by
  obtain⟨⟨old,he⟩,hi⟩:=st
  exact⟨⟨old,k e (by simp) _ he⟩,hi.at fun o q=>k it (by simp) o q⟩
 item:=by
  intro X hP hw hK hc i pins s σ H E I hf st hg
  subst hP hw hK
  obtain⟨⟨old,he⟩,hi⟩:=st
  obtain⟨xs,x,hq,hx⟩:=hg
  obtain⟨ag,rv,p,hz⟩:=I.list hq
  obtain⟨u,hu,ru⟩:=rv.get hx
  refine wpAny_pyNext_enum_item he hi p.isList (x:=u) (by simpa using hu) iM fun h1 kE sO sP hsz hk=>⟨_,rfl,?_⟩
  refine wpAny_letOwnedTupleGo_enum kE fun h2 sQ dW => ?_
  have hT:s.heap.objs.size≠e:=Nat.ne_of_gt (Heap.lt_size he)
  have jR:h2.get? s.heap.objs.size=some { cls := .type "tuple",data := .seq #[.int i s.toks,u] }:=(dW.2 _ hT).trans sP
  have k2:∀ b o,b∉[e,it]->s.heap.get? b=some o->h2.get? b=some o:=fun b o hb q=>by
   have sR:b≠e:=fun z=>hb (by simp[z])
   have hJ:b≠it:=fun z=>hb (by simp[z])
   exact (dW.2 _ sR).trans (hk b o sR hJ q)
  have hn:H s.heap.objs.size=none:=I.aJ.fresh (Nat.le_refl _)
  refine⟨.ref s.heap.objs.size,upd H s.heap.objs.size (.tup [.int i,x]),I.eX (ch:=[e,it]) (t':=s.toks + 1) hf k2 (Nat.le_refl _) ?_,rfl,⟨_,x,rfl,hn,rfl,fun ys hy=>by rw[I.dm hy hq];exact hx⟩,⟨⟨u,?_⟩,?_⟩,fun b hb => ?_⟩
  ·exact⟨by show 2 <= sizeLine;decide,[.int i s.toks,u],.cons ⟨_,rfl⟩ (.cons ru .nil),_,jR,rfl,_,rfl⟩
  ·have e3:((i:Int) + 1)=(((i + 1:Nat)):Int):=by omega
   rw[e3] at sQ
   exact sQ
  ·exact sO.at fun o q=>(dW.2 _ (Ne.symm iM)).trans q
  ·have:b < s.heap.objs.size:=by
    obtain⟨o,q,_⟩:=hi
    rcases List.mem_cons.mp hb with rfl | hb
    ·exact Heap.lt_size he
    ·have z:b=it:=by simpa using hb
     subst z;exact Heap.lt_size q
   rw[aS (Nat.ne_of_lt this)]
   exact (hf b hb).1
 done:=by
  intro X hP hw hK hc i pins s σ H E I hf st hg
  subst hP hw hK
  obtain⟨⟨old,he⟩,hi⟩:=st
  obtain⟨xs,hq,hx⟩:=hg
  obtain⟨ag,rv,p,hz⟩:=I.list hq
  have hl:=rv.length
  refine wpAny_pyNext_enum_end (I.ok.hd hc) he hi p.isList (by simp;omega) fun h1 eb=>⟨rfl,?_⟩
  obtain⟨f0,f1,f2,f3,f4,f5⟩:=hf it (by simp)
  exact I.turned (t':=s.toks) (fun b o hb q=>eb b o hb q) f0 f1 f3 f4 f5
 self:=fun A i s Q E st h=>by
  obtain⟨⟨old,he⟩,hi⟩:=st
  have hT:s.TypeIs (.ref e) "enumerate" := ⟨_,he,rfl⟩
  exact PySem.wpAny_pyIter_enum he h
section
variable {X:Cx} {elts:List Expr} {x1:Nat} {tp:Pos}
noncomputable def yX (K:PySem.W.Frag) (ta:TA):TI:=fun σ H R=>ta σ H fun vs H1=>∃ a,vs=[.ref a]/\(∃ xs,aP K H1 a xs)/\R (qh K a) H1
theorem C2:bootBuiltins "enumerate" = some (.type "enumerate"):=by decide +kernel
theorem Kc:bootBuiltins "zip" = some (.type "zip"):=by decide +kernel
theorem Kd {a:Expr} {ta:TA} {p pos:Pos} (hg:Gl X "enumerate") (hm:X.mg "enumerate" = none) (ha:PA X [a] ta) (hs:starEach [a] X.env=[(false,eval a X.env)]:=by rfl) :
  PI X (.Tuple elts x1 tp) (.Call (.Name "enumerate" p) [a] [] pos) (yX X.K ta):=by
 intro pins s σ H R I h
 refine Call_ (mO I hg hm C2 (PyProof.Rows.callWith_type1 (aW (ha pos pins s σ H _ I h) fun us s1 h0_ => el5 h0_ fun vs H1 I1 r1 q1 => ?_) hs rfl))
 obtain⟨l,e,⟨xs,hq⟩,q⟩:=q1
 subst e
 cases r1 with
 | cons r rr =>
  cases rr
  cases r
  obtain⟨ag,rv,p,hz⟩:=I1.list hq
  refine call_enumerate_list p.isList fun h' he hi hsz hk => ?_
  have I2:Inv X pins σ H1 { s1 with heap:=h' }:=I1.kept (t':=s1.toks) hk
  refine PySem.wpAny_pyIter_enum he ?_
  refine⟨_,_,_,_,H1,rfl,I2,C1 l (s1.heap.objs.size + 1) s1.heap.objs.size (Nat.succ_ne_self _),⟨⟨_,he⟩,hi⟩,fun b hb => ?_,q⟩
  have dc:s1.heap.objs.size <= b:=by
   rcases List.mem_cons.mp hb with rfl | hb
   ·exact Nat.le_succ _
   ·have z:b=s1.heap.objs.size:=by simpa using hb
    rw[z];exact Nat.le_refl _
  exact I1.iP dc (I1.aJ.fresh dc)
end
noncomputable def C3 (K:PySem.W.Frag) (a b:Addr):It :=
 ⟨fun i H=>∃ xs ys x y,aP K H a xs/\aP K H b ys/\xs[i]? = some x/\ys[i]? = some y,
  fun i H v H'=>∃ T x y,v = .ref T/\H T=none/\H'=upd H T (.tup [x,y])/\(∀ xs,aP K H a xs->xs[i]? = some x)/\∀ ys,aP K H b ys->ys[i]? = some y,
  fun i H=>∃ xs ys,aP K H a xs/\aP K H b ys/\(xs.length <= i\/ys.length <= i)⟩
structure Ke (z TI TO i1 i2 l1 l2:Addr) (i:Nat) (h:Heap):Prop where
 hz:IsZip h z TI TO .none
 jj:IsPair h TI (.ref i1) (.ref i2)
 jS:∃ x y,IsPair h TO x y
 h1:h.IsListIter i1 l1 i
 h2:h.IsListIter i2 l2 i
theorem Kg {P:Program} {w:World} {K:PySem.W.Frag} {elts:List Expr} {x1} {tp:Pos} {z TI TO i1 i2 l1 l2:Addr} (D:ZipApart z TI TO i1 i2 l1 l2) :
  Turn P w K (.Tuple elts x1 tp) (C3 K l1 l2) [z,TI,TO,i1,i2] z (Ke z TI TO i1 i2 l1 l2) where
 mem:=by simp
 obj:=fun i h st b hb=>by
  obtain⟨hz,jj,⟨x,y,jS⟩,⟨o1,q1,c1,d1⟩,⟨o2,q2,c2,d2⟩⟩:=st
  simp only[List.mem_cons,List.not_mem_nil,or_false] at hb
  rcases hb with rfl | rfl | rfl | rfl | rfl
  ·exact⟨_,hz,fun v z=>by cases z⟩
  ·exact⟨_,jj,fun v z=>by cases z⟩
  ·exact⟨_,jS,fun v z=>by cases z⟩
  ·exact⟨_,q1,fun v z=>by rw[d1] at z;cases z⟩
  ·exact⟨_,q2,fun v z=>by rw[d2] at z;cases z⟩
 keep:=fun i h h' st k=>by
  obtain⟨hz,jj,⟨x,y,jS⟩,h1,h2⟩:=st
  exact⟨k z (by simp) _ hz,k TI (by simp) _ jj,⟨x,y,k TO (by simp) _ jS⟩,h1.at fun o q=>k i1 (by simp) o q,h2.at fun o q=>k i2 (by simp) o q⟩
 item:=by
  intro X hP hw hK hc i pins s σ H E I hf st hg
  subst hP hw hK
  obtain⟨hz,jj,⟨a,b,jS⟩,h1,h2⟩:=id st
  obtain⟨xs,ys,x,y,qi,qj,hx,hy⟩:=hg
  obtain⟨ag,rv,p,_⟩:=I.list qi
  obtain⟨aY,vg,p2,_⟩:=I.list qj
  obtain⟨u,hu,ru⟩:=rv.get hx
  obtain⟨v,hv,Kh⟩:=vg.get hy
  refine wpAny_pyNext_zip_item D hz jj jS h1 h2 p.isList p2.isList (x:=u) (y:=v) (by simpa using hu) (by simpa using hv) fun g1 z1 t1 a1 a2 Ki Vk k1=>⟨_,rfl,?_⟩
  refine wpAny_letOwnedTupleGo_zip z1 fun g2 z2 dW => ?_
  have Kj:s.heap.objs.size≠z:=Nat.ne_of_gt (Heap.lt_size hz)
  have Kk:IsPair g2 s.heap.objs.size u v:=(dW.2 _ Kj).trans Ki
  have k2:∀ b o,b∉[z,TI,TO,i1,i2]->s.heap.get? b=some o->g2.get? b=some o:=fun b o hb q=>by
   simp only[List.mem_cons,List.not_mem_nil,or_false,not_or] at hb
   exact (dW.2 _ hb.1).trans (k1 b o hb.1 hb.2.2.1 hb.2.2.2.1 hb.2.2.2.2 q)
  have hn:H s.heap.objs.size=none:=I.aJ.fresh (Nat.le_refl _)
  refine⟨.ref s.heap.objs.size,upd H s.heap.objs.size (.tup [x,y]),I.eX (ch:=[z,TI,TO,i1,i2]) (t':=s.toks) hf k2 (Nat.le_refl _) ?_,rfl,⟨_,x,y,rfl,hn,rfl,fun zs hy=>by rw[I.dm hy qi];exact hx,fun zs qk=>by rw[I.dm qk qj];exact hy⟩,⟨z2,?_,⟨u,v,(dW.2 _ D.TOz).trans t1⟩,a1.at fun o q=>(dW.2 _ D.i1z).trans q,a2.at fun o q=>(dW.2 _ D.i2z).trans q⟩,fun b hb => ?_⟩
  ·exact⟨by show 2 <= sizeLine;decide,[u,v],.cons ru (.cons Kh .nil),_,Kk,rfl,_,rfl⟩
  ·exact (dW.2 _ D.TIz).trans (k1 TI _ D.TIz D.TITO D.TIi1 D.TIi2 jj)
  ·have:b < s.heap.objs.size:=by
    obtain⟨o1,q1,_⟩:=h1
    obtain⟨o2,q2,_⟩:=h2
    simp only[List.mem_cons,List.not_mem_nil,or_false] at hb
    rcases hb with rfl | rfl | rfl | rfl | rfl
    ·exact Heap.lt_size hz
    ·exact Heap.lt_size jj
    ·exact Heap.lt_size jS
    ·exact Heap.lt_size q1
    ·exact Heap.lt_size q2
   rw[aS (Nat.ne_of_lt this)]
   exact (hf b hb).1
 done:=by
  intro X hP hw hK hc i pins s σ H E I hf st hg
  subst hP hw hK
  obtain⟨hz,jj,⟨a,b,jS⟩,h1,h2⟩:=id st
  obtain⟨xs,ys,qi,qj,hx⟩:=hg
  obtain⟨ag,rv,p,_⟩:=I.list qi
  obtain⟨aY,vg,p2,_⟩:=I.list qj
  have hl:=rv.length
  have qe:=vg.length
  refine wpAny_pyNext_zip_end (I.ok.hd hc) D hz jj jS h1 h2 p.isList p2.isList ?_ fun g1 k1=>⟨rfl,I.iU (t':=s.toks) (ch:=[z,TI,TO,i1,i2]) hf fun b o hb q => ?_⟩
  ·rcases hx with hx | hx
   ·exact .inl (by simp;omega)
   ·exact .inr (by simp;omega)
  ·simp only[List.mem_cons,List.not_mem_nil,or_false,not_or] at hb
   exact k1 b o hb.1 hb.2.2.1 hb.2.2.2.1 hb.2.2.2.2 q
 self:=fun A i s Q E st h=>wpAny_pyIter_zip st.hz h
theorem Kl (n l1 l2:Nat) (q1:l1 < n) (q2:l2 < n):ZipApart (n + 4) (n + 2) (n + 3) n (n + 1) l1 l2:=by
 constructor<;>(show @Ne Nat _ _;omega)
section
variable {X:Cx} {elts:List Expr} {x1:Nat} {tp:Pos}
noncomputable def sS (K:PySem.W.Frag) (ta:TA):TI:=fun σ H R=>ta σ H fun vs H1=>∃ a b,vs=[.ref a,.ref b]/\(∃ xs,aP K H1 a xs)/\(∃ ys,aP K H1 b ys)/\R (C3 K a b) H1
theorem Km {a b:Expr} {ta:TA} {p pos:Pos} (hg:Gl X "zip") (hm:X.mg "zip" = none) (ha:PA X [a,b] ta) (hs:starEach [a,b] X.env=[(false,eval a X.env),(false,eval b X.env)]:=by rfl) (dW:starEach [b] X.env=[(false,eval b X.env)]:=by rfl) :
  PI X (.Tuple elts x1 tp) (.Call (.Name "zip" p) [a,b] [] pos) (sS X.K ta):=by
 intro pins s σ H R I h
 refine Call_ (mO I hg hm Kc (PyProof.Rows.callWith_type1 (aW (ha pos pins s σ H _ I h) fun us s1 h0_ => el5 h0_ fun vs H1 I1 r1 q1 => ?_) (by rw[hs,dW]) (by rw[dW];rfl)))
 obtain⟨l1,l2,e,⟨xs,qi⟩,⟨ys,qj⟩,q⟩:=q1
 subst e
 cases r1 with
 | cons r rr =>
  cases rr with
  | cons r' Kn =>
   cases Kn
   cases r
   cases r'
   obtain⟨ag,rv,p,_⟩:=I1.list qi
   obtain⟨aY,vg,p2,_⟩:=I1.list qj
   have b1:l1 < s1.heap.objs.size:=by obtain⟨o,q,_⟩:=p.isList;exact Heap.lt_size q
   have b2:l2 < s1.heap.objs.size:=by obtain⟨o,q,_⟩:=p2.isList;exact Heap.lt_size q
   refine call_zip_2 p.isList p2.isList fun h' hz jj jS sO Ko hsz hk => ?_
   have I2:Inv X pins σ H1 { s1 with heap:=h' }:=I1.kept (t':=s1.toks) hk
   have D:=Kl s1.heap.objs.size l1 l2 b1 b2
   refine wpAny_pyIter_zip hz ?_
   refine⟨_,_,_,_,H1,rfl,I2,Kg D,⟨hz,jj,⟨_,_,jS⟩,sO,Ko⟩,fun b hb => ?_,q⟩
   have dc:s1.heap.objs.size <= b:=by
    simp only[List.mem_cons,List.not_mem_nil,or_false] at hb
    rcases hb with rfl | rfl | rfl | rfl | rfl
    ·exact Nat.le_add_right _ _
    ·exact Nat.le_add_right _ _
    ·exact Nat.le_add_right _ _
    ·exact Nat.le_refl _
    ·exact Nat.le_add_right _ _
   exact I1.iP dc (I1.aJ.fresh dc)
end
section
variable {X:Cx} {nm:Str} {tp:Pos}
end
end L2
namespace L2
open PySem PySem.Spec PyProof.Rows PySem.W
open Builtin Builtin.ObjectAttr
section
variable {prog:Program} {w:World} {A:Around} {E:Value->Shared->Prop} {s:Shared} {K:Frag} {x D:Addr} {ox:Obj} {Vl:Option Obj} {name:Str}
variable {h:Heap} {g:Array GenState} {d:Drawn} {t:Nat} {os:OsState} {nm q:Str} {C N:Addr} {bs bm Vm:List Value} {Kp:Bool} {sn:List Str} {sub:List Value} {ab:Bool} {col:Option Bool} {dd:Option Addr} {k0 k1 k2 k3 k5:Option Value} {B newId yY:String}
end
end L2
namespace L2
open PySem PySem.Spec PyProof.Rows
section
variable {X:Cx} {pins:List (Addr × Obj)} {σ : St} {H:Hp} {s:Shared} {C f:Addr} {CX:iQ} {k:Nat} {fd:FuncData} {ps:List Str} {sp:Sp} {E:XK} {x:Str} {p pos pos':Pos} {e o value:Expr} {es:List Expr} {ta tv:TE} {t:TA}
end
section
variable {X:Cx}
noncomputable def sT:V->Option Value
 | .ty n=>some (.type n)
 | .ref a=>some (.ref a)
 | _=>none
theorem Kq {y:V} {u c:Value} (r:RelV y u) (e:sT y=some c):u=c:=by
 cases y with
 | ty n=>cases e;exact r
 | ref a=>cases e;exact r
 | _=>cases e
theorem Kr:fA X (.builtin "isinstance") (fun xs H Q=>∃ x y c t b,xs=[x,y]/\sT y=some c/\dq X.K H x t/\PySem.W.kitOne X.K t c=some b/\Q (.bl b) H):=by
 intro pins s σ H xs us Q I rv h
 obtain⟨x,y,c,t,b,rfl,hc,ty,e,q⟩:=h
 obtain⟨u,w',rfl,rx,ry⟩:=rv.two
 rw[Kq ry hc]
 exact IF I rx ty e fun tk=>⟨.bl b,H,I.tok tk,rfl,q⟩
end
theorem C4 {K:PySem.W.Frag} {a:Addr} {xs:List V} {g:TG} {tb:TS} {D:Ends} {σ : St} {H:Hp} (Pv:Nat->St->Hp->Prop) (h0:Pv 0 σ H) (hl:∀ i σ H,i <= xs.length->Pv i σ H->aP K H a xs)
  (hs:∀ i x T σ H,xs[i]? = some x->Pv i σ H->H T=none->g (.ref T) σ (upd H T (.tup [.int (i:Nat),x])) fun σ2 H2=>tb { D with nx:=Pv (i + 1),ct:=Pv (i + 1),bk:=D.nx } σ2 H2) (hd:∀ σ H,Pv xs.length σ H->D.nx σ H) :
  ∃ W:Nat->Nat->St->Hp->Prop,(∃ m,W 0 m σ H)/\∀ i m σ H,W i m σ H →
   ((qh K a).stop i H/\D.nx σ H)\/((qh K a).go i H/\∃ N:St->Hp->Prop,(∀ σ' H',N σ' H'->∃ m',m' < m/\W (i + 1) m' σ' H')/\∀ x H',(qh K a).p9 i H x H'->g x σ H' fun σ2 H2=>tb { D with nx:=N,ct:=N,bk:=D.nx } σ2 H2):=by
 refine⟨fun i m σ H=>m=xs.length - i/\i <= xs.length/\Pv i σ H,⟨xs.length,by simp,Nat.zero_le _,h0⟩,?_⟩
 rintro i m σ H ⟨rfl,hi,p⟩
 have q:=hl i σ H hi p
 by_cases c_:i < xs.length
 ·refine .inr ⟨⟨xs,xs[i],q,by simp[c_]⟩,Pv (i + 1),fun σ' H' p'=>⟨xs.length - (i + 1),by omega,rfl,c_,p'⟩,fun x H' y => ?_⟩
  obtain⟨T,v,rfl,hT,rfl,y⟩:=y
  exact hs i v T σ H (y xs q) p hT
 ·have e:i=xs.length:=by omega
  subst e
  exact .inl ⟨⟨xs,q,Nat.le_refl _⟩,hd σ H p⟩
section
variable {g:TG} {tf:TT} {te:TE} {l:Addr} {τ0:St} {H0:Hp} {Q:VK}
end
section
variable {X:Cx} {es:List Expr} {te:TE} {t:TA}
theorem yZ {c j p} (ha:PE X (.Constant c j p) te) (hr:PA X es t):PA X (.Constant c j p :: es) (eM te t):=oj ha hr rfl
theorem y0 {x p} (ha:PE X (.Name x p) te) (hr:PA X es t):PA X (.Name x p :: es) (eM te t):=oj ha hr rfl
theorem y1 {f a k p} (ha:PE X (.Call f a k p) te) (hr:PA X es t):PA X (.Call f a k p :: es) (eM te t):=oj ha hr rfl
theorem y2 {a p} (ha:PE X (.List a p) te) (hr:PA X es t):PA X (.List a p :: es) (eM te t):=oj ha hr rfl
theorem y3 {a k p} (ha:PE X (.Tuple a k p) te) (hr:PA X es t):PA X (.Tuple a k p :: es) (eM te t):=oj ha hr rfl
theorem y4 {a k p} (ha:PE X (.Subscript a k p) te) (hr:PA X es t):PA X (.Subscript a k p :: es) (eM te t):=oj ha hr rfl
end
inductive D where
 | non | bl (b:Bool) | int (i:Int) | str (x:Str) | tup (xs:List D) | lst (xs:List D)
mutual
noncomputable def Is (H:Hp):D->V->Prop
 | .non,v=>v = .non
 | .bl b,v=>v = .bl b
 | .int i,v=>v = .int i
 | .str x,v=>v = .str x
 | .tup ds,v=>∃ a vs,v = .ref a/\H a=some (.tup vs)/\af H ds vs
 | .lst ds,v=>∃ a vs,v = .ref a/\H a=some (.lst vs)/\af H ds vs
noncomputable def af (H:Hp):List D->List V->Prop
 | [],vs=>vs=[]
 | d :: ds,vs=>∃ v r,vs=v :: r/\Is H d v/\af H ds r
end
mutual
theorem Is.same {H H':Hp} (s:aw H H'):∀ {d:D} {v:V},Is H d v->Is H' d v
 | .non,_,h=>h
 | .bl _,_,h=>h
 | .int _,_,h=>h
 | .str _,_,h=>h
 | .tup _,_,h=>by
  simp only[Is] at h ⊢
  obtain⟨a,vs,e,h1,h2⟩:=h
  exact⟨a,vs,e,s _ _ h1,af.same s h2⟩
 | .lst _,_,h=>by
  simp only[Is] at h ⊢
  obtain⟨a,vs,e,h1,h2⟩:=h
  exact⟨a,vs,e,s _ _ h1,af.same s h2⟩
theorem af.same {H H':Hp} (s:aw H H'):∀ {d:List D} {v:List V},af H d v->af H' d v
 | [],_,h=>h
 | _ :: _,_,h=>by
  simp only[af] at h ⊢
  obtain⟨v,r,e,h1,h2⟩:=h
  exact⟨v,r,e,Is.same s h1,af.same s h2⟩
end
theorem af.length {H:Hp}:∀ {ds:List D} {vs:List V},af H ds vs->vs.length=ds.length
 | [],_,h=>by simp only[af] at h;rw[h];rfl
 | _ :: _,_,h=>by
  simp only[af] at h
  obtain⟨v,r,rfl,_,h2⟩:=h
  rw[List.length_cons,List.length_cons,af.length h2]
theorem af.get {H:Hp}:∀ {ds:List D} {vs:List V} {i:Nat} {v:V},af H ds vs->vs[i]? = some v->∃ d,ds[i]? = some d/\Is H d v
 | [],_,i,v,h,e=>by simp only[af] at h;rw[h] at e;simp at e
 | d :: ds,_,i,v,h,e=>by
  simp only[af] at h
  obtain⟨v',r,rfl,h1,h2⟩:=h
  cases i with
  | zero=>simp at e;subst e;exact⟨d,rfl,h1⟩
  | succ i=>simp at e;simpa using af.get h2 e
theorem af.nil {H:Hp}:af H [] []:=by simp only[af]
theorem af.cons {H:Hp} {d:D} {ds:List D} {v:V} {vs:List V} (h:Is H d v) (r:af H ds vs):af H (d :: ds) (v :: vs):=by
 simp only[af]
 exact⟨v,vs,rfl,h,r⟩
theorem af.snoc {H:Hp} {d:D} {v:V}:∀ {ds:List D} {vs:List V},af H ds vs->Is H d v->af H (ds ++ [d]) (vs ++ [v])
 | [],_,h,q=>by simp only[af] at h;subst h;exact .cons q .nil
 | _ :: _,_,h,q=>by
  simp only[af] at h
  obtain⟨v',r,rfl,h1,h2⟩:=h
  exact .cons h1 (af.snoc h2 q)
mutual
noncomputable def dep:D->Nat
 | .tup ds=>bf ds + 1
 | .lst ds=>bf ds + 1
 | _=>0
noncomputable def bf:List D->Nat
 | []=>0
 | d :: ds=>max (dep d) (bf ds)
end
mutual
noncomputable def iV:D->Bool
 | .tup _=>false
 | .lst ds=>decide (ds.length <= 1000) && kK ds
 | _=>true
noncomputable def kK:List D->Bool
 | []=>true
 | d :: ds=>iV d && kK ds
end
theorem y6:∀ {ds:List D} {i:Nat} {d:D},ds[i]? = some d->dep d <= bf ds
 | [],i,d,e=>by simp at e
 | d' :: ds,0,d,e=>by simp at e;subst e;simp only[bf];exact Nat.le_max_left _ _
 | d' :: ds,i + 1,d,e=>by simp at e;simp only[bf];exact Nat.le_trans (y6 e) (Nat.le_max_right _ _)
noncomputable def bU:D->String
 | .non => "NoneType" | .bl _ => "bool" | .int _ => "int" | .str _ => "str" | .tup _ => "tuple" | .lst _ => "list"
theorem Is.ty {K:PySem.W.Frag} {H:Hp}:∀ {d:D} {v:V},Is H d v->dq K H v (.type (bU d))
 | .non,_,h=>by cases (show _=_ from h);exact .non
 | .bl b,_,h=>by cases (show _=_ from h);exact .bl b
 | .int i,_,h=>by cases (show _=_ from h);exact .int i
 | .str x,_,h=>by cases (show _=_ from h);exact .str x
 | .tup _,_,h=>by
  simp only[Is] at h
  obtain⟨a,vs,rfl,h1,_⟩:=h
  exact .tup h1
 | .lst _,_,h=>by
  simp only[Is] at h
  obtain⟨a,vs,rfl,h1,_⟩:=h
  exact .lst h1
noncomputable def aH (T c:String):Bool:=T == c || (T == "bool" && c == "int")
section
variable {K:PySem.W.Frag}
theorem Ks:∀ T∈["NoneType", "bool", "int", "str", "tuple", "list"],PySem.W.kitOne K (.type T) (.type "bool")=some (aH T "bool"):=by
 intro T hT
 simp only[List.mem_cons,List.not_mem_nil,or_false] at hT
 rcases hT with rfl | rfl | rfl | rfl | rfl | rfl<;>kernel_rfl
theorem Kt:∀ T∈["NoneType", "bool", "int", "str", "tuple", "list"],PySem.W.kitOne K (.type T) (.type "int")=some (aH T "int"):=by
 intro T hT
 simp only[List.mem_cons,List.not_mem_nil,or_false] at hT
 rcases hT with rfl | rfl | rfl | rfl | rfl | rfl<;>kernel_rfl
theorem Ku:∀ T∈["NoneType", "bool", "int", "str", "tuple", "list"],PySem.W.kitOne K (.type T) (.type "str")=some (aH T "str"):=by
 intro T hT
 simp only[List.mem_cons,List.not_mem_nil,or_false] at hT
 rcases hT with rfl | rfl | rfl | rfl | rfl | rfl<;>kernel_rfl
theorem kit_tuple:∀ T∈["NoneType", "bool", "int", "str", "tuple", "list"],PySem.W.kitOne K (.type T) (.type "tuple")=some (aH T "tuple"):=by
 intro T hT
 simp only[List.mem_cons,List.not_mem_nil,or_false] at hT
 rcases hT with rfl | rfl | rfl | rfl | rfl | rfl<;>kernel_rfl
theorem Kv:∀ T∈["NoneType", "bool", "int", "str", "tuple", "list"],PySem.W.kitOne K (.type T) (.type "list")=some (aH T "list"):=by
 intro T hT
 simp only[List.mem_cons,List.not_mem_nil,or_false] at hT
 rcases hT with rfl | rfl | rfl | rfl | rfl | rfl<;>kernel_rfl
theorem sU (d:D):bU d∈["NoneType", "bool", "int", "str", "tuple", "list"]:=by cases d<;>simp[bU]
end
section
variable {X:Cx}
theorem PE.weak {e:Expr} {t t':TE} (h:PE X e t) (k:∀ σ H Q,t' σ H Q->t σ H Q):PE X e t':=fun pins s σ H Q I q=>h pins s σ H Q I (k σ H Q q)
theorem PT.weak {e:Expr} {t t':TT} (h:PT X e t) (k:∀ σ H Q,t' σ H Q->t σ H Q):PT X e t':=fun pins s σ H Q I q=>h pins s σ H Q I (k σ H Q q)
theorem PA.weak {es:List Expr} {t t':TA} (h:PA X es t) (k:∀ σ H Q,t' σ H Q->t σ H Q):PA X es t':=fun pos pins s σ H Q I q=>h pos pins s σ H Q I (k σ H Q q)
theorem PS.weak {st:Stmt} {t t':TS} (h:PS X st t) (k:∀ D σ H,t' D σ H->t D σ H):PS X st t':=fun pins s σ H D I q=>h pins s σ H D I (k D σ H q)
theorem gN.weak {st:List Stmt} {t t':TS} (h:gN X st t) (k:∀ D σ H,t' D σ H->t D σ H):gN X st t':=fun pins s σ H D I q=>h pins s σ H D I (k D σ H q)
end
section
variable {κ : Type} [DecidableEq κ]
noncomputable def bH (kvs:List (κ × V)) (k : κ):Option V:=(kvs.find? fun kv=>decide (kv.1=k)).map (·.2)
noncomputable def putK (kvs:List (κ × V)) (k : κ) (v:V):List (κ × V) :=
 if (kvs.any fun kv=>decide (kv.1=k))=true then kvs.map (fun kv=>if kv.1=k then (kv.1,v) else kv) else kvs ++ [(k,v)]
theorem sV {p : κ × V} {r:List (κ × V)} {k : κ} (e:p.1=k):bH (p :: r) k=some p.2:=by simp[bH,List.find?_cons,e]
theorem sW {p : κ × V} {r:List (κ × V)} {k : κ} (e:¬ p.1=k):bH (p :: r) k=bH r k:=by simp[bH,List.find?_cons,e]
theorem y7 (k : κ):∀ kvs:List (κ × V),(kvs.any fun kv=>decide (kv.1=k))=(bH kvs k).isSome
 | []=>rfl
 | p :: r=>by
  rw[List.any_cons]
  by_cases e:p.1=k
  ·simp only[sV e,decide_eq_true e,Bool.true_or,Option.isSome_some]
  ·rw[sW e,decide_eq_false e,Bool.false_or];exact y7 k r
theorem y8 (kvs:List (κ × V)) (k : κ) (v:V):(putK kvs k v).length <= kvs.length + 1:=by
 unfold putK
 split
 ·rw[List.length_map];omega
 ·rw[List.length_append,List.length_cons,List.length_nil];omega
theorem Kw {kvs:List (κ × V)} {k : κ} (v:V) (h:bH kvs k=none):putK kvs k v=kvs ++ [(k,v)]:=by
 unfold putK
 rw[y7,h]
 exact if_neg (by decide)
theorem hU.d6 {o:Option V} {u:Option Value} (r:hU o u):o.isSome=u.isSome:=by
 cases o with
 | none=>cases u with
  | none=>rfl
  | some _=>exact (show False from r).elim
 | some _=>cases u with
  | none=>exact (show False from r).elim
  | some _=>rfl
theorem KV.val {kvs:List (κ × V)} {vs:List (κ × Value)} (r:KV kvs vs) (k : κ):hU (bH kvs k) (valueAt vs k):=by
 unfold KV at r
 induction r with
 | nil=>exact True.intro
 | @cons p q ps qs h t ih =>
  obtain⟨h1,h2⟩:=h
  by_cases e:p.1=k
  ·have e':q.1=k:=h1.symm.trans e
   have b:valueAt (q :: qs) k=some q.2:=by simp[valueAt,List.find?_cons,e']
   rw[sV e,b];exact h2
  ·have e':¬ q.1=k:=fun z=>e (h1.trans z)
   have b:valueAt (q :: qs) k=valueAt qs k:=by simp[valueAt,List.find?_cons,e']
   rw[sW e,b];exact ih
theorem KV.any {kvs:List (κ × V)} {vs:List (κ × Value)} (r:KV kvs vs) (k : κ):(kvs.any fun kv=>decide (kv.1=k))=vs.any fun kv=>decide (kv.1=k):=by
 unfold KV at r
 induction r with
 | nil=>rfl
 | cons h t ih=>rw[List.any_cons,List.any_cons,ih,h.1]
theorem KV.h8 {kvs:List (κ × V)} {vs:List (κ × Value)} (r:KV kvs vs) (k : κ) {y:V} {u:Value} (ry:RelV y u) :
  KV (kvs.map fun kv=>if kv.1=k then (kv.1,y) else kv) (vs.map fun kv=>if kv.1=k then (kv.1,u) else kv):=by
 unfold KV at r ⊢
 induction r with
 | nil=>exact .nil
 | @cons p q ps qs h t ih =>
  rw[List.map_cons,List.map_cons]
  refine .cons ?_ ih
  obtain⟨h1,h2⟩:=h
  by_cases e:p.1=k
  ·rw[if_pos e,if_pos (h1.symm.trans e)];exact⟨h1,ry⟩
  ·rw[if_neg e,if_neg (fun z=>e (h1.trans z))];exact⟨h1,h2⟩
theorem KV.put {kvs:List (κ × V)} {vs:List (κ × Value)} (r:KV kvs vs) (k : κ) {y:V} {u:Value} (ry:RelV y u):KV (putK kvs k y) (stored vs k u):=by
 unfold putK stored
 rw[r.any k]
 by_cases e:(vs.any fun kv=>decide (kv.1=k))=true
 ·rw[if_pos e,if_pos e];exact r.h8 k ry
 ·rw[if_neg e,if_neg e];exact Paired.snoc r ⟨rfl,ry⟩
theorem KV.length {kvs:List (κ × V)} {vs:List (κ × Value)} (r:KV kvs vs):kvs.length=vs.length:=Paired.length r
end
theorem vh {P:Program} {w:World} {k:Key} {u:Value} (r:RelV (kV k) u):(gJ P w).is k u=true:=by
 cases k with
 | inl i=>obtain⟨t,e⟩:=(show ∃ t,u=Value.int i t from r);subst e;exact Hi P w i t
 | inr x=>obtain⟨t,e⟩:=(show ∃ t,u=Value.str x t from r);subst e;exact Hj P w x t
theorem C5 {P:Program} {w:World}:∀ {ks:List Key} {us:List Value},Vals (ks.map kV) us->ItemsAre (gJ P w) ks us
 | [],_,r=>by rw[List.map_nil] at r;cases r;exact .nil
 | k :: ks,_,r=>by
  rw[List.map_cons] at r
  cases r with
  | cons h t=>exact .cons (vh h) (C5 t)
noncomputable abbrev KT (H:Hp):List (List Key × V)->List (List Key × Addr × Value)->Prop:=Paired fun p q=>p.1=q.1/\H q.2.1=some (.tup (p.1.map kV))/\RelV p.2 q.2.2
theorem KT.val {H:Hp} {kvs:List (List Key × V)} {xs:List (List Key × Addr × Value)} (r:KT H kvs xs) (k:List Key):hU (bH kvs k) ((atKey xs k).map (·.2)):=by
 induction r with
 | nil=>exact True.intro
 | @cons p q ps qs h t ih =>
  obtain⟨h1,_,h2⟩:=h
  by_cases e:p.1=k
  ·have e':q.1=k:=h1.symm.trans e
   have b:atKey (q :: qs) k=some q.2:=by simp[atKey,List.find?_cons,e']
   rw[sV e,b];exact h2
  ·have e':¬ q.1=k:=fun z=>e (h1.trans z)
   have b:atKey (q :: qs) k=atKey qs k:=by simp[atKey,List.find?_cons,e']
   rw[sW e,b];exact ih
theorem KT.h8 {H:Hp} {kvs:List (List Key × V)} {xs:List (List Key × Addr × Value)} (r:KT H kvs xs) (k:List Key) {y:V} {u:Value} (ry:RelV y u) :
  KT H (kvs.map fun kv=>if kv.1=k then (kv.1,y) else kv) (xs.map (putAt k u)):=by
 induction r with
 | nil=>exact .nil
 | @cons p q ps qs h t ih =>
  rw[List.map_cons,List.map_cons]
  refine .cons ?_ ih
  obtain⟨h1,h2,h3⟩:=h
  unfold putAt
  by_cases e:p.1=k
  ·rw[if_pos e,if_pos (h1.symm.trans e)];exact⟨h1,h2,ry⟩
  ·rw[if_neg e,if_neg (fun z=>e (h1.trans z))];exact⟨h1,h2,h3⟩
theorem KT.put {H:Hp} {kvs:List (List Key × V)} {xs:List (List Key × Addr × Value)} (r:KT H kvs xs) (k:List Key) {b:Addr} {y:V} {u:Value} (hb:H b=some (.tup (k.map kV))) (ry:RelV y u) :
  KT H (putK kvs k y) (storedH xs k b u):=by
 have e:(kvs.any fun kv=>decide (kv.1=k))=(atKey xs k).isSome:=by
  rw[y7,(r.val k).d6,Option.isSome_map]
 unfold putK storedH
 rw[e]
 by_cases q:(atKey xs k).isSome=true
 ·rw[if_pos q,if_pos q];exact r.h8 k ry
 ·rw[if_neg q,if_neg q];exact Paired.snoc r ⟨rfl,hb,ry⟩
theorem KT.keeps {H H':Hp} {kvs:List (List Key × V)} {xs:List (List Key × Addr × Value)} (r:KT H kvs xs) (ht:∀ b ys,H b=some (.tup ys)->H' b=some (.tup ys)):KT H' kvs xs :=
 Paired.nR r fun _ _ z=>⟨z.1,ht _ _ z.2.1,z.2.2⟩
section
variable {P:Program} {w:World} {H:Hp} {h:Heap} {a:Addr}
theorem C6 {u:HO} (ok:dh P w H h) (e:Rd H a u):aI P w H h a u:=e.ok ok
theorem C7 {kvs:List (Key × V)} (ok:dh P w H h) (e:Rd H a (.dK kvs)):kvs.length <= sizeLine/\(a == sysModules)=false/\∃ vs,KV kvs vs/\h.DictOf (gJ P w) a vs :=
 show aI P w H h a (.dK kvs) from C6 ok e
theorem vi {kvs:List (Key × V)} (ok:dh P w H h) (e:H a=some (.dK kvs)):kvs.length <= sizeLine/\(a == sysModules)=false/\∃ vs,KV kvs vs/\h.DictOf (gJ P w) a vs:=C7 ok (.inl e)
theorem y9 {ks:List Key} (ok:dh P w H h) (e:H a=some (.tup (ks.map kV))):(tupleKind (gJ P w)).is h ks a:=by
 obtain⟨_,ag,r,o,h1,h2,n,h3⟩:=(show aI P w H h a (.tup (ks.map kV)) from ok a _ e)
 exact⟨o,ag.toArray,n,h1,h2,h3,by simpa using C5 r⟩
theorem C8 {kvs:List (List Key × V)} (ok:dh P w H h) (e:Rd H a (.dT kvs)):kvs.length <= sizeLine/\(a == sysModules)=false ∧
  ∃ xs,KT H kvs xs/\h.DictOfH (tupleKind (gJ P w)) a xs:=by
 obtain⟨z,y,xs,r,o,es,ep,h1,h2,h3,h4,h5⟩:=(show aI P w H h a (.dT kvs) from C6 ok e)
 refine⟨z,y,xs,r,o,es,ep,h1,h2,h3,h4,fun x hx => ?_,h5⟩
 have all:∀ {l:List (List Key × V)} {m:List (List Key × Addr × Value)},KT H l m->∀ x∈m,(tupleKind (gJ P w)).is h x.1 x.2.1:=by
  intro l m q
  induction q with
  | nil=>intro x hx;exact nomatch hx
  | @cons p q ps qs hq t ih =>
   intro x hx
   rcases List.mem_cons.mp hx with e | hx
   ·subst e
    exact y9 ok (by rw[<-hq.1];exact hq.2.1)
   ·exact ih x hx
 exact all r x hx
theorem Kx {kvs:List (List Key × V)} (ok:dh P w H h) (e:H a=some (.dT kvs)):kvs.length <= sizeLine/\(a == sysModules)=false ∧
  ∃ xs,KT H kvs xs/\h.DictOfH (tupleKind (gJ P w)) a xs:=C8 ok (.inl e)
end
noncomputable def iW (H:Hp) (a:Addr) (y:V) (r:Option V):Prop :=
 (∃ kvs k,Rd H a (.dK kvs)/\y=kV k/\r=bH kvs k)\/∃ kvs k b,Rd H a (.dT kvs)/\y = .ref b/\H b=some (.tup (k.map kV))/\r=bH kvs k
noncomputable def jT (H:Hp) (a:Addr) (y v:V) (H':Hp):Prop :=
 (∃ kvs k,H a=some (.dK kvs)/\y=kV k/\kvs.length < sizeLine/\H'=upd H a (.dK (putK kvs k v))) ∨
 ∃ kvs k b,H a=some (.dT kvs)/\y = .ref b/\H b=some (.tup (k.map kV))/\kvs.length < sizeLine/\H'=upd H a (.dT (putK kvs k v))
theorem iW.k {H:Hp} {a:Addr} {kvs:List (Key × V)} {k:Key} (e:H a=some (.dK kvs)):iW H a (kV k) (bH kvs k) := .inl ⟨kvs,k,.inl e,rfl,rfl⟩
theorem jT.k {H:Hp} {a:Addr} {kvs:List (Key × V)} {k:Key} {v:V} (e:H a=some (.dK kvs)) (hl:kvs.length < sizeLine):jT H a (kV k) v (upd H a (.dK (putK kvs k v))) := .inl ⟨kvs,k,e,rfl,hl,rfl⟩
section
variable {X:Cx} {pins:List (Addr × Obj)} {σ : St} {H:Hp} {s:Shared} {a:Addr} {y v:V} {u r:Value} {o:Option V} {A:Around} {E:Value->Shared->Prop}
theorem Inv.big (I:Inv X pins σ H s):sysModules < s.heap.objs.size:=by
 have h:mainGlobals < s.heap.objs.size:=(I.mod.glob.keeps I.bk).lt
 exact Nat.lt_trans (by decide) h
theorem y_ {Q:Value->Shared->Prop} (hu:A.units + 1 < cLine) (I:Inv X pins σ H s) (g:iW H a y o) (ry:RelV y u) (h:∀ s',Inv X pins σ H s'->Q (.bool o.isSome) s') :
  wpAny (model X.prog X.w) A (compareOp .In u (.ref a)) Q E s:=by
 rcases g with⟨kvs,k,e,ey,l⟩ | ⟨kvs,k,b,e,ey,eb,l⟩
 ·subst ey
  obtain⟨z,hd,vs,rel,dd⟩:=C7 I.aJ e
  refine wpAny_in_of (vh ry) hd dd.mapOf ?_
  rw[<-(rel.val k).d6,<-l]
  exact h _ (I.tok _)
 ·subst ey
  cases (show u=Value.ref b from ry)
  obtain⟨z,hd,xs,rel,dd⟩:=C8 I.aJ e
  refine wpAny_in_heap (tupleKind_room_in1 hu) (y9 I.aJ eb) hd dd ?_
  have q:=(rel.val k).d6
  rw[Option.isSome_map] at q
  rw[<-q,<-l]
  exact h _ (I.tok _)
theorem za {h':Heap} {t':Nat} {ob:HO} (I:Inv X pins σ H s) (mu:rN (H a)) (hs:Heap.SameBut a s.heap h') (he:∃ q,h'.get? a=some q) (new:aI X.prog X.w (upd H a ob) h' a ob) :
  Inv X pins σ (upd H a ob) { s with heap:=h',toks:=t' } :=
 I.write (x:=a) (e:=a) mu (.inl rfl) (fun b q hb z=>(hs.2 b hb).trans z) he new
theorem C9 {P:Program} {w:World} {H':Hp} {h':Heap} {kvs:List (Key × V)} {vs:List (Key × Value)} (z:kvs.length <= sizeLine) (hd:(a == sysModules)=false) (rel:KV kvs vs) (dd:h'.DictOf (gJ P w) a vs) :
  aI P w H' h' a (.dK kvs):=⟨z,hd,vs,rel,dd⟩
theorem Ky {H':Hp} {Q:Unit->Shared->Prop} (hu:A.units + 1 < cLine) (I:Inv X pins σ H s) (g:jT H a y v H') (ry:RelV y u) (rv:RelV v r) (h:∀ s',Inv X pins σ H' s'->Q () s') :
  wpAny (model X.prog X.w) A (setItem (.ref a) u r) Q E s:=by
 rcases g with⟨kvs,k,e,ey,l,eH⟩ | ⟨kvs,k,b,e,ey,eb,l,eH⟩
 ·subst ey eH
  obtain⟨z,hd,vs,rel,dd⟩:=vi I.aJ e
  have hz:vs.length <= sizeLine:=by rw[<-rel.length];exact z
  have hl:(putK kvs k v).length <= sizeLine:=by have:=y8 kvs k v;omega
  refine wpAny_setItem_pairs (hsz:=hz) (vh ry) dd fun h' oH hs=>h _ ?_
  have he:∃ q,h'.get? a=some q:=let ⟨q,_,_,hq,_⟩:=oH; ⟨q,hq⟩
  exact za I (by rw[e];exact True.intro) hs he (C9 hl hd (rel.put k rv) oH)
 ·subst ey eH
  cases (show u=Value.ref b from ry)
  obtain⟨z,hd,xs,rel,dd⟩:=Kx I.aJ e
  have hz:xs.length <= sizeLine:=by rw[<-Paired.length rel];exact z
  have hl:(putK kvs k v).length <= sizeLine:=by have:=y8 kvs k v;omega
  refine wpAny_setItem_heap (hsz:=hz) (tupleKind_room_in1 hu) (y9 I.aJ eb) dd fun h' oH hs=>h _ ?_
  obtain⟨q,es,ep,hq,h2,h3,h4,_,h5⟩:=oH
  refine za I (by rw[e];exact True.intro) hs ⟨q,hq⟩ ⟨hl,hd,_,(rel.put k eb rv).keeps fun c ys ec => ?_,q,es,ep,hq,h2,h3,h4,h5⟩
  rw[aS (Hk ec e (fun z=>nomatch z))]
  exact ec
end
section
variable {X:Cx} {pins:List (Addr × Obj)} {σ : St} {H:Hp} {s:Shared} {a:Addr} {kvs:List (Key × V)} {k:Key} {u:Value} {A:Around} {E:Value->Shared->Prop}
end
noncomputable def oJ (ty td:TE):TE:=fun σ H Q=>ty σ H fun y H1=>td σ H1 fun x H2=>∃ a o,x = .ref a/\iW H2 a y o/\Q (.bl o.isSome) H2
noncomputable def C_ (td ty tv:TE):TS:=fun D σ H=>tv σ H fun v H1=>td σ H1 fun x H2=>ty σ H2 fun y H3=>∃ a H4,x = .ref a/\jT H3 a y v H4/\D.nx σ H4
section
variable {X:Cx} {o i e value:Expr} {pos pos' yj:Pos} {td ty tv:TE}
theorem Kz (hu:X.A.units + 1 < cLine) (hi:PE X i ty) (ho:PE X o td):PC X .In i o (oJ ty td):=by
 intro pins s σ H Q I h
 refine aW (hi pins s σ H _ I h) fun iv s1 h0_ => el5 h0_ fun y H1 I1 ry q1 =>aW (ho pins s1 σ H1 _ I1 q1) fun u s2 ⟨x,H2,I2,rx,a,ov,ex,g,q2⟩ => ?_
 subst ex
 obtain rfl:u=Value.ref a:=rx
 exact y_ hu I2 g ry fun s3 I3=>⟨.bl ov.isSome,H2,I3,rfl,q2⟩
theorem KA (hu:X.A.units + 1 < cLine) (ho:PE X o td) (hi:PE X i ty) (hv:PE X value tv) (hs:swapsWith value (some (.Subscript o i pos')) pos.line X.env=pure false) :
  PS X (.Assign [.Subscript o i pos'] value pos) (C_ td ty tv):=by
 intro pins s σ H D I h
 refine wpAny_Assign_Subscript (aW (hv pins s σ H _ I h) fun r s1 h0_ => el5 h0_ fun v H1 I1 rv q1 =>aW (ho pins s1 σ H1 _ I1 q1) fun u s2 h0_ => el5 h0_ fun x H2 I2 rx q2 =>aW (hi pins s2 σ H2 _ I2 q2) fun iv s3 ⟨y,H3,I3,ry,a,H4,ex,g,q3⟩ => ?_) hs
 subst ex
 obtain rfl:u=Value.ref a:=rx
 exact Ky hu I3 g ry rv fun s4 I4=>⟨σ,H4,I4,q3⟩
end
theorem KC {P:Program} {w:World} {H:Hp} (h:Heap) (hb:sysModules < h.objs.size):aI P w H (h.push { cls := .type "dict",data := .dict #[] }) h.objs.size (.dK []) :=
 ⟨Nat.zero_le _,beq_eq_false_iff_ne.mpr (Ne.symm (Nat.ne_of_lt hb)),[],.nil,Heap.DictOf.new h⟩
noncomputable def zb:TE:=fun _ H Q=>∀ p,H p=none->Q (.ref p) (upd H p (.dK []))
section
variable {X:Cx} {pos:Pos}
theorem KD:PE X (.Dict [] [] pos) zb:=fun pins s σ H Q I h =>
 wpAny_Dict_empty ⟨.ref s.heap.objs.size,_,I.laid (a:=s.heap.objs.size) (o := .dK []) (t':=s.toks) (fun _ _ q=>Heap.get?_push_of_some _ q) (Nat.le_refl _) (KC s.heap I.big),rfl,h _ (I.aJ.fresh (Nat.le_refl _))⟩
end
section
variable {X:Cx} {pins:List (Addr × Obj)} {σ : St} {H:Hp} {s:Shared} {a:Addr} {y d:V} {u r:Value} {o:Option V} {A:Around} {E:Value->Shared->Prop}
end
section
variable {X:Cx} {o e f:Expr} {apos b7:Pos} {td ty tx:TE}
end
section
variable {X:Cx} {pins:List (Addr × Obj)} {σ : St} {H:Hp} {s:Shared} {a:Addr} {kvs:List (Key × V)} {A:Around} {E:Value->Shared->Prop}
end
section
variable {X:Cx} {pins:List (Addr × Obj)} {σ : St} {H:Hp} {s:Shared} {a:Addr} {y:V} {u:Value} {A:Around} {E:Value->Shared->Prop}
end
end L2
namespace L2
section
variable {κ : Type} [DecidableEq κ]
end
end L2
namespace L2
open PySem PySem.Spec PyProof.Rows
structure JE (X:Cx) (e:Expr) (t:TE):Prop where
 out:PE X e t
structure JT (X:Cx) (e:Expr) (t:TT):Prop where
 out:PT X e t
structure JW (X:Cx) (e:Expr) (t:TT):Prop where
 out:PW X e t
structure JA (X:Cx) (es:List Expr) (t:TA):Prop where
 out:PA X es t
structure JS (X:Cx) (st:Stmt) (t:TS):Prop where
 out:PS X st t
structure fB (X:Cx) (st:List Stmt) (t:TS):Prop where
 out:gN X st t
structure JF (X:Cx) (ifs:List Expr) (t:TT):Prop where
 out:PF X ifs t
structure JG (X:Cx) (tg:Expr) (t:TG):Prop where
 out:PG X tg t
structure jk (X:Cx) (ts:List Expr) (t:iw):Prop where
 out:rX X ts t
structure JI (X:Cx) (tg iter:Expr) (wi:TI):Prop where
 out:PI X tg iter wi
structure JC (X:Cx) (op:CmpOp) (a b:Expr) (t:TE):Prop where
 out:PC X op a b t
theorem JE.weak {X:Cx} {e:Expr} {t t':TE} (h:JE X e t) (k:∀ σ H Q,t' σ H Q->t σ H Q):JE X e t':=⟨PE.weak h.out k⟩
theorem JT.weak {X:Cx} {e:Expr} {t t':TT} (h:JT X e t) (k:∀ σ H Q,t' σ H Q->t σ H Q):JT X e t':=⟨PT.weak h.out k⟩
theorem JA.weak {X:Cx} {es:List Expr} {t t':TA} (h:JA X es t) (k:∀ σ H Q,t' σ H Q->t σ H Q):JA X es t':=⟨PA.weak h.out k⟩
theorem JS.weak {X:Cx} {st:Stmt} {t t':TS} (h:JS X st t) (k:∀ D σ H,t' D σ H->t D σ H):JS X st t':=⟨PS.weak h.out k⟩
theorem fB.weak {X:Cx} {st:List Stmt} {t t':TS} (h:fB X st t) (k:∀ D σ H,t' D σ H->t D σ H):fB X st t':=⟨gN.weak h.out k⟩
theorem JW.jt {X:Cx} {e:Expr} {t:TT} (h:JW X e t):JT X e t:=⟨PW.pt h.out⟩
theorem KG {X:Cx} {i:Nat} {x:Str} {pos:Pos} (hN:X.N[i]? = some x) (hv:nU X.env.scope x) (hd:(x == ("__debug__" : Str))=false:=by decide) (gO:(x == ("__classdict__" : Str))=false:=by decide):JE X (.Name x pos) (eE i):=⟨L2.B0 hN hv hd gO⟩
theorem bR {X:Cx} {i j pos}:JE X (.Constant (.int i) j pos) (tC (.int i)):=⟨L2.B2⟩
theorem KH {X:Cx} {b j pos}:JE X (.Constant (.bool b) j pos) (tC (.bl b)):=⟨L2.Hr⟩
theorem KI {X:Cx} {j pos}:JE X (.Constant .none j pos) (tC .non):=⟨L2.Hs⟩
theorem KJ {X:Cx} {x:Str} {v:V} {u:Value} {pos:Pos} (hg:Gl X x) (hm:X.mg x=some u) (r:RelV v u) (hd:(x == ("__debug__" : Str))=false:=by decide):JE X (.Name x pos) (tC v):=⟨L2.Ht hg hm r hd⟩
theorem KN {X:Cx} {x:Str} {v:V} {u:Value} {pos:Pos} (hg:Gl X x) (hm:X.mg x=none) (hv:bootBuiltins x=some u) (r:RelV v u) (hn:x ≠ "__name__" := by decide) (hd:(x == ("__debug__" : Str))=false:=by decide):JE X (.Name x pos) (tC v):=⟨L2.Hu hg hm hv r hn hd⟩
theorem KO {X:Cx} {a b:Expr} {pos:Pos} {op:CmpOp} {t:TE} (h:JC X op a b t) (h1:behindInMarks op b=false:=by first | exact Hw _ (by decide) (by decide) | rfl):JT X (.Compare a [op] [b] pos) (tB t):=⟨L2.Hv h.out h1⟩
theorem KP {X:Cx} {e:Expr} {t:TE} (h:JE X e t) (he:∀ whole,isTrue e X.env whole=(do let v <- whole;standAt e.pos;holding [v] (truthy v)):=by intro _;rfl):JT X e (tB t):=⟨L2.Hx h.out he⟩
theorem KQ {X:Cx} {a:Expr} {pos:Pos} {tA:TT} (ha:JT X a tA):JW X (.BoolOp .And [a] pos) tA:=⟨L2.Hy ha.out⟩
theorem KR {X:Cx} {a:Expr} {pos:Pos} {tA:TT} (ha:JT X a tA):JW X (.BoolOp .Or [a] pos) tA:=⟨L2.Hz ha.out⟩
theorem KU {X:Cx} {a b:Expr} {pos:Pos} {tA kG:TT} {rest:List Expr} (ha:JT X a tA) (hb:JW X (.BoolOp .And (b :: rest) pos) kG):JW X (.BoolOp .And (a :: b :: rest) pos) (nX tA kG):=⟨L2.HA ha.out hb.out⟩
theorem KW {X:Cx} {a b:Expr} {pos:Pos} {tA kG:TT} {rest:List Expr} (ha:JT X a tA) (hb:JW X (.BoolOp .Or (b :: rest) pos) kG):JW X (.BoolOp .Or (a :: b :: rest) pos) (x9 tA kG):=⟨L2.HB ha.out hb.out⟩
theorem KY {X:Cx} {a:Expr} {pos:Pos} {tA:TT} (ha:JT X a tA):JT X (.UnaryOp .Not a pos) (rV tA):=⟨L2.HC ha.out⟩
theorem KZ {X:Cx} {a:Expr} {pos:Pos} {op} {t:TE} (h:JE X a t):JE X (.BoolOp op [a] pos) t:=⟨L2.HD h.out⟩
theorem K1 {X:Cx} {a b:Expr} {ta tb:TE} {pos:Pos} {rest:List Expr} (ha:JE X a ta) (hb:JE X (.BoolOp .And (b :: rest) pos) tb):JE X (.BoolOp .And (a :: b :: rest) pos) (B4 ta tb):=⟨L2.HE ha.out hb.out⟩
theorem K4 {X:Cx} {a:Expr} {ta:TE} {pos:Pos} (ha:JE X a ta):JE X (.UnaryOp .Not a pos) (B5 ta):=⟨L2.HF ha.out⟩
theorem K5 {X:Cx} {a b:Expr} {ta tb:TE} {pos:Pos} {tA:TT} {c:Expr} (hc:JT X c tA) (ha:JE X a ta) (hb:JE X b tb):JE X (.IfExp c a b pos) (B6 tA ta tb):=⟨L2.HG hc.out ha.out hb.out⟩
theorem iA {X:Cx}  : fB X [] u5:=⟨L2.HH⟩
theorem kL {X:Cx} {st:Stmt} {rest:List Stmt} {t u:TS} (h1:JS X st t) (h2:fB X rest u):fB X (st :: rest) (gP t u):=⟨L2.HI h1.out h2.out⟩
theorem ql {X:Cx} {st:Stmt} {t:TS} (h1:JS X st t):fB X [st] t:=⟨L2.HJ h1.out⟩
theorem vj {X:Cx} {e:Expr} {te:TE} {pos:Pos} (he:JE X e te) (hs:swapsWith e none pos.line X.env=pure false:=by rfl):JS X (.Expr e pos) (rW te):=⟨L2.HK he.out hs⟩
theorem zc {X:Cx} {e:Expr} {te:TE} {pos:Pos} (he:JE X e te):JS X (.Return (some e) pos) (nZ te):=⟨L2.HL he.out⟩
theorem Dc {X:Cx} {t u:TS} {pos:Pos} {c:Expr} {a b:List Stmt} {tc:TT} (hc:JT X c tc) (ha:fB X a t) (hb:fB X b u):JS X (.If c a b pos) (lu tc t u):=⟨L2.HM hc.out ha.out hb.out⟩
theorem sX {X:Cx} {pos:Pos} {i:Nat} {x:Str} (hN:X.N.Nodup) (hi:X.N[i]? = some x) (hx:Loc X.env.scope x) (hf:X.fn x=true\/X.env.scope.names.lookup x=some .local:=by first | exact .inl rfl | exact .inr rfl | assumption):JG X (.Name x pos) (jh i):=⟨L2.HN hN hi hx hf⟩
theorem gw {X:Cx}  : jk X [] n6:=⟨L2.HP⟩
theorem sY {X:Cx} {e:Expr} {es:List Expr} {t:TG} {u:iw} (h1:JG X e t) (h2:jk X es u) (hs:(assignEach (e :: es) X.env).map (·.2)=assign e X.env :: (assignEach es X.env).map (·.2):=by rfl):jk X (e :: es) (u6 t u):=⟨L2.HQ h1.out h2.out hs⟩
theorem zd {X:Cx} {pos:Pos} {es:List Expr} {k:Nat} {t:iw} {n:Nat} (hc:X.calm=true) (h:jk X es t) (hn:(assignEach es X.env).length=n:=by rfl) (jN:(assignEach es X.env).findIdx? (·.1)=none:=by rfl):JG X (.Tuple es k pos) (n8 X.K n t):=⟨L2.HR hc h.out hn jN⟩
theorem sZ {X:Cx} {pos:Pos} {o i:Expr} {to ti:TE} {t:lx} (ho:JE X o to) (hi:JE X i ti) (hs:n5 X t) (ha:∀ v,assign (.Subscript o i pos) X.env v=(do
   let ov <- holding [v] (eval o X.env)
   let iv <- holding [v,ov] (eval i X.env)
   standAt pos
   holding [v,ov,iv] (setItem ov iv v)
   release [v,ov,iv] []):=by intro _;rfl):JG X (.Subscript o i pos) (n9 to ti t):=⟨L2.HS ho.out hi.out hs ha⟩
theorem qm {X:Cx} {pos:Pos} {tg e:Expr} {te:TE} {g:TG} (he:JE X e te) (hg:JG X tg g) (hs:swapsWithSole [tg] e pos.line X.env=pure false:=by rfl) (hw:swappedStores [tg] e X.env=pure none:=by rfl) (h1:(assignEach [tg] X.env).map (·.2)=[assign tg X.env]:=by rfl):JS X (.Assign [tg] e pos) (eS te g):=⟨L2.HU he.out hg.out hs hw h1⟩
theorem s_ {X:Cx} {pos:Pos} {i:Nat} {x:Str} {e:Expr} {te:TE} {pos':Pos} (hN:X.N.Nodup) (hi:X.N[i]? = some x) (hx:Loc X.env.scope x) (he:JE X e te) (hs:swapsWith e (some (.Name x pos')) pos.line X.env=pure false:=by rfl) (hf:X.fn x=true\/X.env.scope.names.lookup x=some .local:=by first | exact .inl rfl | exact .inr rfl | assumption):JS X (.Assign [.Name x pos'] e pos) (eS te (jh i)):=⟨L2.HV hN hi hx he.out hs hf⟩
theorem K6 {X:Cx} {tg:Expr} {a:Expr} {ta:TA} {p pos:Pos} (hg:Gl X "range") (hm:X.mg "range" = none) (ha:JA X [a] ta) (hs:starEach [a] X.env=[(false,eval a X.env)]:=by rfl):JI X tg (.Call (.Name "range" p) [a] [] pos) (Ca ta):=⟨L2.HZ hg hm ha.out hs⟩
theorem K7 {X:Cx} {tg:Expr} {a b:Expr} {ta:TA} {p pos:Pos} (hg:Gl X "range") (hm:X.mg "range" = none) (ha:JA X [a,b] ta) (hs:starEach [a,b] X.env=[(false,eval a X.env),(false,eval b X.env)]:=by rfl) (dW:starEach [b] X.env=[(false,eval b X.env)]:=by rfl):JI X tg (.Call (.Name "range" p) [a,b] [] pos) (Cb ta):=⟨L2.H_ hg hm ha.out hs dW⟩
theorem ze {X:Cx} {tg:Expr} {iter:Expr} {body:List Stmt} {wi:TI} {g:TG} {tb:TS} {pos:Pos} (hp:PassesOwn (model X.prog X.w) X.A X.env X.xe) (hc:X.calm=true) (hi:JI X tg iter wi) (hg:JG X tg g) (hb:fB X body tb) (hs:∀ x,foldedSetIterable iter X.env x=pure x:=by intro _;rfl):JS X (.For tg iter body [] pos) (n_ wi g tb):=⟨L2.Ib hp hc hi.out hg.out hb.out hs⟩
theorem tj {X:Cx} {a b:Expr} {ta tb:TE} {pos:Pos} {op:Operator} {r:R2} (ho:cC X (binaryOp op) r) (ha:JE X a ta) (hb:JE X b tb):JE X (.BinOp a op b pos) (kH r ta tb):=⟨L2.Ie ho ha.out hb.out⟩
theorem K8 {X:Cx} {a b:Expr} {ta tb:TE} {pos:Pos} {op:CmpOp} {r:R2} (ho:cC X (compareOp op) r) (ha:JE X a ta) (hb:JE X b tb) (hm:behindInMarks op b=false):JE X (.Compare a [op] [b] pos) (kH r ta tb):=⟨L2.Iw ho ha.out hb.out hm⟩
theorem K9 {X:Cx} {a b:Expr} {ta tb:TE} {pos:Pos} {op:CmpOp} {r:R2} (ho:cC X (compareOp op) r) (ha:JE X a ta) (hb:JE X b tb) (hm:behindInMarks op b=false):JT X (.Compare a [op] [b] pos) (Ce (kH r ta tb)):=⟨L2.Iy ho ha.out hb.out hm⟩
theorem K_ {X:Cx} {a b c:Expr} {ta tb tc:TE} {pos:Pos} {op jO:CmpOp} {r r':R2} (ho:cC X (compareOp op) r) (iO:cC X (compareOp jO) r') (ha:JE X a ta) (hb:JE X b tb) (hc:JE X c tc) (hm:lastMarks [op,jO] [b,c]=false:=by with_unfolding_all rfl):JE X (.Compare a [op,jO] [b,c] pos) (Cf r r' ta tb tc):=⟨L2.Iz ho iO ha.out hb.out hc.out hm⟩
theorem aV {X:Cx}  : JA X [] eT:=⟨L2.IG⟩
theorem oK {X:Cx} {e:Expr} {es:List Expr} {te:TE} {t:TA} (ha:JE X e te) (hr:JA X es t) (hs:starEach (e :: es) X.env=(false,eval e X.env) :: starEach es X.env:=by rfl):JA X (e :: es) (eM te t):=⟨L2.oj ha.out hr.out hs⟩
theorem La {X:Cx} {es:List Expr} {t:TA} {pos:Pos} {x1} (h:JA X es t):JE X (.Tuple es x1 pos) (sh t):=⟨L2.IH h.out⟩
theorem tq {X:Cx} {es:List Expr} {t:TA} {pos:Pos} (h:JA X es t):JE X (.List es pos) (lB t):=⟨L2.II h.out⟩
theorem tu {X:Cx} {CX:iQ} {k:Nat} {f:Addr} {fd:FuncData} {ps:List Str} {sp:Sp} {jP:List V} {ds:List Value} {E:XK} {x:Str} {p pos:Pos} {e:Expr} {es:List Expr} {t:TA} (F:aT X.prog X.w X.K X.mg X.base CX k f fd ps sp) (hr:bG k X.A) (hg:Gl X x) (hm:X.mg x=some (.ref f)) (hk:PySem.W.keepIn X.K (.ref f)=true) (hb:Binds X.K fd ps ds) (hd:Vals jP ds) (hx:u_ CX X E) (ha:JA X (e :: es) t) (gs:(x == ("__debug__" : Str))=false:=by decide) (he:starEach (e :: es) X.env=(false,eval e X.env) :: starEach es X.env:=by rfl) (fW:(backTo pos (starEach es X.env)).any (·.1)=false:=by rfl):JE X (.Call (.Name x p) (e :: es) [] pos) (om sp jP E t):=⟨L2.IK F hr hg hm hk hb hd hx ha.out gs he fW⟩
theorem vk {X:Cx} {x:Str} {p pos:Pos} {e:Expr} {es:List Expr} {t:TA} {id:String} {r:List V->Hp->VK->Prop} (hc:fA X (.builtin id) r) (hg:Gl X x) (hm:X.mg x=none) (hv:bootBuiltins x=some (.builtin id)) (ha:JA X (e :: es) t) (hn:x ≠ "__name__" := by decide) (gs:(x == ("__debug__" : Str))=false:=by decide) (he:starEach (e :: es) X.env=(false,eval e X.env) :: starEach es X.env:=by rfl) (fW:(backTo pos (starEach es X.env)).any (·.1)=false:=by rfl):JE X (.Call (.Name x p) (e :: es) [] pos) (qa r t):=⟨L2.IP hc hg hm hv ha.out hn gs he fW⟩
theorem lJ {X:Cx} {x:Str} {p pos:Pos} {e:Expr} {es:List Expr} {t:TA} {T:String} {r:List V->Hp->VK->Prop} (hc:fA X (.type T) r) (hg:Gl X x) (hm:X.mg x=none) (hv:bootBuiltins x=some (.type T)) (ha:JA X (e :: es) t) (hn:x ≠ "__name__" := by decide) (gs:(x == ("__debug__" : Str))=false:=by decide) (he:starEach (e :: es) X.env=(false,eval e X.env) :: starEach es X.env:=by rfl) (fW:(backTo pos (starEach es X.env)).any (·.1)=false:=by rfl):JE X (.Call (.Name x p) (e :: es) [] pos) (qa r t):=⟨L2.IQ hc hg hm hv ha.out hn gs he fW⟩
theorem zf {X:Cx} {e:Expr} {te:TE} {lo hi:Option Expr} {tl th:TO} {pos p2:Pos} {r:V->Option Int->Option Int->Hp->VK->Prop} (hr:lE X r) (he:JE X e te) (hl:PO X lo tl) (hu:PO X hi th):JE X (.Subscript e (.Slice lo hi none p2) pos) (Cu r te tl th):=⟨L2.Jj hr he.out hl hu⟩
theorem zg {X:Cx} {a b:Expr} {ta tb:TE} {pos:Pos} {r:R2} (hr:qc X r) (ha:JE X a ta) (hb:JE X b tb) (hs:yw b):JE X (.Subscript a b pos) (kH r ta tb):=⟨L2.Jo hr ha.out hb.out hs⟩
theorem Lb {X:Cx} {o:Expr} {to:TE} {name:Str} {apos b7:Pos} {T id:String} {r:V->List V->Hp->VK->Prop} (pa:PlainAttrs T) (slot:Slot T name id) (ou:typeOf (.builtin id)=pure (.type "method_descriptor")) (hm:sy X id r) (ho:JE X o to) (eV:attributeBase o name X.env (eval o X.env)=eval o X.env:=by rfl) (eW:(apos.endLine == b7.line)=true:=by rfl):JE X (.Call (.Attribute o name apos) [] [] b7) (ot X.K T r to):=⟨L2.Jv pa slot ou hm ho.out eV eW⟩
theorem lK {X:Cx} {o e:Expr} {es:List Expr} {to:TE} {t:TA} {name:Str} {apos b7:Pos} {T id:String} {r:V->List V->Hp->VK->Prop} (pa:PlainAttrs T) (slot:Slot T name id) (ou:typeOf (.builtin id)=pure (.type "method_descriptor")) (hm:sy X id r) (ho:JE X o to) (ha:JA X (e :: es) t) (eV:attributeBase o name X.env (eval o X.env)=eval o X.env:=by rfl) (oy:((backTo b7 (starEach (e :: es) X.env)).all (fun x => !x.1) && (backToKw b7 (keywordEach [] X.env)).all (fun x=>x.1.isSome)
   && decide ((e :: es).length + ([]:List Keyword).length + (if ([]:List Keyword).isEmpty then 0 else 1) < 30))=true:=by rfl) (eW:(apos.endLine == b7.line)=true:=by rfl) (hs:starEach (e :: es) X.env=(false,eval e X.env) :: starEach es X.env:=by rfl) (hX:(backTo b7 (starEach es X.env)).any (·.1)=false:=by rfl):JE X (.Call (.Attribute o name apos) (e :: es) [] b7) (lF X.K T r to t):=⟨L2.Jw pa slot ou hm ho.out ha.out eV oy eW hs hX⟩
theorem jv {X:Cx} (i:Nat) {x:Str} {pos:Pos} (hN:X.N[i]? = some x:=by rfl) (hv:nU X.env.scope x:=by first | exact Or.inl rfl | exact Or.inr (Or.inl rfl) | exact Or.inr (Or.inr rfl)) (hd:(x == ("__debug__" : Str))=false:=by decide) (gO:(x == ("__classdict__" : Str))=false:=by decide):JE X (.Name x pos) (eE i):=⟨L2.pv i hN hv hd gO⟩
theorem Lc {X:Cx} {o i:Expr} {td ty:TE} (hu:X.A.units + 1 < cLine) (hi:JE X i ty) (ho:JE X o td):JC X .In i o (oJ ty td):=⟨L2.Kz hu hi.out ho.out⟩
theorem Ld {X:Cx} {o i value:Expr} {pos pos':Pos} {td ty tv:TE} (hu:X.A.units + 1 < cLine) (ho:JE X o td) (hi:JE X i ty) (hv:JE X value tv) (hs:swapsWith value (some (.Subscript o i pos')) pos.line X.env=pure false):JS X (.Assign [.Subscript o i pos'] value pos) (C_ td ty tv):=⟨L2.KA hu ho.out hi.out hv.out hs⟩
theorem gT {X:Cx} {pos:Pos}  : JE X (.Dict [] [] pos) zb:=⟨L2.KD⟩
theorem oM {X:Cx}:JF X [] sJ:=⟨L2.JR⟩
theorem Le {X:Cx} {c:Expr} {t:TT} (h:JT X c t):JF X [c] t:=⟨L2.JU h.out⟩
theorem De {X:Cx} {elt tg iter:Expr} {ifs:List Expr} {scope:Scope} {pos:Pos} {wi:TI} {g:BD->TG} {tf:BD->TT} {te:BD->TE} (cp:List (Option Nat)) (Nb:List Str) (hc:X.calm=true) (hi:JI X tg iter wi) (hg:∀ d,JG (b9 X scope Nb d) tg (g d)) (hf:∀ d,JF (b9 X scope Nb d) ifs (tf d)) (he:∀ d,JE (b9 X scope Nb d) elt (te d)) (hk:scope.kind = .function:=by rfl) (ho:lI X.N X.env.scope scope Nb cp=true:=by first | rfl | kernel_rfl) (hs:∀ x,foldedSetIterable iter X.env x=pure x:=by intro _;rfl):JE X (.ListComp elt [⟨tg,iter,ifs,0⟩] scope pos) (oG wi cp g tf te):=⟨L2.J_ cp Nb hc hi.out (fun dd=>(hg dd).out) (fun dd=>(hf dd).out) (fun dd=>(he dd).out) hk ho hs⟩
theorem Lf {X:Cx} {elt tg iter:Expr} {ifs:List Expr} {scope:Scope} {pos:Pos} {wi:TI} {g:BD->TG} {tf:BD->TT} {te:BD->TE} (cp:List (Option Nat)) (Nb:List Str) {i:Nat} {x:Str} {pos' gR:Pos} (hN:X.N.Nodup) (hi:X.N[i]? = some x) (hx:Loc X.env.scope x) (hc:X.calm=true) (hit:JI X tg iter wi) (hg:∀ d,JG (b9 X scope Nb d) tg (g d)) (hf:∀ d,JF (b9 X scope Nb d) ifs (tf d)) (he:∀ d,JE (b9 X scope Nb d) elt (te d)) (hk:scope.kind = .function:=by rfl) (ho:lI X.N X.env.scope scope Nb cp=true:=by first | rfl | kernel_rfl) (hs:∀ x,foldedSetIterable iter X.env x=pure x:=by intro _;rfl) (sN:swapsWith (.ListComp elt [⟨tg,iter,ifs,0⟩] scope pos) (some (.Name x pos')) gR.line X.env=pure true:=by rfl) (lq:X.fn x=true\/X.env.scope.names.lookup x=some .local:=by first | exact .inl rfl | exact .inr rfl | assumption):JS X (.Assign [.Name x pos'] (.ListComp elt [⟨tg,iter,ifs,0⟩] scope pos) gR) (eS (oG wi cp g tf te) (jh i)):=⟨L2.Ka cp Nb hN hi hx hc hit.out (fun dd=>(hg dd).out) (fun dd=>(hf dd).out) (fun dd=>(he dd).out) hk ho hs sN lq⟩
theorem Df {X:Cx} {elts:List Expr} {x1:Nat} {tp:Pos} {a:Expr} {ta:TA} {p pos:Pos} (hg:Gl X "enumerate") (hm:X.mg "enumerate" = none) (ha:JA X [a] ta) (hs:starEach [a] X.env=[(false,eval a X.env)]:=by rfl):JI X (.Tuple elts x1 tp) (.Call (.Name "enumerate" p) [a] [] pos) (yX X.K ta):=⟨L2.Kd hg hm ha.out hs⟩
theorem Lg {X:Cx} {elts:List Expr} {x1:Nat} {tp:Pos} {a b:Expr} {ta:TA} {p pos:Pos} (hg:Gl X "zip") (hm:X.mg "zip" = none) (ha:JA X [a,b] ta) (hs:starEach [a,b] X.env=[(false,eval a X.env),(false,eval b X.env)]:=by rfl) (dW:starEach [b] X.env=[(false,eval b X.env)]:=by rfl):JI X (.Tuple elts x1 tp) (.Call (.Name "zip" p) [a,b] [] pos) (sS X.K ta):=⟨L2.Km hg hm ha.out hs dW⟩
theorem tw {X:Cx} {es:List Expr} {te:TE} {t:TA} {c j p} (ha:JE X (.Constant c j p) te) (hr:JA X es t):JA X (.Constant c j p :: es) (eM te t):=⟨L2.yZ ha.out hr.out⟩
theorem h9 {X:Cx} {es:List Expr} {te:TE} {t:TA} {x p} (ha:JE X (.Name x p) te) (hr:JA X es t):JA X (.Name x p :: es) (eM te t):=⟨L2.y0 ha.out hr.out⟩
theorem h_ {X:Cx} {es:List Expr} {te:TE} {t:TA} {f a k p} (ha:JE X (.Call f a k p) te) (hr:JA X es t):JA X (.Call f a k p :: es) (eM te t):=⟨L2.y1 ha.out hr.out⟩
theorem oN {X:Cx} {es:List Expr} {te:TE} {t:TA} {a p} (ha:JE X (.List a p) te) (hr:JA X es t):JA X (.List a p :: es) (eM te t):=⟨L2.y2 ha.out hr.out⟩
theorem zh {X:Cx} {es:List Expr} {te:TE} {t:TA} {a k p} (ha:JE X (.Tuple a k p) te) (hr:JA X es t):JA X (.Tuple a k p :: es) (eM te t):=⟨L2.y3 ha.out hr.out⟩
theorem zi {X:Cx} {es:List Expr} {te:TE} {t:TA} {a k p} (ha:JE X (.Subscript a k p) te) (hr:JA X es t):JA X (.Subscript a k p :: es) (eM te t):=⟨L2.y4 ha.out hr.out⟩
theorem cH.vm {P:Program} {w:World} {K:PySem.W.Frag} {mg:Str->Option Value} {base:Heap} {x qual:Str} {st:Stmt} {f:Addr} {fd:FuncData} {N ps:List Str} {k:Nat} {sp:Sp} (F:cH K x qual st f fd) (S:di N ps (a7 st)) (len:∀ vs H Q E,sp vs H Q E->vs.length=ps.length)
  (eU:∀ (bc:Value) (A:Around) (outer:List Env) (s:Shared) (H:Hp) (vs:List V) (Q:VK) (E:XK),bG k (A.deeper (envOfC qual (a7 st) s.heap.objs.size f bc))->sp vs H Q E →
   ∃ t,fB (gu bV P w K mg base N qual (a7 st) f bc A outer s H E).nY (cU st) t/\t { nx:=fun _ H'=>Q .non H',rt:=Q } (start N vs) H):aT P w K mg base bV (k + 1) f fd ps sp :=
 F.ok S len fun bc A outer s H vs Q E hr h=>let ⟨t,g,q⟩:=eU bc A outer s H vs Q E hr h; ⟨t,g.out,q⟩
end L2
namespace LJS
open PySem
noncomputable def hp (i j:Int):Int:=reduceHash (Builtin.Tuple.tupleHashOf [hashInt i,hashInt j])
theorem Dg {prog:Program} {w:World} (i j:Int):hT prog w [i,j]=hp i j:=rfl
noncomputable def vn:List (Int × Int):=(List.range 12).flatMap fun j=>(List.range j).map fun i:Nat=>(Int.ofNat i,Int.ofNat j)
theorem Lh:∀ a∈vn,∀ b∈vn,hp a.1 a.2=hp b.1 b.2->a=b:=by decide +kernel
theorem Dh {i j:Int} (h0:0 <= i) (h1:i < j) (h2:j < 12):(i,j)∈vn:=by
 obtain⟨a,rfl⟩:∃ a:Nat,i=a:=⟨i.toNat,by omega⟩
 obtain⟨b,rfl⟩:∃ b:Nat,j=b:=⟨j.toNat,by omega⟩
 unfold vn
 exact List.mem_flatMap.mpr ⟨b,List.mem_range.mpr (by omega),List.mem_map.mpr ⟨a,List.mem_range.mpr (by omega),rfl⟩⟩
end LJS
namespace L2
open PySem PySem.Spec PyProof.Rows
noncomputable def jU (S:Addr) (n:Nat):HO := .ext fun h=>∃ hs:List Int,hs.length=n/\LJS.jF h S hs
theorem Li {P:Program} {w:World} {H:Hp} {h:Heap} {S:Addr} {hs:List Int} {n:Nat} (e:LJS.jF h S hs) (hn:hs.length=n):aI P w H h S (jU S n) :=
 ⟨⟨hs,hn,e⟩,let ⟨o,_,_,_,ho,_⟩:=e; ⟨o,ho⟩,fun h1 h2 ⟨vo,en,e1⟩ k=>⟨vo,en,LJS.GS e1 fun o eo=>k o eo⟩⟩
section
variable {X:Cx}
theorem Di:∀ {ps:List Addr} {ag:List Value},Vals (ps.map V.ref) ag->ag=ps.map Value.ref
 | [],_,.nil=>rfl
 | _ :: _,_,.cons r rs=>by cases r;rw[Di rs];rfl
theorem Lj:fA X (.builtin "len") (fun xs H Q=>∃ (p:Addr) (n:Nat),xs=[.ref p]/\H p=some (jU p n)/\n < 1000/\Q (.int n) H):=by
 intro pins s σ H xs us Q I r h
 obtain⟨p,n,rfl,hp,hn,q⟩:=h
 obtain⟨u,rfl,rx⟩:=vals1 r
 cases rx
 obtain⟨⟨hs,hl,o,es,ep,t,ho,hex,hd,T⟩,_⟩:=I.aJ p _ hp
 have e:es.size=n:=by rw[T.num,hl]
 refine call_len_set ho hex hd T.fits (by omega) ⟨.int n,H,I.tok _,⟨_,by rw[e]⟩,q⟩
theorem Dj:∀ {bs:List Bool} {ag:List Value},Vals (bs.map V.bl) ag->ag=bs.map Value.bool
 | [],_,.nil=>rfl
 | _ :: _,_,.cons r rs=>by cases r;rw[Dj rs];rfl
theorem all_range (bs:List Bool):(List.range bs.length).all (fun i=>bs.getD i true)=bs.all id:=by
 rw[Bool.eq_iff_iff,List.all_eq_true,List.all_eq_true]
 constructor
 ·intro h b hb
  obtain⟨i,hi⟩:=List.mem_iff_getElem?.mp hb
  have hl:=(List.getElem?_eq_some_iff.mp hi).1
  have:=h i (List.mem_range.mpr hl)
  rw[List.getD_eq_getElem?_getD,hi] at this
  exact this
 ·intro h i hi
  have hl:=List.mem_range.mp hi
  rw[List.getD_eq_getElem?_getD,List.getElem?_eq_getElem hl]
  exact h _ (List.getElem_mem hl)
theorem Lk (hc:X.calm=true):fA X (.builtin "all") (fun xs H Q=>∃ (l:Addr) (bs:List Bool),xs=[.ref l]/\aP X.K H l (bs.map V.bl)/\Q (.bl (bs.all id)) H):=by
 intro pins s σ H xs us Q I r h
 obtain⟨l,bs,rfl,hq,q⟩:=h
 obtain⟨u,rfl,rx⟩:=vals1 r
 cases rx
 obtain⟨ag,r',pl,_⟩:=I.list hq
 obtain rfl:=Dj r'
 have hL:=pl.isList
 have ll:l < s.heap.objs.size:=by obtain⟨o,e,_⟩:=hL;exact Heap.lt_size e
 have nI:l≠s.heap.objs.size:=Nat.ne_of_lt ll
 refine call_all_walk (wpAny_pyIter_list hL ?_)
 refine⟨s.heap.objs.size,_,_,_,_,_,fun i=>bs.getD i true,rfl,Walks.list (by rw[Around.in1_handled];exact I.ok.hd hc) s.heap.objs.size l nI _,⟨⟨_,Heap.get?_push_size _ rfl,rfl,rfl⟩,hL.push _⟩,fun i v s' Q' E' hv vp => ?_,fun h' tk kp => ?_⟩
 ·have hv:(bs.map Value.bool).toArray[i]? = some v:=hv
  have vp:Q' (bs.getD i true) s':=vp
  rw[List.getElem?_toArray,List.getElem?_map] at hv
  obtain⟨b,eb,rfl⟩:=Option.map_eq_some_iff.mp hv
  rw[List.getD_eq_getElem?_getD,eb] at vp
  exact wpAny_truthy_bool vp
 ·refine⟨.bl (bs.all id),H,I.kept (t':=tk) fun b o e=>kp b o (fun z => ?_) (Heap.get?_push_of_some _ e),?_,q⟩
  ·have:=Heap.lt_size e
   rw[List.mem_singleton.mp z] at this
   exact Nat.lt_irrefl _ this
  ·show Value.bool _=Value.bool _
   rw[List.size_toArray,List.length_map,all_range]
end
end L2
namespace LJ
open PySem L2
structure Fn (P:Program) (w:World) (K:PySem.W.Frag) (mg:Str->Option Value) (base:Heap) (k:Nat) (x:Str) (ps:List Str) (sp:Sp) (f:Addr) (fd:FuncData):Prop where
 ok:aT P w K mg base bV k f fd ps sp
 bz:mg x=some (.ref f)
 kp:PySem.W.keepIn K (.ref f)=true
 bd:Binds K fd ps []
theorem tE:bootBuiltins "bool" = some (.type "bool"):=by decide +kernel
theorem zj:bootBuiltins "int" = some (.type "int"):=by decide +kernel
theorem Dk:bootBuiltins "str" = some (.type "str"):=by decide +kernel
theorem tF:bootBuiltins "tuple" = some (.type "tuple"):=by decide +kernel
theorem lL:bootBuiltins "list" = some (.type "list"):=by decide +kernel
theorem Dl:bootBuiltins "set" = some (.type "set"):=by decide +kernel
theorem Ll:bootBuiltins "all" = some (.builtin "all"):=by decide +kernel
section
variable {K:PySem.W.Frag}
end
structure fP (many:Int) (ys:List (Int × Int × Int)):Prop where
 m1:1 <= many
 iB:many <= 12
 lg:ys.length <= 30
 ends:∀ y∈ys,0 <= y.1/\y.1 < y.2.1/\y.2.1 < many/\0 <= y.2.2/\y.2.2 <= 1000000000
 unlike:(ys.map fun y=>(y.1,y.2.1)).Nodup
end LJ
namespace L2
open PySem PySem.Spec PyProof.Rows
section
variable {X:Cx}
end
end L2
namespace LJ
open PySem L2
noncomputable def iC:Nat->List (Int × Int)
 | 0=>[]
 | n + 1=>iC n ++ (List.range n).map fun a:Nat=>(Int.ofNat a,Int.ofNat n)
theorem zk:∀ {n:Nat} {k:Int × Int},k∈iC n->0 <= k.1/\k.1 < k.2/\k.2 < n
 | 0,_,h=>nomatch h
 | n + 1,k,h=>by
  rcases List.mem_append.mp h with h | h
  ·have:=zk h;omega
  ·obtain⟨a,ha,rfl⟩:=List.mem_map.mp h
   have:=List.mem_range.mp ha
   refine⟨Int.natCast_nonneg a,?_,?_⟩
   ·show (a:Int) < (n:Int);omega
   ·show (n:Int) < ((n + 1:Nat):Int);omega
theorem Dm:∀ n:Nat,(iC n).Nodup
 | 0=>List.nodup_nil
 | n + 1=>by
  refine List.nodup_append.mpr ⟨Dm n,?_,fun k h1 k' h2 e => ?_⟩
  ·refine List.pairwise_map.mpr (List.nodup_range.imp fun {a b} ne e=>ne ?_)
   exact Int.ofNat.inj (congrArg Prod.fst e)
  ·subst e
   obtain⟨a,ha,rfl⟩:=List.mem_map.mp h2
   have:=(zk h1).2.2
   have:(n:Int) < (n:Int):=this
   omega
theorem Dn:∀ n:Nat,n <= 12->(iC n).length <= 66:=by
 intro n h
 rcases n with _ | _ | _ | _ | _ | _ | _ | _ | _ | _ | _ | _ | _ | n
 all_goals first | decide | omega
end LJ
namespace LJ
open PySem
theorem Dp {j n:Nat} (h:j < n):seqIndex? (j:Int) n=some j:=by
 unfold seqIndex?
 first | (simp;omega) | skip
end LJ
namespace L2
open PySem PySem.Spec PyProof.Rows
section
variable {X:Cx}
theorem Dq:fA X (.type "range") (fun xs H Q=>∃ j:Int,xs=[.int j]/\∀ r,H r=none->Q (.ref r) (upd H r (.rng 0 j))):=by
 intro pins s σ H xs us Q I r h
 obtain⟨j,rfl,q⟩:=h
 obtain⟨u,rfl,t,rfl⟩:=vals1 r
 refine call_range_1 ⟨.ref s.heap.objs.size,_,I.laid (t':=s.toks + 1 + 1) (o := .rng 0 j) (fun b o e=>Heap.get?_push_of_some _ e) (Nat.le_refl _) ?_,rfl,q _ (I.aJ.fresh (Nat.le_refl _))⟩
 exact⟨_,_,_,Heap.get?_push_size _ rfl⟩
noncomputable def a0 (n:Nat):List Int:=(List.range n).map fun a:Nat=>(a:Int)
theorem Dr:∀ {ns:List Int} {us:List Value},us.length=ns.length->(∀ (i:Nat) (u:Value),us[i]? = some u->∃ t,u = .int (ns.getD i 0) t)->Vals (ns.map V.int) us
 | [],[],_,_ => .nil
 | [],_ :: _,h,_=>by simp at h
 | _ :: _,[],h,_=>by simp at h
 | n :: ns,u :: us,h,g=>by
  obtain⟨t,e⟩:=g 0 u rfl
  refine .cons ⟨t,e⟩ (Dr (by simpa using h) fun i v e2 => ?_)
  obtain⟨t,e⟩:=g (i + 1) v (by simpa using e2)
  exact⟨t,by simpa using e⟩
theorem Ds (hc:X.calm=true):fA X (.type "list") (fun xs H Q=>∃ (r:Addr) (n:Nat),xs=[.ref r]/\H r=some (.rng 0 (n:Int))/\n <= 1000/\∀ l,H l=none->Q (.ref l) (upd H l (.lst ((a0 n).map V.int)))):=by
 intro pins s σ H xs us Q I r h
 obtain⟨a,n,rfl,ha,hn,q⟩:=h
 obtain⟨u,rfl,rx⟩:=vals1 r
 cases rx
 obtain⟨t,u,v,e⟩:=(show ∃ t u v,s.heap.get? a=some { cls := .type "range",data := .fields #[.int 0 t,.int (n:Int) u,.int 1 v] } from I.aJ a _ ha)
 have hs:Builtin.Range.rangeSize 0 (n:Int) 1=n:=by rw[rangeSize_one];split<;>omega
 refine call_list_range (n:=n) (I.ok.hd hc) e (small_one (by omega) (by omega) (by omega) (by omega)) hs (by omega) fun h' tk acc c' kp e' it => ?_
 refine⟨.ref s.heap.objs.size,_,I.laid (t':=tk) (o := .lst ((a0 n).map V.int)) kp (Nat.le_refl _) ?_,rfl,q _ (I.aJ.fresh (Nat.le_refl _))⟩
 refine⟨Nat.le_of_lt (ji (by rw[List.length_map,a0,List.length_map,List.length_range];exact hn)),acc.toList,c',?_,by simpa using e'⟩
 refine Dr ?_ fun i u e => ?_
 ·rw[Array.length_toList,it.1,a0,List.length_map,List.length_range]
 ·rw[Array.getElem?_toList] at e
  obtain⟨t',e2⟩:=it.2 i u e
  have hi:i < n:=by rw[<-it.1];exact (Array.getElem?_eq_some_iff.mp e).1
  refine⟨t',e2.trans ?_⟩
  rw[a0,List.getD_eq_getElem?_getD,List.getElem?_map,List.getElem?_range hi]
  show Value.int (0 + (i:Int) * 1) t'=Value.int (i:Int) t'
  rw[Int.zero_add,Int.mul_one]
theorem zo:∀ (ns:List Int) (j:Nat),j <= ns.length->PySem.preSum (fun i=>ns.getD i 0) j=(ns.take j).sum
 | ns,0,_=>by rw[List.take_zero];rfl
 | ns,j + 1,h=>by
  show PySem.preSum _ j + ns.getD j 0=_
  have hj:j < ns.length:=by omega
  rw[zo ns j (by omega),List.take_add_one,List.getElem?_eq_getElem hj,List.getD_eq_getElem?_getD,List.getElem?_eq_getElem hj,List.sum_append]
  simp
theorem Dt:∀ {ns:List Int},(∀ x∈ns,0 <= x/\x <= 1000000000)->0 <= ns.sum/\ns.sum <= ns.length * 1000000000
 | [],_=>by simp
 | n :: ns,h=>by
  have ih:=Dt fun x hx=>h x (List.mem_cons_of_mem _ hx)
  have:=h n (List.mem_cons_self ..)
  rw[List.sum_cons,List.length_cons]
  omega
theorem Lm (hc:X.calm=true):fA X (.builtin "sum") (fun xs H Q=>∃ (l:Addr) (ns:List Int),xs=[.ref l]/\aP X.K H l (ns.map V.int)/\(∀ x∈ns,0 <= x/\x <= 1000000000)/\ns.length <= 1000/\Q (.int ns.sum) H):=by
 intro pins s σ H xs us Q I r h
 obtain⟨l,ns,rfl,hq,bd,Du,q⟩:=h
 obtain⟨u,rfl,rx⟩:=vals1 r
 cases rx
 obtain⟨ag,r',pl,_⟩:=I.list hq
 have hl:=r'.length
 rw[List.length_map] at hl
 have hL:=pl.isList
 have ll:l < s.heap.objs.size:=by obtain⟨o,e,_⟩:=hL;exact Heap.lt_size e
 have nI:l≠s.heap.objs.size:=Nat.ne_of_lt ll
 have sz:ag.toArray.size=ns.length:=by rw[List.size_toArray];exact hl.symm
 refine call_sum_walk (wpAny_pyIter_list hL ?_)
 refine⟨s.heap.objs.size,_,_,_,_,_,fun i=>ns.getD i 0,rfl,Walks.list (by rw[Around.in1_handled];exact I.ok.hd hc) s.heap.objs.size l nI _,⟨⟨_,Heap.get?_push_size _ rfl,rfl,rfl⟩,hL.push _⟩,fun b hb => ?_,fun i v hv => ?_,fun j hj => ?_,fun h' tk t' kp => ?_⟩
 ·simp only[List.mem_cons,List.not_mem_nil,or_false] at hb
  rw[Heap.size_push]
  rcases hb with e | e
  ·rw[e];exact Nat.lt_succ_self _
  ·rw[e];exact Nat.lt_succ_of_lt ll
 ·have hv:ag.toArray[i]? = some v:=hv
  rw[List.getElem?_toArray] at hv
  have hi:i < ns.length:=by rw[hl];exact (List.getElem?_eq_some_iff.mp hv).1
  obtain⟨u,e1,t,e2⟩:=r'.get (x:=V.int (ns.getD i 0)) (i:=i) (by rw[List.getElem?_map,List.getElem?_eq_getElem hi,List.getD_eq_getElem?_getD,List.getElem?_eq_getElem hi];rfl)
  rw[hv] at e1
  cases e1
  exact⟨t,e2⟩
 ·rw[sz] at hj
  have a1:=bd _ (List.getElem_mem hj)
  have e1:ns.getD j 0=ns[j]:=by rw[List.getD_eq_getElem?_getD,List.getElem?_eq_getElem hj];rfl
  have a2:=Dt (ns:=ns.take (j + 1)) fun x hx=>bd x (List.mem_of_mem_take hx)
  have a3:(ns.take (j + 1)).length <= 1000:=by rw[List.length_take];omega
  rw[zo ns (j + 1) (by omega)]
  show InLong (ns.getD j 0)/\_
  rw[e1]
  refine⟨⟨by omega,by omega⟩,⟨by omega,by omega⟩⟩
 ·refine⟨.int ns.sum,H,I.kept (t':=tk) fun b o e=>kp b o (fun z => ?_) (Heap.get?_push_of_some _ e),⟨t',?_⟩,q⟩
  ·have:=Heap.lt_size e
   rw[List.mem_singleton.mp z] at this
   exact Nat.lt_irrefl _ this
  ·rw[sz,zo ns ns.length (Nat.le_refl _),List.take_of_length_le (Nat.le_refl _)]
theorem zp:∀ {us:List Value} {ns:List Int},IntsAre us ns->Vals (ns.map V.int) us
 | _,_,.nil => .nil
 | _,_,.cons n t r => .cons ⟨t,rfl⟩ (zp r)
theorem Ln:fA X (.builtin "sorted") (fun xs H Q=>∃ (l:Addr) (ns:List Int),xs=[.ref l]/\aP X.K H l (ns.map V.int)/\ns.length < 64/\∀ (r:Addr) (dX:List Int),dX.Perm ns->dX.Pairwise (· <= ·)->H r=none->Q (.ref r) (upd H r (.lst (dX.map V.int)))):=by
 intro pins s σ H xs us Q I r h
 obtain⟨l,ns,rfl,hq,Vn,q⟩:=h
 obtain⟨u,rfl,rx⟩:=vals1 r
 cases rx
 obtain⟨ag,r',pl,_⟩:=I.list hq
 have hl:=r'.length
 rw[List.length_map] at hl
 refine sorted_ints pl.isList (by simpa using intsAre_of r') (by omega) fun out dX hI pm pw => ?_
 have hf:H (s.heap.objs.size + 1)=none:=I.aJ.fresh (Nat.le_succ _)
 obtain⟨e,he⟩:=sortedAll_at s.heap ag out
 refine⟨.ref (s.heap.objs.size + 1),_,I.laid (t':=s.toks) (o := .lst (dX.map V.int)) (fun b o e=>sortedAll_old e) (Nat.le_succ _) ?_,rfl,q _ dX pm pw hf⟩
 refine⟨Nat.le_of_lt (ji (by rw[List.length_map,pm.length_eq];omega)),out.toList,e,zp hI,?_⟩
 simpa [seqObj] using he
theorem Dv {prog:Program} {w:World} {A:Around} {E:Value->Shared->Prop} {I l:Addr} {items:Array Value} (W:Walks prog w A I [I,l] [I] items.size (fun i v=>items[i]? = some v) (fun i h=>h.IsListIter I l i/\h.IsList l items)) :
  ∀ (k i:Nat) (s:Shared) (Q:List Value->Shared->Prop),i + k <= items.size->(s.heap.IsListIter I l i/\s.heap.IsList l items) →
   (∀ h' tk,(h'.IsListIter I l (i + k)/\h'.IsList l items)->(∀ b o,b∉[I]->s.heap.get? b=some o->h'.get? b=some o)->Q ((items.toList.drop i).take k) { s with heap:=h',toks:=tk })->wpAny (model prog w) A (draw (.ref I) k) Q E s
 | 0,i,s,Q,_,st,g=>by
  show wpAny _ _ (pure []) Q E s
  refine wpAny_pure ?_
  have:=g s.heap s.toks st fun _ _ _ e=>e
  rw[List.take_zero] at this
  exact this
 | k + 1,i,s,Q,hk,st,g=>by
  have hi:i < items.size:=by omega
  show wpAny _ _ (pyNext (.ref I) >>= _) Q E s
  refine wpAny_bind (W.item i s _ _ hi st fun v h1 mY hv jI qo => ?_)
  refine wpAny_bind (wpAny_holding (Dv W k (i + 1) _ _ (by omega) jI fun h2 zq ip nO=>wpAny_pure ?_))
  have e:items.toList.drop i=v :: items.toList.drop (i + 1):=by
   rw[List.drop_eq_getElem_cons (by rw[Array.length_toList];exact hi)]
   congr 1
   have Dw:items[i]? = some v:=hv
   rw[Array.getElem?_eq_getElem hi] at Dw
   simpa using Dw
  have:=g h2 zq (by rw[show i + (k + 1)=i + 1 + k by omega];exact ip) fun b o hb e=>nO b o hb (qo b o hb e)
  rw[e,List.take_succ_cons] at this
  exact this
theorem Lo {prog:Program} {w:World} {A:Around} {E:Value->Shared->Prop} {s:Shared} {l:Addr} {items:Array Value} {Q:List Value->Shared->Prop} (hh:A.handled=none) (hl:s.heap.IsList l items)
  (g:∀ h' tk,(∀ b o,b≠s.heap.objs.size->s.heap.get? b=some o->h'.get? b=some o)->Q items.toList { s with heap:=h',toks:=tk }):wpAny (model prog w) A (unpackItems (.ref l) items.size none) Q E s:=by
 have ll:l < s.heap.objs.size:=by obtain⟨o,e,_⟩:=hl;exact Heap.lt_size e
 have W:=Walks.list (prog:=prog) (w:=w) hh s.heap.objs.size l (Nat.ne_of_lt ll) items
 unfold unpackItems
 refine wpAny_bind ?_
 unfold notIterableAtAll
 refine wpAny_bind (wpAny_specialOf hl.typeIs slot_list_iter.lookup (wpAny_pure ?_))
 simp only[Bool.false_eq_true,if_false]
 refine wpAny_bind (wpAny_holding (wpAny_pyIter_list hl ?_))
 refine wpAny_bind (wpAny_holding (Dv W items.size 0 _ _ (by omega) ⟨⟨_,Heap.get?_push_size _ rfl,rfl,rfl⟩,hl.push _⟩ fun h1 mY jI qo => ?_))
 rw[List.drop_zero,List.take_of_length_le (by rw[Array.length_toList];exact Nat.le_refl _),if_neg (by rw[Array.length_toList];exact Nat.lt_irrefl _)]
 rw[Nat.zero_add] at jI
 refine wpAny_bind (wpAny_holding (W.done _ _ _ jI fun h2 zq nO => ?_))
 simp only[Option.isSome_none,Bool.false_eq_true,if_false]
 refine wpAny_pure (g h2 zq fun b o hb e=>nO b o (by simpa using hb) (qo b o (by simpa using hb) (Heap.get?_push_of_some _ e)))
noncomputable def Lp (K:PySem.W.Frag) (n:Nat) (t:iw):TG:=fun v σ H Q=>∃ a xs,v = .ref a/\aP K H a xs/\xs.length=n/\t xs σ H Q
theorem Lq {es:List Expr} {k:Nat} {t:iw} {n:Nat} {pos:Pos} (hc:X.calm=true) (h:jk X es t)
  (hn:(assignEach es X.env).length=n:=by rfl) (jN:(assignEach es X.env).findIdx? (·.1)=none:=by rfl):JG X (.Tuple es k pos) (Lp X.K n t):=by
 refine⟨?_⟩
 intro pins s σ H v u Q I r hw
 obtain⟨a,xs,e1,hq,hl,hw⟩:=hw
 subst e1
 cases r
 obtain⟨ag,rv,ht,hz⟩:=I.list hq
 have hlen:=rv.length
 rw[assign_Tuple]
 refine wpAny_bind (wpAny_standAt ?_)
 unfold unpack
 rw[jN,show (assignEach es X.env).length=ag.toArray.size by rw[hn,<-hl,hlen];simp]
 refine wpAny_bind (wpAny_holding (Lo (I.ok.hd hc) ht.isList fun h' tk kp => ?_))
 have I1:Inv X pins σ H { s with heap:=h',toks:=tk }:=I.kept fun b o e=>kp b o (Nat.ne_of_lt (Heap.lt_size e)) e
 exact h.out pins _ σ H xs _ Q I1 (by simpa using rv) hw
theorem Lr:sE X "dict.setdefault" (fun x vs H Q=>∃ (d:Addr) (kvs:List (Key × V)) (k:Key) (dv:V),x = .ref d/\vs=[kV k,dv]/\H d=some (.dK kvs)/\kvs.length < sizeLine/\(∀ v,bH kvs k=some v->Q v H)/\(bH kvs k=none->Q dv (upd H d (.dK (putK kvs k dv))))):=by
 intro pins s σ H x xs v us Q I rx rv h
 obtain⟨d,kvs,k,dv,rfl,rfl,hd,hz,q1,q2⟩:=h
 cases rx
 cases rv with
 | cons rk rr =>
  cases rr with
  | cons rd rn =>
   cases rn
   rename_i uk ud
   obtain⟨z,lo,vs,rel,dd⟩:=vi I.aJ hd
   have rl:=rel.val k
   refine call_meetsIn PySem.F.slot_dict_setdefault dd.typeIs PySem.F.entry_dict_setdefault (PySem.F.args_dict_setdefault_3 _ _ _) (PySem.kt_meets_setdefault (gJ X.prog X.w) d (vh rk) lo ud) ⟨vs,dd,by rw[<-rel.length];exact z,fun v hv => ?_,fun hn h' oH hs => ?_⟩
   ·rw[hv] at rl
    cases e:bH kvs k with
    | none=>rw[e] at rl;exact rl.elim
    | some y =>
     rw[e] at rl
     exact⟨y,H,I.tok _,rl,q1 y e⟩
   ·rw[hn] at rl
    cases e:bH kvs k with
    | some y=>rw[e] at rl;exact rl.elim
    | none =>
     have he:∃ q,h'.get? d=some q:=let ⟨q,_,_,hq,_⟩:=oH; ⟨q,hq⟩
     have hl:=y8 kvs k dv
     exact⟨dv,_,za (t':=s.toks + 1) I (by rw[hd];exact True.intro) hs he (C9 (by omega) lo (rel.put k rd) oH),rd,q2 e⟩
noncomputable def gU (v d:Addr):HO := .ext fun h=>h.IsValuesView v d
theorem Ls:sE X "dict.values" (fun x vs H Q=>∃ (d:Addr) (kvs:List (Key × V)),x = .ref d/\vs=[]/\H d=some (.dK kvs)/\∀ r,H r=none->Q (.ref r) (upd H r (gU r d))):=by
 intro pins s σ H x xs v us Q I rx rv h
 obtain⟨d,kvs,rfl,rfl,hd,q⟩:=h
 cases rx
 cases rv
 obtain⟨z,lo,vs,rel,dd⟩:=vi I.aJ hd
 refine call_meetsIn PySem.F.slot_dict_values dd.typeIs PySem.F.entry_dict_values (PySem.F.args_dict_values_1 _) (meets_dict_values (gJ X.prog X.w) d lo) ⟨⟨vs,dd⟩,?_⟩
 have e:(s.heap.push { cls := .type "dict_values",data := .fields #[.ref d] }).IsValuesView s.heap.objs.size d:=⟨_,Heap.get?_push_size _ rfl,rfl,rfl⟩
 refine⟨.ref s.heap.objs.size,_,I.laid (t':=s.toks) (o:=gU s.heap.objs.size d) (fun b o e=>Heap.get?_push_of_some _ e) (Nat.le_refl _) ⟨e,⟨_,Heap.get?_push_size _ rfl⟩,fun h1 h2 ⟨o,ho,r⟩ k=>⟨o,k o ho,r⟩⟩,rfl,q _ (I.aJ.fresh (Nat.le_refl _))⟩
theorem Dx:∀ {kvs:List (Key × V)} {vs:List (Key × Value)},KV kvs vs->Vals (kvs.map (·.2)) (vs.map (·.2))
 | [],_,.nil => .nil
 | _ :: _,_,.cons r rs => .cons r.2 (Dx rs)
theorem Lu (hc:X.calm=true):fA X (.type "list") (fun xs H Q=>∃ (r d:Addr) (kvs:List (Key × V)),xs=[.ref r]/\H r=some (gU r d)/\H d=some (.dK kvs)/\∀ l,H l=none->Q (.ref l) (upd H l (.lst (kvs.map (·.2))))):=by
 intro pins s σ H xs us Q I r' h
 obtain⟨r,d,kvs,rfl,hr,hd,q⟩:=h
 obtain⟨u,rfl,rx⟩:=vals1 r'
 cases rx
 obtain⟨iv,_⟩:=I.aJ r _ hr
 obtain⟨z,lo,vs,rel,dd⟩:=vi I.aJ hd
 obtain⟨o,es,ep,ho,rest⟩:=dd
 have da:s.heap.DictAt (gJ X.prog X.w) d vs ep:=⟨o,es,ho,rest⟩
 have lv:=rel.length
 refine PySem.W.kdl_call (PySem.W.kdl_values (r:=r) (d:=d) (kvs:=vs) (ep:=ep) (knd:=gJ X.prog X.w)) (I.ok.hd hc) ⟨iv,da⟩ (by omega) fun h' tk acc c' kp e' it => ?_
 have ea:acc.toList=vs.map (·.2):=PySem.W.kdl_vals_eq acc.toList (by rw[Array.length_toList];exact it.1) fun j v e=>it.2 j v (by rw[<-Array.getElem?_toList];exact e)
 refine⟨.ref s.heap.objs.size,_,I.laid (t':=tk) (o := .lst (kvs.map (·.2))) kp (Nat.le_refl _) ?_,rfl,q _ (I.aJ.fresh (Nat.le_refl _))⟩
 exact⟨by rw[List.length_map];exact z,acc.toList,c',by rw[ea];exact Dx rel,by simpa using e'⟩
end
theorem Lw (ag:List Value):slicePick ag.toArray none none (some (-1))=ag.reverse.toArray:=by
 unfold slicePick
 congr 1
 have e:sliceBounds none none (some (-1)) ag.toArray.size=((ag.length:Int) - 1,-1,-1):=by
  unfold sliceBounds
  simp
 rw[e]
 unfold sliceRange
 simp only
 have ec:(if (-1:Int) > 0 then (if (ag.length:Int) - 1 < -1 then (-1 - ((ag.length:Int) - 1) + -1 - 1) / -1 else 0) else (if (ag.length:Int) - 1 > -1 then ((ag.length:Int) - 1 - -1 - -1 - 1) / (- -1) else 0))=(ag.length:Int):=by
  rw[if_neg (by decide)]
  split
  ·rw[show (- -1:Int)=1 by decide,Int.ediv_one];omega
  ·omega
 rw[ec,Int.toNat_natCast]
 rw[List.filterMap_map]
 have hc:∀ (n:Nat),(∀ k∈List.range n,k < ag.length)->(List.range n).filterMap ((fun k:Nat=>ag.toArray[k]?) ∘ fun k:Nat=>((ag.length:Int) - 1 + -1 * (k:Int)).toNat)=(List.range n).map fun k=>ag.getD (ag.length - 1 - k) .none:=by
  intro n hn
  generalize hr:List.range n=l at hn
  clear hr
  induction l with
  | nil=>rfl
  | cons k l ih =>
   have hk:=hn k (List.mem_cons_self ..)
   have e1:((ag.length:Int) - 1 + -1 * (k:Int)).toNat=ag.length - 1 - k:=by omega
   have hl:ag.length - 1 - k < ag.length:=by omega
   rw[List.filterMap_cons_some (b:=ag.getD (ag.length - 1 - k) .none),List.map_cons,ih fun x hx=>hn x (List.mem_cons_of_mem _ hx)]
   show ag.toArray[((ag.length:Int) - 1 + -1 * (k:Int)).toNat]? = _
   rw[e1,List.getElem?_toArray,List.getElem?_eq_getElem hl,List.getD_eq_getElem?_getD,List.getElem?_eq_getElem hl];rfl
 rw[hc ag.length fun k hk=>List.mem_range.mp hk]
 refine List.ext_getElem (by simp) fun i h1 h2 => ?_
 rw[List.getElem_map,List.getElem_range,List.getElem_reverse]
 have hi:i < ag.length:=by simpa using h1
 rw[List.getD_eq_getElem?_getD,List.getElem?_eq_getElem (by omega)];rfl
section
variable {X:Cx} {e:Expr} {te:TE} {pos p2 p3 p4:Pos}
theorem zr:∀ {xs:List V} {us:List Value},Vals xs us->Vals xs.reverse us.reverse
 | [],_,.nil => .nil
 | x :: xs,_,.cons r rs=>by
  rw[List.reverse_cons,List.reverse_cons]
  exact Vals.append (zr rs) (.cons r .nil)
end
inductive DV where
 | p (d:D) | o (k:Nat)
inductive OV where
 | lst (ds:List D) | dct (kvs:List (Key × D))
structure av where
 sl:List (Option DV)
 mu:List (Option OV)
noncomputable def eY (F:Hp):List (Key × D)->List (Key × V)->Prop
 | [],ws=>ws=[]
 | kd :: r,ws=>∃ v t,ws=(kd.1,v) :: t/\Is F kd.2 v/\eY F r t
noncomputable def fD (F:Hp):OV->HO->Prop
 | .lst ds,o=>∃ vs,o = .lst vs/\af F ds vs
 | .dct kvs,o=>∃ ws,o = .dK ws/\eY F kvs ws
theorem eY.same {F F':Hp} (s:aw F F'):∀ {fQ:List (Key × D)} {ws:List (Key × V)},eY F fQ ws->eY F' fQ ws
 | [],_,h=>h
 | _ :: _,_,⟨v,t,e,h1,h2⟩=>⟨v,t,e,h1.same s,eY.same s h2⟩
theorem fD.same {F F':Hp} (s:aw F F'):∀ {ov:OV} {o:HO},fD F ov o->fD F' ov o
 | .lst _,_,⟨vs,e,h⟩=>⟨vs,e,h.same s⟩
 | .dct _,_,⟨ws,e,h⟩=>⟨ws,e,h.same s⟩
noncomputable def fX (F:Hp) (ad:List Addr):DV->V->Prop
 | .p d,v=>Is F d v
 | .o k,v=>∃ a,ad[k]? = some a/\v = .ref a
noncomputable def Lv (ad:List Addr) (mu:List (Option OV)) (a:Addr):Prop:=∃ (k:Nat) (ov:OV),ad[k]? = some a/\mu[k]? = some (some ov)
class aQ where
 ad:List Addr
 ok:Hp->Prop
 same:∀ {H H':Hp},ok H->aw H H'->ok H'
 put:∀ {H:Hp} {a:Addr} {o o':HO},ok H->H a=some o->((∃ vs,o = .lst vs)\/∃ ws,o = .dK ws)->ok (upd H a o')
 tb:∀ {H:Hp} {a:Addr},ok H->a∈ad->∃ ps,H a=some (.tbl ps)
theorem fD.kind {F:Hp}:∀ {ov:OV} {o:HO},fD F ov o->(∃ vs,o = .lst vs)\/∃ ws,o = .dK ws
 | .lst _,_,⟨vs,e,_⟩ => .inl ⟨vs,e⟩
 | .dct _,_,⟨ws,e,_⟩ => .inr ⟨ws,e⟩
variable [aQ]
structure SR (F:Hp) (ad:List Addr) (δ : av) (σ : St) (H:Hp):Prop where
 sub:aw F H
 off:∀ a,Lv ad δ.mu a->F a=none
 cD:ad.length = δ.mu.length
 inj:∀ (k l:Nat) (a:Addr) (ov ow:OV),ad[k]? = some a->ad[l]? = some a -> δ.mu[k]? = some (some ov) -> δ.mu[l]? = some (some ow)->k=l
 mu:∀ (k:Nat) (ov:OV),δ.mu[k]? = some (some ov)->∃ a o,ad[k]? = some a/\H a=some o/\fD F ov o
 sl:∀ (i:Nat) (x:DV),δ.sl[i]? = some (some x)->∃ v,σ[i]? = some (some v)/\fX F ad x v
 len : σ.length = δ.sl.length
 tab:aQ.ok H
 nt:∀ a∈aQ.ad,F a=none
structure Ext (F:Hp) (ad:List Addr) (mu:List (Option OV)) (H:Hp) (F':Hp) (aC:List Addr) (du:List (Option OV)) (H':Hp):Prop where
 same:aw F F'
 new:∀ a o,F' a=some o->F a=some o\/H a=none\/Lv ad mu a
 keep:∀ a o,H a=some o->¬ Lv ad mu a->a∉aQ.ad->H' a=some o
 pre:∀ (k:Nat) (a:Addr),ad[k]? = some a->aC[k]? = some a
 b8:∀ a,Lv aC du a->Lv ad mu a\/H a=none
 gx:∀ a o,H a=some o->∃ o',H' a=some o'
section
variable {F F' Dy H H' mZ:Hp} {ad aC tG:List Addr} {mu du tH:List (Option OV)} {δ : av} {σ : St}
theorem bW {H:Hp} {a:Addr} {o:HO} (h:H a=none):aw H (upd H a o):=fun b u e=>by rw[aS (cv e h)];exact e
theorem Ext.refl:Ext F ad mu H F ad mu H:=⟨fun _ _ e=>e,fun _ _ e => .inl e,fun _ _ e _ _=>e,fun _ _ e=>e,fun _ e => .inl e,fun _ o e=>⟨o,e⟩⟩
theorem Ext.trans (x:Ext F ad mu H F' aC du H') (y:Ext F' aC du H' Dy tG tH mZ):Ext F ad mu H Dy tG tH mZ where
 same:=x.same.trans y.same
 new:=fun a o e=>by
  rcases y.new a o e with h | h | h
  ·exact x.new a o h
  ·refine .inr (.inl ?_)
   cases q:H a with
   | none=>rfl
   | some u=>obtain⟨u',h'⟩:=x.gx a u q;rw[h] at h';cases h'
  ·rcases x.b8 a h with h | h
   ·exact .inr (.inr h)
   ·exact .inr (.inl h)
 keep:=fun a o e n t=>y.keep a o (x.keep a o e n t) (fun l=>by
  rcases x.b8 a l with h | h
  ·exact n h
  ·rw[e] at h;cases h) t
 pre:=fun k a e=>y.pre k a (x.pre k a e)
 b8:=fun a l=>by
  rcases y.b8 a l with h | h
  ·exact x.b8 a h
  ·refine .inr ?_
   cases q:H a with
   | none=>rfl
   | some u=>obtain⟨u',h'⟩:=x.gx a u q;rw[h] at h';cases h'
 gx:=fun a o e=>let ⟨o1,e1⟩:=x.gx a o e;y.gx a o1 e1
theorem fX.ext {x:DV} {v:V} (h:fX F ad x v) (e:Ext F ad mu H F' aC du H'):fX F' aC x v:=by
 cases x with
 | p d=>exact Is.same e.same h
 | o k=>obtain⟨a,h1,h2⟩:=h;exact⟨a,e.pre k a h1,h2⟩
noncomputable def Nw (F H H':Hp):Hp:=fun a=>match H a with
 | none=>H' a
 | some _=>F a
theorem Nw.same (s:aw F H):aw F (Nw F H H'):=fun a o e=>by
 unfold Nw;rw[s a o e];exact e
theorem Nw.sub (s:aw F H) (k:aw H H'):aw (Nw F H H') H':=fun a o e=>by
 unfold Nw at e
 cases q:H a with
 | none=>rw[q] at e;exact e
 | some u=>rw[q] at e;exact k a o (s a o e)
theorem Nw.upd {p:Addr} {o:HO} (s:aw F H) (hp:H p=none):Nw F H (upd H p o)=upd F p o:=by
 funext a
 unfold Nw L2.upd
 by_cases c:a=p
 ·subst c;rw[hp,if_pos rfl];simp
 ·rw[if_neg c,if_neg c]
  cases q:H a with
  | none =>
   cases q2:F a with
   | none=>rfl
   | some u=>rw[s a u q2] at q;cases q
  | some u=>rfl
theorem Nw.refl (s:aw F H):Nw F H H=F:=by
 funext a
 unfold Nw
 cases q:H a with
 | none =>
  cases q2:F a with
  | none=>rfl
  | some u=>rw[s a u q2] at q;cases q
 | some u=>rfl
theorem SR.al (S:SR F ad δ σ H) (k:aw H H'):SR (Nw F H H') ad δ σ H':=by
 have sm:=Nw.same (H':=H') S.sub
 refine⟨Nw.sub S.sub k,fun a l => ?_,S.cD,S.inj,fun i ov e => ?_,fun i x e => ?_,S.len,aQ.same S.tab k,fun a ha=>by obtain⟨ps,q⟩:=aQ.tb S.tab ha;unfold Nw;rw[q];exact S.nt a ha⟩
 ·obtain⟨i,ov,e1,e2⟩:=l
  obtain⟨a',o,e3,e4,_⟩:=S.mu i ov e2
  rw[e1] at e3;cases e3
  unfold Nw;rw[e4];exact S.off a ⟨i,ov,e1,e2⟩
 ·obtain⟨a,o,e1,e2,h⟩:=S.mu i ov e
  exact⟨a,o,e1,k a o e2,h.same sm⟩
 ·obtain⟨v,e1,h⟩:=S.sl i x e
  refine⟨v,e1,?_⟩
  cases x with
  | p d=>exact Is.same sm h
  | o k=>exact h
theorem Ext.al (S:SR F ad δ σ H) (k:aw H H'):Ext F ad δ.mu H (Nw F H H') ad δ.mu H' where
 same:=Nw.same S.sub
 new:=fun a o e=>by
  unfold Nw at e
  cases q:H a with
  | none=>exact .inr (.inl rfl)
  | some u=>rw[q] at e;exact .inl e
 keep:=fun a o e _ _=>k a o e
 pre:=fun _ _ e=>e
 b8:=fun _ l => .inl l
 gx:=fun a o e=>⟨o,k a o e⟩
theorem SR.own {p:Addr} {o:HO} {ov:OV} (S:SR F ad δ σ H) (hp:H p=none) (h:fD F ov o):SR F (ad ++ [p]) ⟨δ.sl,δ.mu ++ [some ov]⟩ σ (upd H p o):=by
 have old:∀ {k:Nat} {w:OV},(δ.mu ++ [some ov])[k]? = some (some w)->(k < δ.mu.length /\ δ.mu[k]? = some (some w))\/(k = δ.mu.length/\w=ov):=fun {k w} e=>by
  by_cases c:k < δ.mu.length
  ·rw[List.getElem?_append_left c] at e;exact .inl ⟨c,e⟩
  ·have hl:=(List.getElem?_eq_some_iff.mp e).1
   rw[List.length_append,List.length_singleton] at hl
   have ek:k = δ.mu.length:=by omega
   subst ek
   rw[List.getElem?_append_right (Nat.le_refl _),Nat.sub_self] at e
   exact .inr ⟨rfl,by simpa using e.symm⟩
 have pre:∀ {k:Nat},k < δ.mu.length->(ad ++ [p])[k]? = ad[k]? := fun {k} c=>List.getElem?_append_left (by rw[S.cD];exact c)
 have last:(ad ++ [p])[δ.mu.length]? = some p:=by rw[<-S.cD,List.getElem?_append_right (Nat.le_refl _),Nat.sub_self];rfl
 have np:∀ {k:Nat} {a:Addr} {w:OV},ad[k]? = some a -> δ.mu[k]? = some (some w)->a≠p:=fun {k a w} e1 e2=>by
  obtain⟨a',u,e3,e4,_⟩:=S.mu k w e2
  rw[e1] at e3;cases e3
  exact cv e4 hp
 refine⟨fun a u e => ?_,fun a l => ?_,by rw[List.length_append,List.length_append,S.cD];rfl,fun k l a w w' e1 e2 e3 e4 => ?_,fun k w e => ?_,fun i x e => ?_,S.len,aQ.same S.tab (bW hp),S.nt⟩
 ·have:=S.sub a u e
  rw[aS (cv this hp)];exact this
 ·obtain⟨k,w,e1,e2⟩:=l
  rcases old e2 with⟨c,e3⟩ | ⟨c,e3⟩
  ·rw[pre c] at e1;exact S.off a ⟨k,w,e1,e3⟩
  ·subst c;rw[last] at e1;cases e1
   cases q:F p with
   | none=>rfl
   | some u=>rw[S.sub p u q] at hp;cases hp
 ·rcases old e3 with⟨c,q⟩ | ⟨c,q⟩
  ·rw[pre c] at e1
   rcases old e4 with⟨c',q'⟩ | ⟨c',q'⟩
   ·rw[pre c'] at e2;exact S.inj k l a w w' e1 e2 q q'
   ·subst c';rw[last] at e2;cases e2;exact absurd rfl (np e1 q)
  ·subst c;rw[last] at e1;cases e1
   rcases old e4 with⟨c',q'⟩ | ⟨c',q'⟩
   ·rw[pre c'] at e2;exact absurd rfl (np e2 q')
   ·exact c'.symm
 ·rcases old e with⟨c,q⟩ | ⟨c,q⟩
  ·obtain⟨a,u,e1,e2,h'⟩:=S.mu k w q
   exact⟨a,u,by rw[pre c];exact e1,by rw[aS (np e1 q)];exact e2,h'⟩
  ·subst c;subst q;exact⟨p,o,last,bF,h⟩
 ·obtain⟨v,e1,h'⟩:=S.sl i x e
  refine⟨v,e1,?_⟩
  cases x with
  | p d=>exact h'
  | o k =>
   obtain⟨a,e2,e3⟩:=h'
   exact⟨a,by rw[List.getElem?_append_left (List.getElem?_eq_some_iff.mp e2).1];exact e2,e3⟩
theorem Ext.own {p:Addr} {o:HO} {ov:OV} (S:SR F ad δ σ H) (hp:H p=none):Ext F ad δ.mu H F (ad ++ [p]) (δ.mu ++ [some ov]) (upd H p o) where
 same:=fun _ _ e=>e
 new:=fun _ _ e => .inl e
 keep:=fun a u e _ _=>by rw[aS (cv e hp)];exact e
 pre:=fun k a e=>by rw[List.getElem?_append_left (List.getElem?_eq_some_iff.mp e).1];exact e
 b8:=fun a l=>by
  obtain⟨k,w,e1,e2⟩:=l
  by_cases c:k < δ.mu.length
  ·rw[List.getElem?_append_left c] at e2
   rw[List.getElem?_append_left (by rw[S.cD];exact c)] at e1
   exact .inl ⟨k,w,e1,e2⟩
  ·have hl:=(List.getElem?_eq_some_iff.mp e2).1
   rw[List.length_append,List.length_singleton] at hl
   have ek:k=ad.length:=by rw[S.cD];omega
   subst ek
   rw[List.getElem?_append_right (Nat.le_refl _),Nat.sub_self] at e1
   have:p=a:=by simpa using e1
   subst this;exact .inr hp
 gx:=fun a u e=>⟨u,by rw[aS (cv e hp)];exact e⟩
theorem SR.put {k:Nat} {a:Addr} {o:HO} {ov ow:OV} (S:SR F ad δ σ H) (hk : δ.mu[k]? = some (some ow)) (ha:ad[k]? = some a) (h:fD F ov o):SR F ad ⟨δ.sl,δ.mu.set k (some ov)⟩ σ (upd H a o):=by
 have kl:=(List.getElem?_eq_some_iff.mp hk).1
 have old:∀ {l:Nat} {w:OV},(δ.mu.set k (some ov))[l]? = some (some w)->(l≠k /\ δ.mu[l]? = some (some w))\/(l=k/\w=ov):=fun {l w} e=>by
  by_cases c:k=l
  ·subst c;rw[List.getElem?_set_self kl] at e;exact .inr ⟨rfl,by simpa using e.symm⟩
  ·rw[List.getElem?_set_ne c] at e;exact .inl ⟨fun z=>c z.symm,e⟩
 have lv:∀ {l:Nat} {w:OV} {b:Addr},ad[l]? = some b->(δ.mu.set k (some ov))[l]? = some (some w)->Lv ad δ.mu b:=fun {l w b} e1 e2=>by
  rcases old e2 with⟨_,q⟩ | ⟨c,_⟩
  ·exact⟨l,w,e1,q⟩
  ·subst c;exact⟨l,ow,e1,hk⟩
 have tk:aQ.ok (upd H a o):=by
  obtain⟨a',u,e1,e2,h'⟩:=S.mu k ow hk
  rw[ha] at e1;cases e1
  exact aQ.put S.tab e2 h'.kind
 refine⟨fun b u e => ?_,fun b l => ?_,by rw[List.length_set];exact S.cD,fun l l' b w w' e1 e2 e3 e4 => ?_,fun l w e => ?_,fun i x e => ?_,S.len,tk,S.nt⟩
 ·have nb:b≠a:=fun z=>by
   subst z
   rw[S.off b ⟨k,ow,ha,hk⟩] at e;cases e
  rw[aS nb];exact S.sub b u e
 ·obtain⟨l,w,e1,e2⟩:=l
  exact S.off b (lv e1 e2)
 ·have h1:∃ w,δ.mu[l]? = some (some w):=by
   rcases old e3 with⟨_,q⟩ | ⟨c,_⟩
   ·exact⟨_,q⟩
   ·subst c;exact⟨_,hk⟩
  have h2:∃ w,δ.mu[l']? = some (some w):=by
   rcases old e4 with⟨_,q⟩ | ⟨c,_⟩
   ·exact⟨_,q⟩
   ·subst c;exact⟨_,hk⟩
  obtain⟨w1,q1⟩:=h1
  obtain⟨w2,q2⟩:=h2
  exact S.inj l l' b _ _ e1 e2 q1 q2
 ·rcases old e with⟨c,q⟩ | ⟨c,q⟩
  ·obtain⟨b,u,e1,e2,h'⟩:=S.mu l w q
   have nb:b≠a:=fun z=>by subst z;exact c (S.inj l k b _ _ e1 ha q hk)
   exact⟨b,u,e1,by rw[aS nb];exact e2,h'⟩
  ·subst c;subst q;exact⟨a,o,ha,bF,h⟩
 ·exact S.sl i x e
theorem Ext.put {k:Nat} {a:Addr} {o:HO} {ov ow:OV} (S:SR F ad δ σ H) (hk : δ.mu[k]? = some (some ow)) (ha:ad[k]? = some a):Ext F ad δ.mu H F ad (δ.mu.set k (some ov)) (upd H a o) where
 same:=fun _ _ e=>e
 new:=fun _ _ e => .inl e
 keep:=fun b u e n _=>by rw[aS fun z=>n (by subst z;exact⟨k,ow,ha,hk⟩)];exact e
 pre:=fun _ _ e=>e
 b8:=fun b l=>by
  obtain⟨l,w,e1,e2⟩:=l
  by_cases c:k=l
  ·subst c;exact .inl ⟨k,ow,e1,hk⟩
  ·rw[List.getElem?_set_ne c] at e2;exact .inl ⟨l,w,e1,e2⟩
 gx:=fun b u e=>by
  by_cases c:b=a
  ·subst c;exact⟨o,bF⟩
  ·exact⟨u,by rw[aS c];exact e⟩
theorem SR.fix {k:Nat} {a:Addr} {o:HO} {ow:OV} (S:SR F ad δ σ H) (hk : δ.mu[k]? = some (some ow)) (ha:ad[k]? = some a) (ho:H a=some o):SR (upd F a o) ad ⟨δ.sl,δ.mu.set k none⟩ σ H:=by
 have kl:=(List.getElem?_eq_some_iff.mp hk).1
 have fa:=S.off a ⟨k,ow,ha,hk⟩
 have sm:aw F (upd F a o):=fun b u e=>by rw[aS (cv e fa)];exact e
 have old:∀ {l:Nat} {w:OV},(δ.mu.set k none)[l]? = some (some w)->l≠k /\ δ.mu[l]? = some (some w):=fun {l w} e=>by
  by_cases c:k=l
  ·subst c;rw[List.getElem?_set_self kl] at e;cases e
  ·rw[List.getElem?_set_ne c] at e;exact⟨fun z=>c z.symm,e⟩
 refine⟨fun b u e => ?_,fun b l => ?_,by rw[List.length_set];exact S.cD,fun l l' b w w' e1 e2 e3 e4=>S.inj l l' b w w' e1 e2 (old e3).2 (old e4).2,fun l w e => ?_,fun i x e => ?_,S.len,S.tab,fun b hb => ?_⟩
 ·by_cases c:b=a
  ·subst c;rw[bF] at e;cases e;exact ho
  ·rw[aS c] at e;exact S.sub b u e
 ·obtain⟨l,w,e1,e2⟩:=l
  obtain⟨c,q⟩:=old e2
  have nb:b≠a:=fun z=>by subst z;exact c (S.inj l k b _ _ e1 ha q hk)
  rw[aS nb];exact S.off b ⟨l,w,e1,q⟩
 ·obtain⟨b,u,e1,e2,h'⟩:=S.mu l w (old e).2
  exact⟨b,u,e1,e2,h'.same sm⟩
 ·obtain⟨v,e1,h'⟩:=S.sl i x e
  refine⟨v,e1,?_⟩
  cases x with
  | p d=>exact Is.same sm h'
  | o k=>exact h'
 ·obtain⟨ps,q⟩:=aQ.tb S.tab hb
  have nb:b≠a:=fun z=>by
   subst z
   obtain⟨a',u,e1,e2,h'⟩:=S.mu k ow hk
   rw[ha] at e1;cases e1
   rw[q] at e2;cases e2
   rcases h'.kind with⟨_,z⟩ | ⟨_,z⟩<;>cases z
  rw[aS nb];exact S.nt b hb
theorem Ext.fix {k:Nat} {a:Addr} {o:HO} {ow:OV} (S:SR F ad δ σ H) (hk : δ.mu[k]? = some (some ow)) (ha:ad[k]? = some a):Ext F ad δ.mu H (upd F a o) ad (δ.mu.set k none) H where
 same:=fun b u e=>by rw[aS (cv e (S.off a ⟨k,ow,ha,hk⟩))];exact e
 new:=fun b u e=>by
  by_cases c:b=a
  ·subst c;exact .inr (.inr ⟨k,ow,ha,hk⟩)
  ·rw[aS c] at e;exact .inl e
 keep:=fun b u e _ _=>e
 pre:=fun _ _ e=>e
 b8:=fun b l=>by
  obtain⟨l,w,e1,e2⟩:=l
  by_cases c:k=l
  ·subst c;rw[List.getElem?_set_self (List.getElem?_eq_some_iff.mp hk).1] at e2;cases e2
  ·rw[List.getElem?_set_ne c] at e2;exact .inl ⟨l,w,e1,e2⟩
 gx:=fun b u e=>⟨u,e⟩
theorem SR.set {i:Nat} {x:DV} {v:V} (S:SR F ad δ σ H) (h:fX F ad x v):SR F ad ⟨δ.sl.set i (some x),δ.mu⟩ (σ.set i (some v)) H:=by
 refine⟨S.sub,S.off,S.cD,S.inj,S.mu,fun j y e => ?_,by rw[List.length_set,List.length_set];exact S.len,S.tab,S.nt⟩
 by_cases c:i=j
 ·subst c
  have hl:=(List.getElem?_eq_some_iff.mp e).1
  rw[List.length_set] at hl
  rw[List.getElem?_set_self hl] at e
  cases e
  exact⟨v,List.getElem?_set_self (by rw[S.len];exact hl),h⟩
 ·rw[List.getElem?_set_ne c] at e
  obtain⟨w,e1,h1⟩:=S.sl j y e
  exact⟨w,by rw[List.getElem?_set_ne c];exact e1,h1⟩
end
noncomputable abbrev WE:=av->(DV->av->Prop)->Prop
noncomputable abbrev WA:=av->(List DV->av->Prop)->Prop
noncomputable abbrev WT:=av->(Bool->av->Prop)->Prop
noncomputable def dw (F:Hp) (ad:List Addr):List DV->List V->Prop
 | [],vs=>vs=[]
 | x :: xs,vs=>∃ v r,vs=v :: r/\fX F ad x v/\dw F ad xs r
theorem dw.ext {F F' H H':Hp} {ad aC:List Addr} {mu du:List (Option OV)} (e:Ext F ad mu H F' aC du H'):∀ {xs:List DV} {vs:List V},dw F ad xs vs->dw F' aC xs vs
 | [],_,h=>h
 | _ :: _,_,⟨v,r,q,h1,h2⟩=>⟨v,r,q,h1.ext e,dw.ext e h2⟩
noncomputable def tD (f:WE):TE:=fun σ H Q=>∃ F ad δ K,SR F ad δ σ H/\f δ K/\∀ x δ',K x δ'->∀ v F' aC H',Ext F ad δ.mu H F' aC δ'.mu H'->SR F' aC δ' σ H'->fX F' aC x v->Q v H'
noncomputable def bZ (f:WA):TA:=fun σ H Q=>∃ F ad δ K,SR F ad δ σ H/\f δ K/\∀ xs δ',K xs δ'->∀ vs F' aC H',Ext F ad δ.mu H F' aC δ'.mu H'->SR F' aC δ' σ H'->dw F' aC xs vs->Q vs H'
noncomputable def cI (f:WT):TT:=fun σ H Q=>∃ F ad δ K,SR F ad δ σ H/\f δ K/\∀ b δ',K b δ'->∀ F' aC H',Ext F ad δ.mu H F' aC δ'.mu H'->SR F' aC δ' σ H'->Q b H'
noncomputable def gD (F H:Hp):D->V->Prop
 | .lst ds,v=>∃ a vs,v = .ref a/\H a=some (.lst vs)/\af F ds vs
 | d,v=>Is F d v
noncomputable def gE (x:DV) (δ : av) (K:D->Prop):Prop:=match x with
 | .p d=>K d
 | .o k=>match δ.mu[k]? with
  | some (some (.lst ds))=>K (.lst ds)
  | _=>False
theorem gD.of {F H:Hp} (s:aw F H):∀ {d:D} {v:V},Is F d v->gD F H d v
 | .lst _,_,h=>by
  simp only[Is] at h
  obtain⟨a,vs,e,h1,h2⟩:=h
  exact⟨a,vs,e,s _ _ h1,h2⟩
 | .tup _,_,h=>h
 | .non,_,h=>h
 | .bl _,_,h=>h
 | .int _,_,h=>h
 | .str _,_,h=>h
theorem gD.is {F H:Hp} (s:aw F H):∀ {d:D} {v:V},gD F H d v->Is H d v
 | .lst _,_,h=>by
  obtain⟨a,vs,e,h1,h2⟩:=h
  simp only[Is]
  exact⟨a,vs,e,h1,h2.same s⟩
 | .tup _,_,h=>Is.same s h
 | .non,_,h=>Is.same s h
 | .bl _,_,h=>Is.same s h
 | .int _,_,h=>Is.same s h
 | .str _,_,h=>Is.same s h
theorem iX {F H:Hp} {ad:List Addr} {δ : av} {σ : St} {x:DV} {v:V} {K:D->Prop} (S:SR F ad δ σ H) (hv:fX F ad x v) (h:gE x δ K):∃ d,K d/\gD F H d v:=by
 cases x with
 | p d=>exact⟨d,h,gD.of S.sub hv⟩
 | o k =>
  unfold gE at h
  dsimp only at h
  split at h
  ·rename_i ds e
   obtain⟨a,e1,rfl⟩:=hv
   obtain⟨a',o,e2,e3,vs,rfl,h4⟩:=S.mu k _ e
   rw[e1] at e2;cases e2
   exact⟨_,h,a,vs,rfl,e3,h4⟩
  ·exact h.elim
noncomputable def iY:List DV->av->(List D->Prop)->Prop
 | [],_,K=>K []
 | x :: xs,δ,K=>gE x δ fun d=>iY xs δ fun ds=>K (d :: ds)
noncomputable def iZ (F H:Hp):List D->List V->Prop
 | [],vs=>vs=[]
 | d :: ds,vs=>∃ v r,vs=v :: r/\gD F H d v/\iZ F H ds r
theorem vq {F H:Hp} {ad:List Addr} {δ : av} {σ : St} (S:SR F ad δ σ H):∀ {xs:List DV} {vs:List V} {K:List D->Prop},dw F ad xs vs->iY xs δ K->∃ ds,K ds/\iZ F H ds vs
 | [],_,_,hv,h=>⟨[],h,hv⟩
 | x :: xs,_,_,⟨v,r,rfl,h1,h2⟩,h=>by
  obtain⟨d,h',rd⟩:=iX S h1 h
  obtain⟨ds,qp,oO⟩:=vq S h2 h'
  exact⟨d :: ds,qp,v,r,rfl,rd,oO⟩
noncomputable abbrev Made (F H:Hp) (K:D->Prop) (Q:VK):Prop:=∀ z v H',K z->aw H H'->Is (Nw F H H') z v->Q v H'
noncomputable def eI (X:Cx) (f:Value->Value->Sem Value) (g:D->D->(D->Prop)->Prop):Prop :=
 cC X f fun x y H Q=>∃ F d e K,aw F H/\gD F H d x/\gD F H e y/\g d e K/\Made F H K Q
noncomputable def Dz (X:Cx) (g:D->D->(D->Prop)->Prop):Prop :=
 qc X fun x y H Q=>∃ F d e K,aw F H/\gD F H d x/\gD F H e y/\g d e K/\Made F H K Q
noncomputable def c6 (X:Cx) (f:Value) (g:List D->(D->Prop)->Prop):Prop :=
 fA X f fun xs H Q=>∃ F ds K,aw F H/\iZ F H ds xs/\g ds K/\Made F H K Q
noncomputable def d2 (f g:WE) (op:D->D->(D->Prop)->Prop):WE:=fun δ K=>f δ fun x δ1=>g δ1 fun y δ2=>gE x δ2 fun d=>gE y δ2 fun e=>op d e fun z=>K (.p z) δ2
noncomputable def d1 (f:WE) (op:D->(D->Prop)->Prop):WE:=fun δ K=>f δ fun x δ1=>gE x δ1 fun d=>op d fun z=>K (.p z) δ1
noncomputable def dN (f:WA) (op:List D->(D->Prop)->Prop):WE:=fun δ K=>f δ fun xs δ1=>iY xs δ1 fun ds=>op ds fun z=>K (.p z) δ1
noncomputable def dC (d:D):WE:=fun δ K=>K (.p d) δ
noncomputable def aa (i:Nat):WE:=fun δ K=>match δ.sl[i]? with
 | some (some x)=>K x δ
 | _=>False
noncomputable def ah:WA:=fun δ K=>K [] δ
noncomputable def ak (f:WE) (g:WA):WA:=fun δ K=>f δ fun x δ1=>g δ1 fun xs δ2=>K (x :: xs) δ2
section
variable {X:Cx} {a b c:Expr} {f g h:WE} {fa:WA} {pos:Pos}
theorem vt {e:Expr} {d:D} {v:V} (h:JE X e (tC v)) (hi:∀ F,Is F d v):JE X e (tD (dC d)):=h.weak fun σ H Q h0_ => el7 h0_ fun F ad δ K S q k =>k _ _ q _ _ _ _ .refl S (hi F)
theorem ay {i j pos}:JE X (.Constant (.int i) j pos) (tD (dC (.int i))):=vt bR fun _=>rfl
theorem jm {i j pos}:JE X (.Constant (.bool i) j pos) (tD (dC (.bl i))):=vt KH fun _=>rfl
theorem zt {j pos}:JE X (.Constant .none j pos) (tD (dC .non)):=vt KI fun _=>rfl
theorem zu {x:Str} {i:Int} {u:Value} {pos:Pos} (hg:Gl X x) (hm:X.mg x=some u) (r:RelV (.int i) u) (hd:(x == ("__debug__" : Str))=false:=by decide):JE X (.Name x pos) (tD (dC (.int i))):=vt (KJ hg hm r hd) fun _=>rfl
theorem dv (i:Nat) {x:Str} {pos:Pos} (hN:X.N[i]? = some x:=by rfl) (hv:nU X.env.scope x:=by first | exact Or.inl rfl | exact Or.inr (Or.inl rfl) | exact Or.inr (Or.inr rfl))
  (hd:(x == ("__debug__" : Str))=false:=by decide) (gO:(x == ("__classdict__" : Str))=false:=by decide):JE X (.Name x pos) (tD (aa i)) :=
 (KG hN hv hd gO).weak fun σ H Q h0_ => el7 h0_ fun F ad δ K S q k =>by
  unfold aa at q
  split at q
  ·rename_i x e
   obtain⟨v,e1,h1⟩:=S.sl i x e
   exact⟨v,e1,k _ _ q _ _ _ _ .refl S h1⟩
  ·exact q.elim
theorem vv {r:R2} {ta tb:TE} {op:D->D->(D->Prop)->Prop} (hr:∀ x y H Q,(∃ F d e K,aw F H/\gD F H d x/\gD F H e y/\op d e K/\Made F H K Q)->r x y H Q):∀ σ H Q,tD (d2 f g op) σ H Q->kH r (tD f) (tD g) σ H Q:=by
 rintro σ H Q ⟨F,ad,δ,K,S,q,k⟩
 refine⟨F,ad,δ,_,S,q,fun x δ1 h1 v1 F1 aL H1 E1 S1 V1=>⟨F1,aL,δ1,_,S1,h1,fun y δ2 h2 v2 F2 cV H2 E2 S2 V2=>hr _ _ _ _ ?_⟩⟩
 obtain⟨d,h3,rd⟩:=iX S2 (V1.ext E2) h2
 obtain⟨e,h4,re⟩:=iX S2 V2 h3
 exact⟨F2,d,e,_,S2.sub,rd,re,h4,fun z v H' hz sm is=>k _ _ hz _ _ _ _ ((E1.trans E2).trans (Ext.al S2 sm)) (S2.al sm) is⟩
theorem bo {op:Operator} {o:D->D->(D->Prop)->Prop} (ho:eI X (binaryOp op) o) (ha:JE X a (tD f)) (hb:JE X b (tD g)):JE X (.BinOp a op b pos) (tD (d2 f g o)) :=
 (tj ho ha hb).weak (vv (ta:=tD f) (tb:=tD g) fun _ _ _ _ h=>h)
theorem lM {op:CmpOp} {o:D->D->(D->Prop)->Prop} (ho:eI X (compareOp op) o) (ha:JE X a (tD f)) (hb:JE X b (tD g)) (hm:behindInMarks op b=false):JE X (.Compare a [op] [b] pos) (tD (d2 f g o)) :=
 (K8 ho ha hb hm).weak (vv (ta:=tD f) (tb:=tD g) fun _ _ _ _ h=>h)
theorem bC {o:D->D->(D->Prop)->Prop} (ho:Dz X o) (ha:JE X a (tD f)) (hb:JE X b (tD g)) (hs:yw b):JE X (.Subscript a b pos) (tD (d2 f g o)) :=
 (zg ho ha hb hs).weak (vv (ta:=tD f) (tb:=tD g) fun _ _ _ _ h=>h)
theorem aE:JA X [] (bZ ah):=aV.weak fun σ H Q h0_ => el7 h0_ fun F ad δ K S q k =>k _ _ q _ _ _ _ .refl S rfl
theorem oP:∀ σ H Q,bZ (ak f fa) σ H Q->eM (tD f) (bZ fa) σ H Q:=by
 rintro σ H Q ⟨F,ad,δ,K,S,q,k⟩
 exact⟨F,ad,δ,_,S,q,fun x δ1 h1 v1 F1 aL H1 E1 S1 V1=>⟨F1,aL,δ1,_,S1,h1,fun xs δ2 h2 vs F2 cV H2 E2 S2 V2=>k _ _ h2 _ _ _ _ (E1.trans E2) S2 ⟨v1,vs,rfl,V1.ext E2,V2⟩⟩⟩
theorem g8 {e:Expr} {es:List Expr} (ha:JE X e (tD f)) (hr:JA X es (bZ fa)) (hs:starEach (e :: es) X.env=(false,eval e X.env) :: starEach es X.env:=by rfl):JA X (e :: es) (bZ (ak f fa)):=(oK ha hr hs).weak oP
theorem a5 {es:List Expr} {c j p} (ha:JE X (.Constant c j p) (tD f)) (hr:JA X es (bZ fa)):JA X (.Constant c j p :: es) (bZ (ak f fa)):=(tw ha hr).weak oP
theorem aq {es:List Expr} {x p} (ha:JE X (.Name x p) (tD f)) (hr:JA X es (bZ fa)):JA X (.Name x p :: es) (bZ (ak f fa)):=(h9 ha hr).weak oP
theorem bI {es:List Expr} {x y k p} (ha:JE X (.Call x y k p) (tD f)) (hr:JA X es (bZ fa)):JA X (.Call x y k p :: es) (bZ (ak f fa)):=(h_ ha hr).weak oP
theorem zv {es:List Expr} {x p} (ha:JE X (.List x p) (tD f)) (hr:JA X es (bZ fa)):JA X (.List x p :: es) (bZ (ak f fa)):=(oN ha hr).weak oP
theorem zw {es:List Expr} {x k p} (ha:JE X (.Tuple x k p) (tD f)) (hr:JA X es (bZ fa)):JA X (.Tuple x k p :: es) (bZ (ak f fa)):=(zh ha hr).weak oP
theorem bJ {es:List Expr} {x k p} (ha:JE X (.Subscript x k p) (tD f)) (hr:JA X es (bZ fa)):JA X (.Subscript x k p :: es) (bZ (ak f fa)):=(zi ha hr).weak oP
theorem DA {r:List V->Hp->VK->Prop} {op:List D->(D->Prop)->Prop} (hr:∀ xs H Q,(∃ F ds K,aw F H/\iZ F H ds xs/\op ds K/\Made F H K Q)->r xs H Q):∀ σ H Q,tD (dN fa op) σ H Q->qa r (bZ fa) σ H Q:=by
 rintro σ H Q ⟨F,ad,δ,K,S,q,k⟩
 refine⟨F,ad,δ,_,S,q,fun xs δ1 h1 vs F1 aL H1 E1 S1 V1=>hr _ _ _ ?_⟩
 obtain⟨ds,h2,oO⟩:=vq S1 V1 h1
 exact⟨F1,ds,_,S1.sub,oO,h2,fun z v H' hz sm is=>k _ _ hz _ _ _ _ (E1.trans (Ext.al S1 sm)) (S1.al sm) is⟩
theorem eZ {x:Str} {p:Pos} {e:Expr} {es:List Expr} {id:String} {o:List D->(D->Prop)->Prop} (hc:c6 X (.builtin id) o) (hg:Gl X x) (hm:X.mg x=none) (hv:bootBuiltins x=some (.builtin id)) (ha:JA X (e :: es) (bZ fa)) (hn:x ≠ "__name__" := by decide) (gs:(x == ("__debug__" : Str))=false:=by decide)
  (he:starEach (e :: es) X.env=(false,eval e X.env) :: starEach es X.env:=by rfl) (fW:(backTo pos (starEach es X.env)).any (·.1)=false:=by rfl):JE X (.Call (.Name x p) (e :: es) [] pos) (tD (dN fa o)) :=
 (vk hc hg hm hv ha hn gs he fW).weak (DA fun _ _ _ h=>h)
theorem DB {x:Str} {p:Pos} {e:Expr} {es:List Expr} {T:String} {o:List D->(D->Prop)->Prop} (hc:c6 X (.type T) o) (hg:Gl X x) (hm:X.mg x=none) (hv:bootBuiltins x=some (.type T)) (ha:JA X (e :: es) (bZ fa)) (hn:x ≠ "__name__" := by decide) (gs:(x == ("__debug__" : Str))=false:=by decide)
  (he:starEach (e :: es) X.env=(false,eval e X.env) :: starEach es X.env:=by rfl) (fW:(backTo pos (starEach es X.env)).any (·.1)=false:=by rfl):JE X (.Call (.Name x p) (e :: es) [] pos) (tD (dN fa o)) :=
 (lJ hc hg hm hv ha hn gs he fW).weak (DA fun _ _ _ h=>h)
end
noncomputable def DC (k:Nat) (ds:List D):Option DV->Option DV
 | some (.o j)=>if j=k then some (.p (.lst ds)) else some (.o j)
 | s=>s
noncomputable def av.fix (δ : av) (k:Nat) (ds:List D):av:=⟨δ.sl.map (DC k ds),δ.mu.set k none⟩
noncomputable def lN (x:DV) (δ : av) (K:D->av->Prop):Prop:=match x with
 | .p d=>K d δ
 | .o k=>match δ.mu[k]? with
  | some (some (.lst ds))=>K (.lst ds) (δ.fix k ds)
  | _=>False
noncomputable def i5:List DV->av->(List D->av->Prop)->Prop
 | [],δ,K=>K [] δ
 | x :: xs,δ,K=>lN x δ fun d δ1=>i5 xs δ1 fun ds δ2=>K (d :: ds) δ2
section
variable {F F' H H':Hp} {ad aC:List Addr} {δ δ':av} {σ σ':St}
theorem SR.fixed {k:Nat} {a:Addr} {vs:List V} {ds:List D} (S:SR F ad δ σ H) (hk : δ.mu[k]? = some (some (.lst ds))) (ha:ad[k]? = some a) (ho:H a=some (.lst vs)) (hi:af F ds vs):SR (upd F a (.lst vs)) ad (δ.fix k ds) σ H:=by
 have S1:=S.fix hk ha ho
 have sm:aw F (upd F a (.lst vs)):=(Ext.fix (o := .lst vs) S hk ha).same
 refine⟨S1.sub,S1.off,S1.cD,S1.inj,S1.mu,fun i x e => ?_,by rw[S.len];unfold av.fix;rw[List.length_map],S1.tab,S1.nt⟩
 unfold av.fix at e
 rw[List.getElem?_map] at e
 obtain⟨s,e1,e2⟩:=Option.map_eq_some_iff.mp e
 match s,e2 with
 | none,e2=>cases e2
 | some (.p d),e2 =>
  cases (show some (DV.p d)=some x from e2)
  exact S1.sl i _ e1
 | some (.o j),e2 =>
  have e3:(if j=k then some (DV.p (.lst ds)) else some (DV.o j))=some x:=e2
  clear e2
  obtain⟨v,h1,a',h2,h3⟩:=S.sl i _ e1
  by_cases c:j=k
  ·rw[if_pos c] at e3
   subst c
   cases e3
   rw[ha] at h2;cases h2
   refine⟨v,h1,?_⟩
   show Is _ (.lst ds) v
   simp only[Is]
   exact⟨a,vs,h3,bF,hi.same sm⟩
  ·rw[if_neg c] at e3
   cases e3
   exact⟨v,h1,a',h2,h3⟩
theorem tI {x:DV} {v:V} {K:D->av->Prop} (S:SR F ad δ σ H) (hv:fX F ad x v) (h:lN x δ K):∃ d δ' F',K d δ'/\Ext F ad δ.mu H F' ad δ'.mu H/\SR F' ad δ' σ H/\Is F' d v:=by
 cases x with
 | p d=>exact⟨d,δ,F,h,.refl,S,hv⟩
 | o k =>
  unfold lN at h
  dsimp only at h
  split at h
  ·rename_i ds e
   obtain⟨a,e1,rfl⟩:=hv
   obtain⟨a',o,e2,e3,vs,rfl,h4⟩:=S.mu k _ e
   rw[e1] at e2;cases e2
   refine⟨_,_,_,h,Ext.fix S e e1,S.fixed e e1 e3 h4,?_⟩
   simp only[Is]
   exact⟨a,vs,rfl,bF,h4.same (Ext.fix (o := .lst vs) S e e1).same⟩
  ·exact h.elim
theorem vw:∀ {xs:List DV} {vs:List V} {δ : av} {F:Hp} {K:List D->av->Prop},SR F ad δ σ H->dw F ad xs vs->i5 xs δ K->∃ ds δ' F',K ds δ'/\Ext F ad δ.mu H F' ad δ'.mu H/\SR F' ad δ' σ H/\af F' ds vs
 | [],_,δ,F,_,S,hv,h=>⟨[],δ,F,h,.refl,S,by simp only[af];exact hv⟩
 | x :: xs,_,δ,F,_,S,⟨v,r,e,h1,h2⟩,h=>by
  subst e
  obtain⟨d,δ1,F1,h',E1,S1,i1⟩:=tI S h1 h
  obtain⟨ds,δ2,F2,qp,E2,S2,i2⟩:=vw S1 (h2.ext E1) h'
  exact⟨d :: ds,δ2,F2,qp,E1.trans E2,S2,.cons (i1.same E2.same) i2⟩
end
noncomputable def gW (fa:WA):WE:=fun δ K=>fa δ fun xs δ1=>i5 xs δ1 fun ds δ2=>ds.length <= 1000/\K (.p (.tup ds)) δ2
noncomputable def gy (fa:WA):WE:=fun δ K=>fa δ fun xs δ1=>i5 xs δ1 fun ds δ2=>ds.length <= 1000/\K (.p (.lst ds)) δ2
noncomputable def tJ (fa:WA):WE:=fun δ K=>fa δ fun xs δ1=>i5 xs δ1 fun ds δ2=>ds.length <= 1000/\K (.o δ2.mu.length) ⟨δ2.sl,δ2.mu ++ [some (.lst ds)]⟩
section
variable {X:Cx} {a b c:Expr} {es:List Expr} {f g h:WE} {fa:WA} {t u:WT} {pos:Pos}
theorem jV {n:Nat} (h:n <= 1000):n <= sizeLine:=Nat.le_of_lt (ji h)
theorem qq {x1} (ha:JA X es (bZ fa)):JE X (.Tuple es x1 pos) (tD (gW fa)):=(La ha).weak fun σ H Q h0_ => el7 h0_ fun F ad δ K S q k =>
 ⟨F,ad,δ,_,S,q,fun xs δ1 h1 vs F1 aL H1 E1 S1 V1=>by
  obtain⟨ds,δ2,F2,⟨hl,h2⟩,E2,S2,i2⟩:=vw S1 V1 h1
  refine⟨jV (by rw[i2.length];exact hl),fun p hp => ?_⟩
  have sm:aw H1 (upd H1 p (.tup vs)):=bW hp
  refine k _ _ h2 _ _ _ _ ((E1.trans E2).trans (Ext.al S2 sm)) (S2.al sm) ?_
  show Is _ (.tup ds) _
  simp only[Is]
  rw[Nw.upd S2.sub hp]
  refine⟨p,vs,rfl,bF,i2.same fun b o e => ?_⟩
  rw[aS (cv (S2.sub b o e) hp)];exact e⟩
theorem tK (ha:JA X es (bZ fa)):JE X (.List es pos) (tD (gy fa)):=(tq ha).weak fun σ H Q h0_ => el7 h0_ fun F ad δ K S q k =>
 ⟨F,ad,δ,_,S,q,fun xs δ1 h1 vs F1 aL H1 E1 S1 V1=>by
  obtain⟨ds,δ2,F2,⟨hl,h2⟩,E2,S2,i2⟩:=vw S1 V1 h1
  refine⟨jV (by rw[i2.length];exact hl),fun p hp => ?_⟩
  have sm:aw H1 (upd H1 p (.lst vs)):=bW hp
  refine k _ _ h2 _ _ _ _ ((E1.trans E2).trans (Ext.al S2 sm)) (S2.al sm) ?_
  show Is _ (.lst ds) _
  simp only[Is]
  rw[Nw.upd S2.sub hp]
  refine⟨p,vs,rfl,bF,i2.same fun b o e => ?_⟩
  rw[aS (cv (S2.sub b o e) hp)];exact e⟩
theorem zx (ha:JA X es (bZ fa)):JE X (.List es pos) (tD (tJ fa)):=(tq ha).weak fun σ H Q h0_ => el7 h0_ fun F ad δ K S q k =>
 ⟨F,ad,δ,_,S,q,fun xs δ1 h1 vs F1 aL H1 E1 S1 V1=>by
  obtain⟨ds,δ2,F2,⟨hl,h2⟩,E2,S2,i2⟩:=vw S1 V1 h1
  refine⟨jV (by rw[i2.length];exact hl),fun p hp => ?_⟩
  have oi:fD F2 (.lst ds) (.lst vs):=⟨vs,rfl,i2⟩
  refine k _ _ h2 _ _ _ _ ((E1.trans E2).trans (Ext.own S2 hp)) (S2.own hp oi) ⟨p,?_,rfl⟩
  rw[<-S2.cD,List.getElem?_append_right (Nat.le_refl _),Nat.sub_self];rfl⟩
noncomputable def qr (x:DV) (P:Bool->Prop):Prop:=match x with
 | .p (.bl b)=>P b
 | _=>False
noncomputable def dT (f:WE):WT:=fun δ K=>f δ fun x δ1=>qr x fun b=>K b δ1
noncomputable def jW (t u:WT):WT:=fun δ K=>t δ fun b δ1=>if b=true then u δ1 K else K false δ1
noncomputable def lO (t u:WT):WT:=fun δ K=>t δ fun b δ1=>if b=true then K true δ1 else u δ1 K
noncomputable def e7 (t:WT):WT:=fun δ K=>t δ fun b δ1=>K (!b) δ1
noncomputable def tL (t:WT) (f g:WE):WE:=fun δ K=>t δ fun b δ1=>if b=true then f δ1 K else g δ1 K
noncomputable def jn (f g:WE):WE:=fun δ K=>f δ fun x δ1=>qr x fun b=>if b=true then g δ1 K else K (.p (.bl false)) δ1
noncomputable def zy (f:WE):WE:=fun δ K=>f δ fun x δ1=>qr x fun b=>K (.p (.bl (!b))) δ1
theorem tM {F:Hp} {ad:List Addr} {x:DV} {v:V} {P:Bool->Prop} (hv:fX F ad x v) (h:qr x P):∃ b,v = .bl b/\P b:=by
 unfold qr at h
 split at h
 ·rename_i b
  exact⟨b,hv,h⟩
 ·exact h.elim
theorem i7 (ha:JE X a (tD f)) (he:∀ whole,isTrue a X.env whole=(do let v <- whole;standAt a.pos;holding [v] (truthy v)):=by intro _;rfl):JT X a (cI (dT f)) :=
 (KP ha he).weak fun σ H Q h0_ => el7 h0_ fun F ad δ K S q k =>⟨F,ad,δ,_,S,q,fun x δ1 h1 v F1 aL H1 E1 S1 V1=>by
  obtain⟨b,rfl,h2⟩:=tM V1 h1
  exact⟨b,rfl,k _ _ h2 _ _ _ E1 S1⟩⟩
theorem d9 {op:CmpOp} {o:D->D->(D->Prop)->Prop} (ho:eI X (compareOp op) o) (ha:JE X a (tD f)) (hb:JE X b (tD g)) (hm:behindInMarks op b=false):JT X (.Compare a [op] [b] pos) (cI (dT (d2 f g o))) :=
 (K9 ho ha hb hm).weak fun σ H Q h0_ => el7 h0_ fun F ad δ K S q k =>vv (ta:=tD f) (tb:=tD g) (fun _ _ _ _ h=>h) σ H _ ⟨F,ad,δ,_,S,q,fun x δ1 h1 v F1 aL H1 E1 S1 V1=>by
  obtain⟨b,rfl,h2⟩:=tM V1 h1
  exact⟨b,rfl,k _ _ h2 _ _ _ E1 S1⟩⟩
theorem lP (ha:JT X a (cI t)):JT X (.UnaryOp .Not a pos) (cI (e7 t)):=(KY ha).weak fun σ H Q h0_ => el7 h0_ fun F ad δ K S q k =>⟨F,ad,δ,_,S,q,fun b δ1 h1 F1 aL H1 E1 S1=>k _ _ h1 _ _ _ E1 S1⟩
theorem Lx:∀ σ H Q,cI (jW t u) σ H Q->nX (cI t) (cI u) σ H Q:=fun σ H Q h0_ => el7 h0_ fun F ad δ K S q k =>⟨F,ad,δ,_,S,q,fun b δ1 h1 F1 aL H1 E1 S1=>by
 cases b with
 | true =>
  rw[if_pos rfl] at h1 ⊢
  exact⟨F1,aL,δ1,_,S1,h1,fun b δ2 h2 F2 cV H2 E2 S2=>k _ _ h2 _ _ _ (E1.trans E2) S2⟩
 | false =>
  rw[if_neg Bool.false_ne_true] at h1 ⊢
  exact k _ _ h1 _ _ _ E1 S1⟩
theorem Ly:∀ σ H Q,cI (lO t u) σ H Q->x9 (cI t) (cI u) σ H Q:=fun σ H Q h0_ => el7 h0_ fun F ad δ K S q k =>⟨F,ad,δ,_,S,q,fun b δ1 h1 F1 aL H1 E1 S1=>by
 cases b with
 | false =>
  rw[if_neg Bool.false_ne_true] at h1 ⊢
  exact⟨F1,aL,δ1,_,S1,h1,fun b δ2 h2 F2 cV H2 E2 S2=>k _ _ h2 _ _ _ (E1.trans E2) S2⟩
 | true =>
  rw[if_pos rfl] at h1 ⊢
  exact k _ _ h1 _ _ _ E1 S1⟩
theorem JW.weak {e:Expr} {t t':TT} (h:JW X e t) (k:∀ σ H Q,t' σ H Q->t σ H Q):JW X e t':=⟨fun wh pins s σ H Q I q=>h.out wh pins s σ H Q I (k σ H Q q)⟩
theorem DD (ha:JT X a (cI t)):JW X (.BoolOp .And [a] pos) (cI t):=KQ ha
theorem qt (ha:JT X a (cI t)):JW X (.BoolOp .Or [a] pos) (cI t):=KR ha
theorem DE {rest:List Expr} (ha:JT X a (cI t)) (hb:JW X (.BoolOp .And (b :: rest) pos) (cI u)):JW X (.BoolOp .And (a :: b :: rest) pos) (cI (jW t u)):=(KU ha hb).weak Lx
theorem qu {rest:List Expr} (ha:JT X a (cI t)) (hb:JW X (.BoolOp .Or (b :: rest) pos) (cI u)):JW X (.BoolOp .Or (a :: b :: rest) pos) (cI (lO t u)):=(KW ha hb).weak Ly
theorem lQ {op} (ha:JE X a (tD f)):JE X (.BoolOp op [a] pos) (tD f):=KZ ha
theorem kM {rest:List Expr} (ha:JE X a (tD f)) (hb:JE X (.BoolOp .And (b :: rest) pos) (tD g)):JE X (.BoolOp .And (a :: b :: rest) pos) (tD (jn f g)) :=
 (K1 ha hb).weak fun σ H Q h0_ => el7 h0_ fun F ad δ K S q k =>⟨F,ad,δ,_,S,q,fun x δ1 h1 v F1 aL H1 E1 S1 V1=>by
  obtain⟨b,rfl,h2⟩:=tM V1 h1
  refine⟨b,rfl,?_⟩
  cases b with
  | true =>
   rw[if_pos rfl] at h2 ⊢
   exact⟨F1,aL,δ1,_,S1,h2,fun x δ2 h3 v F2 cV H2 E2 S2 V2=>k _ _ h3 _ _ _ _ (E1.trans E2) S2 V2⟩
  | false =>
   rw[if_neg Bool.false_ne_true] at h2 ⊢
   exact k _ _ h2 _ _ _ _ E1 S1 rfl⟩
theorem Lz (ha:JE X a (tD f)):JE X (.UnaryOp .Not a pos) (tD (zy f)) :=
 (K4 ha).weak fun σ H Q h0_ => el7 h0_ fun F ad δ K S q k =>⟨F,ad,δ,_,S,q,fun x δ1 h1 v F1 aL H1 E1 S1 V1=>by
  obtain⟨b,rfl,h2⟩:=tM V1 h1
  exact⟨b,rfl,k _ _ h2 _ _ _ _ E1 S1 rfl⟩⟩
theorem DF (hc:JT X c (cI t)) (ha:JE X a (tD f)) (hb:JE X b (tD g)):JE X (.IfExp c a b pos) (tD (tL t f g)) :=
 (K5 hc ha hb).weak fun σ H Q h0_ => el7 h0_ fun F ad δ K S q k =>⟨F,ad,δ,_,S,q,fun b δ1 h1 F1 aL H1 E1 S1=>by
  cases b with
  | true =>
   rw[if_pos rfl] at h1 ⊢
   exact⟨F1,aL,δ1,_,S1,h1,fun x δ2 h3 v F2 cV H2 E2 S2 V2=>k _ _ h3 _ _ _ _ (E1.trans E2) S2 V2⟩
  | false =>
   rw[if_neg Bool.false_ne_true] at h1 ⊢
   exact⟨F1,aL,δ1,_,S1,h1,fun x δ2 h3 v F2 cV H2 E2 S2 V2=>k _ _ h3 _ _ _ _ (E1.trans E2) S2 V2⟩⟩
end
structure KS where
 nx:av->Prop
 rt:DV->av->Prop
 bk:av->Prop:=fun _=>False
 ct:av->Prop:=fun _=>False
noncomputable abbrev WS:=KS->av->Prop
noncomputable def Cn (F:Hp) (ad:List Addr) (mu:List (Option OV)) (H:Hp) (P:av->Prop) (R:St->Hp->Prop):Prop:=∀ δ',P δ'->∀ F' aC σ' H',Ext F ad mu H F' aC δ'.mu H'->SR F' aC δ' σ' H'->R σ' H'
structure vx (F:Hp) (ad:List Addr) (mu:List (Option OV)) (H:Hp) (K:KS) (D:Ends):Prop where
 nx:Cn F ad mu H K.nx D.nx
 bk:Cn F ad mu H K.bk D.bk
 ct:Cn F ad mu H K.ct D.ct
 rt:∀ x δ',K.rt x δ'->∀ v F' aC σ' H',Ext F ad mu H F' aC δ'.mu H'->SR F' aC δ' σ' H'->fX F' aC x v->D.rt v H'
theorem Cn.ext {F F' H H':Hp} {ad aC:List Addr} {mu du:List (Option OV)} {P:av->Prop} {R:St->Hp->Prop} (c:Cn F ad mu H P R) (e:Ext F ad mu H F' aC du H'):Cn F' aC du H' P R:=fun δ' h _ _ _ _ E S=>c δ' h _ _ _ _ (e.trans E) S
theorem vx.ext {F F' H H':Hp} {ad aC:List Addr} {mu du:List (Option OV)} {K:KS} {D:Ends} (c:vx F ad mu H K D) (e:Ext F ad mu H F' aC du H'):vx F' aC du H' K D :=
 ⟨c.nx.ext e,c.bk.ext e,c.ct.ext e,fun x δ' h _ _ _ _ _ E S V=>c.rt x δ' h _ _ _ _ _ (e.trans E) S V⟩
noncomputable def d_ (G:WS):TS:=fun D σ H=>∃ F ad δ K,SR F ad δ σ H/\G K δ /\ vx F ad δ.mu H K D
noncomputable def ar (G G':WS):WS:=fun K δ => G { K with nx:=G' K } δ
noncomputable def eJ:WS:=fun K δ => K.nx δ
noncomputable def aO (i:Nat) (f:WE):WS:=fun K δ => f δ fun x δ1=>K.nx ⟨δ1.sl.set i (some x),δ1.mu⟩
noncomputable def m8 (f:WE):WS:=fun K δ => f δ fun _ δ1=>K.nx δ1
noncomputable def aM (f:WE):WS:=fun K δ => f δ fun x δ1=>K.rt x δ1
noncomputable def bp (t:WT) (G G':WS):WS:=fun K δ => t δ fun b δ1=>if b=true then G K δ1 else G' K δ1
section
variable {X:Cx} {e c:Expr} {st:Stmt} {rest:List Stmt} {f:WE} {t:WT} {G G':WS} {pos:Pos}
theorem e8:fB X [] (d_ eJ):=iA.weak fun D σ H h0_ => el7 h0_ fun F ad δ K S q k =>k.nx _ q _ _ _ _ .refl S
theorem bj (h:JS X st (d_ G)):fB X [st] (d_ G):=ql h
theorem a8 (h:JS X st (d_ G)) (r:fB X rest (d_ G')):fB X (st :: rest) (d_ (ar G G')) :=
 (kL h r).weak fun D σ H h0_ => el7 h0_ fun F ad δ K S q k =>⟨F,ad,δ,_,S,q,⟨fun δ' h _ _ _ _ E S'=>⟨_,_,δ',K,S',h,k.ext E⟩,k.bk,k.ct,k.rt⟩⟩
theorem LA {i:Nat}:∀ D σ H,d_ (aO i f) D σ H->eS (tD f) (jh i) D σ H:=fun D σ H h0_ => el7 h0_ fun F ad δ K S q k =>⟨F,ad,δ,_,S,q,fun x δ1 h1 v F1 aL H1 E1 S1 V1=>k.nx _ h1 _ _ _ _ E1 (S1.set V1)⟩
theorem cX {i:Nat} {x:Str} {pos':Pos} (hN:X.N.Nodup) (hi:X.N[i]? = some x) (hx:Loc X.env.scope x) (he:JE X e (tD f)) (hs:swapsWith e (some (.Name x pos')) pos.line X.env=pure false:=by rfl)
  (hf:X.fn x=true\/X.env.scope.names.lookup x=some .local:=by first | exact .inl rfl | exact .inr rfl | assumption):JS X (.Assign [.Name x pos'] e pos) (d_ (aO i f)):=(s_ hN hi hx he hs hf).weak LA
theorem qv (he:JE X e (tD f)) (hs:swapsWith e none pos.line X.env=pure false:=by rfl):JS X (.Expr e pos) (d_ (m8 f)) :=
 (vj he hs).weak fun D σ H h0_ => el7 h0_ fun F ad δ K S q k =>⟨F,ad,δ,_,S,q,fun x δ1 h1 v F1 aL H1 E1 S1 V1=>k.nx _ h1 _ _ _ _ E1 S1⟩
theorem b4 (he:JE X e (tD f)):JS X (.Return (some e) pos) (d_ (aM f)) :=
 (zc he).weak fun D σ H h0_ => el7 h0_ fun F ad δ K S q k =>⟨F,ad,δ,_,S,q,fun x δ1 h1 v F1 aL H1 E1 S1 V1=>k.rt _ _ h1 _ _ _ _ _ E1 S1 V1⟩
theorem eQ {a b:List Stmt} (hc:JT X c (cI t)) (ha:fB X a (d_ G)) (hb:fB X b (d_ G')):JS X (.If c a b pos) (d_ (bp t G G')) :=
 (Dc hc ha hb).weak fun D σ H h0_ => el7 h0_ fun F ad δ K S q k =>⟨F,ad,δ,_,S,q,fun b δ1 h1 F1 aL H1 E1 S1=>by
  cases b with
  | true =>
   rw[if_pos rfl] at h1 ⊢
   exact⟨F1,aL,δ1,K,S1,h1,k.ext E1⟩
  | false =>
   rw[if_neg Bool.false_ne_true] at h1 ⊢
   exact⟨F1,aL,δ1,K,S1,h1,k.ext E1⟩⟩
noncomputable def tN:WS:=fun _ _=>False
noncomputable abbrev WG:=DV->av->(av->Prop)->Prop
noncomputable def jX (g:WG):TG:=fun v σ H Q=>∃ F ad δ x K,SR F ad δ σ H/\fX F ad x v/\g x δ K/\Cn F ad δ.mu H K Q
noncomputable abbrev oQ:=List D->av->(av->Prop)->Prop
noncomputable def lR (g:oQ):iw:=fun vs σ H Q=>∃ F ad δ ds K,SR F ad δ σ H/\af F ds vs/\g ds δ K/\Cn F ad δ.mu H K Q
noncomputable def bA (i:Nat):WG:=fun x δ K=>K ⟨δ.sl.set i (some x),δ.mu⟩
noncomputable def lT:oQ:=fun ds δ K=>match ds with
 | []=>K δ
 | _=>False
noncomputable def iD (g:WG) (g':oQ):oQ:=fun ds δ K=>match ds with
 | d :: r=>g (.p d) δ fun δ1=>g' r δ1 K
 | []=>False
theorem JG.weak {tg:Expr} {t t':TG} (h:JG X tg t) (k:∀ v σ H Q,t' v σ H Q->t v σ H Q):JG X tg t':=⟨fun pins s σ H v u Q I r q=>h.out pins s σ H v u Q I r (k v σ H Q q)⟩
theorem jk.weak {ts:List Expr} {t t':iw} (h:jk X ts t) (k:∀ v σ H Q,t' v σ H Q->t v σ H Q):jk X ts t':=⟨fun pins s σ H v u Q I r q=>h.out pins s σ H v u Q I r (k v σ H Q q)⟩
theorem c7 {i:Nat} {x:Str} (hN:X.N.Nodup) (hi:X.N[i]? = some x) (hx:Loc X.env.scope x) (hf:X.fn x=true\/X.env.scope.names.lookup x=some .local:=by first | exact .inl rfl | exact .inr rfl | assumption):JG X (.Name x pos) (jX (bA i)) :=
 (sX hN hi hx hf).weak fun v σ H Q ⟨F,ad,δ,x,K,S,V,q,k⟩=>k _ q _ _ _ _ .refl (S.set V)
theorem vy:jk X [] (lR lT):=gw.weak fun vs σ H Q ⟨F,ad,δ,ds,K,S,V,q,k⟩=>by
 unfold lT at q
 split at q
 ·simp only[af] at V
  exact⟨V,k _ q _ _ _ _ .refl S⟩
 ·exact q.elim
theorem m9 {es:List Expr} {g:WG} {g':oQ} (h1:JG X e (jX g)) (h2:jk X es (lR g')) (hs:(assignEach (e :: es) X.env).map (·.2)=assign e X.env :: (assignEach es X.env).map (·.2):=by rfl):jk X (e :: es) (lR (iD g g')) :=
 (sY h1 h2 hs).weak fun vs σ H Q ⟨F,ad,δ,ds,K,S,V,q,k⟩=>by
  unfold iD at q
  split at q
  ·rename_i d r
   simp only[af] at V
   obtain⟨v,r',e,i1,i2⟩:=V
   exact⟨v,r',e,F,ad,δ,.p d,_,S,i1,q,fun δ' h _ _ _ _ E S'=>⟨_,_,δ',r,K,S',i2.same E.same,h,k.ext E⟩⟩
  ·exact q.elim
noncomputable def m_ (n:Nat) (g:oQ):WG:=fun x δ K=>gE x δ fun d=>match d with
 | .tup ds=>ds.length=n/\g ds δ K
 | .lst ds=>ds.length=n/\g ds δ K
 | _=>False
theorem JG.or {tg:Expr} {t t':TG} (h:JG X tg t) (h':JG X tg t'):JG X tg (fun v σ H Q=>t v σ H Q\/t' v σ H Q):=⟨fun pins s σ H v u Q I r q=>q.elim (fun q=>h.out pins s σ H v u Q I r q) fun q=>h'.out pins s σ H v u Q I r q⟩
theorem vz {es:List Expr} {k:Nat} {g:oQ} {n:Nat} (hc:X.calm=true) (h:jk X es (lR g)) (hn:(assignEach es X.env).length=n:=by rfl) (jN:(assignEach es X.env).findIdx? (·.1)=none:=by rfl):JG X (.Tuple es k pos) (jX (m_ n g)) :=
 ((zd hc h hn jN).or (Lq hc h hn jN)).weak fun v σ H Q ⟨F,ad,δ,x,K,S,V,q,k⟩=>by
  obtain⟨d,q,rd⟩:=iX S V q
  split at q
  ·rename_i ds
   have vA:Is F (.tup ds) v:=rd
   simp only[Is] at vA
   obtain⟨a,vs,e,h1,h2⟩:=vA
   exact .inl ⟨a,vs,e,bw.of (S.sub _ _ h1),by rw[h2.length];exact q.1,F,ad,δ,ds,K,S,h2,q.2,k⟩
  ·rename_i ds
   obtain⟨a,vs,e,h1,h2⟩:=rd
   exact .inr ⟨a,vs,e,aP.of h1,by rw[h2.length];exact q.1,F,ad,δ,ds,K,S,h2,q.2,k⟩
  ·exact q.elim
noncomputable def jY (f:WE) (g:WG):WS:=fun K δ => f δ fun x δ1=>g x δ1 K.nx
theorem DG {tg:Expr} {g:WG} (he:JE X e (tD f)) (hg:JG X tg (jX g)) (hs:swapsWithSole [tg] e pos.line X.env=pure false:=by rfl) (hw:swappedStores [tg] e X.env=pure none:=by rfl)
  (h1:(assignEach [tg] X.env).map (·.2)=[assign tg X.env]:=by rfl):JS X (.Assign [tg] e pos) (d_ (jY f g)) :=
 (qm he hg hs hw h1).weak fun D σ H h0_ => el7 h0_ fun F ad δ K S q k =>⟨F,ad,δ,_,S,q,fun x δ1 h1 v F1 aL H1 E1 S1 V1=>⟨F1,aL,δ1,x,K.nx,S1,V1,h1,k.nx.ext E1⟩⟩
end
structure oR where
 items:List D
 a9:av->Prop
noncomputable abbrev WI:=av->(oR->av->Prop)->Prop
noncomputable def oS (F:Hp) (ad:List Addr) (it:oR) (J:It):Prop:=∀ (F':Hp) (aC:List Addr) (δ : av) (σ : St) (H:Hp),aw F F'->(∀ (k:Nat) (a:Addr),ad[k]? = some a->aC[k]? = some a)->SR F' aC δ σ H->it.a9 δ →
 J.stop it.items.length H/\∀ (i:Nat) (d:D),it.items[i]? = some d->J.go i H/\∀ x H',J.p9 i H x H'->aw H H'/\Is (Nw F' H H') d x
noncomputable def jZ (w:WI):TI:=fun σ H R=>∃ F ad δ K,SR F ad δ σ H/\w δ K/\∀ it δ',K it δ'->∀ J F' aC H',Ext F ad δ.mu H F' aC δ'.mu H'->SR F' aC δ' σ H'->oS F' aC it J->R J H'
noncomputable def tO (n:Nat):Option DV->Option DV->Option DV
 | none,_=>none
 | some _,some (.o k)=>if k < n then some (.o k) else none
 | some _,s=>s
noncomputable def fE (n:Nat):List (Option DV)->List (Option DV)->List (Option DV)
 | s0 :: r0,s :: r=>tO n s0 s :: fE n r0 r
 | [],_ :: r=>none :: fE n [] r
 | _,[]=>[]
noncomputable def av.trim (δ0 δ : av):av:=⟨fE δ0.mu.length δ0.sl δ.sl,δ.mu.take δ0.mu.length⟩
theorem zz {n:Nat}:∀ (l0 l:List (Option DV)),(fE n l0 l).length=l.length
 | _ :: r0,_ :: r=>by rw[fE,List.length_cons,List.length_cons,zz r0 r]
 | [],_ :: r=>by rw[fE,List.length_cons,List.length_cons,zz [] r]
 | [],[]=>rfl
 | _ :: _,[]=>rfl
theorem zA {n:Nat}:∀ {l0 l:List (Option DV)} {i:Nat} {x:DV},(fE n l0 l)[i]? = some (some x)->l[i]? = some (some x)/\∀ k,x = .o k->k < n
 | s0 :: r0,s :: r,0,x,h=>by
  have h:tO n s0 s=some x:=by simpa [fE] using h
  match s0,s,h with
  | none,_,h=>cases h
  | some _,none,h=>cases h
  | some _,some (.p d),h=>cases (show some (DV.p d)=some x from h);exact⟨rfl,fun k e=>nomatch e⟩
  | some _,some (.o k),h =>
   have h:(if k < n then some (DV.o k) else none)=some x:=h
   by_cases c:k < n
   ·rw[if_pos c] at h;cases h;exact⟨rfl,fun k' e=>by cases e;exact c⟩
   ·rw[if_neg c] at h;cases h
 | s0 :: r0,s :: r,i + 1,x,h=>by
  have h:(fE n r0 r)[i]? = some (some x):=by simpa [fE] using h
  simpa using zA h
 | [],s :: r,0,x,h=>by simp[fE] at h
 | [],s :: r,i + 1,x,h=>by
  have h:(fE n [] r)[i]? = some (some x):=by simpa [fE] using h
  simpa using zA h
 | [],[],i,x,h=>by simp[fE] at h
 | _ :: _,[],i,x,h=>by simp[fE] at h
section
variable {F F' H H':Hp} {ad aC:List Addr} {δ δ' δ0:av} {σ σ' τ : St} {mu du:List (Option OV)} {l:Addr} {o:HO}
theorem Lv.take {n:Nat} {a:Addr} (h:Lv (ad.take n) (mu.take n) a):Lv ad mu a:=by
 obtain⟨k,ov,e1,e2⟩:=h
 have hk:k < n:=by
  have:=(List.getElem?_eq_some_iff.mp e1).1
  rw[List.length_take] at this;omega
 rw[List.getElem?_take_of_lt hk] at e1 e2
 exact⟨k,ov,e1,e2⟩
theorem SR.trim (S:SR F ad δ σ H):SR F (ad.take δ0.mu.length) (δ0.trim δ) σ H:=by
 have tk:∀ {k:Nat} {a:Addr},(ad.take δ0.mu.length)[k]? = some a->k < δ0.mu.length/\ad[k]? = some a:=fun {k a} e=>by
  have hk:k < δ0.mu.length:=by
   have:=(List.getElem?_eq_some_iff.mp e).1
   rw[List.length_take] at this;omega
  rw[List.getElem?_take_of_lt hk] at e;exact⟨hk,e⟩
 have tm:∀ {k:Nat} {w:Option OV},(δ.mu.take δ0.mu.length)[k]? = some w->k < δ0.mu.length /\ δ.mu[k]? = some w:=fun {k w} e=>by
  have hk:k < δ0.mu.length:=by
   have:=(List.getElem?_eq_some_iff.mp e).1
   rw[List.length_take] at this;omega
  rw[List.getElem?_take_of_lt hk] at e;exact⟨hk,e⟩
 refine⟨S.sub,fun a x=>S.off a x.take,?_,fun k l a w w' e1 e2 e3 e4=>S.inj k l a w w' (tk e1).2 (tk e2).2 (tm e3).2 (tm e4).2,fun k ov e => ?_,fun i x e => ?_,?_,S.tab,S.nt⟩
 ·show (ad.take _).length=(δ.mu.take _).length
  rw[List.length_take,List.length_take,S.cD]
 ·obtain⟨a,o,e1,e2,h⟩:=S.mu k ov (tm e).2
  exact⟨a,o,by rw[List.getElem?_take_of_lt (tm e).1];exact e1,e2,h⟩
 ·obtain⟨e1,e2⟩:=zA e
  obtain⟨v,h1,h2⟩:=S.sl i x e1
  refine⟨v,h1,?_⟩
  cases x with
  | p d=>exact h2
  | o k =>
   obtain⟨a,h3,h4⟩:=h2
   exact⟨a,by rw[List.getElem?_take_of_lt (e2 k rfl)];exact h3,h4⟩
 ·show σ.length=(fE _ _ _).length
  rw[zz];exact S.len
theorem Ext.trim {n:Nat} (e:Ext F ad mu H F' aC du H') (hn:ad.length=n):Ext F ad mu H F' (aC.take n) (du.take n) H' :=
 ⟨e.same,e.new,e.keep,fun k a h=>by rw[List.getElem?_take_of_lt (by rw[<-hn];exact (List.getElem?_eq_some_iff.mp h).1)];exact e.pre k a h,fun a x=>e.b8 a x.take,e.gx⟩
theorem SR.other (S:SR F ad δ σ H) (hf:F l=none) (hl:¬ Lv ad δ.mu l) (tk:aQ.ok (upd H l o)):SR F ad δ σ (upd H l o):=by
 refine⟨fun a u e => ?_,S.off,S.cD,S.inj,fun k ov e => ?_,S.sl,S.len,tk,S.nt⟩
 ·rw[aS (cv e hf)];exact S.sub a u e
 ·obtain⟨a,u,e1,e2,h⟩:=S.mu k ov e
  exact⟨a,u,e1,by rw[aS fun z=>hl (by subst z;exact⟨k,ov,e1,e⟩)];exact e2,h⟩
theorem Ext.other (e:Ext F ad mu H F' aC du H') (hl:H l=none):Ext F ad mu H F' aC du (upd H' l o) :=
 ⟨e.same,e.new,fun a u h n t=>by rw[aS (cv h hl)];exact e.keep a u h n t,e.pre,e.b8,fun a u h=>by rw[aS (cv h hl)];exact e.gx a u h⟩
theorem SR.adopt (S:SR F ad δ σ H) (hf:F l=none) (ho:H l=some o) (hl:¬ Lv ad δ.mu l) (no:∀ ps,o ≠ .tbl ps:=by intro _ z;cases z):SR (upd F l o) ad δ σ H:=by
 have sm:aw F (upd F l o):=bW hf
 refine⟨fun a u e => ?_,fun a x => ?_,S.cD,S.inj,fun k ov e => ?_,fun i x e => ?_,S.len,S.tab,fun a ha=>by
  obtain⟨ps,q⟩:=aQ.tb S.tab ha
  rw[aS fun z=>by subst z;rw[ho] at q;exact no ps (Option.some.inj q)]
  exact S.nt a ha⟩
 ·by_cases c:a=l
  ·subst c;rw[bF] at e;cases e;exact ho
  ·rw[aS c] at e;exact S.sub a u e
 ·rw[aS fun z=>hl (by subst z;exact x)];exact S.off a x
 ·obtain⟨a,u,e1,e2,h⟩:=S.mu k ov e
  exact⟨a,u,e1,e2,h.same sm⟩
 ·obtain⟨v,e1,h⟩:=S.sl i x e
  refine⟨v,e1,?_⟩
  cases x with
  | p d=>exact Is.same sm h
  | o k=>exact h
theorem Ext.adopt (e:Ext F ad mu H F' aC du H') (hl:H l=none) (hf:F' l=none):Ext F ad mu H (upd F' l o) aC du H' :=
 ⟨e.same.trans (bW hf),fun a u h=>by
  by_cases c:a=l
  ·subst c;exact .inr (.inl hl)
  ·rw[aS c] at h;exact e.new a u h,e.keep,e.pre,e.b8,e.gx⟩
theorem SR.dy {ov:OV} (S:SR F ad δ σ H) (hf:F l=none) (ho:H l=some o) (hl:¬ Lv ad δ.mu l) (h:fD F ov o):SR F (ad ++ [l]) ⟨δ.sl,δ.mu ++ [some ov]⟩ σ H:=by
 have old:∀ {k:Nat} {w:OV},(δ.mu ++ [some ov])[k]? = some (some w)->(k < δ.mu.length /\ δ.mu[k]? = some (some w))\/(k = δ.mu.length/\w=ov):=fun {k w} e=>by
  by_cases c:k < δ.mu.length
  ·rw[List.getElem?_append_left c] at e;exact .inl ⟨c,e⟩
  ·have hl:=(List.getElem?_eq_some_iff.mp e).1
   rw[List.length_append,List.length_singleton] at hl
   have ek:k = δ.mu.length:=by omega
   subst ek
   rw[List.getElem?_append_right (Nat.le_refl _),Nat.sub_self] at e
   exact .inr ⟨rfl,by simpa using e.symm⟩
 have pre:∀ {k:Nat},k < δ.mu.length->(ad ++ [l])[k]? = ad[k]? := fun {k} c=>List.getElem?_append_left (by rw[S.cD];exact c)
 have last:(ad ++ [l])[δ.mu.length]? = some l:=by rw[<-S.cD,List.getElem?_append_right (Nat.le_refl _),Nat.sub_self];rfl
 refine⟨S.sub,fun a x => ?_,by rw[List.length_append,List.length_append,S.cD];rfl,fun k k' a w w' e1 e2 e3 e4 => ?_,fun k w e => ?_,fun i x e => ?_,S.len,S.tab,S.nt⟩
 ·obtain⟨k,w,e1,e2⟩:=x
  rcases old e2 with⟨c,e3⟩ | ⟨c,e3⟩
  ·rw[pre c] at e1;exact S.off a ⟨k,w,e1,e3⟩
  ·subst c;rw[last] at e1;cases e1;exact hf
 ·rcases old e3 with⟨c,q⟩ | ⟨c,q⟩
  ·rw[pre c] at e1
   rcases old e4 with⟨c',q'⟩ | ⟨c',q'⟩
   ·rw[pre c'] at e2;exact S.inj k k' a w w' e1 e2 q q'
   ·subst c';rw[last] at e2;cases e2;exact absurd ⟨k,w,e1,q⟩ hl
  ·subst c;rw[last] at e1;cases e1
   rcases old e4 with⟨c',q'⟩ | ⟨c',q'⟩
   ·rw[pre c'] at e2;exact absurd ⟨k',w',e2,q'⟩ hl
   ·exact c'.symm
 ·rcases old e with⟨c,q⟩ | ⟨c,q⟩
  ·obtain⟨a,u,e1,e2,h'⟩:=S.mu k w q
   exact⟨a,u,by rw[pre c];exact e1,e2,h'⟩
  ·subst c;subst q;exact⟨l,o,last,ho,h⟩
 ·obtain⟨v,e1,h'⟩:=S.sl i x e
  refine⟨v,e1,?_⟩
  cases x with
  | p d=>exact h'
  | o k =>
   obtain⟨a,e2,e3⟩:=h'
   exact⟨a,by rw[List.getElem?_append_left (List.getElem?_eq_some_iff.mp e2).1];exact e2,e3⟩
theorem Ext.dy {ov:OV} (e:Ext F ad mu H F' aC du H') (hl:H l=none) (hm:aC.length=du.length):Ext F ad mu H F' (aC ++ [l]) (du ++ [some ov]) H' :=
 ⟨e.same,e.new,e.keep,fun k a h=>by rw[List.getElem?_append_left (List.getElem?_eq_some_iff.mp (e.pre k a h)).1];exact e.pre k a h,fun a x=>by
  obtain⟨k,w,e1,e2⟩:=x
  by_cases c:k < du.length
  ·rw[List.getElem?_append_left c] at e2
   rw[List.getElem?_append_left (by rw[hm];exact c)] at e1
   exact e.b8 a ⟨k,w,e1,e2⟩
  ·have ib:=(List.getElem?_eq_some_iff.mp e2).1
   rw[List.length_append,List.length_singleton] at ib
   have ek:k=aC.length:=by rw[hm];omega
   subst ek
   rw[List.getElem?_append_right (Nat.le_refl _),Nat.sub_self] at e1
   have:l=a:=by simpa using e1
   subst this;exact .inr hl,e.gx⟩
theorem SR.back {sl:List (Option DV)} (S0:SR F ad δ σ H) (e:Ext F ad δ.mu H F' aC du H') (S:SR F' aC ⟨sl,du⟩ τ H'):SR F' aC ⟨δ.sl,du⟩ σ H' :=
 ⟨S.sub,S.off,S.cD,S.inj,S.mu,fun i x q=>let ⟨v,h1,h2⟩:=S0.sl i x q; ⟨v,h1,h2.ext e⟩,S0.len,S.tab,S.nt⟩
noncomputable def cY (cp:List (Option Nat)) (sl:List (Option DV)):List (Option DV):=cp.map fun o=>match o with
 | some i=>(sl[i]?).join
 | none=>none
theorem SR.zB {cp:List (Option Nat)} (S:SR F ad δ σ H):SR F ad ⟨cY cp δ.sl,δ.mu⟩ (kJ cp σ) H:=by
 refine⟨S.sub,S.off,S.cD,S.inj,S.mu,fun j x e => ?_,by unfold kJ cY;rw[List.length_map,List.length_map],S.tab,S.nt⟩
 unfold cY at e
 rw[List.getElem?_map] at e
 obtain⟨o,e1,e2⟩:=Option.map_eq_some_iff.mp e
 match o,e2 with
 | none,e2=>cases e2
 | some i,e2 =>
  have e2:(δ.sl[i]?).join=some x:=e2
  cases q : δ.sl[i]? with
  | none=>rw[q] at e2;cases e2
  | some z =>
   rw[q] at e2
   have e3:z=some x:=e2
   subst e3
   obtain⟨v,h1,h2⟩:=S.sl i x q
   refine⟨v,?_,h2⟩
   unfold kJ
   rw[List.getElem?_map,e1]
   show some ((σ[i]?).join)=some (some v)
   rw[h1];rfl
end
noncomputable def jo (δ0:av) (a9:av->Prop) (g:WG) (b:WS) (K:KS):List D->av->Prop
 | [],δ => a9 δ /\ K.nx δ
 | d :: r,δ => a9 δ /\ g (.p d) δ fun δ1=>b { nx:=fun δ2=>jo δ0 a9 g b K r (δ0.trim δ2),ct:=fun δ2=>jo δ0 a9 g b K r (δ0.trim δ2),bk:=K.nx,rt:=K.rt } δ1
noncomputable def dz (w:WI) (g:WG) (b:WS):WS:=fun K δ => w δ fun it δ1=>jo δ1 it.a9 g b K it.items δ1
noncomputable def iE (δ0:av) (a9:av->Prop) (g:WG) (t:WT) (f:WE) (K:List D->av->Prop):List D->List D->av->Prop
 | [],acc,δ => a9 δ /\ K acc δ
 | d :: r,acc,δ => a9 δ /\ g (.p d) δ fun δ1=>t δ1 fun b δ2=>if b=true then f δ2 fun x δ3=>lN x δ3 fun e δ4=>acc.length < 1000/\iE δ0 a9 g t f K r (acc ++ [e]) (δ0.trim δ4) else iE δ0 a9 g t f K r acc (δ0.trim δ2)
noncomputable def fG (w:WI) (cp:List (Option Nat)) (g:WG) (t:WT) (f:WE):WE:=fun δ K=>w δ fun it δ1=>iE ⟨cY cp δ1.sl,δ1.mu⟩ it.a9 g t f (fun acc δ'=>K (.p (.lst acc)) ⟨δ1.sl,δ'.mu⟩) it.items [] ⟨cY cp δ1.sl,δ1.mu⟩
noncomputable def oT (w:WI) (cp:List (Option Nat)) (g:WG) (t:WT) (f:WE):WE:=fun δ K=>w δ fun it δ1=>iE ⟨cY cp δ1.sl,δ1.mu⟩ it.a9 g t f (fun acc δ'=>K (.o δ'.mu.length) ⟨δ1.sl,δ'.mu ++ [some (.lst acc)]⟩) it.items [] ⟨cY cp δ1.sl,δ1.mu⟩
section
variable {X:Cx} {tg iter elt:Expr} {body:List Stmt} {w:WI} {g:WG} {b:WS} {pos:Pos} {ifs:List Expr} {t:WT} {f:WE} {scope:Scope}
theorem lU (hp:PassesOwn (model X.prog X.w) X.A X.env X.xe) (hc:X.calm=true) (hi:JI X tg iter (jZ w)) (hg:JG X tg (jX g)) (hb:fB X body (d_ b)) (hs:∀ x,foldedSetIterable iter X.env x=pure x:=by intro _;rfl) :
  JS X (.For tg iter body [] pos) (d_ (dz w g b)):=(ze hp hc hi hg hb hs).weak fun D σ H h0_ => el7 h0_ fun F ad δ K S q k =>by
 refine⟨F,ad,δ,_,S,q,fun it δ1 h1 J F1 aL H1 E1 S1 I1 => ?_⟩
 have k1:=k.ext E1
 refine⟨fun i m σ' H'=>∃ F' aC δ',i + m=it.items.length/\Ext F1 aL δ1.mu H1 F' aC δ'.mu H'/\SR F' aC δ' σ' H'/\jo δ1 it.a9 g b K (it.items.drop i) δ',⟨it.items.length,F1,aL,δ1,by omega,.refl,S1,h1⟩,?_⟩
 rintro i m σ' H' ⟨F',aC,δ',hm,E',S',h⟩
 by_cases c_:i < it.items.length
 ·rw[List.drop_eq_getElem_cons c_] at h
  obtain⟨ck,h⟩:=h
  obtain⟨go,yl⟩:=(I1 F' aC δ' σ' H' E'.same E'.pre S' ck).2 i _ (List.getElem?_eq_getElem c_)
  refine .inr ⟨go,fun σ2 H2=>∃ F2 cV δ2,Ext F1 aL δ1.mu H1 F2 cV δ2.mu H2/\SR F2 cV δ2 σ2 H2/\jo δ1 it.a9 g b K (it.items.drop (i + 1)) δ2,fun σ2 H2 ⟨F2,cV,δ2,e1,e2,e3⟩=>⟨m - 1,by omega,F2,cV,δ2,by omega,e1,e2,e3⟩,fun x H2 y => ?_⟩
  obtain⟨sm,is⟩:=yl x H2 y
  have E2:=E'.trans (Ext.al S' sm)
  refine⟨_,aC,δ',.p _,_,S'.al sm,is,h,fun δ3 h3 F3 lV σ3 H3 E3 S3 => ?_⟩
  have vB:=E2.trans E3
  refine⟨F3,lV,δ3,_,S3,h3,⟨fun δ4 h4 F4 vC σ4 H4 E4 S4=>⟨F4,_,_,(vB.trans E4).trim S1.cD,S4.trim,h4⟩,k1.nx.ext vB,fun δ4 h4 F4 vC σ4 H4 E4 S4=>⟨F4,_,_,(vB.trans E4).trim S1.cD,S4.trim,h4⟩,(k1.ext vB).rt⟩⟩
 ·have ei:i=it.items.length:=by omega
  subst ei
  rw[List.drop_of_length_le (Nat.le_refl _)] at h
  obtain⟨ck,h⟩:=h
  exact .inl ⟨(I1 F' aC δ' σ' H' E'.same E'.pre S' ck).1,k1.nx _ h _ _ _ _ E' S'⟩
noncomputable def cJ:WT:=fun δ K=>K true δ
theorem JF.weak {ifs:List Expr} {t t':TT} (h:JF X ifs t) (k:∀ σ H Q,t' σ H Q->t σ H Q):JF X ifs t':=⟨fun pins s σ H Q I q=>h.out pins s σ H Q I (k σ H Q q)⟩
theorem jq:JF X [] (cI cJ):=oM.weak fun σ H Q h0_ => el7 h0_ fun F ad δ K S q k =>k _ _ q _ _ _ .refl S
theorem tP {c:Expr} (h:JT X c (cI t)):JF X [c] (cI t):=Le h
theorem DH {J:It} {l:Addr} {F1:Hp} {aL:List Addr} {δ1:av} {σ : St} {H1:Hp} {it:oR} {cp:List (Option Nat)} {Q:VK} {K:List D->av->Prop} (S1:SR F1 aL δ1 σ H1) (I1:oS F1 aL it J) (hl:H1 l=none)
  (h:iE ⟨cY cp δ1.sl,δ1.mu⟩ it.a9 g t f K it.items [] ⟨cY cp δ1.sl,δ1.mu⟩)
  (fin:∀ acc δ' F' aC τ H' ys,K acc δ'->Ext F1 aL δ1.mu H1 F' aC δ'.mu H'->SR F' aC δ' τ H'->H' l=some (.lst ys)->F' l=none->¬ Lv aC δ'.mu l->af F' acc ys->Q (.ref l) H') :
  CU J (jX g) (cI t) (tD f) l (kJ cp σ) (upd H1 l (.lst [])) Q:=by
 have f1:F1 l=none:=by
  cases q:F1 l with
  | none=>rfl
  | some u=>rw[S1.sub l u q] at hl;cases hl
 have nl:∀ {ad mu},(∀ a,Lv ad mu a->Lv aL δ1.mu a\/H1 a=none)->True:=fun _=>trivial
 have l1:¬ Lv aL δ1.mu l:=fun ⟨k,ov,e1,e2⟩=>by
  obtain⟨a,o,e3,e4,_⟩:=S1.mu k ov e2
  rw[e1] at e3;cases e3
  rw[hl] at e4;cases e4
 have S0:SR F1 aL ⟨cY cp δ1.sl,δ1.mu⟩ (kJ cp σ) (upd H1 l (.lst [])):=S1.zB.other f1 l1 (aQ.same S1.tab (bW hl))
 refine⟨fun i m τ H'=>∃ F' aC δ' acc ys,i + m=it.items.length/\Ext F1 aL δ1.mu H1 F' aC δ'.mu H'/\SR F' aC δ' τ H'/\H' l=some (.lst ys)/\F' l=none/\¬ Lv aC δ'.mu l/\af F' acc ys/\iE ⟨cY cp δ1.sl,δ1.mu⟩ it.a9 g t f K (it.items.drop i) acc δ',⟨it.items.length,F1,aL,_,[],[],by omega,Ext.refl.other hl,S0,bF,f1,l1,.nil,h⟩,?_⟩
 rintro i m τ H' ⟨F',aC,δ',acc,ys,hm,E',S',ib,lW,ng,ia,h⟩
 by_cases c_:i < it.items.length
 ·rw[List.drop_eq_getElem_cons c_] at h
  obtain⟨ck,h⟩:=h
  obtain⟨go,yl⟩:=(I1 F' aC δ' τ H' E'.same E'.pre S' ck).2 i _ (List.getElem?_eq_getElem c_)
  have step:∀ {F2:Hp} {cV:List Addr} {zC:List (Option OV)} {H2:Hp},Ext F' aC δ'.mu H' F2 cV zC H2->H2 l=some (.lst ys)/\F2 l=none/\¬ Lv cV zC l/\af F2 acc ys:=fun {F2 cV zC H2} e=>by
   refine⟨e.keep _ _ ib ng (fun z=>by obtain⟨ps,q⟩:=aQ.tb S1.tab z;rw[hl] at q;cases q),?_,fun z => ?_,ia.same e.same⟩
   ·cases q:F2 l with
    | none=>rfl
    | some u =>
     rcases e.new l u q with z | z | z
     ·rw[lW] at z;cases z
     ·rw[ib] at z;cases z
     ·exact absurd z ng
   ·rcases e.b8 l z with z | z
    ·exact ng z
    ·rw[ib] at z;cases z
  refine .inr ⟨go,fun τ2 H2=>∃ F2 cV δ2 lX vD,Ext F1 aL δ1.mu H1 F2 cV δ2.mu H2/\SR F2 cV δ2 τ2 H2/\H2 l=some (.lst vD)/\F2 l=none/\¬ Lv cV δ2.mu l/\af F2 lX vD/\iE ⟨cY cp δ1.sl,δ1.mu⟩ it.a9 g t f K (it.items.drop (i + 1)) lX δ2,
   fun τ2 H2 ⟨F2,cV,δ2,lX,vD,r⟩=>⟨m - 1,by omega,F2,cV,δ2,lX,vD,by omega,r⟩,fun x H2 y => ?_⟩
  obtain⟨sm,is⟩:=yl x H2 y
  have X2:=Ext.al S' sm
  refine⟨_,aC,δ',.p _,_,S'.al sm,is,h,fun δ3 h3 F3 lV σ3 H3 X3 S3 => ?_⟩
  refine⟨F3,lV,δ3,_,S3,h3,fun bb δ4 h4 F4 vC H4 X4 S4 => ?_⟩
  have zD:=(X2.trans X3).trans X4
  cases bb with
  | false =>
   dsimp only at h4 ⊢
   rw[if_neg Bool.false_ne_true] at h4 ⊢
   obtain⟨a1,a2,a3,a4⟩:=step zD
   exact⟨F4,_,_,acc,ys,(E'.trans zD).trim S1.cD,S4.trim (δ0:=⟨cY cp δ1.sl,δ1.mu⟩),a1,a2,fun z=>a3 z.take,a4,h4⟩
  | true =>
   dsimp only at h4 ⊢
   rw[if_pos rfl] at h4 ⊢
   refine⟨F4,vC,δ4,_,S4,h4,fun y δ5 h5 v F5 Vo H5 X5 S5 V5 => ?_⟩
   obtain⟨e,δ6,F6,⟨hlen,h6⟩,X6,S6,i6⟩:=tI S5 V5 h5
   have DI:=(zD.trans X5).trans X6
   obtain⟨a1,a2,a3,a4⟩:=step DI
   refine⟨ys,a1,ji (by rw[a4.length];omega),F6,_,_,acc ++ [e],ys ++ [v],?_,(S6.other a2 a3 (aQ.put S6.tab a1 (.inl ⟨_,rfl⟩))).trim (δ0:=⟨cY cp δ1.sl,δ1.mu⟩),bF,a2,fun z=>a3 z.take,a4.snoc i6,h6⟩
   exact ((E'.trans DI).other hl).trim S1.cD
 ·have ei:i=it.items.length:=by omega
  subst ei
  rw[List.drop_of_length_le (Nat.le_refl _)] at h
  obtain⟨ck,h⟩:=h
  exact .inl ⟨(I1 F' aC δ' τ H' E'.same E'.pre S' ck).1,fin _ _ _ _ _ _ _ h E' S' ib lW ng ia⟩
theorem DJ {cp:List (Option Nat)}:∀ σ H Q,tD (fG w cp g t f) σ H Q->oG (jZ w) cp (fun _=>jX g) (fun _=>cI t) (fun _=>tD f) σ H Q:=fun σ H Q h0_ => el7 h0_ fun F ad δ K S q k =>by
 refine⟨F,ad,δ,_,S,q,fun it δ1 h1 J F1 aL H1 E1 S1 I1=>fun d l hl => ?_⟩
 refine DH S1 I1 hl h1 fun acc δ' F' aC τ H' ys hk E' S' ib lW ng ia => ?_
 have sm:aw F' (upd F' l (.lst ys)):=bW lW
 refine k _ _ hk _ _ _ _ (E1.trans (E'.adopt hl lW)) (SR.back (sl := δ'.sl) S1 (E'.adopt hl lW) (S'.adopt lW ib ng)) ?_
 show Is _ (.lst acc) _
 simp only[Is]
 exact⟨l,ys,rfl,bF,ia.same sm⟩
theorem LB {cp:List (Option Nat)}:∀ σ H Q,tD (oT w cp g t f) σ H Q->oG (jZ w) cp (fun _=>jX g) (fun _=>cI t) (fun _=>tD f) σ H Q:=fun σ H Q h0_ => el7 h0_ fun F ad δ K S q k =>by
 refine⟨F,ad,δ,_,S,q,fun it δ1 h1 J F1 aL H1 E1 S1 I1=>fun d l hl => ?_⟩
 refine DH S1 I1 hl h1 fun acc δ' F' aC τ H' ys hk E' S' ib lW ng ia => ?_
 have S2:=S'.dy (ov := .lst acc) lW ib ng ⟨ys,rfl,ia⟩
 have E2:=E'.dy (ov := .lst acc) hl S'.cD
 refine k _ _ hk _ _ _ _ (E1.trans E2) (SR.back (sl := δ'.sl) S1 E2 S2) ⟨l,?_,rfl⟩
 rw[<-S'.cD,List.getElem?_append_right (Nat.le_refl _),Nat.sub_self];rfl
theorem jr (cp:List (Option Nat)) (Nb:List Str) (hc:X.calm=true) (hi:JI X tg iter (jZ w)) (hg:∀ d,JG (b9 X scope Nb d) tg (jX g)) (hf:∀ d,JF (b9 X scope Nb d) ifs (cI t)) (he:∀ d,JE (b9 X scope Nb d) elt (tD f))
  (hk:scope.kind = .function:=by rfl) (ho:lI X.N X.env.scope scope Nb cp=true:=by first | rfl | kernel_rfl) (hs:∀ x,foldedSetIterable iter X.env x=pure x:=by intro _;rfl) :
  JE X (.ListComp elt [⟨tg,iter,ifs,0⟩] scope pos) (tD (fG w cp g t f)):=(De cp Nb hc hi hg hf he hk ho hs).weak DJ
theorem vE (cp:List (Option Nat)) (Nb:List Str) (hc:X.calm=true) (hi:JI X tg iter (jZ w)) (hg:∀ d,JG (b9 X scope Nb d) tg (jX g)) (hf:∀ d,JF (b9 X scope Nb d) ifs (cI t)) (he:∀ d,JE (b9 X scope Nb d) elt (tD f))
  (hk:scope.kind = .function:=by rfl) (ho:lI X.N X.env.scope scope Nb cp=true:=by first | rfl | kernel_rfl) (hs:∀ x,foldedSetIterable iter X.env x=pure x:=by intro _;rfl) :
  JE X (.ListComp elt [⟨tg,iter,ifs,0⟩] scope pos) (tD (oT w cp g t f)):=(De cp Nb hc hi hg hf he hk ho hs).weak LB
theorem LC (cp:List (Option Nat)) (Nb:List Str) {i:Nat} {x:Str} {pos' gR:Pos} (hN:X.N.Nodup) (hi:X.N[i]? = some x) (hx:Loc X.env.scope x) (hc:X.calm=true) (hit:JI X tg iter (jZ w)) (hg:∀ d,JG (b9 X scope Nb d) tg (jX g)) (hf:∀ d,JF (b9 X scope Nb d) ifs (cI t)) (he:∀ d,JE (b9 X scope Nb d) elt (tD f))
  (hk:scope.kind = .function:=by rfl) (ho:lI X.N X.env.scope scope Nb cp=true:=by first | rfl | kernel_rfl) (hs:∀ x,foldedSetIterable iter X.env x=pure x:=by intro _;rfl)
  (sN:swapsWith (.ListComp elt [⟨tg,iter,ifs,0⟩] scope pos) (some (.Name x pos')) gR.line X.env=pure true:=by rfl)
  (lq:X.fn x=true\/X.env.scope.names.lookup x=some .local:=by first | exact .inl rfl | exact .inr rfl | assumption) :
  JS X (.Assign [.Name x pos'] (.ListComp elt [⟨tg,iter,ifs,0⟩] scope pos) gR) (d_ (aO i (fG w cp g t f))) :=
 (Lf cp Nb hN hi hx hc hit hg hf he hk ho hs sN lq).weak fun D σ H h0_ => el7 h0_ fun F ad δ K S q k =>DJ σ H _ ⟨F,ad,δ,_,S,q,fun x δ1 h1 v F1 aL H1 E1 S1 V1=>k.nx _ h1 _ _ _ _ E1 (S1.set V1)⟩
end
inductive RV where
 | p (d:D) | n (ds:List D) | a (j:Nat)
noncomputable abbrev GD:=List DV->List OV->(RV->List OV->Prop)->Prop
structure tQ (F:Hp) (ad:List Addr) (H:Hp) (r:RV) (ows:List OV) (v:V) (F' H':Hp):Prop where
 sub:aw F' H'
 same:aw F F'
 new:∀ a o,F' a=some o->F a=some o\/H a=none
 keep:∀ a o,H a=some o->a∉ad->a∉aQ.ad->H' a=some o
 tab:aQ.ok H'
 nt:∀ a∈aQ.ad,F' a=none
 len:ows.length=ad.length
 own:∀ (j:Nat) (ow:OV),ows[j]? = some ow->∃ a o,ad[j]? = some a/\H' a=some o/\fD F' ow o
 off:∀ a∈ad,F' a=none
 res:match r with
  | .p d=>Is F' d v
  | .n ds=>∃ a vs,v = .ref a/\H a=none/\H' a=some (.lst vs)/\F' a=none/\af F' ds vs
  | .a j=>∃ a,ad[j]? = some a/\v = .ref a
noncomputable def aR (G:GD) (n:Nat):Sp:=fun vs H Q _=>vs.length=n/\∃ F ad ys ao K,SR F ad ⟨ys.map some,ao.map some⟩ (vs.map some) H/\G ys ao K/\∀ r ows,K r ows->∀ v F' H',tQ F ad H r ows v F' H'->Q v H'
noncomputable def gz (n:Nat) (K:RV->List OV->Prop) (x:DV) (δ : av):Prop:=∃ ows,δ.mu.take n=ows.map some/\ows.length=n/\match x with
 | .p d=>K (.p d) ows
 | .o k=>if k < n then K (.a k) ows else match δ.mu[k]? with
  | some (some (.lst ds))=>K (.n ds) ows\/K (.p (.lst ds)) ows
  | _=>False
noncomputable def c8 (n:Nat) (K:RV->List OV->Prop):KS where
 nx:=gz n K (.p .non)
 rt:=gz n K
section
variable {F F' H H':Hp} {ad aC:List Addr} {σ σ':St}
theorem DK {α : Type} {l:List α} {i:Nat} {x : α} (h:(l.map some)[i]? = some (some x)):l[i]? = some x:=by
 rw[List.getElem?_map] at h
 obtain⟨y,e,q⟩:=Option.map_eq_some_iff.mp h
 cases q;exact e
theorem LD {α : Type} {l:List α} {i:Nat} {x : α} (h:l[i]? = some x):(l.map some)[i]? = some (some x):=by
 rw[List.getElem?_map,h];rfl
theorem SR.start {ys:List DV} {mu:List (Option OV)} {vs:List V} {N:List Str} (S:SR F ad ⟨ys.map some,mu⟩ (vs.map some) H):SR F ad ⟨ys.map some ++ List.replicate (N.length - vs.length) none,mu⟩ (start N vs) H:=by
 have hl:vs.length=ys.length:=by
  have:=S.len
  rw[List.length_map] at this
  show vs.length=ys.length
  rw[this];show (ys.map some).length=_;rw[List.length_map]
 refine⟨S.sub,S.off,S.cD,S.inj,S.mu,fun i x e => ?_,?_,S.tab,S.nt⟩
 ·have hi:i < ys.length:=by
   by_cases c:i < ys.length
   ·exact c
   ·rw[List.getElem?_append_right (by rw[List.length_map];omega),List.getElem?_replicate] at e
    split at e
    ·cases e
    ·cases e
  rw[List.getElem?_append_left (by rw[List.length_map];exact hi)] at e
  obtain⟨v,h1,h2⟩:=S.sl i x e
  exact⟨v,by unfold L2.start;rw[List.getElem?_append_left (by rw[List.length_map,hl];exact hi)];exact h1,h2⟩
 ·unfold L2.start
  show _=(ys.map some ++ _).length
  rw[List.length_append,List.length_append,List.length_replicate,List.length_replicate,List.length_map,List.length_map,hl]
theorem DL {ao:List OV} {δ : av} {x:DV} {v:V} {K:RV->List OV->Prop} {Q:VK} {sl:List (Option DV)} {τ : St} (S0:SR F ad ⟨sl,ao.map some⟩ τ H) (E:Ext F ad (ao.map some) H F' aC δ.mu H') (S:SR F' aC δ σ' H') (V:fX F' aC x v)
  (h:gz ao.length K x δ) (k:∀ r ows,K r ows->∀ v F' H',tQ F ad H r ows v F' H'->Q v H'):Q v H':=by
 obtain⟨ows,tk,hl,h⟩:=h
 have al:ad.length=ao.length:=by have:=S0.cD;rwa [List.length_map] at this
 have lv:∀ (j:Nat) (a:Addr),ad[j]? = some a->∃ ow,ows[j]? = some ow /\ δ.mu[j]? = some (some ow)/\Lv aC δ.mu a:=fun j a e=>by
  have hj:j < ao.length:=by rw[<-al];exact (List.getElem?_eq_some_iff.mp e).1
  have h1:(δ.mu.take ao.length)[j]? = some (some (ows[j]'(by rw[hl];exact hj))):=by
   rw[tk,List.getElem?_map,List.getElem?_eq_getElem (by rw[hl];exact hj)];rfl
  rw[List.getElem?_take_of_lt hj] at h1
  exact⟨_,List.getElem?_eq_getElem (by rw[hl];exact hj),h1,j,_,E.pre j a e,h1⟩
 have j2:∀ a∈ad,F' a=none:=fun a ha=>by
  obtain⟨j,e⟩:=List.mem_iff_getElem?.mp ha
  obtain⟨_,_,_,l⟩:=lv j a e
  exact S.off a l
 have base:∀ {F2:Hp},aw F' F2->aw F2 H'->(∀ a o,F2 a=some o->F' a=some o\/(H a=none/\¬ a∈ad))->(∀ a∈ad,F2 a=none)->(∀ a∈aQ.ad,F2 a=none)->∀ {r:RV},(match r with
   | .p d=>Is F2 d v
   | .n ds=>∃ a vs,v = .ref a/\H a=none/\H' a=some (.lst vs)/\F2 a=none/\af F2 ds vs
   | .a j=>∃ a,ad[j]? = some a/\v = .ref a)->tQ F ad H r ows v F2 H':=fun {F2} s1 s2 n2 o2 LF {r} res=>by
  refine⟨s2,E.same.trans s1,fun a o e => ?_,fun a o e n t => ?_,S.tab,LF,by rw[hl,al],fun j ow e => ?_,o2,res⟩
  ·rcases n2 a o e with e | ⟨e,_⟩
   ·rcases E.new a o e with z | z | ⟨j,ov,z,_⟩
    ·exact .inl z
    ·exact .inr z
    ·rw[j2 a (List.mem_iff_getElem?.mpr ⟨j,z⟩)] at e;cases e
   ·exact .inr e
  ·exact E.keep a o e (fun ⟨j,ov,z,_⟩=>n (List.mem_iff_getElem?.mpr ⟨j,z⟩)) t
  ·have hj:j < ad.length:=by rw[al,<-hl];exact (List.getElem?_eq_some_iff.mp e).1
   obtain⟨zE,e1,e2,_⟩:=lv j _ (List.getElem?_eq_getElem hj)
   rw[e] at e1;cases e1
   obtain⟨a,o,e3,e4,h5⟩:=S.mu j _ e2
   rw[E.pre j _ (List.getElem?_eq_getElem hj)] at e3
   cases e3
   exact⟨_,o,List.getElem?_eq_getElem hj,e4,h5.same s1⟩
 cases x with
 | p d=>exact k _ _ h _ _ _ (base (F2:=F') (fun _ _ e=>e) S.sub (fun _ _ e => .inl e) j2 S.nt V)
 | o i =>
  dsimp only at h
  obtain⟨a,e1,rfl⟩:=V
  by_cases c:i < ao.length
  ·rw[if_pos c] at h
   have ei:ad[i]? = some a:=by
    have:=E.pre i _ (List.getElem?_eq_getElem (by rw[al];exact c))
    rw[e1] at this
    rw[List.getElem?_eq_getElem (by rw[al];exact c)]
    exact this.symm
   exact k _ _ h _ _ _ (base (F2:=F') (fun _ _ e=>e) S.sub (fun _ _ e => .inl e) j2 S.nt ⟨a,ei,rfl⟩)
  ·rw[if_neg c] at h
   split at h
   ·rename_i ds em
    obtain⟨a',o,e2,e3,vs,rfl,h4⟩:=S.mu i _ em
    rw[e1] at e2;cases e2
    have na:a∉ad:=fun z=>by
     obtain⟨j,e⟩:=List.mem_iff_getElem?.mp z
     obtain⟨ow,_,e5,_⟩:=lv j a e
     have:i=j:=S.inj i j a _ _ e1 (E.pre j a e) em e5
     subst this
     exact c (by rw[<-al];exact (List.getElem?_eq_some_iff.mp e).1)
    have fa:F' a=none:=S.off a ⟨i,_,e1,em⟩
    have ha:H a=none:=by
     rcases E.b8 a ⟨i,_,e1,em⟩ with⟨j,ov,z,_⟩ | z
     ·exact absurd (List.mem_iff_getElem?.mpr ⟨j,z⟩) na
     ·exact z
    rcases h with h | h
    ·exact k _ _ h _ _ _ (base (F2:=F') (fun _ _ e=>e) S.sub (fun _ _ e => .inl e) j2 S.nt ⟨a,vs,rfl,ha,e3,fa,h4⟩)
    ·refine k _ _ h _ _ _ (base (F2:=upd F' a (.lst vs)) (bW fa) (fun b o e => ?_) (fun b o e => ?_) (fun b hb => ?_) (fun b hb => ?_) ?_)
     ·by_cases z:b=a
      ·subst z;rw[bF] at e;cases e;exact e3
      ·rw[aS z] at e;exact S.sub b o e
     ·by_cases z:b=a
      ·subst z;exact .inr ⟨ha,na⟩
      ·rw[aS z] at e;exact .inl e
     ·rw[aS fun z=>na (by subst z;exact hb)];exact j2 b hb
     ·obtain⟨ps,q⟩:=aQ.tb S.tab hb
      rw[aS fun z=>by subst z;rw[e3] at q;cases q];exact S.nt b hb
     ·show Is _ (.lst ds) _
      simp only[Is]
      exact⟨a,vs,rfl,bF,h4.same (bW fa)⟩
   ·exact h.elim
end
theorem cH.fH {P:Program} {w:World} {K:PySem.W.Frag} {mg:Str->Option Value} {base:Heap} {x qual:Str} {st:Stmt} {f:Addr} {fd:FuncData} {N ps:List Str} {k:Nat} {G:GD} (F:cH K x qual st f fd) (S:di N ps (a7 st))
  (eU:∀ (bc:Value) (A:Around) (outer:List Env) (s:Shared) (H:Hp) (E:XK),bG k (A.deeper (envOfC qual (a7 st) s.heap.objs.size f bc)) →
   ∃ B:WS,fB (gu bV P w K mg base N qual (a7 st) f bc A outer s H E).nY (cU st) (d_ B)/\∀ ys ao K',ys.length=ps.length->G ys ao K'->B (c8 ao.length K') ⟨ys.map some ++ List.replicate (N.length - ps.length) none,ao.map some⟩) :
  aT P w K mg base bV (k + 1) f fd ps (aR G ps.length) :=
 F.vm S (fun vs H Q E h=>h.1) fun bc A outer s H vs Q E hr h=>by
  obtain⟨hl,Fz,ad,ys,ao,K',S0,g,kk⟩:=h
  obtain⟨B,jb,hb⟩:=eU bc A outer s H E hr
  have hy:ys.length=ps.length:=by
   have:=S0.len
   rw[List.length_map] at this
   rw[<-hl,this];show _=(ys.map some).length;rw[List.length_map]
  refine⟨_,jb,Fz,ad,⟨ys.map some ++ List.replicate (N.length - ps.length) none,ao.map some⟩,c8 ao.length K',by rw[<-hl];exact S0.start,hb ys ao K' hy g,⟨fun δ' h F' aC σ' H' E' S' => ?_,fun δ' h=>h.elim,fun δ' h=>h.elim,fun y δ' h v F' aC σ' H' E' S' V => ?_⟩⟩
  ·exact DL (σ' := σ') S0 E' S' (x := .p .non) (v := .non) rfl h kk
  ·exact DL (σ' := σ') S0 E' S' V h kk
noncomputable def passes (mu:List (Option OV)):List DV->Nat->Option (List DV × List (Nat × OV))
 | [],_=>some ([],[])
 | .p d :: xs,j=>match passes mu xs j with
  | some r=>some (.p d :: r.1,r.2)
  | none=>none
 | .o k :: xs,j=>match mu[k]? with
  | some (some ov)=>match passes mu xs (j + 1) with
   | some r=>some (.o j :: r.1,(k,ov) :: r.2)
   | none=>none
  | _=>none
noncomputable def e_ (mu:List (Option OV)):List (Nat × OV)->List OV->List (Option OV)
 | (k,_) :: r,ow :: ows=>e_ (mu.set k (some ow)) r ows
 | _,_=>mu
noncomputable def j3:List (Nat × OV)->Bool
 | []=>true
 | (k,_) :: r => !(r.any fun e=>e.1 == k) && j3 r
noncomputable def oU (δ : av) (fY:List (Nat × OV)) (K:DV->av->Prop) (r:RV) (ows:List OV):Prop:=match r with
 | .p d=>K (.p d) ⟨δ.sl,e_ δ.mu fY ows⟩
 | .n ds=>K (.p (.lst ds)) ⟨δ.sl,e_ δ.mu fY ows⟩
 | .a j=>match fY[j]? with
  | some ko=>K (.o ko.1) ⟨δ.sl,e_ δ.mu fY ows⟩
  | none=>False
noncomputable def oV (δ : av) (fY:List (Nat × OV)) (K:DV->av->Prop) (r:RV) (ows:List OV):Prop:=match r with
 | .n ds=>K (.o (e_ δ.mu fY ows).length) ⟨δ.sl,e_ δ.mu fY ows ++ [some (.lst ds)]⟩
 | _=>False
noncomputable def au (n:Nat) (G:GD) (fa:WA):WE:=fun δ K=>fa δ fun xs δ1=>match passes δ1.mu xs 0 with
 | some r=>(j3 r.2=true/\r.1.length=n)/\G r.1 (r.2.map (·.2)) (oU δ1 r.2 K)
 | none=>False
noncomputable def vF (n:Nat) (G:GD) (fa:WA):WE:=fun δ K=>fa δ fun xs δ1=>match passes δ1.mu xs 0 with
 | some r=>(j3 r.2=true/\r.1.length=n)/\G r.1 (r.2.map (·.2)) (oV δ1 r.2 K)
 | none=>False
section
variable {F F' H H':Hp} {ad aC:List Addr} {δ : av} {σ σ':St}
theorem vG {mu:List (Option OV)} (hm:∀ (k:Nat) (ov:OV),mu[k]? = some (some ov)->∃ a o,ad[k]? = some a/\H a=some o/\fD F ov o):∀ {xs:List DV} {vs:List V} {j:Nat} {r:List DV × List (Nat × OV)},passes mu xs j=some r->dw F ad xs vs →
  ∃ as:List Addr,as.length=r.2.length/\(∀ (i:Nat) (ko:Nat × OV),r.2[i]? = some ko->mu[ko.1]? = some (some ko.2)/\∃ a o,as[i]? = some a/\ad[ko.1]? = some a/\H a=some o/\fD F ko.2 o) ∧
   ∀ (pre:List Addr),pre.length=j->∃ _u:Unit,vs.length=r.1.length/\∀ (i:Nat) (y:DV),r.1[i]? = some y->∃ v,vs[i]? = some v/\fX F (pre ++ as) y v
 | [],vs,j,r,h,hv=>by
  cases h
  have:vs=[]:=hv
  subst this
  exact⟨[],rfl,fun i ko e=>by simp at e,fun pre _=>⟨(),rfl,fun i y e=>by simp at e⟩⟩
 | .p d :: xs,_,j,r,h,⟨v,t,e,h1,h2⟩=>by
  subst e
  unfold passes at h
  split at h
  ·rename_i r' hr
   cases h
   obtain⟨as,l,b,c⟩:=vG hm hr h2
   refine⟨as,l,b,fun pre hp=>⟨(),?_,fun i y e => ?_⟩⟩
   ·obtain⟨_,c1,_⟩:=c pre hp
    rw[List.length_cons,List.length_cons,c1]
   ·obtain⟨_,_,c2⟩:=c pre hp
    cases i with
    | zero=>cases (show some (DV.p d)=some y by simpa using e);exact⟨v,rfl,h1⟩
    | succ i=>simpa using c2 i y (by simpa using e)
  ·cases h
 | .o k :: xs,_,j,r,h,⟨v,t,e,h1,h2⟩=>by
  subst e
  unfold passes at h
  split at h
  ·rename_i ov hk
   split at h
   ·rename_i r' hr
    cases h
    obtain⟨as,l,b,c⟩:=vG hm hr h2
    obtain⟨a,e1,rfl⟩:=h1
    obtain⟨a',o,e2,e3,e4⟩:=hm k ov hk
    rw[e1] at e2;cases e2
    refine⟨a :: as,by rw[List.length_cons,List.length_cons,l],fun i ko e => ?_,fun pre hp=>⟨(),?_,fun i y e => ?_⟩⟩
    ·cases i with
     | zero=>cases (show some (k,ov)=some ko by simpa using e);exact⟨hk,a,o,rfl,e1,e3,e4⟩
     | succ i=>simpa using b i ko (by simpa using e)
    ·obtain⟨_,c1,_⟩:=c (pre ++ [a]) (by rw[List.length_append,hp];rfl)
     rw[List.length_cons,List.length_cons,c1]
    ·obtain⟨_,_,c2⟩:=c (pre ++ [a]) (by rw[List.length_append,hp];rfl)
     cases i with
     | zero =>
      cases (show some (DV.o j)=some y by simpa using e)
      refine⟨_,rfl,a,?_,rfl⟩
      rw[List.getElem?_append_right (by omega),hp,Nat.sub_self];rfl
     | succ i =>
      obtain⟨v',c3,c4⟩:=c2 i y (by simpa using e)
      exact⟨v',by simpa using c3,by rw[List.append_assoc] at c4;exact c4⟩
   ·cases h
  ·cases h
theorem DM:∀ {fY:List (Nat × OV)},j3 fY=true->∀ (i j:Nat) (k:Nat) (a b:OV),fY[i]? = some (k,a)->fY[j]? = some (k,b)->i=j
 | [],_,i,j,k,a,b,e,_=>by simp at e
 | (k',ov) :: r,h,i,j,k,a,b,e1,e2=>by
  unfold j3 at h
  simp only[Bool.and_eq_true,Bool.not_eq_true'] at h
  have no:∀ (m:Nat) (c:OV),r[m]? = some (k',c)->False:=fun m c e=>by
   have:=List.any_eq_false.mp h.1 _ (List.mem_iff_getElem?.mpr ⟨m,e⟩)
   exact this (by simp)
  cases i with
  | zero =>
   cases (show some (k',ov)=some (k,a) by simpa using e1)
   cases j with
   | zero=>rfl
   | succ j=>exact (no j b (by simpa using e2)).elim
  | succ i =>
   cases j with
   | zero=>cases (show some (k',ov)=some (k,b) by simpa using e2);exact (no i a (by simpa using e1)).elim
   | succ j=>rw[DM h.2 i j k a b (by simpa using e1) (by simpa using e2)]
theorem DN:∀ (fY:List (Nat × OV)) (ows:List OV) (mu:List (Option OV)),(e_ mu fY ows).length=mu.length
 | (k,_) :: r,ow :: ows,mu=>by rw[e_,DN r ows,List.length_set]
 | [],_,_=>rfl
 | _ :: _,[],_=>rfl
theorem vH:∀ (fY:List (Nat × OV)) (ows:List OV) (mu:List (Option OV)) (l:Nat),(∀ ko∈fY,ko.1≠l)->(e_ mu fY ows)[l]? = mu[l]?
 | (k,_) :: r,ow :: ows,mu,l,h=>by
  rw[e_,vH r ows _ l fun ko hk=>h ko (List.mem_cons_of_mem _ hk),List.getElem?_set_ne (h _ List.mem_cons_self)]
 | [],_,_,_,_=>rfl
 | _ :: _,[],_,_,_=>rfl
theorem DO:∀ {fY:List (Nat × OV)} {ows:List OV} {mu:List (Option OV)} {i:Nat} {ko:Nat × OV} {ow:OV},j3 fY=true->fY[i]? = some ko->ows[i]? = some ow->ko.1 < mu.length->(e_ mu fY ows)[ko.1]? = some (some ow)
 | (k,ov) :: r,zE :: ows,mu,0,ko,ow,h,e1,e2,hl=>by
  cases (show some (k,ov)=some ko by simpa using e1)
  cases (show some zE=some ow by simpa using e2)
  unfold j3 at h
  simp only[Bool.and_eq_true,Bool.not_eq_true'] at h
  rw[e_,vH r ows _ k fun ko hk z=>absurd (by simpa using z) (List.any_eq_false.mp h.1 ko hk),List.getElem?_set_self hl]
 | (k,ov) :: r,zE :: ows,mu,i + 1,ko,ow,h,e1,e2,hl=>by
  unfold j3 at h
  simp only[Bool.and_eq_true,Bool.not_eq_true'] at h
  rw[e_]
  exact DO h.2 (by simpa using e1) (by simpa using e2) (by rw[List.length_set];exact hl)
 | [],_,_,i,_,_,_,e1,_,_=>by simp at e1
 | _ :: _,[],_,i,_,_,_,_,e2,_=>by simp at e2
theorem vI {xs:List DV} {vs:List V} {r:List DV × List (Nat × OV)} {G:GD} {n:Nat} {Q:VK} {E:XK} {K:RV->List OV->Prop} (S:SR F ad δ σ H) (V:dw F ad xs vs) (hn:vs.length=n) (hp:passes δ.mu xs 0=some r) (nd:j3 r.2=true) (g:G r.1 (r.2.map (·.2)) K)
  (fin:∀ res ows v F' H',K res ows->Ext F ad δ.mu H F' ad (e_ δ.mu r.2 ows) H'->SR F' ad ⟨δ.sl,e_ δ.mu r.2 ows⟩ σ H'->(match res with
   | .p d=>Is F' d v
   | .n ds=>∃ a vs,v = .ref a/\H a=none/\H' a=some (.lst vs)/\F' a=none/\af F' ds vs
   | .a j=>∃ ko a,r.2[j]? = some ko/\ad[ko.1]? = some a/\v = .ref a)->Q v H'):aR G n vs H Q E:=by
 obtain⟨as,al,b,c⟩:=vG S.mu hp V
 obtain⟨_,c1,c2⟩:=c [] rfl
 have qw:∀ (i:Nat) (a:Addr),as[i]? = some a->Lv ad δ.mu a/\∃ ko,r.2[i]? = some ko/\ad[ko.1]? = some a /\ δ.mu[ko.1]? = some (some ko.2):=fun i a e=>by
  have hi:i < r.2.length:=by rw[<-al];exact (List.getElem?_eq_some_iff.mp e).1
  obtain⟨m1,a',o,e1,e2,_,_⟩:=b i _ (List.getElem?_eq_getElem hi)
  rw[e] at e1;cases e1
  exact⟨⟨_,_,e2,m1⟩,_,List.getElem?_eq_getElem hi,e2,m1⟩
 refine⟨hn,F,as,r.1,r.2.map (·.2),K,⟨S.sub,fun a ⟨i,ov,e1,e2⟩=>S.off a (qw i a e1).1,by rw[al];show _=((r.2.map (·.2)).map some).length;rw[List.length_map,List.length_map],fun i j a ov ow e1 e2 _ _ => ?_,fun i ov e => ?_,fun i y e => ?_,?_,S.tab,S.nt⟩,g,fun res ows hk v F' H' P => ?_⟩
 ·obtain⟨_,ko,k1,k2,k3⟩:=qw i a e1
  obtain⟨_,kp,p1,p2,p3⟩:=qw j a e2
  have:ko.1=kp.1:=S.inj _ _ a _ _ k2 p2 k3 p3
  exact DM nd i j ko.1 ko.2 kp.2 k1 (by rw[this];exact p1)
 ·have e:=DK e
  rw[List.getElem?_map] at e
  obtain⟨ko,e1,rfl⟩:=Option.map_eq_some_iff.mp e
  obtain⟨_,a,o,e2,_,e4,e5⟩:=b i ko e1
  exact⟨a,o,e2,e4,e5⟩
 ·obtain⟨v,e1,e2⟩:=c2 i y (DK e)
  exact⟨v,LD e1,by simpa using e2⟩
 ·show (vs.map some).length=(r.1.map some).length
  rw[List.length_map,List.length_map,c1]
 ·have ol:ows.length=r.2.length:=by rw[P.len,al]
  have mJ:∀ (l:Nat) (ow:OV),(e_ δ.mu r.2 ows)[l]? = some (some ow)->(∃ (i:Nat) (ko:Nat × OV),r.2[i]? = some ko/\ko.1=l/\ows[i]? = some ow)\/((∀ ko∈r.2,ko.1≠l) /\ δ.mu[l]? = some (some ow)):=fun l ow e=>by
   by_cases z:∃ ko∈r.2,ko.1=l
   ·obtain⟨ko,hk,rfl⟩:=z
    obtain⟨i,hi⟩:=List.mem_iff_getElem?.mp hk
    have oW:i < ows.length:=by rw[ol];exact (List.getElem?_eq_some_iff.mp hi).1
    have:=DO (mu := δ.mu) nd hi (List.getElem?_eq_getElem oW) (List.getElem?_eq_some_iff.mp (b i ko hi).1).1
    rw[e] at this
    cases this
    exact .inl ⟨i,ko,hi,rfl,List.getElem?_eq_getElem oW⟩
   ·have z':∀ ko∈r.2,ko.1≠l:=fun ko hk q=>z ⟨ko,hk,q⟩
    rw[vH _ _ _ _ z'] at e
    exact .inr ⟨z',e⟩
  have DP:∀ (l:Nat) (ow:OV) (a:Addr),ad[l]? = some a->(e_ δ.mu r.2 ows)[l]? = some (some ow)->Lv ad δ.mu a:=fun l ow a e1 e2=>by
   rcases mJ l ow e2 with⟨i,ko,hi,rfl,_⟩ | ⟨_,q⟩
   ·exact⟨_,_,e1,(b i ko hi).1⟩
   ·exact⟨_,_,e1,q⟩
  have LG:∀ a,a∈as->Lv ad δ.mu a:=fun a ha=>by
   obtain⟨i,e⟩:=List.mem_iff_getElem?.mp ha
   exact (qw i a e).1
  have ex:Ext F ad δ.mu H F' ad (e_ δ.mu r.2 ows) H':=by
   refine⟨P.same,fun a o e => ?_,fun a o e n t=>P.keep a o e (fun z=>n (LG a z)) t,fun _ _ e=>e,fun a ⟨l,ow,e1,e2⟩ => .inl (DP l ow a e1 e2),fun a o e => ?_⟩
   ·rcases P.new a o e with z | z
    ·exact .inl z
    ·exact .inr (.inl z)
   ·by_cases z:a∈as
    ·obtain⟨i,e1⟩:=List.mem_iff_getElem?.mp z
     have hi:i < ows.length:=by rw[P.len];exact (List.getElem?_eq_some_iff.mp e1).1
     obtain⟨a',o',e2,e3,_⟩:=P.own i _ (List.getElem?_eq_getElem hi)
     rw[e1] at e2;cases e2
     exact⟨o',e3⟩
    ·by_cases t:a∈aQ.ad
     ·obtain⟨ps,q⟩:=aQ.tb P.tab t
      exact⟨_,q⟩
     ·exact⟨o,P.keep a o e z t⟩
  have zF:∀ a,Lv ad δ.mu a->F' a=none:=fun a l=>by
   by_cases z:a∈as
   ·exact P.off a z
   ·cases q:F' a with
    | none=>rfl
    | some u =>
     rcases P.new a u q with y | y
     ·rw[S.off a l] at y;cases y
     ·obtain⟨k,ov,e1,e2⟩:=l
      obtain⟨a',o,e3,e4,_⟩:=S.mu k ov e2
      rw[e1] at e3;cases e3
      rw[y] at e4;cases e4
  have sr:SR F' ad ⟨δ.sl,e_ δ.mu r.2 ows⟩ σ H':=by
   refine⟨P.sub,fun a ⟨l,ow,e1,e2⟩=>zF a (DP l ow a e1 e2),by rw[S.cD];exact (DN _ _ _).symm,fun k l a ov ow e1 e2 e3 e4 => ?_,fun l ow e => ?_,fun i y e => ?_,S.len,P.tab,P.nt⟩
   ·have h3:∃ w,δ.mu[k]? = some (some w):=by
     rcases mJ k ov e3 with⟨i,ko,hi,rfl,_⟩ | ⟨_,q⟩
     ·exact⟨_,(b i ko hi).1⟩
     ·exact⟨_,q⟩
    have h4:∃ w,δ.mu[l]? = some (some w):=by
     rcases mJ l ow e4 with⟨i,ko,hi,rfl,_⟩ | ⟨_,q⟩
     ·exact⟨_,(b i ko hi).1⟩
     ·exact⟨_,q⟩
    obtain⟨_,h3⟩:=h3
    obtain⟨_,h4⟩:=h4
    exact S.inj k l a _ _ e1 e2 h3 h4
   ·rcases mJ l ow e with⟨i,ko,hi,rfl,ho⟩ | ⟨z,q⟩
    ·obtain⟨_,a,o,e1,e2,_,_⟩:=b i ko hi
     obtain⟨a',o',e3,e4,h5⟩:=P.own i ow ho
     rw[e1] at e3;cases e3
     exact⟨a,o',e2,e4,h5⟩
    ·obtain⟨a,o,e1,e2,h⟩:=S.mu l ow q
     refine⟨a,o,e1,P.keep a o e2 (fun y => ?_) (fun t => ?_),h.same P.same⟩
     ·obtain⟨i,e3⟩:=List.mem_iff_getElem?.mp y
      obtain⟨_,ko,k1,k2,k3⟩:=qw i a e3
      exact z ko (List.mem_iff_getElem?.mpr ⟨i,k1⟩) (S.inj _ _ a _ _ k2 e1 k3 q)
     ·obtain⟨ps,q2⟩:=aQ.tb S.tab t
      rw[e2] at q2
      cases q2
      rcases h.kind with⟨_,z⟩ | ⟨_,z⟩<;>cases z
   ·obtain⟨v,e1,h⟩:=S.sl i y e
    exact⟨v,e1,h.ext ex⟩
  refine fin res ows v F' H' hk ex sr ?_
  have oX:=P.res
  cases res with
  | p d=>exact oX
  | n ds=>exact oX
  | a j =>
   obtain⟨a,e1,e2⟩:=oX
   obtain⟨_,ko,k1,k2,_⟩:=qw j a e1
   exact⟨ko,a,k1,k2,e2⟩
end
section
variable {X:Cx} {fa:WA} {G:GD} {pos:Pos}
theorem DQ {F1 F2 H1 H2:Hp} {aL:List Addr} {δ1:av} {σ : St} {xs:List DV} {vs:List V} {r:List DV × List (Nat × OV)} {ows:List OV} {a:Addr} (S1:SR F1 aL δ1 σ H1) (V1:dw F1 aL xs vs) (hp:passes δ1.mu xs 0=some r) (n1:H1 a=none):¬ Lv aL (e_ δ1.mu r.2 ows) a:=fun ⟨k,ov,e1,e2⟩=>by
 have c:∃ ov,δ1.mu[k]? = some (some ov):=by
  by_cases y:∃ ko∈r.2,ko.1=k
  ·obtain⟨ko,oY,rfl⟩:=y
   obtain⟨as,_,b,_⟩:=vG S1.mu hp V1
   obtain⟨i,hi⟩:=List.mem_iff_getElem?.mp oY
   exact⟨_,(b i ko hi).1⟩
  ·rw[vH _ _ _ _ fun ko oY q=>y ⟨ko,oY,q⟩] at e2
   exact⟨_,e2⟩
 obtain⟨LH,c⟩:=c
 obtain⟨a',o,e3,e4,_⟩:=S1.mu k LH c
 rw[e1] at e3;cases e3
 rw[n1] at e4;cases e4
theorem dw.length {F:Hp} {ad:List Addr}:∀ {xs:List DV} {vs:List V},dw F ad xs vs->vs.length=xs.length
 | [],vs,h=>by have h:vs=[]:=h;rw[h];rfl
 | x :: xs,vs,⟨v,r,e,_,h2⟩=>by rw[e,List.length_cons,List.length_cons,dw.length h2]
theorem tR {mu:List (Option OV)}:∀ {xs:List DV} {j:Nat} {r:List DV × List (Nat × OV)},passes mu xs j=some r->r.1.length=xs.length
 | [],j,r,h=>by cases h;rfl
 | .p d :: xs,j,r,h=>by
  unfold passes at h
  split at h
  ·rename_i r' hr;cases h;show (DV.p d :: r'.1).length=_;rw[List.length_cons,List.length_cons,tR hr]
  ·cases h
 | .o k :: xs,j,r,h=>by
  unfold passes at h
  split at h
  ·split at h
   ·rename_i r' hr;cases h;show (DV.o j :: r'.1).length=_;rw[List.length_cons,List.length_cons,tR hr]
   ·cases h
  ·cases h
section
variable {k:Nat} {f:Addr} {fd:FuncData} {ps:List Str} {x:Str} {p:Pos} {e:Expr} {es:List Expr} {n:Nat}
theorem LI {E:XK}:∀ σ H Q,tD (au n G fa) σ H Q->om (aR G n) [] E (bZ fa) σ H Q:=fun σ H Q h0_ => el7 h0_ fun F ad δ K S q kk =>by
 refine⟨F,ad,δ,_,S,q,fun xs δ1 h1 vs F1 aL H1 E1 S1 V1 => ?_⟩
 split at h1
 ·rename_i r hp
  obtain⟨⟨nd,hn⟩,h1⟩:=h1
  rw[List.append_nil]
  refine vI S1 V1 (by rw[V1.length,<-tR hp,hn]) hp nd h1 fun res ows v F2 H2 hk E2 S2 cK => ?_
  unfold oU at hk
  cases res with
  | p d=>exact kk _ _ hk _ _ _ _ (E1.trans E2) S2 cK
  | n ds =>
   obtain⟨a,us,rfl,n1,n2,n3,n4⟩:=cK
   refine kk _ _ hk _ _ _ _ (E1.trans (E2.adopt (o := .lst us) n1 n3)) (S2.adopt n3 n2 (DQ (F2:=F2) (H2:=H2) S1 V1 hp n1)) ?_
   show Is _ (.lst ds) _
   simp only[Is]
   exact⟨a,us,rfl,bF,n4.same (bW n3)⟩
  | a j =>
   obtain⟨ko,a,h1,h2,h3⟩:=cK
   dsimp only at hk
   rw[h1] at hk
   exact kk _ _ hk _ _ _ _ (E1.trans E2) S2 ⟨a,h2,h3⟩
 ·exact h1.elim
theorem LL {E:XK}:∀ σ H Q,tD (vF n G fa) σ H Q->om (aR G n) [] E (bZ fa) σ H Q:=fun σ H Q h0_ => el7 h0_ fun F ad δ K S q kk =>by
 refine⟨F,ad,δ,_,S,q,fun xs δ1 h1 vs F1 aL H1 E1 S1 V1 => ?_⟩
 split at h1
 ·rename_i r hp
  obtain⟨⟨nd,hn⟩,h1⟩:=h1
  rw[List.append_nil]
  refine vI S1 V1 (by rw[V1.length,<-tR hp,hn]) hp nd h1 fun res ows v F2 H2 hk E2 S2 cK => ?_
  unfold oV at hk
  cases res with
  | p d=>exact hk.elim
  | n ds =>
   obtain⟨a,us,rfl,n1,n2,n3,n4⟩:=cK
   have oi:fD F2 (.lst ds) (.lst us):=⟨us,rfl,n4⟩
   refine kk _ _ hk _ _ _ _ (E1.trans (E2.dy (ov := .lst ds) n1 S2.cD)) (S2.dy n3 n2 (DQ (F2:=F2) (H2:=H2) S1 V1 hp n1) oi) ⟨a,?_,rfl⟩
   have:aL.length=(e_ δ1.mu r.2 ows).length:=S2.cD
   rw[<-this,List.getElem?_append_right (Nat.le_refl _),Nat.sub_self];rfl
  | a j=>exact hk.elim
 ·exact h1.elim
theorem bS (Fn:aT X.prog X.w X.K X.mg X.base bV k f fd ps (aR G n)) (hr:bG k X.A) (hg:Gl X x) (hm:X.mg x=some (.ref f)) (hk:PySem.W.keepIn X.K (.ref f)=true) (hb:Binds X.K fd ps [])
  (ha:JA X (e :: es) (bZ fa)) (gs:(x == ("__debug__" : Str))=false:=by decide) (he:starEach (e :: es) X.env=(false,eval e X.env) :: starEach es X.env:=by rfl) (fW:(backTo pos (starEach es X.env)).any (·.1)=false:=by rfl) :
  JE X (.Call (.Name x p) (e :: es) [] pos) (tD (au n G fa)):=(tu Fn hr hg hm hk hb .nil sI ha gs he fW).weak LI
theorem LM (Fn:aT X.prog X.w X.K X.mg X.base bV k f fd ps (aR G n)) (hr:bG k X.A) (hg:Gl X x) (hm:X.mg x=some (.ref f)) (hk:PySem.W.keepIn X.K (.ref f)=true) (hb:Binds X.K fd ps [])
  (ha:JA X (e :: es) (bZ fa)) (gs:(x == ("__debug__" : Str))=false:=by decide) (he:starEach (e :: es) X.env=(false,eval e X.env) :: starEach es X.env:=by rfl) (fW:(backTo pos (starEach es X.env)).any (·.1)=false:=by rfl) :
  JE X (.Call (.Name x p) (e :: es) [] pos) (tD (vF n G fa)):=(tu Fn hr hg hm hk hb .nil sI ha gs he fW).weak LL
end
end
end L2
namespace PySem
open Sem (wp)
open AutoSeq1 (wpAny_loadPart')
theorem LN (l:Addr) (items:Array Value) (n:Nat) (dct:Option Addr) (sl:Array (Option Value)) :
  Meets (Builtin.«enumerate.__new__» ⟨[.type "enumerate",.ref l],[]⟩) (fun _ R s=>s.heap.get? l=some { cls := .type "tuple",dict:=dct,data := .seq items n,slots:=sl } ∧
   R (.ok (.ret (.ref (s.heap.push { cls := .type "tuple_iterator",data := .fields #[.ref l,.int 0 0] }).objs.size)))
    { s with heap:=(s.heap.push { cls := .type "tuple_iterator",data := .fields #[.ref l,.int 0 0] }).push { cls := .type "enumerate",data := .fields #[.none,.bool false,.ref s.heap.objs.size,rawInt 0,.none,.none] } }) :=
 .of_wp fun prog w A R s h=>by
  obtain⟨hp,g,d,tk,os⟩:=s;obtain⟨hl,h⟩:=h
  have LO:=sub_enumerate
  have hL:Heap.IsTuple (Shared.heap ⟨hp,g,d,tk,os⟩) l items:=⟨_,hl,rfl,n,rfl⟩
  wp_walk using wpAny_loadPart' hl
  refine wpAny_stack_any fun st=>wpAny_pure ?_
  split
  ·rename_i c _ _ _ _ _
   cases (c == Value.type "enumerate")
   ·wp_walk using wpAny_loadPart' hl,wpAny_pyIter_tuple hL
    exact⟨_,rfl,h⟩
   ·wp_walk using wpAny_loadPart' hl,wpAny_pyIter_tuple hL
    exact⟨_,rfl,h⟩
  ·wp_walk using wpAny_loadPart' hl,wpAny_pyIter_tuple hL
   exact⟨_,rfl,h⟩
section
variable {prog:Program} {w:World} {A:Around} {E:Value->Shared->Prop} {s:Shared}
theorem LP {l:Addr} {items:Array Value} {Q:Value->Shared->Prop} (hL:s.heap.IsTuple l items)
  (h:∀ h',IsEnum h' (s.heap.objs.size + 1) s.heap.objs.size 0 .none->h'.IsTupleIter s.heap.objs.size l 0->h'.objs.size=s.heap.objs.size + 2 →
   (∀ b o,s.heap.get? b=some o->h'.get? b=some o)->Q (.ref (s.heap.objs.size + 1)) { s with heap:=h' }) :
  wpAny (model prog w) A (call (.type "enumerate") [.ref l]) Q E s:=by
 obtain⟨⟨c,dct,dt,sl⟩,hl,hc,n,hd⟩:=hL
 replace hc:c = .type "tuple" := hc
 replace hd:dt = .seq items n:=hd
 subst hc hd
 refine callType_new F.called_enumerate (by decide) (F.typeCall_enumerate_1 _) (F.newCall_enumerate_1 _) (fun obj=>F.args_object_init_2 obj _) F.entry_enumerate_new
  (LN l items n dct sl) ⟨hl,?_⟩
 have hz:(s.heap.push { cls := .type "tuple_iterator",data := .fields #[.ref l,.int 0 0] }).objs.size=s.heap.objs.size + 1:=Heap.size_push ..
 show _/\_
 rw[hz]
 have he:IsEnum ((s.heap.push { cls := .type "tuple_iterator",data := .fields #[.ref l,.int 0 0] }).push
   { cls := .type "enumerate",data := .fields #[.none,.bool false,.ref s.heap.objs.size,rawInt 0,.none,.none] }) (s.heap.objs.size + 1) s.heap.objs.size 0 .none:=by
  have:=Heap.get?_push_size (s.heap.push { cls := .type "tuple_iterator",data := .fields #[.ref l,.int 0 0] })
   (o:={ cls := .type "enumerate",data := .fields #[.none,.bool false,.ref s.heap.objs.size,rawInt 0,.none,.none] }) rfl
  rw[hz] at this;exact this
 refine⟨⟨_,he,rfl⟩,h _ he ⟨_,Heap.get?_push_of_some _ (Heap.get?_push_size _ rfl),rfl,rfl⟩ (by rw[Heap.size_push,hz]) fun b o x=>Heap.get?_push_of_some _ (Heap.get?_push_of_some _ x)⟩
theorem LQ {it l:Addr} {i:Nat} {items:Array Value} {x:Value} {Q:Value->Shared->Prop} (hit:s.heap.IsTupleIter it l i) (hl:s.heap.IsTuple l items) (hx:items[i]? = some x)
  (hQ:∀ h',h'.IsTupleIter it l (i + 1)->Heap.SameBut it s.heap h'->Q x { s with heap:=h' }):wpAny (model prog w) A (Builtin.SmallTypes.nextOf (.ref it)) Q E s:=by
 obtain⟨o,ho,hc,hd⟩:=id hit
 obtain⟨ol,zG,_,nl,lY⟩:=hl
 have nn:¬ ((Value.ref l == Value.none)=true):=Bool.false_ne_true
 unfold Builtin.SmallTypes.nextOf
 refine wpAny_bind (wpAny_callSpecial?_slot (name:=Str.ofString "__next__") hit.typeIs F.slot_tuple_iterator_next (wpAny_call_entry F.slot_tuple_iterator_next hit.typeIs F.entry_tuple_iterator_next ?_ (F.args_tuple_iterator_next_1 _)))
 show wpAny _ _ (field (.ref it) 0 >>= _) _ _ s;refine wpAny_bind (wpAny_field ho hd (x := .ref l) rfl ?_)
 show wpAny _ _ (if (Value.ref l == Value.none)=true then _ else _) _ _ s;rw[if_neg nn]
 show wpAny _ _ (field (.ref it) 1 >>= _) _ _ s;refine wpAny_bind (wpAny_field ho hd (x := .int i 0) rfl ?_)
 show wpAny _ _ (seqItems? (.ref l) >>= _) _ _ s;refine wpAny_bind (wpAny_seqItems zG lY ?_)
 simp only[Int.toNat_natCast,hx]
 refine wpAny_bind (wpAny_setField ho hd (by simp) (wpAny_pure ⟨x,rfl,wpAny_pure (hQ _ ⟨_,Heap.get?_update_self _ ho (Obj.isFreed_of_fields (Obj.data_mapFields hd _)),(Obj.cls_mapFields ..).trans hc,?_⟩ (Heap.SameBut.update ..))⟩))
 rw[Obj.data_mapFields hd];simp[rawInt]
theorem LR {it l:Addr} {i:Nat} {items:Array Value} {Q:Value->Shared->Prop} (hh:A.handled=none) (hit:s.heap.IsTupleIter it l i) (hl:s.heap.IsTuple l items) (hx:items[i]? = none)
  (hE:∀ h' e,Heap.ExtBut it s.heap h'->(∃ o,h'.get? e=some o/\o.cls = .type "StopIteration")->E (.ref e) { s with heap:=h' }):wpAny (model prog w) A (Builtin.SmallTypes.nextOf (.ref it)) Q E s:=by
 obtain⟨o,ho,hc,hd⟩:=id hit
 obtain⟨ol,zG,_,nl,lY⟩:=hl
 have nn:¬ ((Value.ref l == Value.none)=true):=Bool.false_ne_true
 unfold Builtin.SmallTypes.nextOf
 refine wpAny_bind (wpAny_callSpecial?_slot (name:=Str.ofString "__next__") hit.typeIs F.slot_tuple_iterator_next (wpAny_call_entry F.slot_tuple_iterator_next hit.typeIs F.entry_tuple_iterator_next ?_ (F.args_tuple_iterator_next_1 _)))
 show wpAny _ _ (field (.ref it) 0 >>= _) _ _ s;refine wpAny_bind (wpAny_field ho hd (x := .ref l) rfl ?_)
 show wpAny _ _ (if (Value.ref l == Value.none)=true then _ else _) _ _ s;rw[if_neg nn]
 show wpAny _ _ (field (.ref it) 1 >>= _) _ _ s;refine wpAny_bind (wpAny_field ho hd (x := .int i 0) rfl ?_)
 show wpAny _ _ (seqItems? (.ref l) >>= _) _ _ s;refine wpAny_bind (wpAny_seqItems zG lY ?_)
 simp only[Int.toNat_natCast,hx]
 refine wpAny_bind (wpAny_rule (wpAny_bind (wpAny_setField ho hd (by simp) ?_)))
 show wpAny _ _ (newExc (.type "StopIteration") [] >>= _) _ _ _;refine wpAny_bind ?_
 simp only[newExc,newTuple];refine wpAny_bind (wpAny_newObj_type ?_ (by size_fits))
 refine wpAny_bind (m:=firstArgMember _ _) (wpAny_of_eq (a:=Value.none) (by first | rfl | (simp only[firstArgMember];rfl)) (wpAny_newObj_type ?_ (by size_fits)))
 simp only[raiseNew];refine wpAny_bind (wpAny_handled ?_)
 first | rw[show A.in1.handled=none from hh] | rw[hh]
 refine wpAny_bind (wpAny_pure (wpAny_throw (hE _ _ (((Heap.SameBut.update ..).extBut.push _).push _) ⟨_,Heap.get?_push_size _ rfl,rfl⟩)))
theorem DR (hh:A.handled=none) (it l:Addr) (iM:l≠it) (items:Array Value):Draws prog w A it [it,l] items.size (fun i v=>items[i]? = some v) (fun i h=>h.IsTupleIter it l i/\h.IsTuple l items) where
 live:=fun _ _ st=>let ⟨o,ho,_⟩:=st.1; ⟨o,ho⟩
 frame:=fun _ _ _ st hk=>⟨st.1.at fun o e=>hk it (by simp) o e,st.2.at fun o e=>hk l (by simp) o e⟩
 item:=fun i s Q E hi st hQ=>LQ st.1 st.2 (x:=items[i]) (by simp[hi]) fun h' zH vo=>hQ _ h' s.toks (by simp[hi]) ⟨zH,st.2.extBut vo.extBut iM⟩ vo
 done:=fun s Q E st hE=>LR hh st.1 st.2 (by simp) hE
end
end PySem
namespace L2
open PySem PySem.Spec PyProof.Rows
noncomputable def tT (K:PySem.W.Frag) (a:Addr):It :=
 ⟨fun i H=>∃ xs x,bw K H a xs/\xs[i]? = some x,fun i H x H'=>∃ T v,x = .ref T/\H T=none/\H'=upd H T (.tup [.int (i:Nat),v])/\∀ xs,bw K H a xs->xs[i]? = some v,fun i H=>∃ xs,bw K H a xs/\xs.length=i⟩
theorem LS {P:Program} {w:World} {K:PySem.W.Frag} {elts:List Expr} {x1} {tp:Pos} (a e it:Addr) (iM:e≠it) (LU:a≠e) (DS:a≠it) :
  Turn P w K (.Tuple elts x1 tp) (tT K a) [e,it] e (fun i h=>(∃ old,IsEnum h e it (i:Nat) old)/\h.IsTupleIter it a i) where
 mem:=by simp
 obj:=fun i h st b hb=>by
  obtain⟨⟨old,he⟩,o,hi,hc,hd⟩:=st
  rcases List.mem_cons.mp hb with rfl | hb
  ·exact⟨_,he,fun v z=>by cases z⟩
  ·have z:b=it:=by simpa using hb
   subst z
   exact⟨o,hi,fun v z=>by rw[hd] at z;cases z⟩
 keep:=fun i h h' st k=>by
  obtain⟨⟨old,he⟩,hi⟩:=st
  exact⟨⟨old,k e (by simp) _ he⟩,hi.at fun o q=>k it (by simp) o q⟩
 item:=by
  intro X hP hw hK hc i pins s σ H E I hf st hg
  subst hP hw hK
  obtain⟨⟨old,he⟩,hi⟩:=st
  obtain⟨xs,x,hq,hx⟩:=hg
  obtain⟨ag,rv,p,hz⟩:=I.tuple hq
  obtain⟨u,hu,ru⟩:=rv.get hx
  have D:=DR (prog:=X.prog) (w:=X.w) (A:=X.A.in1) (by rw[Around.in1_handled];exact I.ok.hd hc) it a DS ag.toArray
  have oW:i < ag.toArray.size:=by rw[List.size_toArray];exact (List.getElem?_eq_some_iff.mp hu).1
  refine wpAny_pyNext_enum_itemD D he ⟨hi,p⟩ oW iM (by simp[iM,Ne.symm LU]) fun y h1 tk py kE sO sP hsz hk=>⟨_,rfl,?_⟩
  have ey:y=u:=by
   have py:ag.toArray[i]? = some y:=py
   rw[List.getElem?_toArray,hu] at py;cases py;rfl
  subst ey
  refine wpAny_letOwnedTupleGo_enum kE fun h2 sQ dW => ?_
  have hT:s.heap.objs.size≠e:=Nat.ne_of_gt (Heap.lt_size he)
  have jR:h2.get? s.heap.objs.size=some { cls := .type "tuple",data := .seq #[.int i tk,y] }:=(dW.2 _ hT).trans sP
  have k2:∀ b o,b∉[e,it]->s.heap.get? b=some o->h2.get? b=some o:=fun b o hb q=>by
   have sR:b≠e:=fun z=>hb (by simp[z])
   have hJ:b≠it:=fun z=>hb (by simp[z])
   exact (dW.2 _ sR).trans (hk b o sR hJ q)
  have hn:H s.heap.objs.size=none:=I.aJ.fresh (Nat.le_refl _)
  refine⟨.ref s.heap.objs.size,upd H s.heap.objs.size (.tup [.int i,x]),I.eX (ch:=[e,it]) (t':=tk + 1) hf k2 (Nat.le_refl _) ?_,rfl,⟨_,x,rfl,hn,rfl,fun ys hy=>by rw[I.fV hy hq];exact hx⟩,⟨⟨y,?_⟩,?_⟩,fun b hb => ?_⟩
  ·exact⟨by show 2 <= sizeLine;decide,[.int i tk,y],.cons ⟨_,rfl⟩ (.cons ru .nil),_,jR,rfl,_,rfl⟩
  ·have e3:((i:Int) + 1)=(((i + 1:Nat)):Int):=by omega
   rw[e3] at sQ
   exact sQ
  ·exact sO.1.at fun o q=>(dW.2 _ (Ne.symm iM)).trans q
  ·have:b < s.heap.objs.size:=by
    obtain⟨o,q,_⟩:=hi
    rcases List.mem_cons.mp hb with rfl | hb
    ·exact Heap.lt_size he
    ·have z:b=it:=by simpa using hb
     subst z;exact Heap.lt_size q
   rw[aS (Nat.ne_of_lt this)]
   exact (hf b hb).1
 done:=by
  intro X hP hw hK hc i pins s σ H E I hf st hg
  subst hP hw hK
  obtain⟨⟨old,he⟩,hi⟩:=st
  obtain⟨xs,hq,hx⟩:=hg
  obtain⟨ag,rv,p,hz⟩:=I.tuple hq
  have D:=DR (prog:=X.prog) (w:=X.w) (A:=X.A.in1) (by rw[Around.in1_handled];exact I.ok.hd hc) it a DS ag.toArray
  have oW:ag.toArray.size=i:=by rw[List.size_toArray,<-rv.length];exact hx
  refine wpAny_pyNext_enum_endD D he (by rw[oW];exact⟨hi,p⟩) fun h1 eb=>⟨rfl,?_⟩
  obtain⟨f0,f1,f2,f3,f4,f5⟩:=hf it (by simp)
  exact I.turned (t':=s.toks) (fun b o hb q=>eb b o hb q) f0 f1 f3 f4 f5
 self:=fun A i s Q E st h=>by
  obtain⟨⟨old,he⟩,hi⟩:=st
  exact PySem.wpAny_pyIter_enum he h
section
variable {X:Cx} {elts:List Expr} {x1:Nat} {tp:Pos} {tg:Expr}
noncomputable def LV (K:PySem.W.Frag) (ta:TA):TI:=fun σ H R=>ta σ H fun vs H1=>∃ a,vs=[.ref a]/\(((∃ xs,aP K H1 a xs)/\R (qh K a) H1)\/((∃ xs,bw K H1 a xs)/\R (tT K a) H1))
theorem LW {a:Expr} {ta:TA} {p pos:Pos} (hg:Gl X "enumerate") (hm:X.mg "enumerate" = none) (ha:JA X [a] ta) (hs:starEach [a] X.env=[(false,eval a X.env)]:=by rfl) :
  JI X (.Tuple elts x1 tp) (.Call (.Name "enumerate" p) [a] [] pos) (LV X.K ta):=by
 refine⟨?_⟩
 intro pins s σ H R I h
 refine Call_ (mO I hg hm C2 (PyProof.Rows.callWith_type1 (aW (ha.out pos pins s σ H _ I h) fun us s1 h0_ => el5 h0_ fun vs H1 I1 r1 q1 => ?_) hs rfl))
 obtain⟨l,e,q⟩:=q1
 subst e
 obtain⟨u,rfl,rx⟩:=vals1 r1
 cases rx
 have fp:∀ b∈[s1.heap.objs.size + 1,s1.heap.objs.size],cy X pins H1 b:=fun b hb=>by
  have dc:s1.heap.objs.size <= b:=by
   rcases List.mem_cons.mp hb with rfl | hb
   ·exact Nat.le_succ _
   ·have z:b=s1.heap.objs.size:=by simpa using hb
    rw[z];exact Nat.le_refl _
  exact I1.iP dc (I1.aJ.fresh dc)
 rcases q with⟨⟨xs,hq⟩,q⟩ | ⟨⟨xs,hq⟩,q⟩
 ·obtain⟨ag,rv,p,hz⟩:=I1.list hq
  refine call_enumerate_list p.isList fun h' he hi hsz hk => ?_
  have I2:Inv X pins σ H1 { s1 with heap:=h' }:=I1.kept (t':=s1.toks) hk
  refine PySem.wpAny_pyIter_enum he ?_
  exact⟨_,_,_,_,H1,rfl,I2,C1 l (s1.heap.objs.size + 1) s1.heap.objs.size (Nat.succ_ne_self _),⟨⟨_,he⟩,hi⟩,fp,q⟩
 ·obtain⟨ag,rv,p,hz⟩:=I1.tuple hq
  have DT:l < s1.heap.objs.size:=by obtain⟨o,e,_⟩:=p;exact Heap.lt_size e
  refine LP p fun h' he hi hsz hk => ?_
  have I2:Inv X pins σ H1 { s1 with heap:=h' }:=I1.kept (t':=s1.toks) hk
  refine PySem.wpAny_pyIter_enum he ?_
  exact⟨_,_,_,_,H1,rfl,I2,LS l (s1.heap.objs.size + 1) s1.heap.objs.size (Nat.succ_ne_self _) (Nat.ne_of_lt (Nat.lt_succ_of_lt DT)) (Nat.ne_of_lt DT),⟨⟨_,he⟩,hi⟩,fp,q⟩
noncomputable def zI (K:PySem.W.Frag) (tl:TE):TI:=fun σ H R=>tl σ H fun x H1=>∃ a,x = .ref a/\(((∃ xs,aP K H1 a xs)/\R (B8 K a) H1)\/((∃ xs,bw K H1 a xs)/\R (B9 K a) H1))
theorem LX {l:Expr} {tl:TE} (hl:JE X l tl):JI X tg l (zI X.K tl):=by
 refine⟨?_⟩
 intro pins s σ H R I h
 refine aW (hl.out pins s σ H _ I h) fun v s1 h0_ => el5 h0_ fun x H1 I1 r1 q1 => ?_
 obtain⟨a,e,q⟩:=q1
 subst e
 cases r1
 have fp:∀ b∈[s1.heap.objs.size],cy X pins H1 b:=fun b hb=>by
  have e:b=s1.heap.objs.size:=by simpa using hb
  subst e
  exact I1.iP (Nat.le_refl _) (I1.aJ.fresh (Nat.le_refl _))
 rcases q with⟨⟨xs,hq⟩,q⟩ | ⟨⟨xs,hq⟩,q⟩
 ·obtain⟨ag,rv,p,hz⟩:=I1.list hq
  exact wpAny_pyIter_list p.isList ⟨s1.heap.objs.size,[s1.heap.objs.size],_,_,H1,rfl,I1.kept (t':=s1.toks) fun b o e=>Heap.get?_push_of_some _ e,HW a _,⟨_,Heap.get?_push_size _ rfl,rfl,rfl⟩,fp,q⟩
 ·obtain⟨ag,rv,p,hz⟩:=I1.tuple hq
  exact wpAny_pyIter_tuple (show s1.heap.IsTuple a ag.toArray from p) ⟨s1.heap.objs.size,[s1.heap.objs.size],_,_,H1,rfl,I1.kept (t':=s1.toks) fun b o e=>Heap.get?_push_of_some _ e,HX a _,⟨_,Heap.get?_push_size _ rfl,rfl,rfl⟩,fp,q⟩
end
variable [aQ]
noncomputable def bT (lo:Int) (n:Nat):List D:=(List.range n).map fun i:Nat=>D.int (lo + i)
noncomputable def kN:Nat->List D->List D
 | _,[]=>[]
 | i,d :: r => .tup [.int i,d] :: kN (i + 1) r
noncomputable def b_:List D->List D->List D
 | a :: r,b :: s => .tup [a,b] :: b_ r s
 | _,_=>[]
noncomputable def oZ (x:DV) (δ : av) (K:oR->Prop):Prop:=match x with
 | .p (.lst ds)=>K ⟨ds,fun _=>True⟩
 | .p (.tup ds)=>K ⟨ds,fun _=>True⟩
 | .o k=>match δ.mu[k]? with
  | some (some (.lst ds))=>K ⟨ds,fun δ' => δ'.mu[k]? = some (some (.lst ds))⟩
  | _=>False
 | _=>False
noncomputable def bK (f:WE):WI:=fun δ K=>f δ fun x δ1=>oZ x δ1 fun it=>K it δ1
noncomputable def ju (fa:WA):WI:=fun δ K=>fa δ fun xs δ1=>match xs with
 | [.p (.int j)]=>(-(2 ^ 62) <= j/\j < 2 ^ 62)/\K ⟨bT 0 j.toNat,fun _=>True⟩ δ1
 | _=>False
noncomputable def zJ (fa:WA):WI:=fun δ K=>fa δ fun xs δ1=>match xs with
 | [.p (.int i),.p (.int j)]=>(-(2 ^ 62) <= i/\i < 2 ^ 62 /\ -(2 ^ 62) <= j/\j < 2 ^ 62)/\K ⟨bT i (j - i).toNat,fun _=>True⟩ δ1
 | _=>False
noncomputable def lZ (fa:WA):WI:=fun δ K=>fa δ fun xs δ1=>match xs with
 | [x]=>oZ x δ1 fun it=>K ⟨kN 0 it.items,it.a9⟩ δ1
 | _=>False
noncomputable def tU (x:DV) (δ : av) (K:oR->Prop):Prop:=match x with
 | .p (.lst ds)=>K ⟨ds,fun _=>True⟩
 | .o k=>match δ.mu[k]? with
  | some (some (.lst ds))=>K ⟨ds,fun δ' => δ'.mu[k]? = some (some (.lst ds))⟩
  | _=>False
 | _=>False
noncomputable def o5 (fa:WA):WI:=fun δ K=>fa δ fun xs δ1=>match xs with
 | [x,y]=>tU x δ1 fun i=>tU y δ1 fun j=>K ⟨b_ i.items j.items,fun δ'=>i.a9 δ'/\j.a9 δ'⟩ δ1
 | _=>False
theorem l3 {lo:Int} {n i:Nat} {d:D} (h:(bT lo n)[i]? = some d):i < n/\d = .int (lo + i):=by
 unfold bT at h
 rw[List.getElem?_map] at h
 obtain⟨j,e,rfl⟩:=Option.map_eq_some_iff.mp h
 have hj:=(List.getElem?_eq_some_iff.mp e).1
 rw[List.length_range] at hj
 rw[List.getElem?_range hj] at e
 cases e
 exact⟨hj,rfl⟩
theorem kO (lo:Int) (n:Nat):(bT lo n).length=n:=by unfold bT;rw[List.length_map,List.length_range]
theorem vJ:∀ (ds:List D) (i:Nat),(kN i ds).length=ds.length
 | [],_=>rfl
 | d :: r,i=>by rw[kN,List.length_cons,List.length_cons,vJ r]
theorem vK:∀ {ds:List D} {k i:Nat} {d:D},(kN k ds)[i]? = some d->∃ e,ds[i]? = some e/\d = .tup [.int ((k + i:Nat):Int),e]
 | [],k,i,d,h=>by simp[kN] at h
 | e :: r,k,0,d,h=>by
  cases (show some (D.tup [.int (k:Nat),e])=some d by simpa [kN] using h)
  exact⟨e,rfl,rfl⟩
 | e :: r,k,i + 1,d,h=>by
  obtain⟨e',h1,h2⟩:=vK (ds:=r) (k:=k + 1) (i:=i) (d:=d) (by simpa [kN] using h)
  exact⟨e',by simpa using h1,by rw[h2];congr 4;omega⟩
theorem DU:∀ {as bs:List D} {i:Nat} {d:D},(b_ as bs)[i]? = some d->∃ a b,as[i]? = some a/\bs[i]? = some b/\d = .tup [a,b]
 | [],_,i,d,h=>by simp[b_] at h
 | _ :: _,[],i,d,h=>by simp[b_] at h
 | a :: r,b :: s,0,d,h=>by
  cases (show some (D.tup [a,b])=some d by simpa [b_] using h)
  exact⟨a,b,rfl,rfl,rfl⟩
 | a :: r,b :: s,i + 1,d,h=>by
  obtain⟨x,y,h1,h2,h3⟩:=DU (as:=r) (bs:=s) (i:=i) (d:=d) (by simpa [b_] using h)
  exact⟨x,y,by simpa using h1,by simpa using h2,h3⟩
theorem vL:∀ (as bs:List D),(b_ as bs).length=min as.length bs.length
 | [],_=>by simp[b_]
 | _ :: _,[]=>by simp[b_]
 | a :: r,b :: s=>by rw[b_,List.length_cons,List.length_cons,List.length_cons,vL r s];omega
section
variable {X:Cx} {tg l a b:Expr} {f:WE} {fa:WA} {F H:Hp} {ad:List Addr} {δ : av} {σ : St}
theorem JI.weak {iter:Expr} {w w':TI} (h:JI X tg iter w) (k:∀ σ H R,w' σ H R->w σ H R):JI X tg iter w':=⟨fun pins s σ H R I q=>h.out pins s σ H R I (k σ H R q)⟩
theorem nh {ds:List D} {vs:List V} (h:af F ds vs) {i:Nat} {d:D} (e:ds[i]? = some d):∃ v,vs[i]? = some v/\Is F d v:=by
 have hl:=h.length
 have hi:i < vs.length:=by rw[hl];exact (List.getElem?_eq_some_iff.mp e).1
 obtain⟨d',e1,h1⟩:=h.get (List.getElem?_eq_getElem hi)
 rw[e] at e1;cases e1
 exact⟨_,List.getElem?_eq_getElem hi,h1⟩
theorem vM {x:DV} {v:V} {K:oR->Prop} (S:SR F ad δ σ H) (V1:fX F ad x v) (h:tU x δ K):∃ a it,v = .ref a/\K it/\(∃ vs,H a=some (.lst vs)) ∧
  ∀ (F':Hp) (aC:List Addr) (δ':av) (σ':St) (H':Hp),aw F F'->(∀ (k:Nat) (a:Addr),ad[k]? = some a->aC[k]? = some a)->SR F' aC δ' σ' H'->it.a9 δ'->∃ vs,H' a=some (.lst vs)/\af F' it.items vs:=by
 unfold tU at h
 split at h
 ·rename_i ds
  have V2:Is F (.lst ds) v:=V1
  simp only[Is] at V2
  obtain⟨a,vs,rfl,h1,h2⟩:=V2
  exact⟨a,_,rfl,h,⟨vs,S.sub _ _ h1⟩,fun F' aC δ' σ' H' s _ S' _=>⟨vs,S'.sub _ _ (s _ _ h1),h2.same s⟩⟩
 ·rename_i k
  split at h
  ·rename_i ds e
   obtain⟨a,e1,rfl⟩:=V1
   obtain⟨a',o,e2,e3,vs,rfl,h4⟩:=S.mu k _ e
   rw[e1] at e2;cases e2
   refine⟨a,_,rfl,h,⟨vs,e3⟩,fun F' aC δ' σ' H' _ pre S' ck => ?_⟩
   obtain⟨Vp,o,e5,e6,ws,rfl,h7⟩:=S'.mu k _ ck
   rw[pre k a e1] at e5;cases e5
   exact⟨ws,e6,h7⟩
  ·exact h.elim
 ·exact h.elim
theorem DW {x:DV} {v:V} {K:oR->Prop} (S:SR F ad δ σ H) (V1:fX F ad x v) (h:oZ x δ K):∃ a it,v = .ref a/\K it ∧
  (((∃ vs,H a=some (.lst vs))/\∀ (F':Hp) (aC:List Addr) (δ':av) (σ':St) (H':Hp),aw F F'->(∀ (k:Nat) (a:Addr),ad[k]? = some a->aC[k]? = some a)->SR F' aC δ' σ' H'->it.a9 δ'->∃ vs,H' a=some (.lst vs)/\af F' it.items vs) ∨
  ((∃ vs,H a=some (.tup vs))/\∀ (F':Hp) (aC:List Addr) (δ':av) (σ':St) (H':Hp),aw F F'->(∀ (k:Nat) (a:Addr),ad[k]? = some a->aC[k]? = some a)->SR F' aC δ' σ' H'->it.a9 δ'->∃ vs,H' a=some (.tup vs)/\af F' it.items vs)):=by
 unfold oZ at h
 split at h
 ·rename_i ds
  obtain⟨a,it,e,k,r⟩:=vM (x := .p (.lst ds)) S V1 h
  exact⟨a,it,e,k,.inl r⟩
 ·rename_i ds
  have V2:Is F (.tup ds) v:=V1
  simp only[Is] at V2
  obtain⟨a,vs,rfl,h1,h2⟩:=V2
  exact⟨a,_,rfl,h,.inr ⟨⟨vs,S.sub _ _ h1⟩,fun F' aC δ' σ' H' s _ S' _=>⟨vs,S'.sub _ _ (s _ _ h1),h2.same s⟩⟩⟩
 ·rename_i k
  obtain⟨a,it,e,k,r⟩:=vM (x := .o k) S V1 h
  exact⟨a,it,e,k,.inl r⟩
 ·exact h.elim
theorem ic (hl:JE X l (tD f)):JI X tg l (jZ (bK f)):=(LX hl).weak fun σ H R h0_ => el7 h0_ fun F ad δ K S q k =>⟨F,ad,δ,_,S,q,fun x δ1 h1 v F1 aL H1 E1 S1 V1=>by
 obtain⟨a,it,rfl,hk,r⟩:=DW S1 V1 h1
 refine⟨a,rfl,?_⟩
 rcases r with⟨⟨vs,e⟩,r⟩ | ⟨⟨vs,e⟩,r⟩
 ·refine .inl ⟨⟨vs,aP.of e⟩,k _ _ hk _ _ _ _ E1 S1 fun F' aC δ' σ' H' s pre S' ck => ?_⟩
  obtain⟨ws,e1,e2⟩:=r F' aC δ' σ' H' s pre S' ck
  refine⟨⟨ws,aP.of e1,by rw[e2.length];exact Nat.le_refl _⟩,fun i d ed => ?_⟩
  obtain⟨w,e3,e4⟩:=nh e2 ed
  refine⟨⟨ws,w,aP.of e1,e3⟩,fun y mZ ⟨eh,hy⟩ => ?_⟩
  subst eh
  refine⟨fun _ _ e=>e,?_⟩
  have:=hy ws (aP.of e1)
  rw[e3] at this;cases this
  rw[Nw.refl S'.sub];exact e4
 ·refine .inr ⟨⟨vs,bw.of e⟩,k _ _ hk _ _ _ _ E1 S1 fun F' aC δ' σ' H' s pre S' ck => ?_⟩
  obtain⟨ws,e1,e2⟩:=r F' aC δ' σ' H' s pre S' ck
  refine⟨⟨ws,bw.of e1,by rw[e2.length];exact Nat.le_refl _⟩,fun i d ed => ?_⟩
  obtain⟨w,e3,e4⟩:=nh e2 ed
  refine⟨⟨ws,w,bw.of e1,e3⟩,fun y mZ ⟨eh,hy⟩ => ?_⟩
  subst eh
  refine⟨fun _ _ e=>e,?_⟩
  have:=hy ws (bw.of e1)
  rw[e3] at this;cases this
  rw[Nw.refl S'.sub];exact e4⟩
theorem zK {F H:Hp} {T:Addr} {d e:D} {x y:V} (s:aw F H) (hT:H T=none) (h1:Is F d x) (h2:Is F e y):Is (Nw F H (upd H T (.tup [x,y]))) (.tup [d,e]) (.ref T):=by
 rw[Nw.upd s hT]
 have hF:F T=none:=by
  cases q:F T with
  | none=>rfl
  | some u=>rw[s T u q] at hT;cases hT
 have sm:aw F (upd F T (.tup [x,y])):=bW hF
 simp only[Is]
 exact⟨T,_,rfl,bF,.cons (h1.same sm) (.cons (h2.same sm) .nil)⟩
theorem LY {elts:List Expr} {x1:Nat} {tp p pos:Pos} (hg:Gl X "enumerate") (hm:X.mg "enumerate" = none) (ha:JA X [a] (bZ fa)) (hs:starEach [a] X.env=[(false,eval a X.env)]:=by rfl) :
  JI X (.Tuple elts x1 tp) (.Call (.Name "enumerate" p) [a] [] pos) (jZ (lZ fa)):=(LW hg hm ha hs).weak fun σ H R h0_ => el7 h0_ fun F ad δ K S q k =>⟨F,ad,δ,_,S,q,fun xs δ1 h1 vs F1 aL H1 E1 S1 V1=>by
 match xs,h1,V1 with
 | [x],g1,⟨v,r,e,W1,W2⟩ =>
  subst e
  have W3:r=[]:=W2
  subst W3
  obtain⟨a,it,rfl,hk,r⟩:=DW S1 W1 g1
  refine⟨a,rfl,?_⟩
  rcases r with⟨⟨vs,e⟩,r⟩ | ⟨⟨vs,e⟩,r⟩
  ·refine .inl ⟨⟨vs,aP.of e⟩,k _ _ hk _ _ _ _ E1 S1 fun F' aC δ' σ' H' s pre S' ck => ?_⟩
   obtain⟨ws,e1,e2⟩:=r F' aC δ' σ' H' s pre S' ck
   refine⟨⟨ws,aP.of e1,by rw[e2.length,vJ];exact Nat.le_refl _⟩,fun i d ed => ?_⟩
   obtain⟨d',zL,rfl⟩:=vK ed
   obtain⟨w,e3,e4⟩:=nh e2 zL
   refine⟨⟨ws,w,aP.of e1,e3⟩,fun y mZ ⟨T,v,ey,hT,eh,hy⟩ => ?_⟩
   subst eh ey
   have:=hy ws (aP.of e1)
   rw[e3] at this;cases this
   refine⟨bW hT,?_⟩
   rw[Nat.zero_add]
   exact zK S'.sub hT rfl e4
  ·refine .inr ⟨⟨vs,bw.of e⟩,k _ _ hk _ _ _ _ E1 S1 fun F' aC δ' σ' H' s pre S' ck => ?_⟩
   obtain⟨ws,e1,e2⟩:=r F' aC δ' σ' H' s pre S' ck
   refine⟨⟨ws,bw.of e1,by rw[e2.length,vJ]⟩,fun i d ed => ?_⟩
   obtain⟨d',zL,rfl⟩:=vK ed
   obtain⟨w,e3,e4⟩:=nh e2 zL
   refine⟨⟨ws,w,bw.of e1,e3⟩,fun y mZ ⟨T,v,ey,hT,eh,hy⟩ => ?_⟩
   subst eh ey
   have:=hy ws (bw.of e1)
   rw[e3] at this;cases this
   refine⟨bW hT,?_⟩
   rw[Nat.zero_add]
   exact zK S'.sub hT rfl e4
 | [],h1,_=>exact h1.elim
 | _ :: _ :: _,h1,_=>exact h1.elim⟩
theorem LZ {elts:List Expr} {x1:Nat} {tp p pos:Pos} (hg:Gl X "zip") (hm:X.mg "zip" = none) (ha:JA X [a,b] (bZ fa)) (hs:starEach [a,b] X.env=[(false,eval a X.env),(false,eval b X.env)]:=by rfl) (dW:starEach [b] X.env=[(false,eval b X.env)]:=by rfl) :
  JI X (.Tuple elts x1 tp) (.Call (.Name "zip" p) [a,b] [] pos) (jZ (o5 fa)):=(Lg hg hm ha hs dW).weak fun σ H R h0_ => el7 h0_ fun F ad δ K S q k =>⟨F,ad,δ,_,S,q,fun xs δ1 h1 vs F1 aL H1 E1 S1 V1=>by
 match xs,h1,V1 with
 | [x,y],g1,⟨v,r,e,W1,w,r2,e2,W2,W3⟩ =>
  subst e
  subst e2
  have W4:r2=[]:=W3
  subst W4
  obtain⟨a,it,rfl,vN,⟨vs,e⟩,r⟩:=vM S1 W1 g1
  obtain⟨b,jt,rfl,hk,⟨us,e'⟩,r'⟩:=vM S1 W2 vN
  refine⟨a,b,rfl,⟨vs,aP.of e⟩,⟨us,aP.of e'⟩,k _ _ hk _ _ _ _ E1 S1 fun F' aC δ' σ' H' s pre S' ck => ?_⟩
  obtain⟨ws,e1,e2⟩:=r F' aC δ' σ' H' s pre S' ck.1
  obtain⟨zs,e3,e4⟩:=r' F' aC δ' σ' H' s pre S' ck.2
  refine⟨⟨ws,zs,aP.of e1,aP.of e3,?_⟩,fun i d ed => ?_⟩
  ·rw[e2.length,e4.length,vL];omega
  ·obtain⟨d1,d2,L1,L5,rfl⟩:=DU ed
   obtain⟨w1,f1,g1⟩:=nh e2 L1
   obtain⟨w2,f2,g2⟩:=nh e4 L5
   refine⟨⟨ws,zs,w1,w2,aP.of e1,aP.of e3,f1,f2⟩,fun y mZ ⟨T,v1,v2,ey,hT,eh,L7,L8⟩ => ?_⟩
   subst eh ey
   have q1:=L7 ws (aP.of e1)
   have q2:=L8 zs (aP.of e3)
   rw[f1] at q1;cases q1
   rw[f2] at q2;cases q2
   exact⟨bW hT,zK S'.sub hT g1 g2⟩
 | [],h1,_=>exact h1.elim
 | [_],h1,_=>exact h1.elim
 | _ :: _ :: _ :: _,h1,_=>exact h1.elim⟩
theorem DX {F1:Hp} {aL:List Addr} {lo:Int} {n:Nat}:oS F1 aL ⟨bT lo n,fun _=>True⟩ (rY lo n):=fun F' aC δ' σ' H' s pre S' _=>by
 refine⟨by show n <= (bT lo n).length;rw[kO];exact Nat.le_refl _,fun i d ed => ?_⟩
 obtain⟨hi,rfl⟩:=l3 ed
 refine⟨hi,fun x mZ ⟨eh,ex⟩ => ?_⟩
 subst eh ex
 exact⟨fun _ _ e=>e,rfl⟩
theorem ni {p pos:Pos} (hg:Gl X "range") (hm:X.mg "range" = none) (ha:JA X [a] (bZ fa)) (hs:starEach [a] X.env=[(false,eval a X.env)]:=by rfl):JI X tg (.Call (.Name "range" p) [a] [] pos) (jZ (ju fa)) :=
 (K6 hg hm ha hs).weak fun σ H R h0_ => el7 h0_ fun F ad δ K S q k =>⟨F,ad,δ,_,S,q,fun xs δ1 h1 vs F1 aL H1 E1 S1 V1=>by
  split at h1
  ·rename_i j
   obtain⟨v,r,e,V1,V2⟩:=V1
   have V2:r=[]:=V2
   have V1:v = .int j:=V1
   subst V2 V1 e
   exact⟨j,rfl,h1.1.1,h1.1.2,k _ _ h1.2 _ _ _ _ E1 S1 DX⟩
  ·exact h1.elim⟩
theorem L9 {p pos:Pos} (hg:Gl X "range") (hm:X.mg "range" = none) (ha:JA X [a,b] (bZ fa)) (hs:starEach [a,b] X.env=[(false,eval a X.env),(false,eval b X.env)]:=by rfl) (dW:starEach [b] X.env=[(false,eval b X.env)]:=by rfl) :
  JI X tg (.Call (.Name "range" p) [a,b] [] pos) (jZ (zJ fa)) :=
 (K7 hg hm ha hs dW).weak fun σ H R h0_ => el7 h0_ fun F ad δ K S q k =>⟨F,ad,δ,_,S,q,fun xs δ1 h1 vs F1 aL H1 E1 S1 V1=>by
  split at h1
  ·rename_i i j
   obtain⟨v,r,e,V1,w,r2,e2,V2,V3⟩:=V1
   have V3:r2=[]:=V3
   have V1:v = .int i:=V1
   have V2:w = .int j:=V2
   subst V3 V1 V2 e2 e
   exact⟨i,j,rfl,h1.1,k _ _ h1.2 _ _ _ _ E1 S1 DX⟩
  ·exact h1.elim⟩
end
end L2
namespace L2
open PySem PySem.Spec PyProof.Rows
mutual
noncomputable def ax:D->D->Bool
 | .non,.non=>true
 | .bl a,.bl b=>a == b
 | .bl a,.int b=>(if a then 1 else 0) == b
 | .int a,.bl b=>a == (if b then 1 else 0)
 | .int a,.int b=>a == b
 | .str a,.str b=>a == b
 | .tup a,.tup b=>dA a b
 | .lst a,.lst b=>dA a b
 | _,_=>false
noncomputable def dA:List D->List D->Bool
 | [],[]=>true
 | a :: r,b :: s=>ax a b && dA r s
 | _,_=>false
end
mutual
theorem fR:∀ d:D,ax d d=true
 | .non=>by simp[ax]
 | .bl a=>by simp[ax]
 | .int a=>by simp[ax]
 | .str a=>by simp[ax]
 | .tup a=>by simp only[ax];exact zM a
 | .lst a=>by simp only[ax];exact zM a
theorem zM:∀ ds:List D,dA ds ds=true
 | []=>by simp[dA]
 | d :: r=>by simp only[dA,fR d,zM r,Bool.and_true]
end
mutual
theorem Is.inj {H:Hp}:∀ {d e:D} {v:V},Is H d v->Is H e v->d=e
 | .non,e,v,h,q=>by cases e<;>simp only[Is] at h q<;>first | rfl | (subst h;first | (obtain⟨_,_,z,_⟩:=q;cases z;done) | (cases q;done) | (cases q;rfl))
 | .bl a,e,v,h,q=>by cases e<;>simp only[Is] at h q<;>(subst h;first | (obtain⟨_,_,z,_⟩:=q;cases z;done) | (cases q;done) | (cases q;rfl))
 | .int a,e,v,h,q=>by cases e<;>simp only[Is] at h q<;>(subst h;first | (obtain⟨_,_,z,_⟩:=q;cases z;done) | (cases q;done) | (cases q;rfl))
 | .str a,e,v,h,q=>by cases e<;>simp only[Is] at h q<;>(subst h;first | (obtain⟨_,_,z,_⟩:=q;cases z;done) | (cases q;done) | (cases q;rfl))
 | .tup a,e,v,h,q=>by
  simp only[Is] at h
  obtain⟨p,vs,rfl,h1,h2⟩:=h
  cases e with
  | tup b =>
   simp only[Is] at q
   obtain⟨p',ws,z,q1,q2⟩:=q
   cases z
   rw[h1] at q1;cases q1
   rw[af.inj h2 q2]
  | lst b =>
   simp only[Is] at q
   obtain⟨p',ws,z,q1,q2⟩:=q
   cases z
   rw[h1] at q1;cases q1
  | non=>simp only[Is] at q;cases q
  | bl _=>simp only[Is] at q;cases q
  | int _=>simp only[Is] at q;cases q
  | str _=>simp only[Is] at q;cases q
 | .lst a,e,v,h,q=>by
  simp only[Is] at h
  obtain⟨p,vs,rfl,h1,h2⟩:=h
  cases e with
  | lst b =>
   simp only[Is] at q
   obtain⟨p',ws,z,q1,q2⟩:=q
   cases z
   rw[h1] at q1;cases q1
   rw[af.inj h2 q2]
  | tup b =>
   simp only[Is] at q
   obtain⟨p',ws,z,q1,q2⟩:=q
   cases z
   rw[h1] at q1;cases q1
  | non=>simp only[Is] at q;cases q
  | bl _=>simp only[Is] at q;cases q
  | int _=>simp only[Is] at q;cases q
  | str _=>simp only[Is] at q;cases q
theorem af.inj {H:Hp}:∀ {ds es:List D} {vs:List V},af H ds vs->af H es vs->ds=es
 | [],es,vs,h,q=>by
  simp only[af] at h;subst h
  cases es with
  | nil=>rfl
  | cons _ _=>simp only[af] at q;obtain⟨_,_,z,_⟩:=q;cases z
 | d :: ds,es,vs,h,q=>by
  simp only[af] at h
  obtain⟨v,r,rfl,h1,h2⟩:=h
  cases es with
  | nil=>simp only[af] at q;cases q
  | cons e es =>
   simp only[af] at q
   obtain⟨v',r',z,q1,q2⟩:=q
   cases z
   rw[Is.inj h1 q1,af.inj h2 q2]
end
theorem tV:∀ {ds es:List D},ds.length≠es.length->dA ds es=false
 | [],[],h=>absurd rfl h
 | [],_ :: _,_=>by simp[dA]
 | _ :: _,[],_=>by simp[dA]
 | d :: r,e :: s,h=>by simp only[dA];rw[tV (fun z=>h (by rw[List.length_cons,List.length_cons,z])),Bool.and_false]
noncomputable def o6 (ds es:List D) (j:Nat):Bool:=match ds[j]?,es[j]? with
 | some a,some b=>ax a b
 | _,_=>true
theorem tW:∀ {ds es:List D},ds.length=es.length->(List.range ds.length).all (o6 ds es)=dA ds es
 | [],[],_=>by simp[dA]
 | [],_ :: _,h=>by simp at h
 | _ :: _,[],h=>by simp at h
 | d :: r,e :: s,h=>by
  have ih:=tW (ds:=r) (es:=s) (by simpa using h)
  rw[List.length_cons,List.range_succ_eq_map,List.all_cons,List.all_map]
  simp only[dA]
  rw[<-ih]
  rfl
section
variable {X:Cx} {pins:List (Addr × Obj)} {σ : St} {H:Hp} {s:Shared}
theorem tX {vs:List V} {ag:List Value} (r:Vals vs ag) {j:Nat} (h:j < ag.toArray.size):∃ v,vs[j]? = some v/\RelV v ag.toArray[j]:=by
 have hj:j < ag.length:=by simpa using h
 have hv:j < vs.length:=by rw[r.length];exact hj
 obtain⟨u,e,ru⟩:=r.get (List.getElem?_eq_getElem hv)
 have:ag.toArray[j]=u:=by
  have:=(List.getElem?_eq_some_iff.mp e).2
  simpa using this
 rw[this]
 exact⟨_,List.getElem?_eq_getElem hv,ru⟩
theorem de (I:Inv X pins σ H s) {a:Addr} {vs:List V} (h:H a=some (.lst vs)):∃ ag:List Value,Vals vs ag/\s.heap.IsList a ag.toArray:=by
 obtain⟨ag,r,p,_⟩:=I.list (aP.of h)
 exact⟨ag,r,p.isList⟩
theorem df (I:Inv X pins σ H s) {a:Addr} {vs:List V} (h:H a=some (.tup vs)):∃ ag:List Value,Vals vs ag/\s.heap.IsTuple a ag.toArray:=by
 obtain⟨ag,r,p,_⟩:=I.tuple (bw.of h)
 exact⟨ag,r,p⟩
theorem in1_units (A:Around):A.in1.units=A.units + 1:=rfl
theorem zN (I:Inv X pins σ H s):∀ (n:Nat) {A:Around} {d e:D} {v u:V} {x y:Value},dep d <= n->A.units + n < cLine->Is H d v->Is H e u->RelV v x->RelV u y->SeqAt.EqAt A s x y (ax d e)/\SeqAt.RcAt A s x y (ax d e):=by
 intro n
 induction n with
 | zero =>
  intro A d e v u x y hd hu hv hw rv ru
  have nz:A.units < cLine:=by omega
  cases d with
  | tup ds=>simp[dep] at hd
  | lst ds=>simp[dep] at hd
  | non =>
   cases (show v = .non from hv);cases rv
   cases e with
   | non=>cases (show u = .non from hw);cases ru;simp only[ax];exact⟨SeqAt.EqAt.same _,SeqAt.RcAt.none_none⟩
   | bl b=>cases (show u = .bl b from hw);cases ru;simp only[ax];exact⟨SeqAt.EqAt.none_bool _,SeqAt.RcAt.none_bool _⟩
   | int b=>cases (show u = .int b from hw);obtain⟨t,rfl⟩:=ru;simp only[ax];exact⟨SeqAt.EqAt.none_int _ _,SeqAt.RcAt.none_int _ _⟩
   | str b=>cases (show u = .str b from hw);obtain⟨t,rfl⟩:=ru;simp only[ax];exact⟨SeqAt.EqAt.none_str _ _,SeqAt.RcAt.none_str _ _⟩
   | tup es=>simp only[Is] at hw;obtain⟨a,vs,rfl,h1,_⟩:=hw;cases ru;obtain⟨_,_,p⟩:=df I h1;simp only[ax];exact⟨SeqAt.EqAt.none_tuple p nz,SeqAt.RcAt.none_tuple p nz⟩
   | lst es=>simp only[Is] at hw;obtain⟨a,vs,rfl,h1,_⟩:=hw;cases ru;obtain⟨_,_,p⟩:=de I h1;simp only[ax];exact⟨SeqAt.EqAt.none_list p nz,SeqAt.RcAt.none_list p nz⟩
  | bl b0 =>
   cases (show v = .bl b0 from hv);cases rv
   cases e with
   | non=>cases (show u = .non from hw);cases ru;simp only[ax];exact⟨SeqAt.EqAt.bool_none _,SeqAt.RcAt.bool_none _⟩
   | bl b=>cases (show u = .bl b from hw);cases ru;simp only[ax];exact⟨SeqAt.EqAt.bool_bool _ _,SeqAt.RcAt.bool_bool _ _⟩
   | int b=>cases (show u = .int b from hw);obtain⟨t,rfl⟩:=ru;simp only[ax];exact⟨SeqAt.EqAt.bool_int _ _ _,SeqAt.RcAt.bool_int _ _ _⟩
   | str b=>cases (show u = .str b from hw);obtain⟨t,rfl⟩:=ru;simp only[ax];exact⟨SeqAt.EqAt.bool_str _ _ _,SeqAt.RcAt.bool_str _ _ _⟩
   | tup es=>simp only[Is] at hw;obtain⟨a,vs,rfl,h1,_⟩:=hw;cases ru;obtain⟨_,_,p⟩:=df I h1;simp only[ax];exact⟨SeqAt.EqAt.bool_tuple _ p nz,SeqAt.RcAt.bool_tuple _ p nz⟩
   | lst es=>simp only[Is] at hw;obtain⟨a,vs,rfl,h1,_⟩:=hw;cases ru;obtain⟨_,_,p⟩:=de I h1;simp only[ax];exact⟨SeqAt.EqAt.bool_list _ p nz,SeqAt.RcAt.bool_list _ p nz⟩
  | int b0 =>
   cases (show v = .int b0 from hv);obtain⟨t0,rfl⟩:=rv
   cases e with
   | non=>cases (show u = .non from hw);cases ru;simp only[ax];exact⟨SeqAt.EqAt.int_none _ _,SeqAt.RcAt.int_none _ _⟩
   | bl b=>cases (show u = .bl b from hw);cases ru;simp only[ax];exact⟨SeqAt.EqAt.int_bool _ _ _,SeqAt.RcAt.int_bool _ _ _⟩
   | int b=>cases (show u = .int b from hw);obtain⟨t,rfl⟩:=ru;simp only[ax];exact⟨SeqAt.EqAt.int_int _ _ _ _,SeqAt.RcAt.int_int _ _ _ _⟩
   | str b=>cases (show u = .str b from hw);obtain⟨t,rfl⟩:=ru;simp only[ax];exact⟨SeqAt.EqAt.int_str _ _ _ _,SeqAt.RcAt.int_str _ _ _ _⟩
   | tup es=>simp only[Is] at hw;obtain⟨a,vs,rfl,h1,_⟩:=hw;cases ru;obtain⟨_,_,p⟩:=df I h1;simp only[ax];exact⟨SeqAt.EqAt.int_tuple _ _ p nz,SeqAt.RcAt.int_tuple _ _ p nz⟩
   | lst es=>simp only[Is] at hw;obtain⟨a,vs,rfl,h1,_⟩:=hw;cases ru;obtain⟨_,_,p⟩:=de I h1;simp only[ax];exact⟨SeqAt.EqAt.int_list _ _ p nz,SeqAt.RcAt.int_list _ _ p nz⟩
  | str b0 =>
   cases (show v = .str b0 from hv);obtain⟨t0,rfl⟩:=rv
   cases e with
   | non=>cases (show u = .non from hw);cases ru;simp only[ax];exact⟨SeqAt.EqAt.str_none _ _,SeqAt.RcAt.str_none _ _⟩
   | bl b=>cases (show u = .bl b from hw);cases ru;simp only[ax];exact⟨SeqAt.EqAt.str_bool _ _ _,SeqAt.RcAt.str_bool _ _ _⟩
   | int b=>cases (show u = .int b from hw);obtain⟨t,rfl⟩:=ru;simp only[ax];exact⟨SeqAt.EqAt.str_int _ _ _ _,SeqAt.RcAt.str_int _ _ _ _⟩
   | str b=>cases (show u = .str b from hw);obtain⟨t,rfl⟩:=ru;simp only[ax];exact⟨SeqAt.EqAt.str_str _ _ _ _,SeqAt.RcAt.str_str _ _ _ _⟩
   | tup es=>simp only[Is] at hw;obtain⟨a,vs,rfl,h1,_⟩:=hw;cases ru;obtain⟨_,_,p⟩:=df I h1;simp only[ax];exact⟨SeqAt.EqAt.str_tuple _ _ p nz,SeqAt.RcAt.str_tuple _ _ p nz⟩
   | lst es=>simp only[Is] at hw;obtain⟨a,vs,rfl,h1,_⟩:=hw;cases ru;obtain⟨_,_,p⟩:=de I h1;simp only[ax];exact⟨SeqAt.EqAt.str_list _ _ p nz,SeqAt.RcAt.str_list _ _ p nz⟩
 | succ n ih =>
  intro A d e v u x y hd hu hv hw rv ru
  have nz:A.units < cLine:=by omega
  have step:∀ {ds es:List D} {vs us:List V} {ag aY:List Value} (r1:Vals vs ag) (r2:Vals us aY),bf ds <= n->af H ds vs->af H es us →
    ∀ (j:Nat) (h1:j < ag.toArray.size) (h2:j < aY.toArray.size),SeqAt.EqAt A.in1 s ag.toArray[j] aY.toArray[j] (o6 ds es j):=fun {ds es vs us ag aY} r1 r2 hl i1 i2 j h1 h2=>by
   obtain⟨v1,e1,q1⟩:=tX r1 h1
   obtain⟨v2,e2,q2⟩:=tX r2 h2
   obtain⟨d1,f1,g1⟩:=i1.get e1
   obtain⟨d2,f2,g2⟩:=i2.get e2
   unfold o6
   rw[f1,f2]
   exact (ih (Nat.le_trans (y6 f1) hl) (by rw[in1_units];omega) g1 g2 q1 q2).1
  cases d with
  | tup ds =>
   have hl:bf ds <= n:=by simp only[dep] at hd;omega
   have zO:=hv
   simp only[Is] at hv
   obtain⟨a,vs,rfl,h1,i1⟩:=hv
   cases rv
   obtain⟨ag,r1,p1⟩:=df I h1
   cases e with
   | tup es =>
    have zP:=hw
    simp only[Is] at hw
    obtain⟨b,us,rfl,h2,i2⟩:=hw
    cases ru
    obtain⟨aY,r2,p2⟩:=df I h2
    have rc:SeqAt.RcAt A s (.ref a) (.ref b) (ax (.tup ds) (.tup es)):=by
     have:=SeqAt.RcAt.tuples p1 p2 nz (step r1 r2 hl i1 i2)
     have l1:ag.toArray.size=ds.length:=by rw[List.size_toArray,<-r1.length,i1.length]
     have l2:aY.toArray.size=es.length:=by rw[List.size_toArray,<-r2.length,i2.length]
     rw[l1,l2] at this
     have eb:((List.range (min ds.length es.length)).all (o6 ds es) && ds.length == es.length)=ax (.tup ds) (.tup es):=by
      simp only[ax]
      by_cases c:ds.length=es.length
      ·rw[<-c,Nat.min_self,tW c];simp
      ·rw[tV c];simp[c]
     rw[eb] at this;exact this
    refine⟨?_,rc⟩
    by_cases c:a=b
    ·subst c
     have:=Is.inj zO zP
     rw[this,fR];exact SeqAt.EqAt.same _
    ·exact SeqAt.EqAt.of_refs c rc
   | lst es =>
    simp only[Is] at hw
    obtain⟨b,us,rfl,h2,i2⟩:=hw
    cases ru
    obtain⟨aY,r2,p2⟩:=de I h2
    simp only[ax];exact⟨SeqAt.EqAt.tuple_list p1 p2 nz,SeqAt.RcAt.tuple_list p1 p2 nz⟩
   | non=>cases (show u = .non from hw);cases ru;simp only[ax];exact⟨SeqAt.EqAt.tuple_none p1 nz,SeqAt.RcAt.tuple_none p1 nz⟩
   | bl b=>cases (show u = .bl b from hw);cases ru;simp only[ax];exact⟨SeqAt.EqAt.tuple_bool _ p1 nz,SeqAt.RcAt.tuple_bool _ p1 nz⟩
   | int b=>cases (show u = .int b from hw);obtain⟨t,rfl⟩:=ru;simp only[ax];exact⟨SeqAt.EqAt.tuple_int _ _ p1 nz,SeqAt.RcAt.tuple_int _ _ p1 nz⟩
   | str b=>cases (show u = .str b from hw);obtain⟨t,rfl⟩:=ru;simp only[ax];exact⟨SeqAt.EqAt.tuple_str _ _ p1 nz,SeqAt.RcAt.tuple_str _ _ p1 nz⟩
  | lst ds =>
   have hl:bf ds <= n:=by simp only[dep] at hd;omega
   have zO:=hv
   simp only[Is] at hv
   obtain⟨a,vs,rfl,h1,i1⟩:=hv
   cases rv
   obtain⟨ag,r1,p1⟩:=de I h1
   cases e with
   | lst es =>
    have zP:=hw
    simp only[Is] at hw
    obtain⟨b,us,rfl,h2,i2⟩:=hw
    cases ru
    obtain⟨aY,r2,p2⟩:=de I h2
    have l1:ag.toArray.size=ds.length:=by rw[List.size_toArray,<-r1.length,i1.length]
    have l2:aY.toArray.size=es.length:=by rw[List.size_toArray,<-r2.length,i2.length]
    have rc:SeqAt.RcAt A s (.ref a) (.ref b) (ax (.lst ds) (.lst es)):=by
     by_cases c:ds.length=es.length
     ·have:=SeqAt.RcAt.lists p1 p2 (by rw[l1,l2];exact c) nz (step r1 r2 hl i1 i2)
      rw[l1,tW c] at this
      simp only[ax];exact this
     ·simp only[ax];rw[tV c]
      exact SeqAt.RcAt.lists_lengths p1 p2 (by rw[l1,l2];simpa using c) nz
    refine⟨?_,rc⟩
    by_cases c:a=b
    ·subst c
     have:=Is.inj zO zP
     rw[this,fR];exact SeqAt.EqAt.same _
    ·exact SeqAt.EqAt.of_refs c rc
   | tup es =>
    simp only[Is] at hw
    obtain⟨b,us,rfl,h2,i2⟩:=hw
    cases ru
    obtain⟨aY,r2,p2⟩:=df I h2
    simp only[ax];exact⟨SeqAt.EqAt.list_tuple p1 p2 nz,SeqAt.RcAt.list_tuple p1 p2 nz⟩
   | non=>cases (show u = .non from hw);cases ru;simp only[ax];exact⟨SeqAt.EqAt.list_none p1 nz,SeqAt.RcAt.list_none p1 nz⟩
   | bl b=>cases (show u = .bl b from hw);cases ru;simp only[ax];exact⟨SeqAt.EqAt.list_bool _ p1 nz,SeqAt.RcAt.list_bool _ p1 nz⟩
   | int b=>cases (show u = .int b from hw);obtain⟨t,rfl⟩:=ru;simp only[ax];exact⟨SeqAt.EqAt.list_int _ _ p1 nz,SeqAt.RcAt.list_int _ _ p1 nz⟩
   | str b=>cases (show u = .str b from hw);obtain⟨t,rfl⟩:=ru;simp only[ax];exact⟨SeqAt.EqAt.list_str _ _ p1 nz,SeqAt.RcAt.list_str _ _ p1 nz⟩
  | non=>exact ih (by simp[dep]) (by omega) hv hw rv ru
  | bl b0=>exact ih (by simp[dep]) (by omega) hv hw rv ru
  | int b0=>exact ih (by simp[dep]) (by omega) hv hw rv ru
  | str b0=>exact ih (by simp[dep]) (by omega) hv hw rv ru
theorem L_ (I:Inv X pins σ H s) {A:Around} {d e:D} {v u:V} {x y:Value} (hd:dep d <= 60) (hu:A.units + 61 < cLine) (hv:Is H d v) (hw:Is H e u) (rv:RelV v x) (ru:RelV u y):SeqAt.RcNeAt A s x y (!ax d e):=by
 have nz:A.units < cLine:=by omega
 have step:∀ {ds es:List D} {vs us:List V} {ag aY:List Value} (r1:Vals vs ag) (r2:Vals us aY),bf ds <= 59->af H ds vs->af H es us →
   ∀ (j:Nat) (h1:j < ag.toArray.size) (h2:j < aY.toArray.size),SeqAt.EqAt A.in1 s ag.toArray[j] aY.toArray[j] (o6 ds es j):=fun {ds es vs us ag aY} r1 r2 hl i1 i2 j h1 h2=>by
  obtain⟨v1,e1,q1⟩:=tX r1 h1
  obtain⟨v2,e2,q2⟩:=tX r2 h2
  obtain⟨d1,f1,g1⟩:=i1.get e1
  obtain⟨d2,f2,g2⟩:=i2.get e2
  unfold o6
  rw[f1,f2]
  exact (zN I 59 (Nat.le_trans (y6 f1) hl) (by rw[in1_units];omega) g1 g2 q1 q2).1
 cases d with
 | tup ds =>
  have hl:bf ds <= 59:=by simp only[dep] at hd;omega
  simp only[Is] at hv
  obtain⟨a,vs,rfl,h1,i1⟩:=hv
  cases rv
  obtain⟨ag,r1,p1⟩:=df I h1
  cases e with
  | tup es =>
   simp only[Is] at hw
   obtain⟨b,us,rfl,h2,i2⟩:=hw
   cases ru
   obtain⟨aY,r2,p2⟩:=df I h2
   have:=SeqAt.RcNeAt.tuples p1 p2 nz (step r1 r2 hl i1 i2)
   have l1:ag.toArray.size=ds.length:=by rw[List.size_toArray,<-r1.length,i1.length]
   have l2:aY.toArray.size=es.length:=by rw[List.size_toArray,<-r2.length,i2.length]
   rw[l1,l2] at this
   have eb:((List.range (min ds.length es.length)).all (o6 ds es) && ds.length == es.length)=ax (.tup ds) (.tup es):=by
    simp only[ax]
    by_cases c:ds.length=es.length
    ·rw[<-c,Nat.min_self,tW c];simp
    ·rw[tV c];simp[c]
   rw[eb] at this;exact this
  | lst es=>simp only[Is] at hw;obtain⟨b,us,rfl,h2,i2⟩:=hw;cases ru;obtain⟨aY,r2,p2⟩:=de I h2;simp only[ax];exact SeqAt.RcNeAt.tuple_list p1 p2 nz
  | non=>cases (show u = .non from hw);cases ru;simp only[ax];exact SeqAt.RcNeAt.tuple_none p1 nz
  | bl b=>cases (show u = .bl b from hw);cases ru;simp only[ax];exact SeqAt.RcNeAt.tuple_bool _ p1 nz
  | int b=>cases (show u = .int b from hw);obtain⟨t,rfl⟩:=ru;simp only[ax];exact SeqAt.RcNeAt.tuple_int _ _ p1 nz
  | str b=>cases (show u = .str b from hw);obtain⟨t,rfl⟩:=ru;simp only[ax];exact SeqAt.RcNeAt.tuple_str _ _ p1 nz
 | lst ds =>
  have hl:bf ds <= 59:=by simp only[dep] at hd;omega
  simp only[Is] at hv
  obtain⟨a,vs,rfl,h1,i1⟩:=hv
  cases rv
  obtain⟨ag,r1,p1⟩:=de I h1
  cases e with
  | lst es =>
   simp only[Is] at hw
   obtain⟨b,us,rfl,h2,i2⟩:=hw
   cases ru
   obtain⟨aY,r2,p2⟩:=de I h2
   have l1:ag.toArray.size=ds.length:=by rw[List.size_toArray,<-r1.length,i1.length]
   have l2:aY.toArray.size=es.length:=by rw[List.size_toArray,<-r2.length,i2.length]
   by_cases c:ds.length=es.length
   ·have:=SeqAt.RcNeAt.lists p1 p2 (by rw[l1,l2];exact c) nz (step r1 r2 hl i1 i2)
    rw[l1,tW c] at this
    simp only[ax];exact this
   ·simp only[ax];rw[tV c]
    exact SeqAt.RcNeAt.lists_lengths p1 p2 (by rw[l1,l2];simpa using c) nz
  | tup es=>simp only[Is] at hw;obtain⟨b,us,rfl,h2,i2⟩:=hw;cases ru;obtain⟨aY,r2,p2⟩:=df I h2;simp only[ax];exact SeqAt.RcNeAt.list_tuple p1 p2 nz
  | non=>cases (show u = .non from hw);cases ru;simp only[ax];exact SeqAt.RcNeAt.list_none p1 nz
  | bl b=>cases (show u = .bl b from hw);cases ru;simp only[ax];exact SeqAt.RcNeAt.list_bool _ p1 nz
  | int b=>cases (show u = .int b from hw);obtain⟨t,rfl⟩:=ru;simp only[ax];exact SeqAt.RcNeAt.list_int _ _ p1 nz
  | str b=>cases (show u = .str b from hw);obtain⟨t,rfl⟩:=ru;simp only[ax];exact SeqAt.RcNeAt.list_str _ _ p1 nz
 | non =>
  cases (show v = .non from hv);cases rv
  cases e with
  | non=>cases (show u = .non from hw);cases ru;simp only[ax];exact SeqAt.RcNeAt.none_none
  | bl b=>cases (show u = .bl b from hw);cases ru;simp only[ax];exact SeqAt.RcNeAt.none_bool _
  | int b=>cases (show u = .int b from hw);obtain⟨t,rfl⟩:=ru;simp only[ax];exact SeqAt.RcNeAt.none_int _ _
  | str b=>cases (show u = .str b from hw);obtain⟨t,rfl⟩:=ru;simp only[ax];exact SeqAt.RcNeAt.none_str _ _
  | tup es=>simp only[Is] at hw;obtain⟨a,vs,rfl,h1,_⟩:=hw;cases ru;obtain⟨_,_,p⟩:=df I h1;simp only[ax];exact SeqAt.RcNeAt.none_tuple p nz
  | lst es=>simp only[Is] at hw;obtain⟨a,vs,rfl,h1,_⟩:=hw;cases ru;obtain⟨_,_,p⟩:=de I h1;simp only[ax];exact SeqAt.RcNeAt.none_list p nz
 | bl b0 =>
  cases (show v = .bl b0 from hv);cases rv
  cases e with
  | non=>cases (show u = .non from hw);cases ru;simp only[ax];exact SeqAt.RcNeAt.bool_none _
  | bl b=>cases (show u = .bl b from hw);cases ru;simp only[ax];exact SeqAt.RcNeAt.bool_bool _ _
  | int b=>cases (show u = .int b from hw);obtain⟨t,rfl⟩:=ru;simp only[ax];exact SeqAt.RcNeAt.bool_int _ _ _
  | str b=>cases (show u = .str b from hw);obtain⟨t,rfl⟩:=ru;simp only[ax];exact SeqAt.RcNeAt.bool_str _ _ _
  | tup es=>simp only[Is] at hw;obtain⟨a,vs,rfl,h1,_⟩:=hw;cases ru;obtain⟨_,_,p⟩:=df I h1;simp only[ax];exact SeqAt.RcNeAt.bool_tuple _ p nz
  | lst es=>simp only[Is] at hw;obtain⟨a,vs,rfl,h1,_⟩:=hw;cases ru;obtain⟨_,_,p⟩:=de I h1;simp only[ax];exact SeqAt.RcNeAt.bool_list _ p nz
 | int b0 =>
  cases (show v = .int b0 from hv);obtain⟨t0,rfl⟩:=rv
  cases e with
  | non=>cases (show u = .non from hw);cases ru;simp only[ax];exact SeqAt.RcNeAt.int_none _ _
  | bl b=>cases (show u = .bl b from hw);cases ru;simp only[ax];exact SeqAt.RcNeAt.int_bool _ _ _
  | int b=>cases (show u = .int b from hw);obtain⟨t,rfl⟩:=ru;simp only[ax];exact SeqAt.RcNeAt.int_int _ _ _ _
  | str b=>cases (show u = .str b from hw);obtain⟨t,rfl⟩:=ru;simp only[ax];exact SeqAt.RcNeAt.int_str _ _ _ _
  | tup es=>simp only[Is] at hw;obtain⟨a,vs,rfl,h1,_⟩:=hw;cases ru;obtain⟨_,_,p⟩:=df I h1;simp only[ax];exact SeqAt.RcNeAt.int_tuple _ _ p nz
  | lst es=>simp only[Is] at hw;obtain⟨a,vs,rfl,h1,_⟩:=hw;cases ru;obtain⟨_,_,p⟩:=de I h1;simp only[ax];exact SeqAt.RcNeAt.int_list _ _ p nz
 | str b0 =>
  cases (show v = .str b0 from hv);obtain⟨t0,rfl⟩:=rv
  cases e with
  | non=>cases (show u = .non from hw);cases ru;simp only[ax];exact SeqAt.RcNeAt.str_none _ _
  | bl b=>cases (show u = .bl b from hw);cases ru;simp only[ax];exact SeqAt.RcNeAt.str_bool _ _ _
  | int b=>cases (show u = .int b from hw);obtain⟨t,rfl⟩:=ru;simp only[ax];exact SeqAt.RcNeAt.str_int _ _ _ _
  | str b=>cases (show u = .str b from hw);obtain⟨t,rfl⟩:=ru;simp only[ax];exact SeqAt.RcNeAt.str_str _ _ _ _
  | tup es=>simp only[Is] at hw;obtain⟨a,vs,rfl,h1,_⟩:=hw;cases ru;obtain⟨_,_,p⟩:=df I h1;simp only[ax];exact SeqAt.RcNeAt.str_tuple _ _ p nz
  | lst es=>simp only[Is] at hw;obtain⟨a,vs,rfl,h1,_⟩:=hw;cases ru;obtain⟨_,_,p⟩:=de I h1;simp only[ax];exact SeqAt.RcNeAt.str_list _ _ p nz
end
variable [aQ]
noncomputable def intsOf:List D->Option (List Int)
 | []=>some []
 | .int i :: r=>match intsOf r with
  | some ns=>some (i :: ns)
  | none=>none
 | _=>none
theorem vO:∀ ns:List Int,intsOf (ns.map D.int)=some ns
 | []=>rfl
 | n :: r=>by show (match intsOf (r.map D.int) with | some ns=>some (n :: ns) | none=>none)=_;rw[vO r]
theorem qx:∀ {ds:List D} {ns:List Int},intsOf ds=some ns->ds=ns.map D.int
 | [],ns,h=>by cases h;rfl
 | .int i :: r,ns,h=>by
  unfold intsOf at h
  split at h
  ·rename_i ms e;cases h;rw[List.map_cons,qx e]
  ·cases h
 | .non :: r,ns,h=>by cases h
 | .bl _ :: r,ns,h=>by cases h
 | .str _ :: r,ns,h=>by cases h
 | .tup _ :: r,ns,h=>by cases h
 | .lst _ :: r,ns,h=>by cases h
theorem o7 {F:Hp}:∀ {ns:List Int} {vs:List V},af F (ns.map D.int) vs->vs=ns.map V.int
 | [],vs,h=>by simp only[List.map_nil,af] at h;exact h
 | n :: r,vs,h=>by
  simp only[List.map_cons,af] at h
  obtain⟨v,t,rfl,h1,h2⟩:=h
  have h1:v = .int n:=h1
  rw[o7 h2,h1];rfl
theorem o8 {F:Hp}:∀ {ns:List Int},af F (ns.map D.int) (ns.map V.int)
 | [] => .nil
 | n :: r => .cons (show _=_ from rfl) o8
theorem qy {F:Hp}:∀ {as bs:List D} {us vs:List V},af F as us->af F bs vs->af F (as ++ bs) (us ++ vs)
 | [],bs,us,vs,h,q=>by simp only[af] at h;subst h;exact q
 | a :: r,bs,us,vs,h,q=>by
  simp only[af] at h
  obtain⟨v,t,rfl,h1,h2⟩:=h
  exact .cons h1 (qy h2 q)
theorem DY {F:Hp}:∀ {as:List D} {us:List V} (n:Nat),af F as us->af F (as.take n) (us.take n)
 | as,us,0,_=>by rw[List.take_zero,List.take_zero];exact .nil
 | [],us,n + 1,h=>by simp only[af] at h;subst h;exact .nil
 | a :: r,us,n + 1,h=>by
  simp only[af] at h
  obtain⟨v,t,rfl,h1,h2⟩:=h
  exact .cons h1 (DY n h2)
theorem DZ {F:Hp}:∀ {as:List D} {us:List V} (n:Nat),af F as us->af F (as.drop n) (us.drop n)
 | as,us,0,h=>h
 | [],us,n + 1,h=>by simp only[af] at h;subst h;exact .nil
 | a :: r,us,n + 1,h=>by
  simp only[af] at h
  obtain⟨v,t,rfl,h1,h2⟩:=h
  exact DZ n h2
theorem zQ {F:Hp}:∀ {as:List D} {us:List V},af F as us->af F as.reverse us.reverse
 | [],us,h=>by simp only[af] at h;subst h;exact .nil
 | a :: r,us,h=>by
  simp only[af] at h
  obtain⟨v,t,rfl,h1,h2⟩:=h
  rw[List.reverse_cons,List.reverse_cons]
  exact (zQ h2).snoc h1
theorem D0 {F:Hp}:∀ {as:List D} {us:List V} (n:Nat) {d:D} {v:V},af F as us->Is F d v->af F (as.set n d) (us.set n v)
 | [],us,n,d,v,h,_=>by simp only[af] at h;subst h;exact .nil
 | a :: r,us,0,d,v,h,q=>by
  simp only[af] at h
  obtain⟨w,t,rfl,h1,h2⟩:=h
  exact .cons q h2
 | a :: r,us,n + 1,d,v,h,q=>by
  simp only[af] at h
  obtain⟨w,t,rfl,h1,h2⟩:=h
  exact .cons h1 (D0 n h2 q)
theorem D1 {F:Hp}:∀ {as:List D} {us:List V} (n:Nat),af F as us->af F (as.eraseIdx n) (us.eraseIdx n)
 | [],us,n,h=>by simp only[af] at h;subst h;exact .nil
 | a :: r,us,0,h=>by
  simp only[af] at h
  obtain⟨w,t,rfl,h1,h2⟩:=h
  exact h2
 | a :: r,us,n + 1,h=>by
  simp only[af] at h
  obtain⟨w,t,rfl,h1,h2⟩:=h
  exact .cons h1 (D1 n h2)
theorem l5 {F H:Hp} {p:Addr} {ds:List D} {vs:List V} (s:aw F H) (hp:H p=none) (h:af F ds vs):Is (Nw F H (upd H p (.lst vs))) (.lst ds) (.ref p):=by
 rw[Nw.upd s hp]
 simp only[Is]
 exact⟨p,vs,rfl,bF,h.same (bW (s.free hp))⟩
theorem vP {F H:Hp} {p:Addr} {ds:List D} {vs:List V} (s:aw F H) (hp:H p=none) (h:af F ds vs):Is (Nw F H (upd H p (.tup vs))) (.tup ds) (.ref p):=by
 rw[Nw.upd s hp]
 simp only[Is]
 exact⟨p,vs,rfl,bF,h.same (bW (s.free hp))⟩
theorem tY {F H:Hp} {d:D} {v:V} (s:aw F H) (h:Is F d v):Is (Nw F H H) d v:=by rw[Nw.refl s];exact h
noncomputable def o9:D->D->(D->Prop)->Prop
 | .int i,.int j,K=>K (.int (i + j))
 | .lst a,.lst b,K=>a.length + b.length <= 1000/\K (.lst (a ++ b))
 | .tup a,.tup b,K=>(a≠[]/\a.length + b.length <= 1000)/\K (.tup (a ++ b))
 | .str a,.str b,K=>a.length + b.length <= 1000/\K (.str (a ++ b))
 | _,_,_=>False
noncomputable def oI (f:Int->Int->D):D->D->(D->Prop)->Prop
 | .int i,.int j,K=>K (f i j)
 | _,_,_=>False
noncomputable def dY (C:Int->Int->Prop) (f:Int->Int->D):D->D->(D->Prop)->Prop
 | .int i,.int j,K=>C i j/\K (f i j)
 | _,_,_=>False
noncomputable def fS:D->D->(D->Prop)->Prop
 | .int i,.int j,K=>lA i j/\K (.int (i * j))
 | .lst a,.int j,K=>(-(2 ^ 63) <= j/\j < 2 ^ 63/\a.length * j.toNat <= 1000)/\K (.lst (List.replicate j.toNat a).flatten)
 | _,_,_=>False
section
variable {X:Cx}
theorem vQ {f:Value->Value->Sem Value} {g:Int->Int->V} {h:Int->Int->D} (op:cC X f (ly g)) (hg:∀ F i j,Is F (h i j) (g i j)):eI X f (oI h):=by
 rintro pins s σ H x y v u Q I rx ry ⟨F,d,e,K,sub,rd,re,q,md⟩
 unfold oI at q
 split at q
 ·rename_i i j
  exact op pins s σ H x y v u Q I rx ry ⟨i,j,rd,re,md _ _ _ q (fun _ _ e=>e) (hg _ i j)⟩
 ·exact q.elim
theorem zR {f:Value->Value->Sem Value} {C:Int->Int->Prop} {g:Int->Int->V} {h:Int->Int->D} (op:cC X f (rI C g)) (hg:∀ F i j,Is F (h i j) (g i j)):eI X f (dY C h):=by
 rintro pins s σ H x y v u Q I rx ry ⟨F,d,e,K,sub,rd,re,q,md⟩
 unfold dY at q
 split at q
 ·rename_i i j
  exact op pins s σ H x y v u Q I rx ry ⟨i,j,rd,re,q.1,md _ _ _ q.2 (fun _ _ e=>e) (hg _ i j)⟩
 ·exact q.elim
theorem vR:eI X (binaryOp .Add) o9:=by
 rintro pins s σ H x y v u Q I rx ry ⟨F,d,e,K,sub,rd,re,q,md⟩
 unfold o9 at q
 split at q
 ·rename_i i j
  exact Cc pins s σ H x y v u Q I rx ry ⟨i,j,rd,re,md _ _ _ q (fun _ _ e=>e) rfl⟩
 ·rename_i as bs
  obtain⟨a,us,rfl,h1,h2⟩:=rd
  obtain⟨b,ws,rfl,h3,h4⟩:=re
  refine CI pins s σ H _ _ v u Q I rx ry ⟨a,b,us,ws,rfl,rfl,h1,h3,jV (by rw[h2.length,h4.length];exact q.1),fun p hp=>md _ _ _ q.2 (bW hp) (l5 sub hp (qy h2 h4))⟩
 ·rename_i as bs
  have cE:Is F (.tup as) x:=rd
  have iF:Is F (.tup bs) y:=re
  simp only[Is] at cE iF
  obtain⟨a,us,rfl,h1,h2⟩:=cE
  obtain⟨b,ws,rfl,h3,h4⟩:=iF
  have ne:us≠[]:=fun z=>q.1.1 (List.length_eq_zero_iff.mp (by rw[<-h2.length,z];rfl))
  refine Jn pins s σ H _ _ v u Q I rx ry ⟨a,b,us,ws,rfl,rfl,bw.of (sub _ _ h1),bw.of (sub _ _ h3),ne,jV (by rw[h2.length,h4.length];exact q.1.2),fun z => ?_,fun z p hp=>md _ _ _ q.2 (bW hp) (vP sub hp (qy h2 h4))⟩
  have:bs=[]:=List.length_eq_zero_iff.mp (by rw[<-h4.length,z];rfl)
  subst this
  refine md _ _ _ q.2 (fun _ _ e=>e) (tY sub ?_)
  rw[List.append_nil];exact rd
 ·rename_i as bs
  have cE:x = .str as:=rd
  have iF:y = .str bs:=re
  subst cE iF
  exact IA pins s σ H _ _ v u Q I rx ry ⟨as,bs,rfl,rfl,jV q.1,md _ _ _ q.2 (fun _ _ e=>e) rfl⟩
 ·exact q.elim
theorem qz:eI X (binaryOp .Sub) (oI fun i j => .int (i - j)):=vQ Ih fun _ _ _=>rfl
theorem o_:eI X (binaryOp .Mult) fS:=by
 rintro pins s σ H x y v u Q I rx ry ⟨F,d,e,K,sub,rd,re,q,md⟩
 unfold fS at q
 split at q
 ·rename_i i j
  exact Ii pins s σ H x y v u Q I rx ry ⟨i,j,rd,re,q.1,md _ _ _ q.2 (fun _ _ e=>e) rfl⟩
 ·rename_i as j
  obtain⟨a,us,rfl,h1,h2⟩:=rd
  refine Jy pins s σ H _ _ v u Q I rx ry ⟨a,j,us,rfl,re,h1,q.1.1,q.1.2.1,jV (by rw[h2.length];exact q.1.2.2),fun p hp=>md _ _ _ q.2 (bW hp) (l5 sub hp ?_)⟩
  have:∀ k:Nat,af F (List.replicate k as).flatten (List.replicate k us).flatten:=fun k=>by
   induction k with
   | zero=>exact .nil
   | succ k ih=>rw[List.replicate_succ,List.replicate_succ,List.flatten_cons,List.flatten_cons];exact qy h2 ih
  exact this _
 ·exact q.elim
theorem Ma:eI X (binaryOp .FloorDiv) (dY sg fun i j => .int (i.fdiv j)):=zR Ij fun _ _ _=>rfl
theorem jw:eI X (binaryOp .Mod) (dY (fun _ j=>0 < j) fun i j => .int (i % j)):=zR yf fun _ _ _=>rfl
theorem pb:eI X (binaryOp .Pow) (dY gr fun i j => .int (i ^ j.toNat)):=zR Ik fun _ _ _=>rfl
noncomputable def oEq:D->D->(D->Prop)->Prop:=fun d e K=>dep d <= 60/\K (.bl (ax d e))
noncomputable def pd:D->D->(D->Prop)->Prop:=fun d e K=>dep d <= 60/\K (.bl (!ax d e))
theorem gX (hu:X.A.units + 64 < cLine):eI X (compareOp .Eq) oEq:=by
 rintro pins s σ H x y v u Q I rx ry ⟨F,d,e,K,sub,rd,re,q,md⟩
 exact (zN I 60 q.1 (by omega) (rd.is sub) (re.is sub) rx ry).2 _ _ _ _ ⟨.bl _,H,I,rfl,md _ _ _ q.2 (fun _ _ e=>e) rfl⟩
theorem tZ (hu:X.A.units + 64 < cLine):eI X (compareOp .NotEq) pd:=by
 rintro pins s σ H x y v u Q I rx ry ⟨F,d,e,K,sub,rd,re,q,md⟩
 exact L_ I q.1 (by omega) (rd.is sub) (re.is sub) rx ry _ _ _ _ ⟨.bl _,H,I,rfl,md _ _ _ q.2 (fun _ _ e=>e) rfl⟩
noncomputable def oLt:D->D->(D->Prop)->Prop
 | .int i,.int j,K=>K (.bl (decide (i < j)))
 | .tup a,.tup b,K=>match intsOf a,intsOf b with
  | some ns,some ms=>K (.bl (HT.lexLt ns ms))
  | _,_=>False
 | _,_,_=>False
theorem vS (hu:X.A.units + 64 < cLine):eI X (compareOp .Lt) oLt:=by
 rintro pins s σ H x y v u Q I rx ry ⟨F,d,e,K,sub,rd,re,q,md⟩
 unfold oLt at q
 split at q
 ·rename_i i j
  exact Io pins s σ H x y v u Q I rx ry ⟨i,j,rd,re,md _ _ _ q (fun _ _ e=>e) rfl⟩
 ·rename_i as bs
  split at q
  ·rename_i ns ms e1 e2
   rw[qx e1] at rd
   rw[qx e2] at re
   have cE:Is F (.tup (ns.map D.int)) x:=rd
   have iF:Is F (.tup (ms.map D.int)) y:=re
   simp only[Is] at cE iF
   obtain⟨a,us,rfl,h1,h2⟩:=cE
   obtain⟨b,ws,rfl,h3,h4⟩:=iF
   rw[o7 h2] at h1
   rw[o7 h4] at h3
   exact Jl (by omega) pins s σ H _ _ v u Q I rx ry ⟨a,b,ns,ms,rfl,rfl,bw.of (sub _ _ h1),bw.of (sub _ _ h3),md _ _ _ q (fun _ _ e=>e) rfl⟩
  ·exact q.elim
 ·exact q.elim
theorem D2:eI X (compareOp .LtE) (oI fun i j => .bl (decide (i <= j))):=vQ Ip fun _ _ _=>rfl
theorem vT:eI X (compareOp .Gt) (oI fun i j => .bl (decide (j < i))):=vQ Iq fun _ _ _=>rfl
theorem Mb:eI X (compareOp .GtE) (oI fun i j => .bl (decide (j <= i))):=vQ Ir fun _ _ _=>rfl
noncomputable def i8:D->D->(D->Prop)->Prop
 | .non,.non,K=>K (.bl true)
 | .bl _,.non,K=>K (.bl false)
 | .int _,.non,K=>K (.bl false)
 | .str _,.non,K=>K (.bl false)
 | .tup _,.non,K=>K (.bl false)
 | .lst _,.non,K=>K (.bl false)
 | _,_,_=>False
theorem D3 {F H:Hp} {d e:D} {x y:V} {K:D->Prop} (rd:gD F H d x) (re:gD F H e y) (q:i8 d e K):y = .non/\K (.bl (decide (x = .non))):=by
 unfold i8 at q
 split at q
 ·have:x = .non:=rd;have h2:y = .non:=re;subst this;exact⟨h2,q⟩
 ·rename_i b;have:x = .bl b:=rd;have h2:y = .non:=re;subst this;exact⟨h2,q⟩
 ·rename_i b;have:x = .int b:=rd;have h2:y = .non:=re;subst this;exact⟨h2,q⟩
 ·rename_i b;have:x = .str b:=rd;have h2:y = .non:=re;subst this;exact⟨h2,q⟩
 ·rename_i b;have rd:Is F (.tup b) x:=rd;simp only[Is] at rd;obtain⟨a,_,rfl,_⟩:=rd;exact⟨re,q⟩
 ·rename_i b;obtain⟨a,_,rfl,_⟩:=rd;exact⟨re,q⟩
 ·exact q.elim
noncomputable def zS:D->D->(D->Prop)->Prop:=fun d e K=>i8 d e fun z=>match z with
 | .bl b=>K (.bl (!b))
 | _=>False
theorem Mc:eI X (compareOp .Is) i8:=by
 rintro pins s σ H x y v u Q I rx ry ⟨F,d,e,K,sub,rd,re,q,md⟩
 obtain⟨h1,h2⟩:=D3 rd re q
 exact Iu pins s σ H x y v u Q I rx ry ⟨h1,md _ _ _ h2 (fun _ _ e=>e) rfl⟩
theorem Md:eI X (compareOp .IsNot) zS:=by
 rintro pins s σ H x y v u Q I rx ry ⟨F,d,e,K,sub,rd,re,q,md⟩
 obtain⟨h1,h2⟩:=D3 rd re q
 exact Iv pins s σ H x y v u Q I rx ry ⟨h1,md _ _ _ h2 (fun _ _ e=>e) rfl⟩
noncomputable def vU (neg:Bool):D->D->(D->Prop)->Prop
 | d,.lst es,K=>bf es <= 55/\K (.bl (if neg then !(es.any fun e=>ax e d) else es.any fun e=>ax e d))
 | d,.tup es,K=>bf es <= 55/\K (.bl (if neg then !(es.any fun e=>ax e d) else es.any fun e=>ax e d))
 | _,_,_=>False
noncomputable def kP (H:Hp) (d:D) (u:Value):Bool:=by
 classical exact if ∃ e v,Is H e v/\RelV v u/\ax e d=true then true else false
theorem D4 {H:Hp} {d e:D} {v:V} {u:Value} (h:Is H e v) (r:RelV v u):kP H d u=ax e d:=by
 unfold kP
 split
 ·rename_i z
  obtain⟨e',v',h',r',q⟩:=z
  have:v'=v:=r'.inj r
  subst this
  rw[Is.inj h h'];exact q.symm
 ·rename_i z
  cases q:ax e d with
  | false=>rfl
  | true=>exact absurd ⟨e,v,h,r,q⟩ z
theorem zT {H:Hp} {d:D}:∀ {es:List D} {vs:List V} {us:List Value},af H es vs->Vals vs us->us.any (kP H d)=es.any fun e=>ax e d
 | [],vs,us,h,r=>by simp only[af] at h;subst h;cases r;rfl
 | e :: es,vs,us,h,r=>by
  simp only[af] at h
  obtain⟨v,t,rfl,h1,h2⟩:=h
  cases r with
  | cons r1 r2=>rw[List.any_cons,List.any_cons,D4 h1 r1,zT h2 r2]
theorem zU {pins:List (Addr × Obj)} {σ : St} {H:Hp} {s:Shared} (I:Inv X pins σ H s) {A:Around} (hu:A.units + 60 < cLine) {d:D} {x:V} {w:Value} (hd:Is H d x) (rd:RelV x w):∀ {es:List D} {vs:List V} {us:List Value},bf es <= 55->af H es vs->Vals vs us->∀ u∈us,SeqAt.EqAt A s u w (kP H d u)
 | [],vs,us,_,h,r=>by simp only[af] at h;subst h;cases r;intro u hu;cases hu
 | e :: es,vs,us,hp,h,r=>by
  simp only[af] at h
  obtain⟨v,t,rfl,h1,h2⟩:=h
  simp only[bf] at hp
  cases r with
  | cons r1 r2 =>
   intro u hu'
   rcases List.mem_cons.mp hu' with rfl | hu'
   ·rw[D4 h1 r1];exact (zN I 55 (by omega) (by omega) h1 hd r1 rd).1
   ·exact zU I hu hd rd (by omega) h2 r2 u hu'
theorem Me (hu:X.A.units + 64 < cLine):eI X (compareOp .NotIn) (vU true):=by
 rintro pins s σ H x y v u Q I rx ry ⟨F,d,e,K,sub,rd,re,q,md⟩
 unfold vU at q
 split at q
 ·rename_i es
  obtain⟨a,vs,rfl,h1,h2⟩:=re
  cases ry
  obtain⟨ag,r,p⟩:=de I h1
  have hJ:=h2.same sub
  refine SeqAt.notIn_listAt (kP H d) p (fun w hw=>zU I (by rw[in1_units];omega) (rd.is sub) rx q.1 hJ r w (by simpa using hw)) ⟨.bl _,H,I,rfl,?_⟩
  rw[show ag.toArray.any (kP H d)=ag.any (kP H d) by simp,zT hJ r]
  exact md _ _ _ q.2 (fun _ _ e=>e) rfl
 ·rename_i es
  have iF:Is F (.tup es) y:=re
  simp only[Is] at iF
  obtain⟨a,vs,rfl,h1,h2⟩:=iF
  cases ry
  obtain⟨ag,r,p⟩:=df I (sub _ _ h1)
  have hJ:=h2.same sub
  refine SeqAt.notIn_tupleAt (kP H d) p (fun w hw=>zU I (by rw[in1_units];omega) (rd.is sub) rx q.1 hJ r w (by simpa using hw)) ⟨.bl _,H,I,rfl,?_⟩
  rw[show ag.toArray.any (kP H d)=ag.any (kP H d) by simp,zT hJ r]
  exact md _ _ _ q.2 (fun _ _ e=>e) rfl
 ·exact q.elim
noncomputable def bg:D->D->(D->Prop)->Prop
 | .lst ds,.int i,K=>match eO ds i with
  | some d=>K d
  | none=>False
 | .tup ds,.int i,K=>match eO ds i with
  | some d=>K d
  | none=>False
 | .str z,.int i,K=>z.length <= 1000/\match eO z.cps.toList i with
  | some c=>K (.str ⟨#[c]⟩)
  | none=>False
 | _,_,_=>False
theorem D5 {F:Hp} {ds:List D} {vs:List V} {i:Int} {d:D} (h:af F ds vs) (e:eO ds i=some d):∃ v,eO vs i=some v/\Is F d v:=by
 unfold eO at e ⊢
 rw[h.length]
 cases q:iy ds.length i with
 | none=>rw[q] at e;cases e
 | some j =>
  rw[q] at e
  exact nh h (show ds[j]? = some d from e)
theorem bD:Dz X bg:=by
 rintro value slice pins s σ H x y v u Q I rx ry ⟨F,d,e,K,sub,rd,re,q,md⟩ hs
 unfold bg at q
 split at q
 ·rename_i ds i
  split at q
  ·rename_i d' e1
   obtain⟨a,vs,rfl,h1,h2⟩:=rd
   obtain⟨w,e2,h3⟩:=D5 h2 e1
   exact yz value slice pins s σ H _ _ v u Q I rx ry ⟨a,vs,i,w,rfl,re,aP.of h1,e2,md _ _ _ q (fun _ _ e=>e) (tY sub h3)⟩ hs
  ·exact q.elim
 ·rename_i ds i
  split at q
  ·rename_i d' e1
   have cE:Is F (.tup ds) x:=rd
   simp only[Is] at cE
   obtain⟨a,vs,rfl,h1,h2⟩:=cE
   obtain⟨w,e2,h3⟩:=D5 h2 e1
   exact Jp value slice pins s σ H _ _ v u Q I rx ry ⟨a,vs,i,w,rfl,re,bw.of (sub _ _ h1),e2,md _ _ _ q (fun _ _ e=>e) (tY sub h3)⟩ hs
  ·exact q.elim
 ·rename_i z i
  obtain⟨hz,q⟩:=q
  split at q
  ·rename_i c e1
   have cE:x = .str z:=rd
   subst cE
   exact Jq value slice pins s σ H _ _ v u Q I rx ry ⟨z,i,c,rfl,re,jV hz,e1,md _ _ _ q (fun _ _ e=>e) rfl⟩ hs
  ·exact q.elim
 ·exact q.elim
noncomputable def cutD (ds:List D) (lo hi:Option Int):List D:=(ds.drop (HT.aU ds.length 0 lo)).take (HT.aU ds.length ds.length hi - HT.aU ds.length 0 lo)
theorem D6 {F:Hp} {ds:List D} {vs:List V} (h:af F ds vs) (lo hi:Option Int):af F (cutD ds lo hi) (cG vs lo hi):=by
 unfold cutD cG
 rw[h.length]
 exact DY _ (DZ _ h)
noncomputable abbrev WO:=av->(Option Int->av->Prop)->Prop
noncomputable def vV (f:WO):TO:=fun σ H Q=>∃ F ad δ K,SR F ad δ σ H/\f δ K/\∀ o δ',K o δ'->∀ F' aC H',Ext F ad δ.mu H F' aC δ'.mu H'->SR F' aC δ' σ H'->Q o H'
noncomputable def j4:WO:=fun δ K=>K none δ
noncomputable def t4 (f:WE):WO:=fun δ K=>f δ fun x δ1=>match x with
 | .p (.int i)=>K (some i) δ1
 | _=>False
theorem D7:PO X none (vV j4):=fun pins s σ H Q I h0_ => el7 h0_ fun F ad δ K S q k =>Ct pins s σ H Q I (k _ _ q _ _ _ .refl S)
theorem D8 {e:Expr} {f:WE} (h:JE X e (tD f)):PO X (some e) (vV (t4 f)):=fun pins s σ H Q I h0_ => el7 h0_ fun F ad δ K S q k =>vb h.out pins s σ H Q I ⟨F,ad,δ,_,S,q,fun x δ1 h1 v F1 aL H1 E1 S1 V1=>by
 split at h1
 ·rename_i i
  exact⟨i,V1,k _ _ h1 _ _ _ E1 S1⟩
 ·exact h1.elim⟩
noncomputable def zV (f g h:WE) (o o':D->D->(D->Prop)->Prop):WE:=fun δ K=>f δ fun x δ1=>g δ1 fun y δ2=>gE x δ2 fun d=>gE y δ2 fun e=>o d e fun z=>match z with
 | .bl true=>h δ2 fun w δ3=>gE y δ3 fun e'=>gE w δ3 fun c=>o' e' c fun z'=>K (.p z') δ3
 | .bl false=>K (.p (.bl false)) δ2
 | _=>False
theorem Mf {a b c:Expr} {f g h:WE} {op jO:CmpOp} {o o':D->D->(D->Prop)->Prop} {pos:Pos} (ho:eI X (compareOp op) o) (iO:eI X (compareOp jO) o') (ha:JE X a (tD f)) (hb:JE X b (tD g)) (hc:JE X c (tD h))
  (hm:lastMarks [op,jO] [b,c]=false:=by with_unfolding_all rfl):JE X (.Compare a [op,jO] [b,c] pos) (tD (zV f g h o o')) :=
 (K_ ho iO ha hb hc hm).weak fun σ H Q h0_ => el7 h0_ fun F ad δ K S q k =>by
  refine⟨F,ad,δ,_,S,q,fun x δ1 h1 v1 F1 aL H1 E1 S1 V1=>⟨F1,aL,δ1,_,S1,h1,fun y δ2 h2 v2 F2 cV H2 E2 S2 V2 => ?_⟩⟩
  obtain⟨d,h3,rd⟩:=iX S2 (V1.ext E2) h2
  obtain⟨e,h4,re⟩:=iX S2 V2 h3
  refine⟨F2,d,e,_,S2.sub,rd,re,h4,fun z v H' hz sm is => ?_⟩
  have S3:=S2.al sm
  have E3:=Ext.al S2 sm
  split at hz
  ·refine⟨true,is,?_⟩
   rw[if_pos rfl]
   refine⟨_,cV,δ2,_,S3,hz,fun w δ4 h5 v4 F4 vC H4 E4 S4 V4 => ?_⟩
   obtain⟨d',h6,vA⟩:=iX S4 ((V2.ext E3).ext E4) h5
   obtain⟨e',h7,Mg⟩:=iX S4 V4 h6
   exact⟨F4,d',e',_,S4.sub,vA,Mg,h7,fun z v H' hz sm is=>k _ _ hz _ _ _ _ ((((E1.trans E2).trans E3).trans E4).trans (Ext.al S4 sm)) (S4.al sm) is⟩
  ·refine⟨false,is,?_⟩
   rw[if_neg Bool.false_ne_true]
   exact k _ _ hz _ _ _ _ ((E1.trans E2).trans E3) S3 rfl
  ·exact hz.elim
end
noncomputable def sortI (ns:List Int):List Int:=ns.mergeSort fun a b=>decide (a <= b)
theorem sortI_perm (ns:List Int):(sortI ns).Perm ns:=List.mergeSort_perm ns _
theorem D9 (ns:List Int):(sortI ns).Pairwise (· <= ·):=by
 have:=List.pairwise_mergeSort (le:=fun a b:Int=>decide (a <= b)) (fun a b c h1 h2=>by simp at *;omega) (fun a b=>by simp;omega) ns
 exact this.imp fun h=>by simpa using h
theorem D_:∀ {as bs:List Int},as.Perm bs->as.Pairwise (· <= ·)->bs.Pairwise (· <= ·)->as=bs
 | [],bs,p,_,_=>p.nil_eq
 | a :: as,[],p,_,_=>absurd p.length_eq (by simp)
 | a :: as,b :: bs,p,s,t=>by
  have e:a=b:=by
   have h1:a <= b:=by
    have hb:b∈a :: as:=p.mem_iff.mpr (List.mem_cons_self ..)
    rcases List.mem_cons.mp hb with h | h
    ·omega
    ·exact (List.pairwise_cons.mp s).1 b h
   have h2:b <= a:=by
    have ha:a∈b :: bs:=p.mem_iff.mp (List.mem_cons_self ..)
    rcases List.mem_cons.mp ha with h | h
    ·omega
    ·exact (List.pairwise_cons.mp t).1 a h
   omega
  subst e
  rw[D_ (List.perm_cons a |>.mp p) (List.pairwise_cons.mp s).2 (List.pairwise_cons.mp t).2]
theorem vW {as bs:List Int} (p:as.Perm bs) (s:as.Pairwise (· <= ·)):as=sortI bs:=D_ (p.trans (sortI_perm bs).symm) s (D9 bs)
theorem Ea (ns:List Int):(sortI ns).length=ns.length:=(sortI_perm ns).length_eq
noncomputable def cz:List D->(D->Prop)->Prop
 | [.lst ds],K=>K (.int ds.length)
 | [.tup ds],K=>K (.int ds.length)
 | [.str z],K=>z.length <= 1000/\K (.int z.length)
 | _,_=>False
noncomputable def vX:List D->(D->Prop)->Prop
 | [.lst ds],K=>K (.lst ds)
 | [.tup ds],K=>K (.lst ds)
 | _,_=>False
noncomputable def vY:List D->(D->Prop)->Prop
 | [.lst ds],K=>K (.tup ds)
 | [.tup ds],K=>K (.tup ds)
 | _,_=>False
noncomputable def t5:List D->(D->Prop)->Prop
 | [.lst ds],K=>match intsOf ds with
  | some ns=>ns.length < 64/\K (.lst ((sortI ns).map D.int))
  | none=>False
 | _,_=>False
noncomputable def i9:List D->(D->Prop)->Prop
 | [.lst ds],K=>match intsOf ds with
  | some ns=>((∀ x∈ns,0 <= x/\x <= 1000000000)/\ns.length <= 1000)/\K (.int ns.sum)
  | none=>False
 | _,_=>False
noncomputable def pe:List D->Option (List Bool)
 | []=>some []
 | .bl b :: r=>match pe r with
  | some bs=>some (b :: bs)
  | none=>none
 | _=>none
theorem Eb:∀ bs:List Bool,pe (bs.map D.bl)=some bs
 | []=>rfl
 | n :: r=>by show (match pe (r.map D.bl) with | some ns=>some (n :: ns) | none=>none)=_;rw[Eb r]
theorem Ec:∀ {ds:List D} {bs:List Bool},pe ds=some bs->ds=bs.map D.bl
 | [],ns,h=>by cases h;rfl
 | .bl i :: r,ns,h=>by
  unfold pe at h
  split at h
  ·rename_i ms e;cases h;rw[List.map_cons,Ec e]
  ·cases h
 | .non :: r,ns,h=>by cases h
 | .int _ :: r,ns,h=>by cases h
 | .str _ :: r,ns,h=>by cases h
 | .tup _ :: r,ns,h=>by cases h
 | .lst _ :: r,ns,h=>by cases h
theorem Ed {F:Hp}:∀ {bs:List Bool} {vs:List V},af F (bs.map D.bl) vs->vs=bs.map V.bl
 | [],vs,h=>by simp only[List.map_nil,af] at h;exact h
 | n :: r,vs,h=>by
  simp only[List.map_cons,af] at h
  obtain⟨v,t,rfl,h1,h2⟩:=h
  have h1:v = .bl n:=h1
  rw[Ed h2,h1];rfl
noncomputable def l6:List D->(D->Prop)->Prop
 | [.lst ds],K=>match pe ds with
  | some bs=>K (.bl (bs.all id))
  | none=>False
 | _,_=>False
noncomputable def qA:List D->(D->Prop)->Prop
 | [.int i,.int j],K=>K (.int (min i j))
 | _,_=>False
noncomputable def vZ:List D->(D->Prop)->Prop
 | [.int i,.int j],K=>K (.int (max i j))
 | _,_=>False
section
variable {X:Cx}
theorem cE {F H:Hp} {d:D} {xs:List V} (h:iZ F H [d] xs):∃ v,xs=[v]/\gD F H d v:=by
 obtain⟨v,r,rfl,h1,h2⟩:=h
 have h2:r=[]:=h2
 subst h2
 exact⟨v,rfl,h1⟩
theorem Ee {F H:Hp} {d e:D} {xs:List V} (h:iZ F H [d,e] xs):∃ v w,xs=[v,w]/\gD F H d v/\gD F H e w:=by
 obtain⟨v,r,rfl,h1,h2⟩:=h
 obtain⟨w,rfl,h3⟩:=cE h2
 exact⟨v,w,rfl,h1,h3⟩
theorem ie:c6 X (.builtin "len") cz:=by
 rintro pins s σ H xs us Q I r ⟨F,ds,K,sub,rd,q,md⟩
 unfold cz at q
 split at q
 ·obtain⟨v,rfl,a,vs,rfl,h1,h2⟩:=cE rd
  exact Cz pins s σ H _ us Q I r ⟨a,vs,rfl,.inl (aP.of h1),by rw[h2.length];exact md _ _ _ q (fun _ _ e=>e) rfl⟩
 ·rename_i es
  obtain⟨v,rfl,h⟩:=cE rd
  have h:Is F (.tup es) v:=h
  simp only[Is] at h
  obtain⟨a,vs,rfl,h1,h2⟩:=h
  exact Cz pins s σ H _ us Q I r ⟨a,vs,rfl,.inr (bw.of (sub _ _ h1)),by rw[h2.length];exact md _ _ _ q (fun _ _ e=>e) rfl⟩
 ·rename_i z
  obtain⟨v,rfl,h⟩:=cE rd
  have h:v = .str z:=h
  subst h
  exact Ju pins s σ H _ us Q I r ⟨z,rfl,jV q.1,md _ _ _ q.2 (fun _ _ e=>e) rfl⟩
 ·exact q.elim
theorem Mh:c6 X (.type "list") vX:=by
 rintro pins s σ H xs us Q I r ⟨F,ds,K,sub,rd,q,md⟩
 unfold vX at q
 split at q
 ·obtain⟨v,rfl,a,vs,rfl,h1,h2⟩:=cE rd
  exact yB pins s σ H _ us Q I r ⟨a,vs,rfl,.inl (aP.of h1),fun l hl=>md _ _ _ q (bW hl) (l5 sub hl h2)⟩
 ·rename_i es
  obtain⟨v,rfl,h⟩:=cE rd
  have h:Is F (.tup es) v:=h
  simp only[Is] at h
  obtain⟨a,vs,rfl,h1,h2⟩:=h
  exact yB pins s σ H _ us Q I r ⟨a,vs,rfl,.inr (bw.of (sub _ _ h1)),fun l hl=>md _ _ _ q (bW hl) (l5 sub hl h2)⟩
 ·exact q.elim
theorem Mi:c6 X (.type "tuple") vY:=by
 rintro pins s σ H xs us Q I r ⟨F,ds,K,sub,rd,q,md⟩
 unfold vY at q
 split at q
 ·obtain⟨v,rfl,a,vs,rfl,h1,h2⟩:=cE rd
  exact CA pins s σ H _ us Q I r ⟨a,vs,rfl,.inl ⟨aP.of h1,fun l hl=>md _ _ _ q (bW hl) (vP sub hl h2)⟩⟩
 ·rename_i es
  obtain⟨v,rfl,h⟩:=cE rd
  have h0:Is F (.tup es) v:=h
  have h:Is F (.tup es) v:=h
  simp only[Is] at h
  obtain⟨a,vs,rfl,h1,h2⟩:=h
  exact CA pins s σ H _ us Q I r ⟨a,vs,rfl,.inr ⟨bw.of (sub _ _ h1),md _ _ _ q (fun _ _ e=>e) (tY sub h0)⟩⟩
 ·exact q.elim
theorem Mj:c6 X (.builtin "sorted") t5:=by
 rintro pins s σ H xs us Q I r ⟨F,ds,K,sub,rd,q,md⟩
 unfold t5 at q
 split at q
 ·rename_i es
  split at q
  ·rename_i ns e
   obtain⟨v,rfl,a,vs,rfl,h1,h2⟩:=cE rd
   rw[qx e] at h2
   rw[o7 h2] at h1
   refine Ln pins s σ H _ us Q I r ⟨a,ns,rfl,aP.of h1,q.1,fun l dX pm pw hl => ?_⟩
   rw[vW pm pw]
   exact md _ _ _ q.2 (bW hl) (l5 sub hl o8)
  ·exact q.elim
 ·exact q.elim
theorem Ef (hc:X.calm=true):c6 X (.builtin "sum") i9:=by
 rintro pins s σ H xs us Q I r ⟨F,ds,K,sub,rd,q,md⟩
 unfold i9 at q
 split at q
 ·rename_i es
  split at q
  ·rename_i ns e
   obtain⟨v,rfl,a,vs,rfl,h1,h2⟩:=cE rd
   rw[qx e] at h2
   rw[o7 h2] at h1
   exact Lm hc pins s σ H _ us Q I r ⟨a,ns,rfl,aP.of h1,q.1.1,q.1.2,md _ _ _ q.2 (fun _ _ e=>e) rfl⟩
  ·exact q.elim
 ·exact q.elim
theorem Ml (hc:X.calm=true):c6 X (.builtin "all") l6:=by
 rintro pins s σ H xs us Q I r ⟨F,ds,K,sub,rd,q,md⟩
 unfold l6 at q
 split at q
 ·rename_i es
  split at q
  ·rename_i bs e
   obtain⟨v,rfl,a,vs,rfl,h1,h2⟩:=cE rd
   rw[Ec e] at h2
   rw[Ed h2] at h1
   exact Lk hc pins s σ H _ us Q I r ⟨a,bs,rfl,aP.of h1,md _ _ _ q (fun _ _ e=>e) rfl⟩
  ·exact q.elim
 ·exact q.elim
theorem zW (hc:X.calm=true):c6 X (.builtin "min") qA:=by
 rintro pins s σ H xs us Q I r ⟨F,ds,K,sub,rd,q,md⟩
 unfold qA at q
 split at q
 ·rename_i i j
  obtain⟨v,w,rfl,h1,h2⟩:=Ee rd
  have h1:v = .int i:=h1
  have h2:w = .int j:=h2
  subst h1 h2
  refine IC hc pins s σ H _ us Q I r ⟨i,j,rfl,?_⟩
  have:(if j < i then j else i)=min i j:=by split<;>omega
  rw[this]
  exact md _ _ _ q (fun _ _ e=>e) rfl
 ·exact q.elim
theorem Mm (hc:X.calm=true):c6 X (.builtin "max") vZ:=by
 rintro pins s σ H xs us Q I r ⟨F,ds,K,sub,rd,q,md⟩
 unfold vZ at q
 split at q
 ·rename_i i j
  obtain⟨v,w,rfl,h1,h2⟩:=Ee rd
  have h1:v = .int i:=h1
  have h2:w = .int j:=h2
  subst h1 h2
  refine IB hc pins s σ H _ us Q I r ⟨i,j,rfl,?_⟩
  have:(if j > i then j else i)=max i j:=by split<;>omega
  rw[this]
  exact md _ _ _ q (fun _ _ e=>e) rfl
 ·exact q.elim
noncomputable def t6 (fa:WA):WE:=fun δ K=>fa δ fun xs δ1=>match xs with
 | [.p (.int j)]=>(0 <= j/\j <= 1000)/\K (.p (.lst (bT 0 j.toNat))) δ1
 | _=>False
theorem pf (n:Nat):bT 0 n=(a0 n).map D.int:=by
 unfold bT a0
 rw[List.map_map]
 refine List.map_congr_left fun i _ => ?_
 show D.int (0 + (i:Int))=D.int (i:Int)
 rw[Int.zero_add]
theorem zX {a:Expr} {fa:WA} {p1 p2 q1 q2:Pos} (hc:X.calm=true) (ph:Gl X "list") (hl:X.mg "list" = none) (pj:bootBuiltins "list" = some (.type "list")) (pk:Gl X "range") (hr:X.mg "range" = none) (px:bootBuiltins "range" = some (.type "range")) (ha:JA X [a] (bZ fa))
  (he:starEach [a] X.env=[(false,eval a X.env)]:=by rfl) (pA:starEach [.Call (.Name "range" p2) [a] [] q2] X.env=[(false,eval (.Call (.Name "range" p2) [a] [] q2) X.env)]:=by rfl):JE X (.Call (.Name "list" p1) [.Call (.Name "range" p2) [a] [] q2] [] q1) (tD (t6 fa)) :=
 (lJ (Ds hc) ph hl pj (h_ (lJ Dq pk hr px ha (he:=he)) aV) (he:=pA)).weak fun σ H Q h0_ => el7 h0_ fun F ad δ K S q k =>⟨F,ad,δ,_,S,q,fun xs δ1 h1 vs F1 aL H1 E1 S1 V1=>by
  split at h1
  ·rename_i j
   obtain⟨v,r,e,W1,W2⟩:=V1
   have W2:r=[]:=W2
   have W1:v = .int j:=W1
   subst W2 W1 e
   refine⟨j,rfl,fun rr zY=>⟨rr,j.toNat,rfl,by rw[bF,Int.toNat_of_nonneg h1.1.1],by omega,fun l hl => ?_⟩⟩
   have s1:aw H1 (upd H1 rr (.rng 0 j)):=bW zY
   have S2:=S1.al s1
   have E2:=Ext.al S1 s1
   refine k _ _ h1.2 _ _ _ _ ((E1.trans E2).trans (Ext.al S2 (bW hl))) (S2.al (bW hl)) ?_
   have:Is (Nw (Nw F1 H1 (upd H1 rr (.rng 0 j))) (upd H1 rr (.rng 0 j)) (upd (upd H1 rr (.rng 0 j)) l (.lst ((a0 j.toNat).map V.int)))) (.lst ((a0 j.toNat).map D.int)) (.ref l):=l5 S2.sub hl o8
   rw[pf]
   exact this
  ·exact h1.elim⟩
noncomputable def cb (T:String):D->(D->Prop)->Prop:=fun d K=>K (.bl (aH (bU d) T))
theorem gY {T:String} {t:Str} {a:Expr} {f:WE} {p p2 pos:Pos} (hk:∀ d:D,PySem.W.kitOne X.K (.type (bU d)) (.type T)=some (aH (bU d) T)) (hg:Gl X "isinstance") (hm:X.mg "isinstance" = none) (Mn:Gl X t) (Mo:X.mg t=none) (Mp:bootBuiltins t=some (.type T)) (ha:JE X a (tD f))
  (sP:t ≠ "__name__" := by decide) (jR:(t == ("__debug__" : Str))=false:=by decide) (he:starEach [a,.Name t p2] X.env=(false,eval a X.env) :: starEach [.Name t p2] X.env:=by rfl):JE X (.Call (.Name "isinstance" p) [a,.Name t p2] [] pos) (tD (d1 f (cb T))) :=
 (vk Kr hg hm PyProof.Rows.boot_isinstance (oK ha (h9 (KN Mn Mo Mp (v := .ty T) rfl sP jR) aV) he) (he:=he)).weak fun σ H Q h0_ => el7 h0_ fun F ad δ K S q k =>⟨F,ad,δ,_,S,q,fun x δ1 h1 v F1 aL H1 E1 S1 V1=>by
  obtain⟨d,h2,rd⟩:=iX S1 V1 h1
  refine⟨v,.ty T,.type T,.type (bU d),_,rfl,rfl,Is.ty (rd.is S1.sub),hk d,k _ _ h2 _ _ _ _ E1 S1 rfl⟩⟩
theorem zZ {K:PySem.W.Frag}:∀ d:D,PySem.W.kitOne K (.type (bU d)) (.type "int")=some (aH (bU d) "int"):=fun d=>Kt _ (sU d)
theorem t7 {K:PySem.W.Frag}:∀ d:D,PySem.W.kitOne K (.type (bU d)) (.type "bool")=some (aH (bU d) "bool"):=fun d=>Ks _ (sU d)
theorem Eg {K:PySem.W.Frag}:∀ d:D,PySem.W.kitOne K (.type (bU d)) (.type "str")=some (aH (bU d) "str"):=fun d=>Ku _ (sU d)
theorem v3 {K:PySem.W.Frag}:∀ d:D,PySem.W.kitOne K (.type (bU d)) (.type "tuple")=some (aH (bU d) "tuple"):=fun d=>kit_tuple _ (sU d)
theorem z3 {K:PySem.W.Frag}:∀ d:D,PySem.W.kitOne K (.type (bU d)) (.type "list")=some (aH (bU d) "list"):=fun d=>Kv _ (sU d)
noncomputable def fT (x:DV) (δ : av) (K:Nat->List D->Prop):Prop:=match x with
 | .o k=>match δ.mu[k]? with
  | some (some (.lst ds))=>K k ds
  | _=>False
 | _=>False
theorem pB {F H:Hp} {ad:List Addr} {δ : av} {σ : St} {x:DV} {v:V} {K:Nat->List D->Prop} (S:SR F ad δ σ H) (V1:fX F ad x v) (h:fT x δ K):∃ k ds a vs,x = .o k/\K k ds/\v = .ref a/\ad[k]? = some a/\H a=some (.lst vs)/\af F ds vs /\ δ.mu[k]? = some (some (.lst ds)):=by
 unfold fT at h
 split at h
 ·rename_i k
  split at h
  ·rename_i ds e
   obtain⟨a,e1,rfl⟩:=V1
   obtain⟨a',o,e2,e3,vs,rfl,h4⟩:=S.mu k _ e
   rw[e1] at e2;cases e2
   exact⟨k,ds,a,vs,rfl,h,rfl,e1,e3,h4,e⟩
  ·exact h.elim
 ·exact h.elim
noncomputable def l7 (f:WE) (fa:WA):WE:=fun δ K=>f δ fun x δ1=>fT x δ1 fun _ _=>fa δ1 fun ys δ2=>match ys with
 | [y]=>lN y δ2 fun d δ3=>fT x δ3 fun k ds=>ds.length < 1000/\K (.p .non) ⟨δ3.sl,δ3.mu.set k (some (.lst (ds ++ [d])))⟩
 | _=>False
theorem Eh {f:WE} {fa:WA} {K0:PySem.W.Frag}:∀ σ H Q,tD (l7 f fa) σ H Q->lF K0 "list" sF (tD f) (bZ fa) σ H Q:=fun σ H Q h0_ => el7 h0_ fun F ad δ K S q k =>⟨F,ad,δ,_,S,q,fun x δ1 h1 v F1 aL H1 E1 S1 V1=>by
 obtain⟨k0,Ei,a,vs,rfl,h2,rfl,e1,e2,i1,m1⟩:=pB S1 V1 h1
 refine⟨.inl ⟨rfl,vs,aP.of e2⟩,F1,aL,δ1,_,S1,h2,fun ys δ2 h3 us F2 cV H2 E2 S2 V2 => ?_⟩
 match ys,h3,V2 with
 | [y],g3,⟨u,r,e,W1,W2⟩ =>
  have W3:r=[]:=W2
  subst W3 e
  obtain⟨d,δ3,F3,h4,E3,S3,i3⟩:=tI S2 W1 g3
  obtain⟨k1,ds,b,ws,ek,h5,eb,e3,e4,i4,m4⟩:=pB (x := .o k0) S3 ((V1.ext E2).ext E3) h4
  cases ek
  have t8:a=b:=by injection eb
  subst t8
  have oi:fD F3 (.lst (ds ++ [d])) (.lst (ws ++ [u])):=⟨_,rfl,i4.snoc i3⟩
  refine⟨a,ws,u,rfl,rfl,e4,ji (by rw[i4.length];omega),?_⟩
  exact k _ _ h5.2 _ _ _ _ (((E1.trans E2).trans E3).trans (Ext.put S3 m4 e3)) (S3.put m4 e3 oi) rfl
 | [],g3,_=>exact g3.elim
 | _ :: _ :: _,g3,_=>exact g3.elim⟩
noncomputable def pC (f:WE) (fa:WA):WE:=fun δ K=>f δ fun x δ1=>fT x δ1 fun _ _=>fa δ1 fun ys δ2=>match ys with
 | [.p (.lst es)]=>fT x δ2 fun k ds=>ds.length + es.length <= 1000/\K (.p .non) ⟨δ2.sl,δ2.mu.set k (some (.lst (ds ++ es)))⟩
 | _=>False
theorem Mq {f:WE} {fa:WA} {K0:PySem.W.Frag}:∀ σ H Q,tD (pC f fa) σ H Q->lF K0 "list" CF (tD f) (bZ fa) σ H Q:=fun σ H Q h0_ => el7 h0_ fun F ad δ K S q k =>⟨F,ad,δ,_,S,q,fun x δ1 h1 v F1 aL H1 E1 S1 V1=>by
 obtain⟨k0,Ei,a,vs,rfl,h2,rfl,e1,e2,i1,m1⟩:=pB S1 V1 h1
 refine⟨.inl ⟨rfl,vs,aP.of e2⟩,F1,aL,δ1,_,S1,h2,fun ys δ2 h3 us F2 cV H2 E2 S2 V2 => ?_⟩
 split at h3
 ·rename_i es
  obtain⟨u,r,e,W1,W2⟩:=V2
  have W3:r=[]:=W2
  have W4:Is F2 (.lst es) u:=W1
  simp only[Is] at W4
  obtain⟨b,zs,rfl,z1,z2⟩:=W4
  subst W3 e
  obtain⟨k1,ds,b',ws,ek,h5,eb,e3,e4,i4,m4⟩:=pB (x := .o k0) S2 (V1.ext E2) h3
  cases ek
  have t8:a=b':=by injection eb
  subst t8
  have oi:fD F2 (.lst (ds ++ es)) (.lst (ws ++ zs)):=⟨_,rfl,qy i4 z2⟩
  refine⟨a,b,ws,zs,rfl,rfl,e4,S2.sub _ _ z1,jV (by rw[i4.length,z2.length];exact h5.1),?_⟩
  exact k _ _ h5.2 _ _ _ _ ((E1.trans E2).trans (Ext.put S2 m4 e3)) (S2.put m4 e3 oi) rfl
 ·exact h3.elim⟩
noncomputable def v5 (f:WE) (fa:WA):WE:=fun δ K=>f δ fun x δ1=>fT x δ1 fun _ _=>fa δ1 fun ys δ2=>match ys with
 | [.p (.int i)]=>fT x δ2 fun k ds=>(-(2 ^ 63) <= i/\i < 2 ^ 63)/\match seqIndex? i ds.length with
  | some j=>match ds[j]? with
   | some d=>K (.p d) ⟨δ2.sl,δ2.mu.set k (some (.lst (ds.eraseIdx j)))⟩
   | none=>False
  | none=>False
 | _=>False
theorem Ej {f:WE} {fa:WA} {K0:PySem.W.Frag}:∀ σ H Q,tD (v5 f fa) σ H Q->lF K0 "list" CG (tD f) (bZ fa) σ H Q:=fun σ H Q h0_ => el7 h0_ fun F ad δ K S q k =>⟨F,ad,δ,_,S,q,fun x δ1 h1 v F1 aL H1 E1 S1 V1=>by
 obtain⟨k0,Ei,a,vs,rfl,h2,rfl,e1,e2,i1,m1⟩:=pB S1 V1 h1
 refine⟨.inl ⟨rfl,vs,aP.of e2⟩,F1,aL,δ1,_,S1,h2,fun ys δ2 h3 us F2 cV H2 E2 S2 V2 => ?_⟩
 split at h3
 ·rename_i i
  obtain⟨u,r,e,W1,W2⟩:=V2
  have W3:r=[]:=W2
  have W4:u = .int i:=W1
  subst W3 W4 e
  obtain⟨k1,ds,b',ws,ek,⟨h5,h6⟩,eb,e3,e4,i4,m4⟩:=pB (x := .o k0) S2 (V1.ext E2) h3
  cases ek
  have t8:a=b':=by injection eb
  subst t8
  split at h6
  ·rename_i j hj
   split at h6
   ·rename_i d hd
    obtain⟨w,g1,g2⟩:=nh i4 hd
    have oi:fD F2 (.lst (ds.eraseIdx j)) (.lst (ws.eraseIdx j)):=⟨_,rfl,D1 j i4⟩
    refine⟨a,ws,i,j,w,rfl,rfl,e4,h5.1,h5.2,by rw[i4.length];exact hj,g1,?_⟩
    exact k _ _ h6 _ _ _ _ ((E1.trans E2).trans (Ext.put S2 m4 e3)) (S2.put m4 e3 oi) g2
   ·exact h6.elim
  ·exact h6.elim
 ·exact h3.elim⟩
noncomputable def pD (f fo fi:WE):WS:=fun K δ => f δ fun x δ1=>fo δ1 fun o δ2=>fi δ2 fun i δ3=>lN x δ3 fun d δ4=>fT o δ4 fun k ds=>match i with
 | .p (.int j)=>match iy ds.length j with
  | some m=>K.nx ⟨δ4.sl,δ4.mu.set k (some (.lst (ds.set m d)))⟩
  | none=>False
 | _=>False
theorem v7 {f fo fi:WE}:∀ D σ H,d_ (pD f fo fi) D σ H->eS (tD f) (n9 (tD fo) (tD fi) Cy) D σ H:=fun D σ H h0_ => el7 h0_ fun F ad δ K S q k =>⟨F,ad,δ,_,S,q,fun x δ1 h1 v F1 aL H1 E1 S1 V1=>⟨F1,aL,δ1,_,S1,h1,fun o δ2 h2 ov F2 cV H2 E2 S2 V2=>⟨F2,cV,δ2,_,S2,h2,fun i δ3 h3 iv F3 lV H3 E3 S3 V3=>by
 obtain⟨d,δ4,F4,h4,E4,S4,i4⟩:=tI S3 ((V1.ext E2).ext E3) h3
 obtain⟨k0,ds,a,vs,rfl,h5,rfl,e1,e2,i1,m1⟩:=pB S4 ((V2.ext E3).ext E4) h4
 split at h5
 ·rename_i j
  split at h5
  ·rename_i m hm
   have V3:iv = .int j:=V3
   subst V3
   have oi:fD F4 (.lst (ds.set m d)) (.lst (vs.set m v)):=⟨_,rfl,D0 m i1 i4⟩
   refine⟨a,vs,j,m,rfl,rfl,e2,by rw[i1.length];exact hm,?_⟩
   exact k.nx _ h5 _ _ _ _ ((((E1.trans E2).trans E3).trans E4).trans (Ext.put S4 m1 e1)) (S4.put m1 e1 oi)
  ·exact h5.elim
 ·exact h5.elim⟩⟩⟩
end
end L2
namespace L2
open PySem PySem.Spec PyProof.Rows PySem.W
noncomputable abbrev LK:=List Int
noncomputable def kle (a b:LK):Prop:=HT.lexLt b a=false
section
variable {n:Nat} {k:Nat->LK} {I:Shared->Prop} {cmp:Nat->Nat->(Bool->Shared->Prop)->Shared->Prop}
end
end L2
namespace L2
open PySem PySem.Spec PyProof.Rows
theorem Ek {δ0:av} {a9:av->Prop} {g:WG} {b:WS} {K:KS} (I:Nat->av->Prop):∀ (items:List D) (i:Nat) (δ : av),I i δ →
  (∀ j d δ (L:av->Prop),items[j]? = some d->I (i + j) δ -> (∀ δ',I (i + j + 1) δ'->L δ')->a9 δ /\ g (.p d) δ fun δ1=>b { nx:=fun δ2=>L (δ0.trim δ2),ct:=fun δ2=>L (δ0.trim δ2),bk:=K.nx,rt:=K.rt } δ1) →
  (∀ δ,I (i + items.length) δ -> a9 δ /\ K.nx δ)->jo δ0 a9 g b K items δ
 | [],i,δ,h,_,fin=>fin δ h
 | d :: r,i,δ,h,st,fin=>by
  unfold jo
  refine st 0 d δ (fun δ'=>jo δ0 a9 g b K r δ') rfl h fun δ' hi => ?_
  refine Ek I r (i + 1) _ hi (fun j e δ L hj hI hL => ?_) fun δ hI => ?_
  ·have e:i + 1 + j=i + (j + 1):=by omega
   rw[e] at hI hL
   exact st (j + 1) _ δ L (by simpa using hj) hI hL
  ·exact fin δ (by rw[List.length_cons];have e:i + 1 + r.length=i + (r.length + 1):=by omega
                   rw[e] at hI;exact hI)
theorem l8 {δ0:av} {a9:av->Prop} {g:WG} {b:WS} {K:KS} {items:List D} {δ : av} (I:Nat->av->Prop) (h0:I 0 δ)
  (st:∀ j d δ (L:av->Prop),items[j]? = some d->I j δ -> (∀ δ',I (j + 1) δ'->L δ')->a9 δ /\ g (.p d) δ fun δ1=>b { nx:=fun δ2=>L (δ0.trim δ2),ct:=fun δ2=>L (δ0.trim δ2),bk:=K.nx,rt:=K.rt } δ1)
  (fin:∀ δ,I items.length δ -> a9 δ /\ K.nx δ):jo δ0 a9 g b K items δ :=
 Ek I items 0 δ h0 (fun j d δ L hj hI hL=>by rw[Nat.zero_add] at hI hL;exact st j d δ L hj hI hL) fun δ hI=>by rw[Nat.zero_add] at hI;exact fin δ hI
noncomputable def t9 (δ0:av) (a9:av->Prop) (g:WG) (t:WT) (f:WE) (d:D) (acc:List D) (δ : av) (L:List D->av->Prop):Prop :=
 a9 δ /\ g (.p d) δ fun δ1=>t δ1 fun b δ2=>if b=true then f δ2 fun x δ3=>lN x δ3 fun e δ4=>acc.length < 1000/\L (acc ++ [e]) (δ0.trim δ4) else L acc (δ0.trim δ2)
theorem El {δ0:av} {a9:av->Prop} {g:WG} {t:WT} {f:WE} {K:List D->av->Prop} (I:Nat->List D->av->Prop):∀ (items:List D) (i:Nat) (acc:List D) (δ : av),I i acc δ →
  (∀ j d acc δ (L:List D->av->Prop),items[j]? = some d->I (i + j) acc δ -> (∀ d5 δ',I (i + j + 1) d5 δ'->L d5 δ')->t9 δ0 a9 g t f d acc δ L) →
  (∀ acc δ,I (i + items.length) acc δ -> a9 δ /\ K acc δ)->iE δ0 a9 g t f K items acc δ
 | [],i,acc,δ,h,_,fin=>fin acc δ h
 | d :: r,i,acc,δ,h,st,fin=>by
  unfold iE
  refine st 0 d acc δ (fun d5 δ'=>iE δ0 a9 g t f K r d5 δ') rfl h fun d5 δ' hi => ?_
  refine El I r (i + 1) d5 _ hi (fun j e acc δ L hj hI hL => ?_) fun acc δ hI => ?_
  ·have e:i + 1 + j=i + (j + 1):=by omega
   rw[e] at hI hL
   exact st (j + 1) _ acc δ L (by simpa using hj) hI hL
  ·exact fin acc δ (by rw[List.length_cons];have e:i + 1 + r.length=i + (r.length + 1):=by omega
                       rw[e] at hI;exact hI)
theorem z4 {δ0:av} {a9:av->Prop} {g:WG} {t:WT} {f:WE} {K:List D->av->Prop} {items:List D} {δ : av} (I:Nat->List D->av->Prop) (h0:I 0 [] δ)
  (st:∀ j d acc δ (L:List D->av->Prop),items[j]? = some d->I j acc δ -> (∀ d5 δ',I (j + 1) d5 δ'->L d5 δ')->t9 δ0 a9 g t f d acc δ L)
  (fin:∀ acc δ,I items.length acc δ -> a9 δ /\ K acc δ):iE δ0 a9 g t f K items [] δ :=
 El I items 0 [] δ h0 (fun j d acc δ L hj hI hL=>by rw[Nat.zero_add] at hI hL;exact st j d acc δ L hj hI hL) fun acc δ hI=>by rw[Nat.zero_add] at hI;exact fin acc δ hI
theorem z5 {δ0:av} {a9:av->Prop} {g:WG} {t:WT} {f:WE} {K:List D->av->Prop} {items:List D} (p:D->Bool) (fn:D->D) (hl:items.length <= 1000) (hc:a9 δ0)
  (st:∀ d∈items,∀ acc (L:List D->av->Prop),acc.length < 1000->(p d=true->L (acc ++ [fn d]) δ0)->(p d=false->L acc δ0)->t9 δ0 a9 g t f d acc δ0 L)
  (fin:K ((items.filter p).map fn) δ0):iE δ0 a9 g t f K items [] δ0:=by
 refine z4 (fun i acc δ => δ = δ0/\acc=((items.take i).filter p).map fn) ⟨rfl,rfl⟩ ?_ ?_
 ·rintro j d acc δ L hj ⟨rfl,rfl⟩ hL
  have c_:=(List.getElem?_eq_some_iff.mp hj).1
  have hm:d∈items:=List.mem_of_getElem? hj
  have hn:(((items.take j).filter p).map fn).length < 1000:=by
   rw[List.length_map]
   have:=List.length_filter_le p (items.take j)
   rw[List.length_take] at this;omega
  have e:items.take (j + 1)=items.take j ++ [d]:=by rw[List.take_succ,hj];rfl
  refine st d hm _ L hn (fun q=>hL _ _ ⟨rfl,?_⟩) (fun q=>hL _ _ ⟨rfl,?_⟩)
  ·rw[e,List.filter_append,List.map_append];simp[List.filter,q]
  ·rw[e,List.filter_append,List.map_append];simp[List.filter,q]
 ·rintro acc δ ⟨rfl,rfl⟩
  rw[List.take_of_length_le (Nat.le_refl _)]
  exact⟨hc,fin⟩
theorem jx {δ0:av} {a9:av->Prop} {g:WG} {t:WT} {f:WE} {K:List D->av->Prop} {items:List D} (fn:D->D) (hl:items.length <= 1000) (hc:a9 δ0)
  (st:∀ d∈items,∀ acc (L:List D->av->Prop),acc.length < 1000->L (acc ++ [fn d]) δ0->t9 δ0 a9 g t f d acc δ0 L)
  (fin:K (items.map fn) δ0):iE δ0 a9 g t f K items [] δ0 :=
 z5 (fun _=>true) fn hl hc (fun d hd acc L ha h _=>st d hd acc L ha (h rfl)) (by rw[List.filter_eq_self.mpr fun _ _=>rfl];exact fin)
end L2
namespace LJ
open PySem L2
theorem v8:bootBuiltins "range" = some (.type "range"):=by decide +kernel
theorem Em:bootBuiltins "sum" = some (.builtin "sum"):=by decide +kernel
theorem Mr:bootBuiltins "max" = some (.builtin "max"):=by decide +kernel
theorem z6:bootBuiltins "min" = some (.builtin "min"):=by decide +kernel
theorem En:bootBuiltins "sorted" = some (.builtin "sorted"):=by decide +kernel
structure BT (mg:Str->Option Value):Prop where
 len:mg "len" = none
 range:mg "range" = none
 list:mg "list" = none
 tuple:mg "tuple" = none
 set:mg "set" = none
 sorted:mg "sorted" = none
 min:mg "min" = none
 max:mg "max" = none
 sum:mg "sum" = none
 all:mg "all" = none
 any:mg "any" = none
 enumerate:mg "enumerate" = none
 zip:mg "zip" = none
 isinstance:mg "isinstance" = none
 int:mg "int" = none
 bool:mg "bool" = none
 str:mg "str" = none
end LJ
namespace L2
open PySem PySem.Spec PyProof.Rows
variable [aQ]
section
variable {X:Cx} {fa:WA} {pos:Pos}
theorem Eo {F H:Hp} {ad:List Addr} {δ : av} {σ : St} {p:Addr} (S:SR F ad δ σ H):fX F (ad ++ [p]) (.o δ.mu.length) (.ref p) :=
 ⟨p,by rw[<-S.cD,List.getElem?_append_right (Nat.le_refl _),Nat.sub_self];rfl,rfl⟩
noncomputable def z7 (fa:WA):WE:=fun δ K=>fa δ fun xs δ1=>match xs with
 | [.p (.int j)]=>(0 <= j/\j <= 1000)/\K (.o δ1.mu.length) ⟨δ1.sl,δ1.mu ++ [some (.lst (bT 0 j.toNat))]⟩
 | _=>False
theorem Ms {a:Expr} {p1 p2 q1 q2:Pos} (hc:X.calm=true) (ph:Gl X "list") (hl:X.mg "list" = none) (pj:bootBuiltins "list" = some (.type "list")) (pk:Gl X "range") (hr:X.mg "range" = none) (px:bootBuiltins "range" = some (.type "range")) (ha:JA X [a] (bZ fa))
  (he:starEach [a] X.env=[(false,eval a X.env)]:=by rfl) (pA:starEach [.Call (.Name "range" p2) [a] [] q2] X.env=[(false,eval (.Call (.Name "range" p2) [a] [] q2) X.env)]:=by rfl):JE X (.Call (.Name "list" p1) [.Call (.Name "range" p2) [a] [] q2] [] q1) (tD (z7 fa)) :=
 (lJ (Ds hc) ph hl pj (h_ (lJ Dq pk hr px ha (he:=he)) aV) (he:=pA)).weak fun σ H Q h0_ => el7 h0_ fun F ad δ K S q k =>⟨F,ad,δ,_,S,q,fun xs δ1 h1 vs F1 aL H1 E1 S1 V1=>by
  split at h1
  ·rename_i j
   obtain⟨v,r,e,W1,W2⟩:=V1
   have W2:r=[]:=W2
   have W1:v = .int j:=W1
   subst W2 W1 e
   refine⟨j,rfl,fun rr zY=>⟨rr,j.toNat,rfl,by rw[bF,Int.toNat_of_nonneg h1.1.1],by omega,fun l hl => ?_⟩⟩
   have s1:aw H1 (upd H1 rr (.rng 0 j)):=bW zY
   have S2:=S1.al s1
   have E2:=Ext.al S1 s1
   have oi:fD (Nw F1 H1 (upd H1 rr (.rng 0 j))) (.lst (bT 0 j.toNat)) (.lst ((a0 j.toNat).map V.int)):=⟨_,rfl,by rw[pf];exact o8⟩
   exact k _ _ h1.2 _ _ _ _ ((E1.trans E2).trans (Ext.own S2 hl)) (S2.own hl oi) (Eo S2)
  ·exact h1.elim⟩
noncomputable def z8 (f g:WE):WE:=fun δ K=>f δ fun x δ1=>g δ1 fun y δ2=>gE x δ2 fun d=>gE y δ2 fun e=>match d,e with
 | .lst a,.lst b=>a.length + b.length <= 1000/\K (.o δ2.mu.length) ⟨δ2.sl,δ2.mu ++ [some (.lst (a ++ b))]⟩
 | _,_=>False
theorem Mt {a b:Expr} {f g:WE} (ha:JE X a (tD f)) (hb:JE X b (tD g)):JE X (.BinOp a .Add b pos) (tD (z8 f g)) :=
 (tj CI ha hb).weak fun σ H Q h0_ => el7 h0_ fun F ad δ K S q k =>⟨F,ad,δ,_,S,q,fun x δ1 h1 v1 F1 aL H1 E1 S1 V1=>⟨F1,aL,δ1,_,S1,h1,fun y δ2 h2 v2 F2 cV H2 E2 S2 V2=>by
  obtain⟨d,h3,rd⟩:=iX S2 (V1.ext E2) h2
  obtain⟨e,h4,re⟩:=iX S2 V2 h3
  split at h4
  ·rename_i as bs
   obtain⟨a,us,rfl,g1,g2⟩:=rd
   obtain⟨b,ws,rfl,g3,g4⟩:=re
   have oi:fD F2 (.lst (as ++ bs)) (.lst (us ++ ws)):=⟨_,rfl,qy g2 g4⟩
   exact⟨a,b,us,ws,rfl,rfl,g1,g3,jV (by rw[g2.length,g4.length];exact h4.1),fun p hp=>k _ _ h4.2 _ _ _ _ ((E1.trans E2).trans (Ext.own S2 hp)) (S2.own hp oi) (Eo S2)⟩
  ·exact h4.elim⟩⟩
theorem z9 {st:Stmt}:JS X st (d_ tN):=⟨fun pins s D σ H I q=>by obtain⟨F,ad,δ,K,S,q,k⟩:=q;exact q.elim⟩
end
end L2
namespace LJS
open PySem PySem.SetTable PyProof.Rows
section
variable {prog:Program} {w:World} {A:Around} {S:Addr} {ks:List Int}
theorem iG:∀ {l:List (Int × Value)},(∀ e∈l,∃ k tk,e=(hashInt k,Value.int k tk))->IntsAre (l.map (·.2)) (l.map keyOf)
 | [],_ => .nil
 | e :: r,h=>by
  obtain⟨k,tk,rfl⟩:=h e List.mem_cons_self
  exact .cons k tk (iG fun e he=>h e (List.mem_cons_of_mem _ he))
theorem Mu {E:Value->Shared->Prop} {s:Shared} {Q:Value->Shared->Prop} (hh:A.handled=none) (hS:d4 s.heap S (gI w) ks) (hn:ks.length < 64)
  (h:∀ (h':Heap) (tk:Nat) (r:Addr) (out:Array Value) (dX:List Int) (e:Nat),(∀ b ob,s.heap.get? b=some ob->h'.get? b=some ob)->s.heap.objs.size <= r->h'.get? r=some (seqObj "list" out e)->IntsAre out.toList dX->dX.Perm ks->dX.Pairwise (· <= ·)->Q (.ref r) { s with heap:=h',toks:=tk }) :
  wpAny (model prog w) A (call (.builtin "sorted") [.ref S]) Q E s:=by
 obtain⟨o,es,ep,t,ho,hex,hd,T⟩:=hS
 have hsz:=T.num
 have lS:S < s.heap.objs.size:=Heap.lt_size ho
 refine Calls.call_function_entry kind_sorted plain_sorted entry_sorted (args_sorted1 _) ?_
 unfold Builtin.«sorted»
 refine wpAny_bind (m:=checkCount "sorted" 1 1 _) (wpAny_pure ?_)
 refine wpAny_bind (G9 (by simp[hh]) ho hex hd T (by omega) fun h1 mY qo le => ?_)
 have allI:∀ e∈(gC w S ep es).toList,∃ k tk,e=(hashInt k,Value.int k tk):=fun e he=>T.uW e ((xQ w S ep es).mem_iff.mp he)
 have hI:IntsAre ((gC w S ep es).toList.map (·.2)) ((gC w S ep es).toList.map keyOf):=iG allI
 have hP:((gC w S ep es).toList.map keyOf).Perm ks:=((xQ w S ep es).map keyOf).trans T.keys
 have hL:((gC w S ep es).toList.map (·.2)).length=ks.length:=by rw[List.length_map,Array.length_toList,uY,hsz]
 generalize (gC w S ep es).toList.map (·.2)=vs at hI hL ⊢
 generalize (gC w S ep es).toList.map keyOf=ns at hI hP
 refine wpAny_bind (wpAny_newList ?_)
 have rS:(h1.push (seqObj "list" vs.toArray 0)).get? h1.objs.size=some (seqObj "list" vs.toArray 0):=Heap.get?_push_size _ rfl
 refine wpAny_bind (wpAny_holding (wpAny_call_entry (s:={ s with heap:=h1.push (seqObj "list" vs.toArray 0),toks:=mY }) slot_list_sort ⟨_,rS,rfl⟩ entry_list_sort (list_sort_tree rS hI (by omega) fun out dX a1 a2 a3=>⟨_,rfl,?_⟩) (args_list_sort _)))
 obtain⟨e,he⟩:=sortedHeap_at (out:=out) rS
 refine wpAny_pure ⟨_,rfl,h _ _ _ out dX e (fun b ob eb => ?_) le he a1 (a2.trans hP) a3⟩
 have hb:b < h1.objs.size:=Heap.lt_size (qo b ob eb)
 show (sortedHeap (h1.push (seqObj "list" vs.toArray 0)) h1.objs.size vs out).get? b=some ob
 rw[sortedHeap_old (Nat.ne_of_lt hb) (by rw[size_push'];exact Nat.lt_succ_of_lt hb)]
 exact Heap.get?_push_of_some _ (qo b ob eb)
end
end LJS
namespace L2
open PySem PySem.Spec PyProof.Rows
noncomputable def t_ (led:Bool) (S:Addr) (ks:List Int):HO := .ext fun h=>LJS.d4 h S led ks
theorem Mv {P:Program} {w:World} {H:Hp} {h:Heap} {S:Addr} {led:Bool} {ks:List Int} (e:LJS.d4 h S led ks):aI P w H h S (t_ led S ks) :=
 ⟨e,let ⟨o,_,_,_,ho,_⟩:=e; ⟨o,ho⟩,fun h1 h2 e1 k=>LJS.xE e1 fun o eo=>k o eo⟩
noncomputable def j5 (ns:List Int):List Int:=LJS.jf ns ns.length
section
variable {X:Cx}
theorem Mw (hc:X.calm=true):fA X (.type "set") (fun xs H Q=>∃ (l:Addr) (ns:List Int),xs=[.ref l]/\aP X.K H l (ns.map V.int)/\ns.length <= 40/\∀ p,H p=none->Q (.ref p) (upd H p (t_ (LJS.gI X.w) p (j5 ns)))):=by
 intro pins s σ H xs us Q I r h
 obtain⟨l,ns,rfl,hq,BI,q⟩:=h
 obtain⟨u,rfl,rx⟩:=vals1 r
 cases rx
 obtain⟨ag,r',pl,_⟩:=I.list hq
 have hl:=r'.length
 rw[List.length_map] at hl
 refine LJS.GX ns (I.ok.hd hc) pl.isList (fun i v hv => ?_) (by rw[List.size_toArray];omega) fun h' tk se kp => ?_
 ·rw[List.getElem?_toArray] at hv
  have hi:=(List.getElem?_eq_some_iff.mp hv).1
  obtain⟨x,hx,rv⟩:=tX r' (j:=i) (by rw[List.size_toArray];exact hi)
  rw[show ag.toArray[i]'(by rw[List.size_toArray];exact hi)=v by simpa using (List.getElem?_eq_some_iff.mp hv).2] at rv
  rw[List.getElem?_map] at hx
  obtain⟨n,hn,rfl⟩:=Option.map_eq_some_iff.mp hx
  obtain⟨t,rfl⟩:=rv
  rw[List.getD_eq_getElem?_getD,hn]
  exact⟨t,rfl⟩
 ·have z_:LJS.d4 h' s.heap.objs.size (LJS.gI X.w) (j5 ns):=by
   have e:ag.toArray.size=ns.length:=by rw[List.size_toArray];omega
   rw[e] at se;exact se
  exact⟨.ref s.heap.objs.size,upd H s.heap.objs.size (t_ (LJS.gI X.w) s.heap.objs.size (j5 ns)),I.laid (t':=tk) (fun b o e=>kp b o (Heap.lt_size e) e) (Nat.le_refl _) (Mv z_),rfl,q _ (I.aJ.fresh (Nat.le_refl _))⟩
theorem Mx (hc:X.calm=true):fA X (.builtin "sorted") (fun xs H Q=>∃ (p:Addr) (ks:List Int),xs=[.ref p]/\H p=some (t_ (LJS.gI X.w) p ks)/\ks.length < 64/\∀ (r:Addr) (dX:List Int),dX.Perm ks->dX.Pairwise (· <= ·)->H r=none->Q (.ref r) (upd H r (.lst (dX.map V.int)))):=by
 intro pins s σ H xs us Q I r h
 obtain⟨p,ks,rfl,hp,hn,q⟩:=h
 obtain⟨u,rfl,rx⟩:=vals1 r
 cases rx
 obtain⟨se,_⟩:=I.aJ p _ hp
 refine LJS.Mu (I.ok.hd hc) se hn fun h' tk r out dX e kp le he hI pm pw => ?_
 refine⟨.ref r,_,I.laid (t':=tk) (o := .lst (dX.map V.int)) kp le ?_,rfl,q _ dX pm pw (I.aJ.fresh le)⟩
 refine⟨Nat.le_of_lt (ji (by rw[List.length_map,pm.length_eq];omega)),out.toList,e,zp hI,?_⟩
 simpa [seqObj] using he
end
end L2
namespace LJS
open PySem PySem.SetTable PyProof.Rows
noncomputable def fU (m:Nat) (p:Probe):Probe :=
 if p.more > 0 then { p with j:=p.j + 1,more:=p.more - 1 } else
 { p with j:=(leap m p.i p.perturb).1,more:=runEnd m (leap m p.i p.perturb).1 - (leap m p.i p.perturb).1,i:=(leap m p.i p.perturb).1,perturb:=(leap m p.i p.perturb).2 }
theorem Ep (t:SetTable) (p:Probe):t.advance p=fU t.mask p:=rfl
noncomputable def bE (m:Nat):Nat->Probe->Probe
 | 0,p=>p
 | k + 1,p=>bE m k (fU m p)
theorem v9 (m:Nat):∀ (a b:Nat) (p:Probe),bE m (a + b) p=bE m b (bE m a p)
 | 0,b,p=>by rw[Nat.zero_add];rfl
 | a + 1,b,p=>by rw[show a + 1 + b=a + b + 1 by omega];exact v9 m a b (fU m p)
noncomputable def stM (m i q:Nat):Probe:=⟨i,runEnd m i - i,i,q,none⟩
noncomputable def startM (m:Nat) (h:Int):Probe:=stM m (bits h % (m + 1)) (bits h)
theorem Aa (m:Nat):∀ (l:Nat) (p:Probe),l <= p.more->bE m l p={ p with j:=p.j + l,more:=p.more - l }
 | 0,p,_=>rfl
 | l + 1,p,h=>by
  show bE m l (fU m p)=_
  have e:fU m p={ p with j:=p.j + 1,more:=p.more - 1 }:=by unfold fU;rw[if_pos (by omega)]
  rw[e,Aa m l _ (by show l <= p.more - 1;omega)]
  congr 1<;>(dsimp only;omega)
theorem Er (m i q:Nat):bE m (runEnd m i - i + 1) (stM m i q)=stM m (leap m i q).1 (leap m i q).2:=by
 rw[v9 m (runEnd m i - i) 1,Aa m (runEnd m i - i) (stM m i q) (Nat.le_refl _)]
 show fU m _=_
 unfold fU
 rw[if_neg (by show ¬ (runEnd m i - i - (runEnd m i - i) > 0);omega)]
 rfl
theorem Es {m i:Nat} (h:i <= m):runEnd m i <= m/\i <= runEnd m i:=by unfold runEnd;split<;>omega
noncomputable def nk (m:Nat) (p:Probe):Prop:=p.j + p.more <= m
theorem Mz {m:Nat} {p:Probe} (h:nk m p):nk m (fU m p):=by
 unfold fU nk
 split
 ·rename_i c;have:p.j + p.more <= m:=h;dsimp only;omega
 ·have:=Es (Bj m p.i p.perturb)
  dsimp only;omega
theorem Et {m:Nat}:∀ (k:Nat) {p:Probe},nk m p->nk m (bE m k p)
 | 0,_,h=>h
 | k + 1,_,h=>Et k (Mz h)
theorem MA (m:Nat) (h:Int):nk m (startM m h):=by
 have h0:bits h % (m + 1) <= m:=Nat.le_of_lt_succ (Nat.mod_lt _ (Nat.succ_pos _))
 have:=Es h0
 unfold startM stM nk
 dsimp only;omega
theorem Eu (m:Nat) (h:Int) (k:Nat):(bE m k (startM m h)).j <= m:=by
 have:=Et k (MA m h)
 unfold nk at this;omega
noncomputable def nq (m:Nat) (v_:Nat->Prop) (h:Int) (j:Nat):Prop:=∃ k,k < 10 * turns m/\(bE m k (startM m h)).j=j/\∀ l,l < k->v_ (bE m l (startM m h)).j
theorem nq.mono {m:Nat} {v_ ua:Nat->Prop} {h:Int} {j:Nat} (r:nq m v_ h j) (k:∀ x,x <= m->v_ x->ua x):nq m ua h j:=by
 obtain⟨n,h1,h2,h3⟩:=r
 exact⟨n,h1,h2,fun l hl=>k _ (Eu m h l) (h3 l hl)⟩
theorem Ew {m:Nat} {owner:Array (Option Nat)}:∀ (F i q j:Nat),layClean.free m owner F i q=some j->∃ k,k < 10 * F/\(bE m k (stM m i q)).j=j/\∀ l,l < k->(owner.getD (bE m l (stM m i q)).j (some 0)).isSome=true
 | 0,i,q,j,h=>by unfold layClean.free at h;cases h
 | F + 1,i,q,j,h=>by
  rw[xq] at h
  have r9:=Bn m i
  have ri:i <= runEnd m i:=by unfold runEnd;split<;>omega
  have j6:∀ l,l <= runEnd m i - i->(bE m l (stM m i q)).j=i + l:=fun l hl=>by rw[Aa m l _ hl];rfl
  split at h
  ·rename_i k0 hk
   cases h
   have h1:=List.find?_some hk
   have h2:=List.mem_range.mp (List.mem_of_find?_eq_some hk)
   refine⟨k0,by omega,j6 k0 (by omega),fun l hl => ?_⟩
   rw[j6 l (by omega)]
   have h3:∀ l,l < k0->¬ (owner.getD (i + l) (some 0)).isNone=true:=by
    intro l hl hn
    obtain⟨as,bs,e,hb⟩:=List.find?_eq_some_iff_append.mp hk |>.2
    have hlen:as.length=k0:=by
     have:=congrArg (fun x=>x[as.length]?) e
     simp at this
     have h5:as.length < runEnd m i + 1 - i:=by
      have:=congrArg List.length e
      simp at this;omega
     rw[List.getElem?_range h5] at this
     exact Option.some.inj this
    have:l∈as:=by
     have h6:=congrArg (fun x=>x[l]?) e
     simp only[List.getElem?_append_left (show l < as.length by omega)] at h6
     rw[List.getElem?_range (by omega)] at h6
     exact List.mem_of_getElem? h6.symm
    have:=hb l this
    rw[hn] at this
    exact absurd this (by decide)
   have:=h3 l hl
   cases q:owner.getD (i + l) (some 0) with
   | none=>rw[q] at this;exact absurd rfl this
   | some _=>rfl
  ·rename_i hk
   have h1:=List.find?_eq_none.mp hk
   obtain⟨k,Vq,MB,MC⟩:=Ew F _ _ j h
   refine⟨runEnd m i - i + 1 + k,by omega,by rw[v9,Er];exact MB,fun l hl => ?_⟩
   by_cases c:l <= runEnd m i - i
   ·rw[j6 l c]
    have:=h1 l (List.mem_range.mpr (by omega))
    cases q:owner.getD (i + l) (some 0) with
    | none=>rw[q] at this;exact absurd rfl this
    | some _=>rfl
   ·have:=MC (l - (runEnd m i - i + 1)) (by omega)
    rw[show l=runEnd m i - i + 1 + (l - (runEnd m i - i + 1)) by omega,v9,Er]
    exact this
section
variable {t:SetTable} {f:Nat->Int} {h:Int}
theorem Ex (u:Up t.place) {i:Nat} (hi:i < t.place.size):t.slot t.place[i] = .live i:=by
 obtain⟨h0,h1,h2⟩:=pW u t.place[i]
 have a:¬ i < below t.place t.place[i]:=fun z=>by have:=h1 i hi z;omega
 have b:¬ below t.place t.place[i] < i:=fun z=>by
  have:=h2 (below t.place t.place[i]) (by omega) (Nat.le_refl _)
  have:=u.lt z hi
  omega
 have eb:below t.place t.place[i]=i:=by omega
 unfold slot
 rw[eb]
 have:(t.place[i]? == some t.place[i])=true:=by rw[Array.getElem?_eq_getElem hi];simp
 simp only[this,if_true]
theorem Ey (hd:t.dummies = #[]):∀ (F:Nat) (p:Probe) (j:Nat) (d:Option Nat),probe.go t f h F p=some (.empty j d)->∃ k,k < F/\(bE t.mask k p).j=j/\∀ l,l < k->(bE t.mask l p).j∈t.place.toList
 | 0,p,j,d,e=>by unfold probe.go at e;cases e
 | F + 1,p,j,d,e=>by
  rw[nK] at e
  rcases rE hd p.j with q | ⟨i,q,hi,hm⟩
  ·rw[q] at e
   cases e
   exact⟨0,Nat.succ_pos _,rfl,fun l hl=>absurd hl (Nat.not_lt_zero _)⟩
  ·rw[q] at e
   dsimp only at e
   split at e
   ·cases e
   ·obtain⟨k,h1,h2,h3⟩:=Ey hd F _ j d e
    rw[Ep] at h2 h3
    refine⟨k + 1,by omega,h2,fun l hl => ?_⟩
    cases l with
    | zero=>exact hm
    | succ l=>exact h3 l (by omega)
theorem Ez (hd:t.dummies = #[]) (u:Up t.place):∀ (k F:Nat) (p:Probe) (i0:Nat),k < F->t.slot (bE t.mask k p).j = .live i0->f i0=h->(∀ l,l < k->(bE t.mask l p).j∈t.place.toList)->∃ j i nx,probe.go t f h F p=some (.candidate j i nx)/\f i=h/\i < t.place.size
 | k,0,p,i0,hk,_,_,_=>absurd hk (Nat.not_lt_zero _)
 | 0,F + 1,p,i0,_,hs,hf,_=>by
  rw[nK,show t.slot p.j = .live i0 from hs]
  dsimp only
  rw[if_pos (by rw[hf];simp)]
  refine⟨_,_,_,rfl,hf,?_⟩
  rcases rE hd p.j with q | ⟨i,q,hi,_⟩
  ·rw[show t.slot p.j = .live i0 from hs] at q;cases q
  ·rw[show t.slot p.j = .live i0 from hs] at q;cases q;exact hi
 | k + 1,F + 1,p,i0,hk,hs,hf,ho=>by
  have hm:=ho 0 (Nat.succ_pos _)
  obtain⟨i,hi,ei⟩:=List.mem_iff_getElem.mp hm
  have fz:i < t.place.size:=by rw[<-Array.length_toList];exact hi
  have xy:t.place[i]=p.j:=by simpa [bE] using ei
  have sl:=Ex u fz
  rw[xy] at sl
  rw[nK,sl]
  dsimp only
  by_cases c:f i=h
  ·rw[if_pos (by rw[c];simp)]
   exact⟨_,_,_,rfl,c,fz⟩
  ·rw[if_neg (by simpa using c),Ep]
   exact Ez hd u k F _ i0 (by omega) hs hf fun l hl=>ho (l + 1) (by omega)
end
noncomputable def pE (owner:Array (Option Nat)) (j:Nat):Prop:=∃ k,owner[j]? = some (some k)
structure qB (m:Nat) (hs:List Int) (owner:Array (Option Nat)) (k:Nat):Prop where
 ow:Ow m owner k
 qC:∀ (j i:Nat),owner[j]? = some (some i)->∃ h,hs[i]? = some h/\nq m (pE owner) h j
theorem EA {owner:Array (Option Nat)} {j k x:Nat} (h:pE owner x):pE (owner.setIfInBounds j (some k)) x:=by
 obtain⟨i,e⟩:=h
 have hx:=(Array.getElem?_eq_some_iff.mp e).1
 by_cases c:j=x
 ·subst c
  exact⟨k,by rw[Array.getElem?_setIfInBounds];simp[hx]⟩
 ·exact⟨i,by rw[Array.getElem?_setIfInBounds];simp[c];exact e⟩
theorem MD {m:Nat} {hs:List Int} {owner:Array (Option Nat)} {k:Nat} (hm:Mk m) (O:qB m hs owner k) (hk:k <= m) {h:Int} (hh:hs[k]? = some h) :
  ∃ j,layClean.free m owner (turns m) (bits h % (m + 1)) (bits h)=some j/\qB m hs (owner.setIfInBounds j (some k)) (k + 1):=by
 obtain⟨j,ej,O'⟩:=Gx hm O.ow hk h
 refine⟨j,ej,O',fun x i e => ?_⟩
 rw[Array.getElem?_setIfInBounds] at e
 by_cases c:j=x
 ·subst c
  have ME:j < owner.size:=by
   by_cases z:j < owner.size
   ·exact z
   ·simp[z] at e
  simp[ME] at e
  subst e
  refine⟨h,hh,?_⟩
  obtain⟨n,n1,n2,n3⟩:=Ew _ _ _ _ ej
  refine⟨n,n1,n2,fun l hl=>EA ?_⟩
  have ib:=n3 l hl
  have le:=Eu m h l
  have c_:(bE m l (startM m h)).j < owner.size:=by rw[O.ow.size];omega
  have ub:(owner.getD (bE m l (startM m h)).j (some 0)).isSome=true:=ib
  rw[show owner.getD (bE m l (startM m h)).j (some 0)=owner[(bE m l (startM m h)).j] by simp[Array.getD,c_]] at ub
  obtain⟨v,hv⟩:=Option.isSome_iff_exists.mp ub
  exact⟨v,by rw[Array.getElem?_eq_getElem c_,hv]⟩
 ·simp[c] at e
  obtain⟨h',e1,e2⟩:=O.qC x i e
  exact⟨h',e1,e2.mono fun y _ hy=>EA hy⟩
theorem EB {m:Nat} (hm:Mk m) {all:List Int}:∀ (hs:List Int) (owner:Array (Option Nat)) (k:Nat),qB m all owner k->all.drop k=hs->k + hs.length <= m + 1 →
  ∃ aK,(hs.foldl (init:=some (owner,k)) fun acc h=>do
   let (owner,k) <- acc
   let j <- layClean.free m owner (turns m) (bits h % (m + 1)) (bits h)
   pure (owner.setIfInBounds j (some k),k + 1))=some (aK,k + hs.length)/\qB m all aK (k + hs.length)
 | [],owner,k,O,_,_=>⟨owner,rfl,O⟩
 | h :: hs,owner,k,O,hd,hl=>by
  rw[List.length_cons] at hl ⊢
  have hk:k < all.length:=by
   have:=congrArg List.length hd
   rw[List.length_drop,List.length_cons] at this;omega
  rw[List.drop_eq_getElem_cons hk] at hd
  have hh:all[k]? = some h:=by rw[List.getElem?_eq_getElem hk];exact congrArg some (List.cons.inj hd).1
  obtain⟨j,ej,O'⟩:=MD hm O (by omega) hh
  obtain⟨o2,e2,O2⟩:=EB hm hs _ (k + 1) O' (List.cons.inj hd).2 (by omega)
  refine⟨o2,?_,by rw[show k + (hs.length + 1)=k + 1 + hs.length by omega];exact O2⟩
  rw[List.foldl_cons,show k + (hs.length + 1)=k + 1 + hs.length by omega,<-e2]
  congr 1
  show (do let j <- layClean.free m owner (turns m) (bits h % (m + 1)) (bits h);pure (owner.setIfInBounds j (some k),k + 1))=_
  rw[ej];rfl
theorem MF (m:Nat) (hs:List Int):qB m hs (Array.replicate (m + 1) none) 0:=by
 refine⟨Bs m,fun j i e => ?_⟩
 rw[Array.getElem?_replicate] at e
 split at e<;>cases e
theorem MG {m:Nat} (hm:Mk m) (hs:Array Int) (hz:hs.size <= m + 1):∃ owner,layClean m hs=some owner/\qB m hs.toList owner hs.size:=by
 obtain⟨o,e,O⟩:=EB hm hs.toList _ 0 (MF m hs.toList) rfl (by rw[Array.length_toList];omega)
 rw[Nat.zero_add,Array.length_toList] at O
 refine⟨o,?_,O⟩
 unfold layClean
 rw[<-Array.foldl_toList,e];rfl
theorem MH {m:Nat} (hm:Mk m) (t:SetTable) (hs:Array Int) (wanted:Nat) (hw:sizeAbove wanted - 1=m) (hz:hs.size <= m + 1) :
  ∃ t' order,t.relaid hs wanted=some (t',order)/\t'.mask=m/\t'.dummies = #[]/\t'.place.size=hs.size/\Up t'.place/\order.size=hs.size/\order.toList.Perm (List.range hs.size) ∧
   ∀ (i j k:Nat),t'.place[i]? = some j->order[i]? = some k->∃ h,hs[k]? = some h/\nq m (· ∈ t'.place.toList) h j:=by
 obtain⟨owner,e,O⟩:=MG hm hs hz
 obtain⟨aK,e',_,OP⟩:=BB hm hs hz
 have:aK=owner:=Option.some.inj (e'.symm.trans e)
 subst this
 refine⟨{ mask:=m,place:=((gH m aK).map (·.1)).toArray,dummies := #[],finger:=t.finger,led:=t.led,moves:=t.movedTo m,plain:=t.plain },((gH m aK).map (·.2)).toArray,?_,rfl,rfl,?_,Bx m aK,?_,?_,fun i j k h1 h2 => ?_⟩
 ·unfold relaid laid
  rw[hw,e];rfl
 ·rw[List.size_toArray,List.length_map,xu O.ow]
 ·rw[List.size_toArray,List.length_map,xu O.ow]
 ·show ((gH m aK).map (·.2)).Perm _
  rw[BC O.ow.size]
  exact OP
 ·have h1:((gH m aK).map (·.1))[i]? = some j:=by simpa using h1
  have h2:((gH m aK).map (·.2))[i]? = some k:=by simpa using h2
  rw[List.getElem?_map] at h1 h2
  obtain⟨z,EC,rfl⟩:=Option.map_eq_some_iff.mp h1
  obtain⟨z',ED,rfl⟩:=Option.map_eq_some_iff.mp h2
  rw[EC] at ED;cases ED
  have zm:=List.mem_of_getElem? EC
  have own:∀ z∈gH m aK,aK[z.1]? = some (some z.2):=fun z hz=>by
   unfold gH at hz
   obtain⟨j',MI,MJ⟩:=List.mem_filterMap.mp hz
   obtain⟨k',wa,rfl⟩:=Option.map_eq_some_iff.mp MJ
   have:j' < aK.size:=by rw[O.ow.size];exact List.mem_range.mp MI
   rw[show aK.getD j' none=aK[j'] by simp[Array.getD,this]] at wa
   rw[Array.getElem?_eq_getElem this,wa]
  obtain⟨h,e1,e2⟩:=O.qC _ _ (own z zm)
  refine⟨h,by rw[<-Array.getElem?_toList];exact e1,e2.mono fun x hx MK => ?_⟩
  obtain⟨kx,EE⟩:=MK
  show x∈(gH m aK).map (·.1)
  refine List.mem_map.mpr ⟨(x,kx),?_,rfl⟩
  unfold gH
  refine List.mem_filterMap.mpr ⟨x,List.mem_range.mpr (by omega),?_⟩
  have ML:=(Array.getElem?_eq_some_iff.mp EE).1
  rw[show aK.getD x none=aK[x] by simp[Array.getD,ML],(Array.getElem?_eq_some_iff.mp EE).2];rfl
structure l9 (hk:Nat->Int) (ad:Nat->Addr) (t:SetTable) (es:Array (Int × Value)) (js:List Nat):Prop where
 P:fK t es (js.map hk)
 up:Up t.place
 lb:(js.map hk).Nodup
 el:∀ e∈es.toList,∃ j∈js,e=(hk j,Value.ref (ad j))
 all:∀ j∈js,∃ e∈es.toList,e.1=hk j
 qC:∀ (i:Nat) (e:Int × Value) (j:Nat),es[i]? = some e->t.place[i]? = some j->nq t.mask (· ∈ t.place.toList) e.1 j
noncomputable def gA (hk:Nat->Int) (ad:Nat->Addr) (h:Heap) (S:Addr) (js:List Nat):Prop:=∃ o es ep t,h.get? S=some o/\o.ExactSet/\o.data = .set es ep t/\l9 hk ad t es js
theorem EF {hk:Nat->Int} {ad:Nat->Addr} {h h':Heap} {S:Addr} {js:List Nat} (x:gA hk ad h S js) (k:∀ o,h.get? S=some o->h'.get? S=some o):gA hk ad h' S js:=by
 obtain⟨o,es,ep,t,ho,r⟩:=x
 exact⟨o,es,ep,t,k o ho,r⟩
theorem EG {α : Type} {xs:Array α} {p:Nat} {x : α} (hp:p <= xs.size) (i:Nat):(insertAt xs p x)[i]? = if i < p then xs[i]? else if i=p then some x else xs[i - 1]? := by
 have e:(insertAt xs p x).toList=xs.toList.take p ++ x :: xs.toList.drop p:=by
  unfold insertAt
  simp only[Array.toList_append,Array.toList_push,Array.toList_extract,List.extract_eq_take_drop,List.drop_zero,Nat.sub_zero,List.append_assoc,List.singleton_append]
  rw[List.take_of_length_le (l:=xs.toList.drop p) (by rw[List.length_drop,Array.length_toList];exact Nat.le_refl _)]
 rw[<-Array.getElem?_toList,e]
 have hl:(xs.toList.take p).length=p:=by rw[List.length_take,Array.length_toList];omega
 by_cases c:i < p
 ·rw[if_pos c,List.getElem?_append_left (by omega),List.getElem?_take_of_lt c,Array.getElem?_toList]
 ·rw[if_neg c,List.getElem?_append_right (by omega),hl]
  by_cases c2:i=p
  ·rw[if_pos c2,c2,Nat.sub_self];rfl
  ·rw[if_neg c2]
   obtain⟨d,rfl⟩:∃ d,i=p + 1 + d:=⟨i - p - 1,by omega⟩
   rw[show p + 1 + d - p=d + 1 by omega,List.getElem?_cons_succ,List.getElem?_drop,Array.getElem?_toList]
   congr 1
   omega
theorem MM {α : Type} {es:Array α} {order:Array Nat} (h:∀ k∈order.toList,k < es.size) (i:Nat):(order.filterMap (es[·]?))[i]? = (order[i]?).bind fun k=>es[k]? := by
 have:∀ l:List Nat,(∀ k∈l,k < es.size)->∀ i:Nat,(l.filterMap fun k=>es[k]?)[i]? = (l[i]?).bind fun k=>es[k]? := by
  intro l
  induction l with
  | nil=>intro _ i;simp
  | cons k r ih =>
   intro hk i
   have vN:=hk k List.mem_cons_self
   rw[List.filterMap_cons]
   rw[Array.getElem?_eq_getElem vN]
   dsimp only
   cases i with
   | zero=>simp[Array.getElem?_eq_getElem vN]
   | succ i=>simpa using ih (fun k' oY=>hk k' (List.mem_cons_of_mem _ oY)) i
 have e:=this order.toList h i
 rw[<-Array.getElem?_toList,Array.toList_filterMap,e,Array.getElem?_toList]
section
variable {hk:Nat->Int} {ad:Nat->Addr} {t:SetTable} {es:Array (Int × Value)} {js:List Nat}
theorem l9.found (T:l9 hk ad t es js) {h:Int} (hm:h∈js.map hk):∃ j i nx,t.probe (fun i=>(es[i]?.map (·.1)).getD 0) h (t.probeStart h)=some (.candidate j i nx)/\∃ e,es[i]? = some e/\e.1=h:=by
 obtain⟨j,hj,rfl⟩:=List.mem_map.mp hm
 obtain⟨e,he,e1⟩:=T.all j hj
 obtain⟨i,hi,ei⟩:=List.mem_iff_getElem.mp he
 have fz:i < es.size:=by rw[<-Array.length_toList];exact hi
 have ee:es[i]? = some e:=by rw[Array.getElem?_eq_getElem fz];exact congrArg some (by simpa using ei)
 have hp:i < t.place.size:=by rw[T.P.gB];exact fz
 have r:=T.qC i e _ ee (Array.getElem?_eq_getElem hp)
 rw[e1] at r
 obtain⟨k,k1,k2,k3⟩:=r
 have sl:=Ex T.up hp
 obtain⟨j',i',nx,h1,h2,h3⟩:=Ez (t:=t) (f:=fun i=>(es[i]?.map (·.1)).getD 0) (h:=hk j) T.P.kB T.up k (10 * turns t.mask) (startM t.mask (hk j)) i k1 (by rw[k2];exact sl) (by rw[ee];exact e1) k3
 refine⟨j',i',nx,h1,?_⟩
 have c_:i' < es.size:=by rw[<-T.P.gB];exact h3
 exact⟨es[i'],Array.getElem?_eq_getElem c_,by have:=h2;rw[Array.getElem?_eq_getElem c_] at this;exact this⟩
end
section
variable {prog:Program} {w:World} {A:Around} {E:Value->Shared->Prop} {s:Shared} {ad:Nat->Addr} {ks:Nat->List Int} {js:List Nat} {S:Addr}
noncomputable abbrev aB (prog:Program) (w:World) (ks:Nat->List Int) (j:Nat):Int:=hT prog w (ks j)
theorem EH {k:List Int} {a:Addr} {Q:Bool->Shared->Prop} (hk:IsTupleKey (intKind prog w) s.heap k a) (h:Q false s):wpAny (model prog w) A (ofAClassStatement 8 (.ref a)) Q E s:=by
 have hT:=hk.typeIs
 obtain⟨o,ag,n,ho,_,hd,hi⟩:=hk
 show wpAny _ _ (ofAClassStatement (7 + 1) (.ref a)) _ _ _
 unfold ofAClassStatement
 refine wpAny_bind (wpAny_typeOf hT ?_)
 dsimp only
 refine wpAny_bind ?_
 refine wpAny_pure ?_
 simp only[Bool.not_true,Bool.false_eq_true,if_false]
 refine wpAny_bind (wpAny_seqItems ho hd ?_)
 dsimp only
 refine wpAny_bind ?_
 show wpAny _ _ (forIn ag _ _) _ _ s
 rw[<-Array.forIn_toList]
 refine wpAny_forIn_list _ (fun rest r s'=>s'=s/\r=(none,PUnit.unit)/\∀ v∈rest,∃ i t,v=Value.int i t) _ ?_ ?_ _ _ ⟨rfl,rfl,BH hi⟩
 ·rintro v rest r s' ⟨rfl,rfl,fL⟩
  obtain⟨i,t,rfl⟩:=fL v List.mem_cons_self
  have e:ofAClassStatement 7 (.int i t)=pure false:=by unfold ofAClassStatement;rfl
  rw[e]
  refine wpAny_bind (wpAny_pure ?_)
  simp only[Bool.false_eq_true,if_false]
  exact wpAny_pure ⟨rfl,rfl,fun u hu=>fL u (List.mem_cons_of_mem _ hu)⟩
 ·rintro r s' ⟨rfl,rfl,_⟩
  exact wpAny_pure h
theorem MN {k:List Int} {a:Addr} {Q:Bool->Shared->Prop} {stored:List Value} (hx:IsTupleKey (intKind prog w) s.heap k a) (hy:∀ y∈stored,∃ k' b,y=Value.ref b/\IsTupleKey (intKind prog w) s.heap k' b) (h:Q false s):wpAny (model prog w) A (searchCouldBeSeen (.ref a) stored) Q E s:=by
 unfold searchCouldBeSeen
 refine wpAny_bind ?_
 refine wpAny_forIn_list _ (fun rest r s'=>s'=s/\r=(none,PUnit.unit)/\∀ y∈rest,∃ k' b,y=Value.ref b/\IsTupleKey (intKind prog w) s.heap k' b) _ ?_ ?_ _ _ ⟨rfl,rfl,hy⟩
 ·rintro v rest r s' ⟨rfl,rfl,fL⟩
  obtain⟨k',b,rfl,hb⟩:=fL v List.mem_cons_self
  have nr:∀ y∈rest,∃ k' b,y=Value.ref b/\IsTupleKey (intKind prog w) s'.heap k' b:=fun u hu=>fL u (List.mem_cons_of_mem _ hu)
  dsimp only
  refine wpAny_ite_split (fun _=>wpAny_pure ⟨rfl,rfl,nr⟩) (fun _ => ?_)
  refine wpAny_bind (wpAny_eqIsQuiet_tuple hx ?_)
  simp only[Bool.not_true,Bool.false_eq_true,if_false]
  refine wpAny_bind (wpAny_eqIsQuiet_tuple hb ?_)
  simp only[Bool.not_true,Bool.false_eq_true,if_false]
  refine wpAny_bind (EH hx ?_)
  simp only[Bool.false_eq_true,if_false]
  refine wpAny_bind (EH hb ?_)
  simp only[Bool.false_eq_true,if_false]
  exact wpAny_pure ⟨rfl,rfl,nr⟩
 ·rintro r s' ⟨rfl,rfl,_⟩
  exact wpAny_pure h
theorem MO {i:Nat} {o:Obj} {es:Array (Int × Value)} {ep:Nat} {t:SetTable} {Q:SetFound->Shared->Prop} (ho:s.heap.get? S=some o) (hd:o.data = .set es ep t) (T:l9 (aB prog w ks) ad t es js) (hu:A.units < cLine)
  (keys:∀ j∈i :: js,IsTupleKey (intKind prog w) s.heap (ks j) (ad j)) (inj:∀ j∈js,aB prog w ks j=aB prog w ks i->ks j=ks i) (hm:aB prog w ks i∈js.map (aB prog w ks))
  (k:Q (.there none) s):wpAny (model prog w) A (setSearch S (.ref (ad i)) (aB prog w ks i) true) Q E s:=by
 unfold setSearch
 show wpAny _ _ (setSearchFrom S (.ref (ad i)) (aB prog w ks i) true (99999 + 1) none) _ _ _
 unfold setSearchFrom
 refine wpAny_bind (wpAny_setState_of ho hd T.P.fits ?_)
 dsimp only
 rw[T.P.rG]
 simp only[Bool.false_eq_true,↓reduceIte]
 obtain⟨j',i',nx,ej,e,ee,eh⟩:=T.found hm
 simp only[Option.getD_none]
 generalize hP:t.probe _ (aB prog w ks i) (t.probeStart (aB prog w ks i))=P
 have eP:P=some (.candidate j' i' nx):=hP.symm.trans ej
 rw[eP]
 dsimp only
 have em:e∈es.toList:=List.mem_of_getElem? (by rw[Array.getElem?_toList];exact ee)
 obtain⟨j,hj,rfl⟩:=T.el e em
 have ek:=inj j hj eh
 have kx:=keys i List.mem_cons_self
 have ky:=keys j (List.mem_cons_of_mem _ hj)
 have tail:wpAny (model prog w) A (do
   let some (_,y):=es[i']? | unsupported "internal:set-entry"
   let equal <- holding [y] (eqBool y (.ref (ad i)))
   let (rR,_,t') <- setState S
   if true && equal then return SetFound.there none
   let some same:=t'.sameMemory t.moves t.mask | unsupported "set.changed-during-lookup:is-the-new-block-at-the-old-address"
   let uc <- match (if same then t'.slot j' else .empty) with
    | .live i'=>match rR[i']? with
     | some (_,y')=>do pure (if <- isSame y' y then some i' else none)
     | none=>pure none
    | _=>pure none
   match uc with
   | none=>rule "set.search.anew";setSearchFrom S (.ref (ad i)) (aB prog w ks i) true 99999 none
   | some i'=>if equal then return SetFound.there (some i') else setSearchFrom S (.ref (ad i)) (aB prog w ks i) true 99999 (some nx)) Q E s:=by
  rw[ee]
  dsimp only
  refine wpAny_bind (wpAny_holding (wpAny_eqBool_tuple hu ky kx ?_))
  refine wpAny_bind (wpAny_setState_of ho hd T.P.fits ?_)
  dsimp only
  rw[decide_eq_true ek]
  exact wpAny_pure k
 refine wpAny_ite_split (fun _ => ?_) (fun _=>tail)
 refine wpAny_bind (MN kx (fun y hy => ?_) ?_)
 ·obtain⟨z,hz,rfl⟩:=List.mem_map.mp hy
  have MP:z∈es.toList:=by
   have:=Array.mem_toList_iff.mp hz
   exact Array.mem_toList_iff.mpr (Array.mem_filter.mp this).1
  obtain⟨q,hq,rfl⟩:=T.el z MP
  exact⟨_,_,rfl,keys q (List.mem_cons_of_mem _ hq)⟩
 ·exact tail
theorem MQ {i:Nat} {Q:Bool->Shared->Prop} (hS:gA (aB prog w ks) ad s.heap S js) (hl:js.length < 60) (hu:A.units < cLine)
  (keys:∀ j∈i :: js,IsTupleKey (intKind prog w) s.heap (ks j) (ad j)) (inj:∀ j∈js,aB prog w ks j=aB prog w ks i->ks j=ks i)
  (k:∀ (b:Bool) h',Heap.SameBut S s.heap h'->gA (aB prog w ks) ad h' S (if aB prog w ks i∈js.map (aB prog w ks) then js else js ++ [i])->Q b { s with heap:=h' }) :
  wpAny (model prog w) A (setAddHashed S (.ref (ad i)) (aB prog w ks i)) Q E s:=by
 obtain⟨o,es,ep,t,ho,hex,hd,T⟩:=hS
 unfold setAddHashed
 refine wpAny_holding ?_
 show wpAny _ _ (setAddHashedIn S (.ref (ad i)) (aB prog w ks i) (99999 + 1)) _ _ _
 unfold setAddHashedIn
 refine wpAny_bind (wpAny_setState_of ho hd T.P.fits ?_)
 have hb:byScan (.ref (ad i)) es=false:=by unfold byScan;rfl
 dsimp only
 rw[hb]
 simp only[Bool.false_eq_true,↓reduceIte]
 by_cases hm:aB prog w ks i∈js.map (aB prog w ks)
 ·refine wpAny_bind (MO ho hd T hu keys inj hm ?_)
  dsimp only
  refine wpAny_pure ?_
  have e:s={ s with heap:=s.heap }:=by cases s;rfl
  rw[e]
  exact k false s.heap (Heap.SameBut.refl S s.heap) (by rw[if_pos hm];exact⟨o,es,ep,t,ho,hex,hd,T⟩)
 rw[if_neg hm] at k
 have kx:=keys i List.mem_cons_self
 have hz:t.place.size <= t.mask:=by have:=T.P.lt;rw[T.P.gB];omega
 obtain⟨j0,Ab⟩:=Bq (t:=t) (f:=fun i=>(es[i]?.map (·.1)).getD 0) (h:=aB prog w ks i) T.P.kB T.P.kC hz (fun i' fz z=>by
  rw[T.P.gB] at fz
  rw[Array.getElem?_eq_getElem fz] at z
  exact hm (by rw[<-show es[i'].1=aB prog w ks i from z];exact T.P.ins _ (Array.getElem_mem_toList fz)))
 have nj:j0∉t.place.toList:=Bz T.up (uV Ab)
 have rj:nq t.mask (· ∈ t.place.toList) (aB prog w ks i) j0:=Ey T.P.kB _ _ _ _ Ab
 have sf:wpAny (model prog w) A (setSearch S (.ref (ad i)) (aB prog w ks i) true) (fun r s'=>r = .free j0 false/\s'=s) E s:=by
  unfold setSearch
  show wpAny _ _ (setSearchFrom S (.ref (ad i)) (aB prog w ks i) true (99999 + 1) none) _ _ _
  unfold setSearchFrom
  refine wpAny_bind (wpAny_setState_of ho hd T.P.fits ?_)
  dsimp only
  rw[T.P.rG]
  simp only[Bool.false_eq_true,↓reduceIte]
  simp only[Option.getD_none]
  generalize hP:t.probe _ (aB prog w ks i) (t.probeStart (aB prog w ks i))=P
  have eP:P=some (.empty j0 none):=hP.symm.trans Ab
  rw[eP]
  exact wpAny_pure ⟨rfl,rfl⟩
 refine wpAny_bind (wpAny_mono sf ?_ fun _ _ e=>e)
 rintro r s' ⟨rfl,rfl⟩
 dsimp only
 refine wpAny_bind (wpAny_setState_of ho hd T.P.fits ?_)
 dsimp only
 obtain⟨p1,p2,p3,p4,p5,p6,p7⟩:=xv t T.P.kB j0
 have up1:=Bw T.up nj
 have pz:(t.put j0).2 <= t.place.size:=(pW T.up j0).1
 have fin:∀ b:Bool,wpAny (model prog w) A (do
   storeSet S (SetTable.insertAt es (t.put j0).2 (aB prog w ks i,.ref (ad i))) (if b=true then (t.put j0).1 else { (t.put j0).1 with plain:=false })
   if (!false && (if b=true then (t.put j0).1 else { (t.put j0).1 with plain:=false }:SetTable).tooFull)=true then do
       setRelay S (SetTable.grown (es.size + 1))
       pure true
    else pure true) Q E s':=by
  intro b
  generalize jR:(if b=true then (t.put j0).1 else { (t.put j0).1 with plain:=false }:SetTable)=t2
  have q1:t2.dummies = #[]:=by rw[<-jR];cases b<;>exact p1
  have q2:t2.mask=t.mask:=by rw[<-jR];cases b<;>exact p2
  have q3:t2.place.size=es.size + 1:=by rw[<-jR,<-T.P.gB];cases b<;>exact p3
  have q4:t2.place=insertAt t.place (t.put j0).2 j0:=by rw[<-jR];cases b<;>rfl
  have q5:Up t2.place:=by rw[<-jR];cases b<;>exact up1
  have gm:=xw es (t.put j0).2 (aB prog w ks i,Value.ref (ad i))
  have mG:(insertAt es (t.put j0).2 (aB prog w ks i,Value.ref (ad i))).toList.Perm (es.toList ++ [(aB prog w ks i,Value.ref (ad i))]):=by
   have:=SetTable.insertAt_perm es (t.put j0).2 (aB prog w ks i,Value.ref (ad i))
   rw[Array.toList_push] at this
   exact this
  have MR:t2.place.toList.Perm (t.place.toList ++ [j0]):=by
   rw[q4]
   have:=SetTable.insertAt_perm t.place (t.put j0).2 j0
   rw[Array.toList_push] at this
   exact this
  have ue:∀ (x:Nat) (e:Int × Value) (j:Nat),(insertAt es (t.put j0).2 (aB prog w ks i,Value.ref (ad i)))[x]? = some e->t2.place[x]? = some j->nq t2.mask (· ∈ t2.place.toList) e.1 j:=by
   intro x e j h1 h2
   rw[q4,EG pz] at h2
   rw[EG (by rw[<-T.P.gB];exact pz)] at h1
   rw[q2]
   have more:∀ y,y <= t.mask->y∈t.place.toList->y∈t2.place.toList:=fun y _ hy=>MR.mem_iff.mpr (List.mem_append_left _ hy)
   by_cases c:x < (t.put j0).2
   ·rw[if_pos c] at h1 h2
    exact (T.qC x e j h1 h2).mono more
   ·rw[if_neg c] at h1 h2
    by_cases c2:x=(t.put j0).2
    ·rw[if_pos c2] at h1 h2
     cases h1;cases h2
     exact rj.mono more
    ·rw[if_neg c2] at h1 h2
     exact (T.qC _ e j h1 h2).mono more
  generalize insertAt es (t.put j0).2 (aB prog w ks i,Value.ref (ad i))=bx at gm mG ue
  have Ac:∀ e∈bx.toList,∃ j∈js ++ [i],e=(aB prog w ks j,Value.ref (ad j)):=fun e he=>by
   rcases List.mem_append.mp (mG.mem_iff.mp he) with q | q
   ·obtain⟨j,hj,e1⟩:=T.el e q
    exact⟨j,List.mem_append_left _ hj,e1⟩
   ·exact⟨i,List.mem_append_right _ List.mem_cons_self,List.mem_singleton.mp q⟩
  have all2:∀ j∈js ++ [i],∃ e∈bx.toList,e.1=aB prog w ks j:=fun j hj=>by
   rcases List.mem_append.mp hj with q | q
   ·obtain⟨e,he,e1⟩:=T.all j q
    exact⟨e,mG.mem_iff.mpr (List.mem_append_left _ he),e1⟩
   ·rw[List.mem_singleton.mp q]
    exact⟨_,mG.mem_iff.mpr (List.mem_append_right _ List.mem_cons_self),rfl⟩
  have jG:((js ++ [i]).map (aB prog w ks)).Nodup:=by
   rw[List.map_append]
   exact List.nodup_append.mpr ⟨T.lb,by simp,fun a ha b hb z=>hm (by rw[<-List.mem_singleton.mp hb,<-z];exact ha)⟩
  have uf:∀ e∈bx.toList,e.1∈(js ++ [i]).map (aB prog w ks):=fun e he=>by
   obtain⟨j,hj,rfl⟩:=Ac e he
   exact List.mem_map.mpr ⟨j,hj,rfl⟩
  have ug:bx.size=((js ++ [i]).map (aB prog w ks)).length:=by rw[gm,T.P.num,List.length_map,List.length_map,List.length_append];rfl
  have GP:es.size < 60:=by rw[T.P.num,List.length_map];exact hl
  refine wpAny_bind (wpAny_storeSet_of ho hd ?_ (by rw[gm,sizeLine_eq];omega))
  have hC:(s'.heap.update S (Obj.putSet bx t2)).get? S=some { o with data := .set bx (ep + 1) t2 }:=by
   have:=Heap.get?_update_self (Obj.putSet bx t2) ho (by rw[putSet_of bx t2 hd];rfl)
   rw[putSet_of bx t2 hd] at this;exact this
  have fl:t2.fill=es.size + 1:=by unfold SetTable.fill;rw[q1,q3];rfl
  have lt:=T.P.lt
  have mI:t2.fits bx.size=true:=by
   unfold SetTable.fits
   rw[fl,q3,gm,q2]
   simp
   rcases T.P.kC with e | e | e<;>rw[e] at lt ⊢ <;> omega
  by_cases tf:t2.tooFull=true
  ·rw[if_pos (by rw[tf];rfl)]
   have nL:t.mask * 3 <= (es.size + 1) * 5:=by
    unfold tooFull at tf
    rw[fl,q2] at tf
    have:=of_decide_eq_true tf
    omega
   obtain⟨m,Ad,hw,hsz⟩:∃ m,Mk m/\sizeAbove (grown (es.size + 1)) - 1=m/\(es.size + 1) * 5 < m * 3:=by
    rcases T.P.kC with e | e | e
    ·rw[e] at lt nL
     have:es.size + 1=5:=by omega
     rw[this]
     exact⟨31,.inr (.inl rfl),Bu,by omega⟩
    ·rw[e] at lt nL
     have:es.size + 1=19:=by omega
     rw[this]
     exact⟨127,.inr (.inr rfl),Bv,by omega⟩
    ·rw[e] at nL;omega
   refine wpAny_bind ?_
   unfold setRelay
   refine wpAny_bind (wpAny_setState_of hC rfl mI ?_)
   dsimp only
   have xS:¬ SetTable.sizeAbove (SetTable.grown (es.size + 1)) > sizeLine:=by
    rw[sizeLine_eq]
    rcases Ad with e | e | e<;>omega
   rw[if_neg xS]
   obtain⟨t3,order,er,r1,r2,r3,r4,r5,r6,r7⟩:=MH Ad t2 (bx.map (·.1)) (grown (es.size + 1)) hw (by rw[Array.size_map,gm];omega)
   rw[er]
   rw[Array.size_map,gm] at r3 r5
   rw[Array.size_map] at r6
   have EI:∀ k∈order.toList,k < bx.size:=fun k hk=>List.mem_range.mp (r6.mem_iff.mp hk)
   obtain⟨o1,o2⟩:=Bt (es:=bx) (order:=order) EI
   have og:=MM (es:=bx) (order:=order) EI
   refine wpAny_bind ?_
   show wpAny _ _ (do
    if (order.filterMap (bx[·]?)).size != bx.size then
     unsupported "internal:set-table-lost-an-element"
    pure (order.filterMap (bx[·]?),t3)) _ _ _
   rw[if_neg (by rw[o1,r5,gm];simp)]
   refine wpAny_pure ?_
   dsimp only
   refine wpAny_storeSet_of hC rfl ?_ (by rw[o1,r5,sizeLine_eq];omega)
   have g6:((s'.heap.update S (Obj.putSet bx t2)).update S (Obj.putSet (order.filterMap (bx[·]?)) t3)).get? S=some { o with data := .set (order.filterMap (bx[·]?)) (ep + 1 + 1) t3 }:=by
    have:=Heap.get?_update_self (Obj.putSet (order.filterMap (bx[·]?)) t3) hC (by rw[putSet_of _ t3 rfl];rfl)
    rw[putSet_of _ t3 rfl] at this;exact this
   refine wpAny_pure (k true _ ((Heap.SameBut.update ..).trans (Heap.SameBut.update ..)) ⟨_,_,_,_,g6,hex,rfl,⟨r2,by rw[r1];exact Ad,by rw[r3,o1,r5],by rw[o1,r5,<-gm];exact ug,?_,fun e he=>uf e (o2 e he)⟩,r4,jG,fun e he=>Ac e (o2 e he),fun j hj => ?_,fun x e j h1 h2 => ?_⟩)
   ·unfold tooFull SetTable.fill
    rw[r2,r3,r1]
    simp
    omega
   ·obtain⟨e,he,e1⟩:=all2 j hj
    obtain⟨x,hx,ex⟩:=List.mem_iff_getElem.mp he
    have g7:x < bx.size:=by rw[<-Array.length_toList];exact hx
    have:x∈order.toList:=r6.mem_iff.mpr (List.mem_range.mpr g7)
    refine⟨e,?_,e1⟩
    rw[Array.toList_filterMap]
    exact List.mem_filterMap.mpr ⟨x,this,by rw[Array.getElem?_eq_getElem g7];exact congrArg some (by simpa using ex)⟩
   ·rw[og] at h1
    cases q:order[x]? with
    | none=>rw[q] at h1;cases h1
    | some EJ =>
     rw[q] at h1
     have h1:bx[EJ]? = some e:=h1
     obtain⟨hh,g1,g2⟩:=r7 x j EJ h2 q
     rw[Array.getElem?_map,h1] at g1
     cases g1
     rw[r1]
     exact g2
  ·have rK:t2.tooFull=false:=by cases q:t2.tooFull<;>simp_all
   rw[if_neg (by rw[rK];decide)]
   exact wpAny_pure (k true _ (Heap.SameBut.update ..) ⟨_,_,_,_,hC,hex,rfl,⟨q1,by rw[q2];exact T.P.kC,by rw[q3,gm],ug,rK,uf⟩,q5,jG,Ac,all2,ue⟩)
 by_cases hp:(t.put j0).1.plain=true
 ·rw[if_pos hp]
  refine wpAny_bind (GR kx fun b => ?_)
  exact fin b
 ·rw[if_neg hp]
  refine wpAny_bind (wpAny_pure ?_)
  exact fin true
end
noncomputable def gF (hk:Nat->Int):Nat->List Nat
 | 0=>[]
 | i + 1=>if hk i∈(gF hk i).map hk then gF hk i else gF hk i ++ [i]
theorem EK (hk:Nat->Int):∀ i,(gF hk i).length <= i
 | 0=>Nat.le_refl _
 | i + 1=>by
  have:=EK hk i
  unfold gF
  split
  ·omega
  ·rw[List.length_append,List.length_singleton];omega
theorem wc (hk:Nat->Int):∀ i,∀ j∈gF hk i,j < i
 | 0,j,h=>nomatch h
 | i + 1,j,h=>by
  unfold gF at h
  split at h
  ·have:=wc hk i j h;omega
  ·rcases List.mem_append.mp h with h | h
   ·have:=wc hk i j h;omega
   ·rw[List.mem_singleton.mp h];omega
theorem MS {hk:Nat->Int} {ad:Nat->Addr} {h:Heap} {S:Addr} {led:Bool} (e:h.get? S=some (b6 led)):gA hk ad h S [] :=
 ⟨_,#[],0,_,e,⟨rfl,rfl,rfl⟩,rfl,⟨rfl,.inl rfl,rfl,rfl,by cases led<;>decide,fun _ h=>nomatch h⟩,List.Pairwise.nil,List.nodup_nil,(fun _ h=>nomatch h),(fun _ h=>nomatch h),fun i e j h=>by simp at h⟩
section
variable {prog:Program} {w:World} {A:Around} {R:Result->Shared->Prop} {I S:Addr} {fp wr:List Addr} {G:Array GenState->Array GenState->Prop} {n:Nat} {P:Nat->Value->Prop} {St:Nat->Shared->Prop}
theorem MT (W:WalksS prog w A.in1 I fp wr G n P St) (out:S∉fp) (ad:Nat->Addr) (ks:Nat->List Int) (pF:∀ i v,P i v->v = .ref (ad i)) (apart:∀ i,i < n->ad i∉S :: wr) (room:A.in1.units < cLine)
  (inj:∀ i j,i < n->j < i->hT prog w (ks j)=hT prog w (ks i)->ks j=ks i) (lg:n <= 30) :
  ∀ (left i:Nat) (s:Shared),i + left=n->St i s->(∀ j,j < n->IsTupleKey (intKind prog w) s.heap (ks j) (ad j))->gA (aB prog w ks) ad s.heap S (gF (aB prog w ks) i) →
   (∀ s',Moved (S :: wr) G s s'->gA (aB prog w ks) ad s'.heap S (gF (aB prog w ks) n)->R (.ok (.ret .none)) s') →
   codeAny (model prog w) A (.builtin "set.update.loop" ⟨[.ref S,.ref I],[]⟩) R s:=by
 have jH:S∉wr:=fun z=>out (W.sub _ z)
 have more:∀ b,b∈wr->b∈S :: wr:=fun b hb=>List.mem_cons_of_mem _ hb
 intro left
 induction left with
 | zero =>
  intro i s hi st tk se fin
  obtain rfl:i=n:=by omega
  refine codeAny_builtin F.entry_set_update_loop ?_
  rw[Around.under_plainId F.plain_set_update_loop _]
  show wpAny _ A.in1 (pyNext (.ref I) >>= _) _ _ s
  refine wpAny_bind (W.done s _ _ st fun s' mv => ?_)
  show wpAny _ A.in1 (ret Value.none) _ _ s'
  exact wpAny_pure (fin s' (mv.mono more) (EF se fun o e=>mv.heap S o jH e))
 | succ left ih =>
  intro i s hi st tk se fin
  have c_:i < n:=by omega
  refine codeAny_builtin F.entry_set_update_loop ?_
  rw[Around.under_plainId F.plain_set_update_loop _]
  show wpAny _ A.in1 (pyNext (.ref I) >>= _) _ _ s
  refine wpAny_bind (W.item i s _ _ c_ st fun v s1 hP jI mv => ?_)
  obtain rfl:=pF i v hP
  have mY:∀ j,j < n->IsTupleKey (intKind prog w) s1.heap (ks j) (ad j):=fun j hj=>xD (tk j hj) fun o e=>mv.heap _ o (fun z=>apart j hj (more _ z)) e
  show wpAny _ A.in1 (holding [Value.ref (ad i)] (setAdd S (.ref (ad i))) >>= _) _ _ s1
  refine wpAny_bind (wpAny_holding ?_)
  unfold setAdd
  refine wpAny_holding (wpAny_bind (wpAny_pyHash_tuple room (mY i c_) ?_))
  have fl:=wc (aB prog w ks) i
  refine MQ (s:={ s1 with toks:=s1.toks + ((ks i).length + 1) }) (i:=i) (js:=gF (aB prog w ks) i) (EF se fun o e=>mv.heap S o jH e) (by have:=EK (aB prog w ks) i;omega) room (fun j hj => ?_) (fun j hj e=>inj i j c_ (fl j hj) e) fun bb h2 sb xG => ?_
  ·rcases List.mem_cons.mp hj with rfl | hj
   ·exact mY _ c_
   ·exact mY j (by have:=fl j hj;omega)
  ·have nS:∀ b,b∈fp->b≠S:=fun b hb z=>out (by rw[<-z];exact hb)
   refine wpAny_pure ⟨plainId_quiet F.plain_set_update_loop _,ih (i + 1) _ (by omega) (W.frame _ s1 _ _ jI (Nat.le_add_right _ _) fun b hb o e=>by rw[sb.2 b (nS b hb)];exact e) (fun j hj=>xD (mY j hj) fun o e => ?_) xG fun s3 xH xI => ?_⟩
   ·rw[sb.2 _ (fun z=>apart j hj (by rw[z];exact List.mem_cons_self))];exact e
   ·refine fin s3 (Moved.trans W.gtrans ((mv.mono more).then_heap (Nat.le_add_right _ _) fun b o hb e => ?_) xH) xI
    rw[sb.2 b (fun z=>hb (by rw[z];exact List.mem_cons_self))];exact e
end
section
variable {prog:Program} {w:World} {A:Around} {E:Value->Shared->Prop} {s:Shared}
set_option maxHeartbeats 3200000 in
theorem MU {l:Addr} {items:Array Value} {Q:Value->Shared->Prop} (ad:Nat->Addr) (ks:Nat->List Int) (hh:A.handled=none) (room:A.units + 8 < cLine) (xJ:s.heap.IsList l items) (pF:∀ (i:Nat) (v:Value),items[i]? = some v->v = .ref (ad i))
  (tk:∀ i,i < items.size->IsTupleKey (intKind prog w) s.heap (ks i) (ad i)) (inj:∀ i j,i < items.size->j < i->hT prog w (ks j)=hT prog w (ks i)->ks j=ks i) (lg:items.size <= 30)
  (fin:∀ (h':Heap) (tk:Nat),gA (aB prog w ks) ad h' s.heap.objs.size (gF (aB prog w ks) items.size)->(∀ b o,b < s.heap.objs.size->s.heap.get? b=some o->h'.get? b=some o)->Q (.ref s.heap.objs.size) { s with heap:=h',toks:=tk }) :
  wpAny (model prog w) A (call (.type "set") [.ref l]) Q E s:=by
 obtain⟨c,tl,xK⟩:=F.called_set.mro
 have m1:=F.called_set.made
 have m2:=F.called_set.sub
 have m3:=F.called_set.notType
 have m4:=F.called_set.canCreate
 have m5:=F.typeCall_set_1 (.ref l)
 refine wpAny_call (codeAny_of_tree ?_)
 show wpAny _ _ (callAny (.type "set") _) _ _ _
 refine wpAny_pure ⟨Code.quiet_builtin _ (by decide +kernel),codeAny_builtin F.entry_type_call ?_⟩
 rw[Around.under_plain (weight_type_call_type "set" [.ref l] []) rfl]
 repeat (any_goals (first | assumption | wp_step))
 refine codeAny_mono (code_set_new_1 (.ref l) (E:=E) (Q₁ := fun r s1=>∃ led:Bool,r = .ref s.heap.objs.size/\s1={ s with heap:=s.heap.push (b6 led) }) fun led=>⟨led,rfl,rfl⟩) fun r s1 hr => ?_
 cases r with
 | error e=>exact hr
 | ok fl =>
  cases fl with
  | ret obj =>
   obtain⟨led,rfl,rfl⟩:=hr
   have gS:(s.heap.push (b6 led)).get? s.heap.objs.size=some (b6 led):=Heap.get?_push_size _ rfl
   have tS:Shared.TypeIs { s with heap:=s.heap.push (b6 led) } (.ref s.heap.objs.size) "set" := ⟨_,gS,rfl⟩
   have m6:=F.called_set.init.lookup
   have m7:=F.called_set.init.bind (.ref s.heap.objs.size)
   repeat (any_goals (first | assumption | wp_step))
   refine codeAny_mono (codeAny_call_builtin (R:=wants (fun r s2=>r = .none/\∃ h' tk,s2={ s with heap:=h',toks:=tk }/\gA (aB prog w ks) ad h' s.heap.objs.size (gF (aB prog w ks) items.size) ∧
     ∀ b o,b < s.heap.objs.size->s.heap.get? b=some o->h'.get? b=some o) E) F.called_set.init.plain F.entry_set_init (check_set_init_1 tS ?_)) fun r2 s2 jJ => ?_
   ·obtain⟨ol,gl,cl,nl,dl⟩:=xJ
    obtain⟨c0,d0,GZ,xM⟩:=ol
    simp only at cl dl
    subst cl
    subst dl
    have xN:(s.heap.push (b6 led)).get? l=some { cls := .type "list",dict:=d0,data := .seq items nl,slots:=xM }:=Heap.get?_push_of_some _ gl
    have x1:=F.sub_list_set
    have x2:=F.sub_list_frozenset
    have x3:(Value.type "list" == Value.type "dict")=false:=by decide
    have jK:(s.heap.push (b6 led)).IsList l items:=⟨_,xN,rfl,nl,rfl⟩
    have ll:l < s.heap.objs.size:=Heap.lt_size gl
    unfold Builtin.«set.__init__» noKeywords Builtin.Frozenset.updateFrom
    generalize xO:pyIter=PI
    wp_walk
    subst xO
    refine wpAny_pyIter_list jK (wpAny_bind (wpAny_runValue ?_))
    have h3:A.in1.in1.in1.handled=none:=by simp[hh]
    have ez:(s.heap.push (b6 led)).objs.size=s.heap.objs.size + 1:=Heap.size_push ..
    have nI:l≠(s.heap.push (b6 led)).objs.size:=by rw[ez];exact Nat.ne_of_lt (Nat.lt_succ_of_lt ll)
    have lt:∀ i,i < items.size->ad i < s.heap.objs.size:=fun i hi=>by
     obtain⟨o,_,_,e,_⟩:=tk i hi
     exact Heap.lt_size e
    refine MT ((Walks.list h3 _ l nI items).toS) (S:=s.heap.objs.size) ?out ad ks (fun i v hv=>pF i v hv) ?apart ?room inj lg items.size 0 _ (Nat.zero_add _)
     ⟨⟨_,Heap.get?_push_size _ rfl,rfl,rfl⟩,jK.push _⟩ ?tk ?fresh ?fin
    case out =>
     simp only[List.mem_cons,List.not_mem_nil,or_false,not_or,ez]
     exact⟨Nat.ne_of_lt (Nat.lt_succ_self _),Nat.ne_of_gt ll⟩
    case apart =>
     intro i hi
     have:=lt i hi
     simp only[List.mem_cons,List.not_mem_nil,or_false,not_or,ez]
     exact⟨Nat.ne_of_lt this,Nat.ne_of_lt (Nat.lt_succ_of_lt this)⟩
    case room =>
     show A.units + 1 + 1 + 1 < cLine
     exact Nat.lt_of_le_of_lt (Nat.add_le_add_left (by decide:3 <= 8) _) room
    case tk =>
     intro j hj
     exact xD (tk j hj) fun o e=>Heap.get?_push_of_some _ (Heap.get?_push_of_some _ e)
    case fresh =>
     exact MS (led:=led) (Heap.get?_push_of_some _ gS)
    case fin =>
     intro s' mv se
     obtain⟨h',g',d',pX,rL⟩:=s'
     obtain rfl:g'=s.gens:=mv.gens
     obtain rfl:d'=s.drawn:=mv.drawn
     obtain rfl:rL=s.os:=mv.os
     show wpAny _ _ _ _ _ _
     refine wpAny_pure ?_
     show wpAny _ _ (ret Value.none) _ _ _
     refine wpAny_pure ⟨rfl,h',pX,rfl,se,fun b o hb e => ?_⟩
     refine mv.heap b o ?_ (Heap.get?_push_of_some _ (Heap.get?_push_of_some _ e))
     simp only[List.mem_cons,List.not_mem_nil,or_false,not_or,ez]
     exact⟨Nat.ne_of_lt hb,Nat.ne_of_lt (Nat.lt_succ_of_lt hb)⟩
   ·cases r2 with
    | error e=>exact jJ
    | ok xP =>
     cases xP with
     | ret r =>
      obtain⟨rfl,h',pX,rfl,se,kp⟩:=jJ
      repeat (any_goals (first | assumption | wp_step))
      exact fin _ _ se kp
     | next=>exact jJ
     | brk=>exact jJ
     | cont=>exact jJ
  | next=>exact hr
  | brk=>exact hr
  | cont=>exact hr
end
end LJS
namespace L2
open PySem PySem.Spec PyProof.Rows
variable [aQ]
noncomputable def nv:List D->Option (List (Int × Int))
 | []=>some []
 | .tup [.int i,.int j] :: r=>match nv r with
  | some ps=>some ((i,j) :: ps)
  | none=>none
 | _=>none
theorem EL:∀ {ds:List D} {ps:List (Int × Int)},nv ds=some ps->ds=ps.map fun p => .tup [.int p.1,.int p.2]
 | [],ps,h=>by cases h;rfl
 | .tup [.int i,.int j] :: r,ps,h=>by
  unfold nv at h
  split at h
  ·rename_i qs e
   cases h
   rw[EL e];rfl
  ·cases h
theorem EM:∀ ps:List (Int × Int),nv (ps.map fun p=>D.tup [.int p.1,.int p.2])=some ps
 | []=>rfl
 | p :: r=>by
  show nv (.tup [.int p.1,.int p.2] :: r.map _)=_
  unfold nv
  rw[EM r]
noncomputable def fZ (ps:List (Int × Int)):Nat->List (Int × Int)
 | 0=>[]
 | i + 1=>if ps.getD i (0,0)∈fZ ps i then fZ ps i else fZ ps i ++ [ps.getD i (0,0)]
theorem Ae (ps:List (Int × Int)):∀ i,(fZ ps i).length <= i
 | 0=>Nat.le_refl _
 | i + 1=>by
  have:=Ae ps i
  unfold fZ
  split
  ·omega
  ·rw[List.length_append,List.length_singleton];omega
theorem EN {ps:List (Int × Int)} (hn:ps.Nodup):∀ i,i <= ps.length->fZ ps i=ps.take i
 | 0,_=>rfl
 | i + 1,h=>by
  have hi:i < ps.length:=by omega
  have e:ps.getD i (0,0)=ps[i]:=by rw[List.getD_eq_getElem?_getD,List.getElem?_eq_getElem hi];rfl
  unfold fZ
  rw[EN hn i (by omega),e,if_neg ?_,List.take_succ,List.getElem?_eq_getElem hi]
  ·rfl
  ·intro hm
   obtain⟨j,hj,ej⟩:=List.mem_iff_getElem.mp hm
   rw[List.length_take] at hj
   rw[List.getElem_take] at ej
   have:=(List.getElem_inj (h₀ := by omega) (h₁ := hi) hn).mp ej
   omega
theorem MV {ps:List (Int × Int)} (hl:(fZ ps ps.length).length=ps.length):ps.Nodup:=by
 have key:∀ i,i <= ps.length->(fZ ps i).length=i->(ps.take i).Nodup/\fZ ps i=ps.take i:=by
  intro i
  induction i with
  | zero=>intro _ _;exact⟨List.nodup_nil,rfl⟩
  | succ i ih =>
   intro hi hlen
   have fz:i < ps.length:=by omega
   have le:=Ae ps i
   have e:ps.getD i (0,0)=ps[i]:=by rw[List.getD_eq_getElem?_getD,List.getElem?_eq_getElem fz];rfl
   unfold fZ at hlen ⊢
   split at hlen
   ·omega
   ·rename_i hn
    rw[List.length_append,List.length_singleton] at hlen
    obtain⟨h1,h2⟩:=ih (by omega) (by omega)
    rw[if_neg hn,h2,List.take_succ,List.getElem?_eq_getElem fz,e]
    refine⟨?_,rfl⟩
    rw[h2,e] at hn
    exact List.nodup_append.mpr ⟨h1,by simp,fun a ha b hb z=>hn (by
     have hb:b=ps[i]:=by simpa using hb
     rw[<-hb,<-z];exact ha)⟩
 have:=(key ps.length (Nat.le_refl _) hl).1
 rwa [List.take_of_length_le (Nat.le_refl _)] at this
noncomputable def qD:List D->(D->Prop)->Prop
 | [.lst ds],K=>match intsOf ds with
  | some ns=>ns.length <= 40/\K (.lst ((sortI (j5 ns)).map D.int))
  | none=>False
 | _,_=>False
theorem EO (ns:List Int):(j5 ns).length <= ns.length:=LJS.xF ns ns.length
section
variable {X:Cx} {fa:WA}
theorem MW {a:Expr} {p1 p2 q1 q2:Pos} (hc:X.calm=true) (ph:Gl X "sorted") (hl:X.mg "sorted" = none) (pj:bootBuiltins "sorted" = some (.builtin "sorted")) (pk:Gl X "set") (hr:X.mg "set" = none) (px:bootBuiltins "set" = some (.type "set")) (ha:JA X [a] (bZ fa))
  (he:starEach [a] X.env=[(false,eval a X.env)]:=by rfl) (pA:starEach [.Call (.Name "set" p2) [a] [] q2] X.env=[(false,eval (.Call (.Name "set" p2) [a] [] q2) X.env)]:=by rfl):JE X (.Call (.Name "sorted" p1) [.Call (.Name "set" p2) [a] [] q2] [] q1) (tD (dN fa qD)) :=
 (vk (Mx hc) ph hl pj (h_ (lJ (Mw hc) pk hr px ha (he:=he)) aV) (he:=pA)).weak fun σ H Q h0_ => el7 h0_ fun F ad δ K S q k =>⟨F,ad,δ,_,S,q,fun xs δ1 h1 vs F1 aL H1 E1 S1 V1=>by
  obtain⟨ds,h2,oO⟩:=vq S1 V1 h1
  unfold qD at h2
  split at h2
  ·split at h2
   ·rename_i es ns e
    obtain⟨v,rfl,a,vs,rfl,g1,g2⟩:=cE oO
    rw[qx e] at g2
    rw[o7 g2] at g1
    refine⟨a,ns,rfl,aP.of g1,h2.1,fun p hp=>⟨p,j5 ns,rfl,bF,by have:=EO ns;omega,fun r dX pm pw hr => ?_⟩⟩
    have s1:aw H1 (upd H1 p (t_ (LJS.gI X.w) p (j5 ns))):=bW hp
    have S2:=S1.al s1
    have E2:=Ext.al S1 s1
    refine k _ _ h2.2 _ _ _ _ ((E1.trans E2).trans (Ext.al S2 (bW hr))) (S2.al (bW hr)) ?_
    rw[<-vW pm pw]
    exact l5 S2.sub hr o8
   ·exact h2.elim
  ·exact h2.elim⟩
theorem ER {F:Hp}:∀ {ps:List (Int × Int)} {vs:List V},af F (ps.map fun p=>D.tup [.int p.1,.int p.2]) vs->∃ as:List Addr,vs=as.map V.ref/\as.length=ps.length/\∀ (i:Nat) (a:Addr) (k:Int × Int),as[i]? = some a->ps[i]? = some k->F a=some (.tup [.int k.1,.int k.2])
 | [],vs,h=>by
  have h:vs=[]:=by simpa only [List.map_nil,af] using h
  subst h
  exact⟨[],rfl,rfl,fun i a k e=>by simp at e⟩
 | p :: r,vs,h=>by
  rw[List.map_cons] at h
  simp only[af] at h
  obtain⟨v,r',rfl,h1,h2⟩:=h
  obtain⟨as,rfl,hl,g⟩:=ER h2
  simp only[Is] at h1
  obtain⟨a,us,rfl,e1,e2⟩:=h1
  simp only[af,Is] at e2
  obtain⟨_,_,rfl,rfl,_,_,rfl,rfl,rfl⟩:=e2
  refine⟨a :: as,rfl,by rw[List.length_cons,List.length_cons,hl],fun i b k eb ek => ?_⟩
  cases i with
  | zero =>
   cases (show some a=some b by simpa using eb)
   cases (show some p=some k by simpa using ek)
   exact e1
  | succ i=>exact g i b k (by simpa using eb) (by simpa using ek)
theorem MX (hc:X.calm=true) (hu:X.A.units + 64 < cLine):fA X (.type "set") (fun xs H Q=>∃ (l:Addr) (ps:List Addr) (ks:List (Int × Int)),xs=[.ref l]/\aP X.K H l (ps.map V.ref)/\ps.length=ks.length ∧
  (∀ (i:Nat) (a:Addr) (k:Int × Int),ps[i]? = some a->ks[i]? = some k->H a=some (.tup [.int k.1,.int k.2]))/\(∀ k∈ks,0 <= k.1/\k.1 < k.2/\k.2 < 12)/\ks.length <= 30/\∀ p,H p=none->Q (.ref p) (upd H p (jU p (fZ ks ks.length).length))):=by
 intro pins s σ H xs us Q I r h
 obtain⟨l,ps,ks,rfl,hq,hl,fM,bd,lg,q⟩:=h
 obtain⟨u,rfl,rx⟩:=vals1 r
 cases rx
 obtain⟨ag,r',pl,_⟩:=I.list hq
 obtain rfl:=Di r'
 have sz:(ps.map Value.ref).toArray.size=ks.length:=by rw[List.size_toArray,List.length_map,hl]
 have pG:∀ i,i < ks.length->∃ k,ks[i]? = some k/\ks.getD i (0,0)=k:=fun i hi=>⟨ks[i],List.getElem?_eq_getElem hi,by rw[List.getD_eq_getElem?_getD,List.getElem?_eq_getElem hi];rfl⟩
 have Af:∀ i,i < ks.length->∃ a,ps[i]? = some a/\ps.getD i 0=a:=fun i hi=>⟨ps[i]'(by rw[hl];exact hi),List.getElem?_eq_getElem (by rw[hl];exact hi),by rw[List.getD_eq_getElem?_getD,List.getElem?_eq_getElem (by rw[hl];exact hi)];rfl⟩
 have same:∀ i j,i < ks.length->j < ks.length->LJS.hT X.prog X.w [(ks.getD j (0,0)).1,(ks.getD j (0,0)).2]=LJS.hT X.prog X.w [(ks.getD i (0,0)).1,(ks.getD i (0,0)).2]->ks.getD j (0,0)=ks.getD i (0,0):=fun i j hi hj z=>by
  obtain⟨k,ek,dk⟩:=pG i hi
  obtain⟨k',wa,ES⟩:=pG j hj
  rw[dk,ES,LJS.Dg,LJS.Dg] at z
  rw[dk,ES]
  have b1:=bd k (List.mem_iff_getElem?.mpr ⟨i,ek⟩)
  have b2:=bd k' (List.mem_iff_getElem?.mpr ⟨j,wa⟩)
  exact LJS.Lh (k'.1,k'.2) (LJS.Dh b2.1 b2.2.1 b2.2.2) (k.1,k.2) (LJS.Dh b1.1 b1.2.1 b1.2.2) z
 refine LJS.MU (fun i=>ps.getD i 0) (fun i=>[(ks.getD i (0,0)).1,(ks.getD i (0,0)).2]) (I.ok.hd hc) (by omega) pl.isList (fun i v hv => ?_) (fun i hi => ?_) (fun i j hi hj z => ?_) (by rw[sz];exact lg) fun h' tk se kp => ?_
 ·rw[List.getElem?_toArray,List.getElem?_map] at hv
  obtain⟨a,ea,rfl⟩:=Option.map_eq_some_iff.mp hv
  rw[List.getD_eq_getElem?_getD,ea];rfl
 ·rw[sz] at hi
  obtain⟨k,ek,dk⟩:=pG i hi
  obtain⟨a,ea,da⟩:=Af i hi
  show IsTupleKey _ _ [(ks.getD i (0,0)).1,(ks.getD i (0,0)).2] (ps.getD i 0)
  rw[dk,da]
  obtain⟨_,aY,r2,o,ho,Ag,n,hd⟩:=I.aJ a _ (fM i a k ea ek)
  cases r2 with
  | cons ra rr =>
   cases rr with
   | cons rb rn =>
    cases rn
    obtain⟨t1,rfl⟩:=ra
    obtain⟨t2,rfl⟩:=rb
    exact⟨o,_,n,ho,Ag,hd,.cons (intKind_is ..) (.cons (intKind_is ..) .nil)⟩
 ·rw[sz] at hi
  have:=same i j hi (by omega) z
  show [(ks.getD j (0,0)).1,(ks.getD j (0,0)).2]=[(ks.getD i (0,0)).1,(ks.getD i (0,0)).2]
  rw[this]
 ·have key:∀ n,n <= ks.length->(LJS.gF (LJS.aB X.prog X.w fun i=>[(ks.getD i (0,0)).1,(ks.getD i (0,0)).2]) n).map (fun i=>ks.getD i (0,0))=fZ ks n:=by
   intro n
   induction n with
   | zero=>intro _;rfl
   | succ n ih =>
    intro hn
    have ih:=ih (by omega)
    unfold LJS.gF fZ
    rw[<-ih]
    by_cases c:ks.getD n (0,0)∈(LJS.gF (LJS.aB X.prog X.w fun i=>[(ks.getD i (0,0)).1,(ks.getD i (0,0)).2]) n).map (fun i=>ks.getD i (0,0))
    ·obtain⟨j,hj,ej⟩:=List.mem_map.mp c
     have:LJS.aB X.prog X.w (fun i=>[(ks.getD i (0,0)).1,(ks.getD i (0,0)).2]) n∈(LJS.gF (LJS.aB X.prog X.w fun i=>[(ks.getD i (0,0)).1,(ks.getD i (0,0)).2]) n).map (LJS.aB X.prog X.w fun i=>[(ks.getD i (0,0)).1,(ks.getD i (0,0)).2]):=by
      refine List.mem_map.mpr ⟨j,hj,?_⟩
      have ej:ks.getD j (0,0)=ks.getD n (0,0):=ej
      show LJS.hT _ _ [(ks.getD j (0,0)).1,(ks.getD j (0,0)).2]=LJS.hT _ _ [(ks.getD n (0,0)).1,(ks.getD n (0,0)).2]
      rw[ej]
     rw[if_pos c,if_pos this]
    ·have:LJS.aB X.prog X.w (fun i=>[(ks.getD i (0,0)).1,(ks.getD i (0,0)).2]) n∉(LJS.gF (LJS.aB X.prog X.w fun i=>[(ks.getD i (0,0)).1,(ks.getD i (0,0)).2]) n).map (LJS.aB X.prog X.w fun i=>[(ks.getD i (0,0)).1,(ks.getD i (0,0)).2]):=fun z=>by
      obtain⟨j,hj,ej⟩:=List.mem_map.mp z
      have MY:=LJS.wc _ n j hj
      exact c (List.mem_map.mpr ⟨j,hj,same n j (by omega) (by omega) ej⟩)
     rw[if_neg c,if_neg this,List.map_append];rfl
  obtain⟨o,es,ep,t,ho,hex,hd,T⟩:=se
  have hlen:((LJS.gF (LJS.aB X.prog X.w fun i=>[(ks.getD i (0,0)).1,(ks.getD i (0,0)).2]) ks.length).map (LJS.aB X.prog X.w fun i=>[(ks.getD i (0,0)).1,(ks.getD i (0,0)).2])).length=(fZ ks ks.length).length:=by
   rw[<-key ks.length (Nat.le_refl _),List.length_map,List.length_map]
  have T':=T.P
  rw[sz] at T'
  have z_:LJS.jF h' s.heap.objs.size _:=⟨o,es,ep,t,ho,hex,hd,T'⟩
  exact⟨.ref s.heap.objs.size,upd H s.heap.objs.size (jU s.heap.objs.size (fZ ks ks.length).length),I.laid (t':=tk) (fun b o e=>kp b o (Heap.lt_size e) e) (Nat.le_refl _) (Li z_ hlen),rfl,q _ (I.aJ.fresh (Nat.le_refl _))⟩
end
end L2
namespace HT
open PySem PySem.Spec PyProof.Rows
section
variable {prog:Program} {w:World} {A:Around} {E:Value->Shared->Prop} {s:Shared}
theorem MZ {t b:Addr} {ws:List Value} {Q:Value->Shared->Prop} (ht:IsTup s.heap t #[]) (hb:IsTup s.heap b ws.toArray) (h:Q (.ref b) s):wpAny (model prog w) A (binaryOp .Add (.ref t) (.ref b)) Q E s:=by
 obtain⟨⟨cls,dd,data,sl⟩,ho,hc,n,hd⟩:=id ht
 obtain⟨⟨su,mT,data2,mU⟩,g6,mV,n2,hd2⟩:=id hb
 simp only at hc hd mV hd2
 subst hc hd mV hd2
 exact concat_meets ⟨_,ho,rfl⟩ ⟨_,g6,rfl⟩ noFill_tuple_add seq_tuple_add PySem.F.slot_tuple_add PySem.F.entry_tuple_add (PySem.F.args_tuple_add_2 _ _)
  (tuple_addW0 t b #[] ws.toArray n n2 dd mT sl mU rfl) ⟨ho,g6,h⟩
theorem M0 {t sl:Addr} {items:Array Value} {vl vu:Value} {lo hi:Option Int} {Q:Value->Shared->Prop} (ht:IsTup s.heap t items) (hs:s.heap.IsSliceOf sl vl vu .none) (pl:IsPart vl lo) (pu:IsPart vu hi)
  (hw:aU items.size 0 lo=0/\aU items.size items.size hi=items.size) (h:Q (.ref t) s):wpAny (model prog w) A (getItem (.ref t) (.ref sl)) Q E s:=by
 obtain⟨os,iR,lD,kI⟩:=id hs
 have sx:s.TypeIs (.ref sl) "slice" := ⟨os,iR,lD⟩
 unfold getItem
 try with_reducible refine wpAny_holding ?_
 first | refine wpAny_bind (wpAny_pure ?_) | skip
 refine wpAny_bind (wpAny_sequenceKey ht.typeIs (by decide) ?_)
 refine wpAny_bind (wpAny_callSpecial?_slot (name:=Str.ofString "__getitem__") ht.typeIs PyProof.Rows.slot_tuple_getitem
  (wpAny_call_entry PyProof.Rows.slot_tuple_getitem ht.typeIs entry_tuple_getitem ?_ (args_tuple_getitem _ _)))
 show wpAny _ _ (Builtin.Tuple.tupleItemsOf (.ref t) >>= _) _ _ s
 refine wpAny_bind (tupleItemsOf_ ht ?_)
 refine wpAny_bind (wpAny_typeOf sx ?_)
 rw[if_pos (by decide)]
 refine wpAny_bind (Cs hs pl pu ?_)
 show wpAny _ _ (if (((aU items.size 0 lo:Nat):Int) == 0 && (1:Int) == 1 && (aU items.size items.size hi - aU items.size 0 lo) == items.size)=true then _ else _) _ _ s
 rw[if_pos (by rw[hw.1,hw.2];simp)]
 unfold Builtin.Tuple.tupleIsExact
 refine wpAny_bind (wpAny_bind (wpAny_typeOf ht.typeIs (wpAny_pure ?_)))
 rw[if_pos (by decide)]
 refine wpAny_bind (wpAny_rule ?_)
 exact wpAny_pure ⟨_,rfl,wpAny_pure h⟩
theorem M1 {sl:Addr} {n:Nat} {t:Tok} {Q:Int × Int × Nat->Shared->Prop} (hs:s.heap.IsSliceOf sl .none .none (.int (-1) t))
  (h:Q ((n:Int) - 1,-1,n) s):wpAny (model prog w) A (Builtin.Slice.sliceApplied (.ref sl) (pure (n:Int))) Q E s:=by
 obtain⟨os,iR,lD,kI⟩:=id hs
 unfold Builtin.Slice.sliceApplied Builtin.Slice.sliceFields
 refine wpAny_bind (wpAny_bind (wpAny_field iR kI (x := .none) rfl (wpAny_bind (wpAny_field iR kI (x := .none) rfl (wpAny_bind (wpAny_field iR kI (x := .int (-1) t) rfl (wpAny_pure ?_)))))))
 refine wpAny_bind (sv (.int (-1) t) ?_)
 show wpAny _ _ (if ((-1:Int) == 0)=true then _ else _) _ _ s
 rw[if_neg (by decide)]
 refine wpAny_bind (sv .none (wpAny_bind (sv .none (wpAny_bind (wpAny_pure ?_)))))
 refine wpAny_pure ?_
 have e:Builtin.Slice.slicePlaces ((n:Int) - 1) (-1) (-1)=n:=by
  unfold Builtin.Slice.slicePlaces
  rw[if_neg (by decide)]
  split
  ·rename_i c
   rw[show -(-1:Int)=1 by decide,Int.ediv_one];omega
  ·omega
 show Q ((n:Int) - 1,-1,Builtin.Slice.slicePlaces ((n:Int) - 1) (-1) (-1)) s
 rw[e];exact h
theorem M3 {t sl:Addr} {ag:List Value} {tk:Tok} {Q:Value->Shared->Prop} (ht:IsTup s.heap t ag.toArray) (hs:s.heap.IsSliceOf sl .none .none (.int (-1) tk))
  (h:Q (.ref s.heap.objs.size) { s with heap:=s.heap.push { cls := .type "tuple",data := .seq ag.reverse.toArray } }) (hsz:ag.length <= sizeLine):wpAny (model prog w) A (getItem (.ref t) (.ref sl)) Q E s:=by
 have dr:sizeOk (.seq ag.reverse.toArray):=by
  show ag.reverse.toArray.size <= sizeLine
  rw[List.size_toArray,List.length_reverse];exact hsz
 obtain⟨os,iR,lD,kI⟩:=id hs
 have sx:s.TypeIs (.ref sl) "slice" := ⟨os,iR,lD⟩
 unfold getItem
 try with_reducible refine wpAny_holding ?_
 first | refine wpAny_bind (wpAny_pure ?_) | skip
 refine wpAny_bind (wpAny_sequenceKey ht.typeIs (by decide) ?_)
 refine wpAny_bind (wpAny_callSpecial?_slot (name:=Str.ofString "__getitem__") ht.typeIs PyProof.Rows.slot_tuple_getitem
  (wpAny_call_entry PyProof.Rows.slot_tuple_getitem ht.typeIs entry_tuple_getitem ?_ (args_tuple_getitem _ _)))
 show wpAny _ _ (Builtin.Tuple.tupleItemsOf (.ref t) >>= _) _ _ s
 refine wpAny_bind (tupleItemsOf_ ht ?_)
 refine wpAny_bind (wpAny_typeOf sx ?_)
 rw[if_pos (by decide)]
 refine wpAny_bind (M1 hs ?_)
 show wpAny _ _ (if ((((ag.toArray.size:Int) - 1)) == 0 && (-1:Int) == 1 && ag.toArray.size == ag.toArray.size)=true then _ else _) _ _ s
 rw[if_neg (by simp)]
 have e:((List.range ag.toArray.size).filterMap fun (k:Nat)=>ag.toArray[((ag.toArray.size:Int) - 1 + (k:Int) * -1).toNat]?).toArray=ag.reverse.toArray:=by
  congr 1
  rw[List.size_toArray]
  refine List.ext_getElem? fun i => ?_
  have all:∀ k∈List.range ag.length,((ag.toArray[((ag.length:Int) - 1 + (k:Int) * -1).toNat]?)).isSome=true:=fun k hk=>by
   have:=List.mem_range.mp hk
   rw[List.getElem?_toArray,List.getElem?_eq_getElem (by omega)];rfl
  have fm:∀ l:List Nat,(∀ k∈l,((ag.toArray[((ag.length:Int) - 1 + (k:Int) * -1).toNat]?)).isSome=true)->∀ i:Nat,(l.filterMap fun (k:Nat)=>ag.toArray[((ag.length:Int) - 1 + (k:Int) * -1).toNat]?)[i]? = (l[i]?).bind fun k=>ag.toArray[((ag.length:Int) - 1 + (k:Int) * -1).toNat]? := by
   intro l
   induction l with
   | nil=>intro _ i;simp
   | cons k r ih =>
    intro hk i
    obtain⟨v,hv⟩:=Option.isSome_iff_exists.mp (hk k List.mem_cons_self)
    rw[List.filterMap_cons,hv]
    dsimp only
    cases i with
    | zero=>exact hv.symm
    | succ i=>simpa using ih (fun k' oY=>hk k' (List.mem_cons_of_mem _ oY)) i
  rw[fm _ all]
  by_cases c:i < ag.length
  ·rw[List.getElem?_range c,List.getElem?_reverse c]
   show ag.toArray[((ag.length:Int) - 1 + (i:Int) * -1).toNat]? = _
   rw[List.getElem?_toArray]
   congr 1
   omega
  ·rw[List.getElem?_eq_none (by rw[List.length_range];omega),List.getElem?_eq_none (by rw[List.length_reverse];omega)];rfl
 rw[e]
 first
  | exact wpAny_bind (m:=Builtin.Tuple.tupleExact _) (wpAny_newObj_type (wpAny_pure ⟨_,rfl,wpAny_pure h⟩) dr)
  | exact wpAny_bind (m:=Builtin.Tuple.tupleExact _) (wpAny_newObj_type (wpAny_bind (wpAny_pure (wpAny_pure ⟨_,rfl,wpAny_pure h⟩))) dr)
  | exact wpAny_bind (wpAny_bind (m:=Builtin.Tuple.tupleExact _) (wpAny_newObj_type (wpAny_pure (wpAny_pure ⟨_,rfl,wpAny_pure h⟩)) dr))
  | exact wpAny_bind (wpAny_bind (m:=Builtin.Tuple.tupleExact _) (wpAny_newObj_type (wpAny_pure ⟨_,rfl,wpAny_pure h⟩) dr))
end
end HT
namespace L2
open PySem PySem.Spec PyProof.Rows
variable [aQ]
section
variable {X:Cx} {e:Expr} {te:TE} {pos p2 p3 p4:Pos}
noncomputable def M4 (K:PySem.W.Frag):V->Option Int->Option Int->Hp->VK->Prop:=fun x lo hi H Q=>∃ a xs,x = .ref a/\bw K H a xs ∧
 (HT.aU xs.length 0 lo=0/\HT.aU xs.length xs.length hi=xs.length->Q (.ref a) H)/\(¬ (HT.aU xs.length 0 lo=0/\HT.aU xs.length xs.length hi=xs.length)->∀ p,H p=none->Q (.ref p) (upd H p (.tup (cG xs lo hi))))
theorem M5:lE X (M4 X.K):=by
 intro pins s σ H x v vl vu lo hi sl Q I rx hs pl pu h
 obtain⟨a,xs,rfl,hx,q1,q2⟩:=h
 by_cases hw:HT.aU xs.length 0 lo=0/\HT.aU xs.length xs.length hi=xs.length
 ·cases rx
  obtain⟨ag,r,ht,hz⟩:=I.tuple hx
  have hlen:ag.toArray.size=xs.length:=by rw[List.size_toArray];exact r.length.symm
  refine⟨"tuple",_,PyProof.Rows.slot_tuple_getitem.lookup,ht.typeIs,?_⟩
  exact HT.M0 ht hs pl pu (by rw[hlen];exact hw) ⟨.ref a,H,I,rfl,q1 hw⟩
 ·exact Jk pins s σ H _ v vl vu lo hi sl Q I rx hs pl pu ⟨a,xs,rfl,hx,hw,q2 hw⟩
noncomputable def M6 (K:PySem.W.Frag) (te:TE):TE:=fun σ H Q=>te σ H fun x H1=>(∃ a xs,x = .ref a/\aP K H1 a xs/\∀ p,H1 p=none->Q (.ref p) (upd H1 p (.lst xs.reverse)))\/∃ a xs,x = .ref a/\bw K H1 a xs/\∀ p,H1 p=none->Q (.ref p) (upd H1 p (.tup xs.reverse))
theorem M7 {j1} (he:JE X e te):JE X (.Subscript e (.Slice none none (some (.UnaryOp .USub (.Constant (.int 1) j1 p3) p4)) p2) pos) (M6 X.K te):=by
 refine⟨?_⟩
 intro pins s σ H Q I h
 refine Subscript_ (aW (he.out pins s σ H _ I h) fun v s1 h0_ => el5 h0_ fun x H1 I1 r1 q1 => ?_)
 refine wpAny_Slice ?_
 rw[evalPart_none]
 refine wpAny_pure ?_
 refine wpAny_pure ?_
 rw[evalPart_some]
 have h1:=Ig (X:=X) Im (B2 (X:=X) (i:=1) (j:=j1) (pos:=p3)) (pos:=p4) pins s1 σ H1 (fun v H2=>v = .int (-1)/\H2=H1) I1 ⟨1,rfl,rfl,rfl⟩
 refine aW h1 fun u s3 ⟨y,H3,I3,ry,ey,eH⟩ => ?_
 subst ey eH
 obtain⟨t,rfl⟩:=ry
 have I4:Inv X pins σ H3 { s3 with heap:=s3.heap.push { cls := .type "slice",data := .fields #[.none,.none,.int (-1) t] } }:=I3.kept (t':=s3.toks) fun b ob q=>Heap.get?_push_of_some _ q
 rcases q1 with⟨a,xs,rfl,hx,q⟩ | ⟨a,xs,rfl,hx,q⟩
 ·cases r1
  obtain⟨ag,r,ht,hz⟩:=I4.list hx
  have hlen:=r.length
  refine tail_any (ops:=[.ref a,.ref s3.heap.objs.size]) ht.isList.typeIs slot_list_getitem.lookup ?_ (by with_unfolding_all rfl)
  refine wpAny_getItem_list_slice ht.isList (Heap.IsSliceOf.new ..) .none .none (.int (-1) t) (by decide) ?_ (by rw[List.size_toArray]<;>omega)
  rw[Lw]
  refine⟨.ref _,_,I4.laid (t':=s3.toks) (o := .lst xs.reverse) (fun b ob q=>Heap.get?_push_of_some _ q) (Nat.le_refl _) ?_,rfl,q _ (I4.aJ.fresh (Nat.le_refl _))⟩
  exact⟨by rw[List.length_reverse];exact hz,_,0,zr r,Heap.get?_push_size _ rfl⟩
 ·cases r1
  obtain⟨ag,r,ht,hz⟩:=I4.tuple hx
  have hlen:=r.length
  refine tail_any (ops:=[.ref a,.ref s3.heap.objs.size]) ht.typeIs PyProof.Rows.slot_tuple_getitem.lookup ?_ (by with_unfolding_all rfl)
  refine HT.M3 ht (Heap.IsSliceOf.new ..) ?_ (by omega)
  refine⟨.ref _,_,I4.laid (t':=s3.toks) (o := .tup xs.reverse) (fun b ob q=>Heap.get?_push_of_some _ q) (Nat.le_refl _) ?_,rfl,q _ (I4.aJ.fresh (Nat.le_refl _))⟩
  exact⟨by rw[List.length_reverse];exact hz,_,zr r,IsTup.new _ _⟩
theorem M8:cC X (binaryOp .Add) (fun x y H Q=>∃ a b ys,x = .ref a/\y = .ref b/\bw X.K H a []/\bw X.K H b ys/\Q (.ref b) H):=by
 intro pins s σ H x y v u Q I rx ry h
 obtain⟨a,b,ys,rfl,rfl,ha,hb,q⟩:=h
 cases rx
 cases ry
 obtain⟨ag,r1,p1,_⟩:=I.tuple ha
 obtain⟨aY,r2,p2,_⟩:=I.tuple hb
 have:ag=[]:=r1.eN.mpr rfl
 subst this
 exact HT.MZ p1 p2 ⟨.ref b,H,I,rfl,q⟩
theorem M9:cC X (compareOp .Is) (fun x y H Q=>∃ a b,x = .bl a/\y = .bl b/\Q (.bl (a == b)) H):=by
 intro pins s σ H x y v u Q I rx ry h
 obtain⟨a,b,rfl,rfl,q⟩:=h
 cases rx
 cases ry
 exact wpAny_pure ⟨.bl (a == b),H,I,by cases a<;>cases b<;>rfl,q⟩
theorem M_:cC X (compareOp .IsNot) (fun x y H Q=>∃ a b,x = .bl a/\y = .bl b/\Q (.bl (!(a == b))) H):=by
 intro pins s σ H x y v u Q I rx ry h
 obtain⟨a,b,rfl,rfl,q⟩:=h
 cases rx
 cases ry
 exact wpAny_pure ⟨.bl (!(a == b)),H,I,by cases a<;>cases b<;>rfl,q⟩
noncomputable def eK:D->D->(D->Prop)->Prop
 | .int i,.int j,K=>K (.int (i + j))
 | .lst a,.lst b,K=>a.length + b.length <= 1000/\K (.lst (a ++ b))
 | .tup a,.tup b,K=>a.length + b.length <= 1000/\K (.tup (a ++ b))
 | .str a,.str b,K=>a.length + b.length <= 1000/\K (.str (a ++ b))
 | _,_,_=>False
theorem fI:eI X (binaryOp .Add) eK:=by
 rintro pins s σ H x y v u Q I rx ry ⟨F,d,e,K,sub,rd,re,q,md⟩
 unfold eK at q
 split at q
 ·exact vR pins s σ H x y v u Q I rx ry ⟨F,_,_,K,sub,rd,re,q,md⟩
 ·exact vR pins s σ H x y v u Q I rx ry ⟨F,_,_,K,sub,rd,re,q,md⟩
 ·rename_i as bs
  by_cases c:as=[]
  ·subst c
   have cE:Is F (.tup []) x:=rd
   have iF:Is F (.tup bs) y:=re
   have Na:=iF
   simp only[Is] at cE iF
   obtain⟨a,us,rfl,h1,h2⟩:=cE
   obtain⟨b,ws,rfl,h3,h4⟩:=iF
   have:us=[]:=by simpa only [af] using h2
   subst this
   exact M8 pins s σ H _ _ v u Q I rx ry ⟨a,b,ws,rfl,rfl,bw.of (sub _ _ h1),bw.of (sub _ _ h3),md _ _ _ q.2 (fun _ _ e=>e) (tY sub Na)⟩
  ·exact vR pins s σ H x y v u Q I rx ry ⟨F,_,_,K,sub,rd,re,⟨⟨c,q.1⟩,q.2⟩,md⟩
 ·exact vR pins s σ H x y v u Q I rx ry ⟨F,_,_,K,sub,rd,re,q,md⟩
 ·exact q.elim
noncomputable def pI:D->Option Int->Option Int->(D->Prop)->Prop
 | .lst ds,lo,hi,K=>K (.lst (cutD ds lo hi))
 | .tup ds,lo,hi,K=>K (.tup (cutD ds lo hi))
 | _,_,_,_=>False
noncomputable def j7 (f:WE) (l h:WO):WE:=fun δ K=>f δ fun x δ1=>l δ1 fun lo δ2=>h δ2 fun hi δ3=>gE x δ3 fun d=>pI d lo hi fun z=>K (.p z) δ3
theorem Nc {ds:List D} {lo hi:Option Int} (h:HT.aU ds.length 0 lo=0/\HT.aU ds.length ds.length hi=ds.length):cutD ds lo hi=ds:=by
 unfold cutD
 rw[h.1,h.2,List.drop_zero,Nat.sub_zero,List.take_of_length_le (Nat.le_refl _)]
theorem ET {e:Expr} {f:WE} {lo hi:Option Expr} {l h:WO} {pos p2:Pos} (he:JE X e (tD f)) (hl:PO X lo (vV l)) (hh:PO X hi (vV h)):JE X (.Subscript e (.Slice lo hi none p2) pos) (tD (j7 f l h)) :=
 (zf (gv.or M5) he hl hh).weak fun σ H Q h0_ => el7 h0_ fun F ad δ K S q k =>⟨F,ad,δ,_,S,q,fun x δ1 h1 v F1 aL H1 E1 S1 V1=>⟨F1,aL,δ1,_,S1,h1,fun lo δ2 h2 F2 cV H2 E2 S2=>⟨F2,cV,δ2,_,S2,h2,fun hi δ3 h3 F3 lV H3 E3 S3=>by
  obtain⟨d,h4,rd⟩:=iX S3 ((V1.ext E2).ext E3) h3
  have Ah:=(E1.trans E2).trans E3
  unfold pI at h4
  split at h4
  ·rename_i ds
   obtain⟨a,vs,rfl,g1,g2⟩:=rd
   refine .inl ⟨a,vs,rfl,aP.of g1,fun p hp => ?_⟩
   exact k _ _ h4 _ _ _ _ (Ah.trans (Ext.al S3 (bW hp))) (S3.al (bW hp)) (l5 S3.sub hp (D6 g2 _ _))
  ·rename_i ds
   have cE:Is F3 (.tup ds) v:=rd
   have Nd:=cE
   simp only[Is] at cE
   obtain⟨a,vs,rfl,g1,g2⟩:=cE
   refine .inr ⟨a,vs,rfl,bw.of (S3.sub _ _ g1),fun hw => ?_,fun _ p hp => ?_⟩
   ·rw[g2.length] at hw
    rw[Nc hw] at h4
    exact k _ _ h4 _ _ _ _ Ah S3 Nd
   ·exact k _ _ h4 _ _ _ _ (Ah.trans (Ext.al S3 (bW hp))) (S3.al (bW hp)) (vP S3.sub hp (D6 g2 _ _))
  ·exact h4.elim⟩⟩⟩
noncomputable def wd:D->(D->Prop)->Prop
 | .lst ds,K=>K (.lst ds.reverse)
 | .tup ds,K=>K (.tup ds.reverse)
 | _,_=>False
theorem Nf {e:Expr} {f:WE} {j1} {pos p2 p3 p4:Pos} (he:JE X e (tD f)):JE X (.Subscript e (.Slice none none (some (.UnaryOp .USub (.Constant (.int 1) j1 p3) p4)) p2) pos) (tD (d1 f wd)) :=
 (M7 he).weak fun σ H Q h0_ => el7 h0_ fun F ad δ K S q k =>⟨F,ad,δ,_,S,q,fun x δ1 h1 v F1 aL H1 E1 S1 V1=>by
  obtain⟨d,h4,rd⟩:=iX S1 V1 h1
  unfold wd at h4
  split at h4
  ·rename_i ds
   obtain⟨a,vs,rfl,g1,g2⟩:=rd
   refine .inl ⟨a,vs,rfl,aP.of g1,fun p hp => ?_⟩
   exact k _ _ h4 _ _ _ _ (E1.trans (Ext.al S1 (bW hp))) (S1.al (bW hp)) (l5 S1.sub hp (zQ g2))
  ·rename_i ds
   have cE:Is F1 (.tup ds) v:=rd
   simp only[Is] at cE
   obtain⟨a,vs,rfl,g1,g2⟩:=cE
   refine .inr ⟨a,vs,rfl,bw.of (S1.sub _ _ g1),fun p hp => ?_⟩
   exact k _ _ h4 _ _ _ _ (E1.trans (Ext.al S1 (bW hp))) (S1.al (bW hp)) (vP S1.sub hp (zQ g2))
  ·exact h4.elim⟩
noncomputable def j8:D->D->(D->Prop)->Prop
 | .bl a,.bl b,K=>K (.bl (a == b))
 | d,e,K=>i8 d e K
noncomputable def we:D->D->(D->Prop)->Prop
 | .bl a,.bl b,K=>K (.bl (!(a == b)))
 | d,e,K=>zS d e K
theorem EU:eI X (compareOp .Is) j8:=by
 rintro pins s σ H x y v u Q I rx ry ⟨F,d,e,K,sub,rd,re,q,md⟩
 unfold j8 at q
 split at q
 ·rename_i a b
  exact M9 pins s σ H x y v u Q I rx ry ⟨a,b,rd,re,md _ _ _ q (fun _ _ e=>e) rfl⟩
 ·exact Mc pins s σ H x y v u Q I rx ry ⟨F,_,_,K,sub,rd,re,q,md⟩
theorem Ng:eI X (compareOp .IsNot) we:=by
 rintro pins s σ H x y v u Q I rx ry ⟨F,d,e,K,sub,rd,re,q,md⟩
 unfold we at q
 split at q
 ·rename_i a b
  exact M_ pins s σ H x y v u Q I rx ry ⟨a,b,rd,re,md _ _ _ q (fun _ _ e=>e) rfl⟩
 ·exact Md pins s σ H x y v u Q I rx ry ⟨F,_,_,K,sub,rd,re,q,md⟩
end
end L2
open L2
open Lean in
local macro_rules
 | `(tactic| simp? only [$ls,*] $[$loc:location]?) => do
  let a ← ("List.take_length dep bf Nat.zero_le Nat.max_self Nat.max_zero Nat.zero_max Nat.reduceLeDiff ar aO dN ak ah d1 d2 dC aa iY gE lN i5 av.fix DC gW gy tJ dT qr jW lO e7 tL jn zy eJ m8 aM bp bA lT iD m_ jY dz fG oT cJ bK oZ ju zJ lZ o5 tU cY au vF passes j3 e_ oU oV bg o9 eK pI j7 wd j8 we tN l6 qD fS oI dY oEq pd oLt i8 zS vU cz vX vY qA vZ cb t6 z7 z8 j4 t4 pD fT l7 pC v5 zV c8 t9 av.trim fE tO Option.join_some Option.join_none List.map_cons List.map_nil List.cons_append List.nil_append List.replicate_succ List.replicate_zero List.getElem?_cons_zero List.getElem?_cons_succ List.getElem?_nil List.set_cons_zero List.set_cons_succ List.length_cons List.length_nil List.take_succ_cons List.take_zero List.take_nil List.any_nil List.any_cons Bool.not_false Bool.not_true Bool.and_true Bool.and_self Bool.or_false Bool.false_eq_true Bool.true_eq_false if_true if_false true_and and_true and_self reduceCtorEq beq_self_eq_true Nat.zero_add Nat.reduceAdd Nat.reduceLT Nat.reduceEqDiff Nat.reduceSub List.length_map List.length_append".splitOn " ").toArray.mapM fun s => `(Parser.Tactic.simpLemma| $(mkIdent s.toName):ident)
  let r ← `(Parser.Tactic.simpLemma| ↓reduceIte)
  let a : Syntax.TSepArray [`Lean.Parser.Tactic.simpStar, `Lean.Parser.Tactic.simpErase, `Lean.Parser.Tactic.simpLemma] "," := ⟨(Syntax.SepArray.ofElems (sep := ",") ((a.push r).map (·.raw) ++ ls.getElems.map (·.raw))).elemsAndSeps⟩
  `(tactic| simp only [$a,*] $[$loc]?)
set_option maxHeartbeats 8000000
namespace LJ
open PySem L2
variable [aQ]
theorem EV {ns:List Int} {k:Int} (h0:0 <= k) (h1:k < (ns.length:Int)):∃ n,eO (ns.map D.int) k=some (.int n):=by
 obtain⟨i,rfl⟩:∃ i:Nat,k=i:=⟨k.toNat,by omega⟩
 have hi:i < ns.length:=by omega
 refine⟨ns[i],mW ?_⟩
 rw[List.getElem?_map,List.getElem?_eq_getElem hi];rfl
theorem kQ {α : Type} {x : α} {r:List α}:eO (x :: r) 0=some x:=mW (j:=0) rfl
theorem jy {α : Type} {x y : α} {r:List α}:eO (x :: y :: r) 1=some y:=mW (j:=1) rfl
theorem at2 {α : Type} {x y z : α} {r:List α}:eO (x :: y :: z :: r) 2=some z:=mW (j:=2) rfl
theorem uh {a b A B:Int} (h0:0 <= a) (h1:a <= A) (h2:0 <= b) (h3:b <= B):0 <= a * b/\a * b <= A * B :=
 ⟨Int.mul_nonneg h0 h2,Int.mul_le_mul h1 h3 h2 (Int.le_trans h0 h1)⟩
noncomputable def gZ:List Int:=[2147483629,2147483587,2147483579,2147483563,2147483549,2147483543,2147483497,2147483489,2147483477,2147483423,2147483399,2147483353,2147483323]
theorem Ai (n:Int):∃ q:Int,eO (gZ.map D.int) (n % 13)=some (.int q)/\0 < q/\q < 2147483648:=by
 have h0:0 <= n % 13:=Int.emod_nonneg _ (by decide)
 have h1:n % 13 < 13:=Int.emod_lt_of_pos _ (by decide)
 generalize n % 13=j at h0 h1
 obtain⟨i,rfl⟩:∃ i:Nat,j=i:=⟨j.toNat,by omega⟩
 have hi:i < 13:=by omega
 have hl:(gZ.map D.int)[i]? = some (.int (gZ[i]'(by show i < 13;exact hi))):=by
  rw[List.getElem?_map,List.getElem?_eq_getElem (by show i < 13;exact hi)];rfl
 refine⟨_,mW hl,?_⟩
 have all:∀ q∈gZ,0 < q/\q < 2147483648:=by decide
 exact all _ (List.getElem_mem _)
theorem Nh:iy 3 1=some 1:=rfl
theorem qE:iy 3 2=some 2:=rfl
theorem a6 {A B:WS} {K:KS} {δ : av} (h:∀ N:av->Prop,N=B K->A { K with nx:=N } δ):ar A B K δ := h _ rfl
theorem Ni {t:WT} {G G':WS} {K:KS} {δ : av} (h:∀ A B:av->Prop,A=G K->B=G' K->t δ fun b δ1=>if b=true then A δ1 else B δ1):bp t G G' K δ := h _ _ rfl rfl
theorem qF {w:WI} {g:WG} {b:WS} {K:KS} {δ : av} (h:∀ g' b' K',g'=g->b'=b->K'=K->w δ fun it δ1=>jo δ1 it.a9 g' b' K' it.items δ1):dz w g b K δ := h _ _ _ rfl rfl rfl
theorem qG {f:WE} {g:WA} {δ : av} {K:List DV->av->Prop} (h:∀ K',K'=(fun x δ1=>g δ1 fun xs δ2=>K (x :: xs) δ2)->f δ K'):ak f g δ K:=h _ rfl
noncomputable def ui:GD:=fun ys ao K=>∃ cell at_:Int,ys=[.p (.int cell),.p (.int at_)]/\ao=[]/\0 <= at_/\at_ < 2 ^ 30/\∀ z:Int,K (.p (.int z)) []
noncomputable def Aj:WS:=(ar (bp (dT (d2 (aa 0) (d2 (dC (.int 10)) (dC (.int 18)) (dY gr fun i j => .int (i ^ j.toNat))) (oI fun i j => .bl (decide (j <= i))))) (aM (aa 0)) eJ) (ar (aO 2 (gy (ak (dC (.int 2147483629)) (ak (dC (.int 2147483587)) (ak (dC (.int 2147483579)) (ak (dC (.int 2147483563)) (ak (dC (.int 2147483549)) (ak (dC (.int 2147483543)) (ak (dC (.int 2147483497)) (ak (dC (.int 2147483489)) ah)))))))))) (ar (aO 2 (d2 (aa 2) (gy (ak (dC (.int 2147483477)) (ak (dC (.int 2147483423)) (ak (dC (.int 2147483399)) (ak (dC (.int 2147483353)) (ak (dC (.int 2147483323)) ah)))))) eK)) (ar (aO 3 (d2 (d2 (d2 (d2 (d2 (d2 (aa 0) (dC (.int 1000000007)) (dY (fun _ j=>0 < j) fun i j => .int (i % j))) (d2 (d2 (dC (.int 2)) (aa 1) fS) (dC (.int 69069)) eK) fS) (d2 (aa 1) (dC (.int 40503)) fS) eK) (dC (.int 977)) eK) (dC (.int 3)) (dY gr fun i j => .int (i ^ j.toNat))) (d2 (aa 2) (d2 (aa 1) (dC (.int 13)) (dY (fun _ j=>0 < j) fun i j => .int (i % j))) bg) (dY (fun _ j=>0 < j) fun i j => .int (i % j)))) (ar (aO 4 (d2 (d2 (d2 (d2 (d2 (aa 3) (d2 (aa 1) (dC (.int 3)) eK) fS) (d2 (aa 0) (dC (.int 65537)) (dY (fun _ j=>0 < j) fun i j => .int (i % j))) eK) (dC (.int 5)) eK) (dC (.int 5)) (dY gr fun i j => .int (i ^ j.toNat))) (d2 (aa 2) (d2 (d2 (aa 1) (dC (.int 5)) eK) (dC (.int 13)) (dY (fun _ j=>0 < j) fun i j => .int (i % j))) bg) (dY (fun _ j=>0 < j) fun i j => .int (i % j)))) (ar (aO 5 (d2 (d2 (d2 (d2 (aa 4) (d2 (aa 3) (dC (.int 1009)) (dY (fun _ j=>0 < j) fun i j => .int (i % j))) eK) (aa 1) eK) (dC (.int 3)) (dY gr fun i j => .int (i ^ j.toNat))) (d2 (aa 2) (d2 (d2 (aa 1) (dC (.int 7)) eK) (dC (.int 13)) (dY (fun _ j=>0 < j) fun i j => .int (i % j))) bg) (dY (fun _ j=>0 < j) fun i j => .int (i % j)))) (aM (d2 (d2 (d2 (d2 (aa 3) (dC (.int 2147483647)) fS) (aa 4) eK) (dC (.int 2147483647)) fS) (aa 5) eK))))))))
theorem Nj:∀ ys ao K',ys.length=2->ui ys ao K'->Aj (c8 ao.length K') ⟨ys.map some ++ List.replicate 4 none,ao.map some⟩:=by
 rintro ys ao K' - ⟨cell,k,rfl,rfl,h0,h1,fin⟩
 unfold Aj
 have uj:∀ (z:Int) (sl:List (Option DV)),gz 0 K' (.p (.int z)) ⟨sl,[]⟩:=fun z sl=>⟨[],rfl,rfl,fin z⟩
 simp? only []
 refine⟨⟨by decide,by decide,by decide⟩,?_⟩
 split
 ·exact uj _ _
 obtain⟨q1,e1,p1,b1⟩:=Ai k
 obtain⟨q2,e2,p2,b2⟩:=Ai (k + 5)
 obtain⟨q3,e3,p3,b3⟩:=Ai (k + 7)
 simp only[gZ,List.map_cons,List.map_nil] at e1 e2 e3
 simp only[e1,e2,e3]
 have c0:0 <= cell % 1000000007:=Int.emod_nonneg _ (by decide)
 have c1:cell % 1000000007 < 1000000007:=Int.emod_lt_of_pos _ (by decide)
 have m1:=uh c0 (Int.le_of_lt c1) (show (0:Int) <= 2 * k + 69069 by omega) (show 2 * k + 69069 <= 2147552717 by omega)
 refine⟨by decide,.inl ⟨by decide,by decide⟩,.inl ⟨by omega,by omega⟩,.inr ⟨by decide,by decide⟩,⟨by decide,by decide,?cp1⟩,by decide,p1,?_⟩
 case cp1 =>
  generalize cell % 1000000007 * (2 * k + 69069)=m at m1 ⊢
  omega
 generalize (cell % 1000000007 * (2 * k + 69069) + k * 40503 + 977) ^ (3:Int).toNat=x1
 have o0:0 <= x1 % q1:=Int.emod_nonneg _ (by omega)
 have o1:x1 % q1 < q1:=Int.emod_lt_of_pos _ p1
 have d0:0 <= cell % 65537:=Int.emod_nonneg _ (by decide)
 have d1:cell % 65537 < 65537:=Int.emod_lt_of_pos _ (by decide)
 have m2:=uh o0 (show x1 % q1 <= 2147483648 by omega) (show (0:Int) <= k + 3 by omega) (show k + 3 <= 1073741827 by omega)
 refine⟨.inl ⟨by omega,by omega⟩,by decide,⟨by decide,by decide,?cp2⟩,by decide,p2,?_⟩
 case cp2 =>
  generalize x1 % q1 * (k + 3)=m at m2 ⊢
  omega
 have t0:0 <= (x1 % q1 * (k + 3) + cell % 65537 + 5) ^ (5:Int).toNat % q2:=Int.emod_nonneg _ (by omega)
 have t1:(x1 % q1 * (k + 3) + cell % 65537 + 5) ^ (5:Int).toNat % q2 < q2:=Int.emod_lt_of_pos _ p2
 have u0:0 <= x1 % q1 % 1009:=Int.emod_nonneg _ (by decide)
 have u1:x1 % q1 % 1009 < 1009:=Int.emod_lt_of_pos _ (by decide)
 generalize (x1 % q1 * (k + 3) + cell % 65537 + 5) ^ (5:Int).toNat % q2=m at t0 t1 ⊢
 exact⟨by decide,⟨by decide,by decide,by omega⟩,by decide,p3,.inr ⟨by decide,by decide⟩,.inr ⟨by decide,by decide⟩,uj _ _⟩
noncomputable def ig (ns:List Int) (k z:Int):OV := .lst [.lst (ns.map D.int),.int k,.int z]
structure aZ (n:Int) (o:OV):Prop where
 out:∃ ns k z,o=ig ns k z/\ns.length <= 63/\0 <= k/\k <= n
theorem aZ.mono {n m:Int} {o:OV} (h:aZ n o) (l:n <= m):aZ m o:=by
 obtain⟨ns,k,z,e,h1,h2,h3⟩:=h.out
 exact⟨ns,k,z,e,h1,h2,by omega⟩
noncomputable def um:GD:=fun ys ao K=>∃ n o,ys=[.o 0]/\ao=[o]/\aZ n o/\∀ o',aZ n o'->K (.a 0) [o']
noncomputable def Ak:WS:=(ar (pD (dC (.int 0)) (aa 0) (dC (.int 2))) (aM (aa 0)))
theorem Nk:∀ ys ao K',ys.length=1->um ys ao K'->Ak (c8 ao.length K') ⟨ys.map some ++ List.replicate 0 none,ao.map some⟩:=by
 rintro ys ao K' - ⟨n,o,rfl,rfl,P,fin⟩
 obtain⟨ns,k,z,rfl,h1,h2,h3⟩:=P.out
 unfold Ak ig
 simp? only []
 exact⟨[ig ns k 0],rfl,rfl,fin _ ⟨ns,k,0,rfl,h1,h2,h3⟩⟩
noncomputable def f6:GD:=fun ys ao K=>∃ (n m:Int) (o:OV),ys=[.o 0,.p (.int m)]/\ao=[o]/\aZ n o/\n < 2 ^ 30/\0 < m/\m < 1073741824/\∀ r o',0 <= r->r < m->aZ (n + 1) o'->K (.p (.int r)) [o']
noncomputable def Al:WS:=(ar (bp (dT (d2 (d2 (aa 0) (dC (.int 2)) bg) (aa 1) oLt)) (ar (aO 2 (d2 (aa 0) (dC (.int 1)) bg)) (ar (aO 3 (dC (.int 0))) (ar (bp (dT (d2 (aa 2) (dN (ak (d2 (aa 0) (dC (.int 0)) bg) ah) cz) oLt)) (aO 3 (d2 (d2 (aa 0) (dC (.int 0)) bg) (aa 2) bg)) (bp (dT (d2 (dN (ak (d2 (aa 0) (dC (.int 0)) bg) ah) cz) (dC (.int 0)) (oI fun i j => .bl (decide (j < i))))) (aO 3 (d2 (d2 (d2 (aa 0) (dC (.int 0)) bg) (d2 (d2 (d2 (aa 2) (dC (.int 5)) fS) (dC (.int 3)) eK) (dN (ak (d2 (aa 0) (dC (.int 0)) bg) ah) cz) (dY (fun _ j=>0 < j) fun i j => .int (i % j))) bg) (d2 (d2 (dC (.int 10)) (dC (.int 17)) (dY gr fun i j => .int (i ^ j.toNat))) (aa 2) eK) (dY (fun _ j=>0 < j) fun i j => .int (i % j)))) eJ)) (ar (pD (d2 (aa 2) (dC (.int 1)) eK) (aa 0) (dC (.int 1))) (pD (au 2 ui (ak (aa 3) (ak (aa 2) ah))) (aa 0) (dC (.int 2))))))) eJ) (ar (aO 4 (d2 (d2 (aa 0) (dC (.int 2)) bg) (aa 1) (dY (fun _ j=>0 < j) fun i j => .int (i % j)))) (ar (pD (d2 (d2 (aa 0) (dC (.int 2)) bg) (aa 1) (dY sg fun i j => .int (i.fdiv j))) (aa 0) (dC (.int 2))) (aM (aa 4)))))
theorem Nl:∀ ys ao K',ys.length=2->f6 ys ao K'->Al (c8 ao.length K') ⟨ys.map some ++ List.replicate 3 none,ao.map some⟩:=by
 rintro ys ao K' - ⟨n,m,o,rfl,rfl,P,hn,Am,Vr,fin⟩
 obtain⟨ns,k,z,rfl,h1,h2,h3⟩:=P.out
 unfold Al ig
 have last:∀ (k' z':Int) (sl:List (Option DV)),0 <= k'->k' <= n + 1->gz 1 K' (.p (.int (z' % m))) ⟨sl,[some (.lst [.lst (ns.map D.int),.int k',.int (z'.fdiv m)])]⟩:=fun k' z' sl a b =>
  ⟨[ig ns k' (z'.fdiv m)],rfl,rfl,fin _ _ (Int.emod_nonneg _ (by omega)) (Int.emod_lt_of_pos _ Am) ⟨ns,k',_,rfl,h1,a,b⟩⟩
 have EW:∀ z,sg z m:=fun z=>⟨by omega,by omega⟩
 have rest:∀ (k' z':Int) (sl:List (Option DV)),0 <= k'->k' <= n + 1->4 < sl.length->sl[0]? = some (some (.o 0))->sl[1]? = some (some (.p (.int m)))->(ar (aO 4 (d2 (d2 (aa 0) (dC (.int 2)) bg) (aa 1) (dY (fun _ j=>0 < j) fun i j => .int (i % j)))) (ar (pD (d2 (d2 (aa 0) (dC (.int 2)) bg) (aa 1) (dY sg fun i j => .int (i.fdiv j))) (aa 0) (dC (.int 2))) (aM (aa 4)))) (c8 1 K') ⟨sl,[some (.lst [.lst (ns.map D.int),.int k',.int z'])]⟩:=fun k' z' sl a b hl s0 s1=>by
  match sl,hl,s0,s1 with
  | [x0,x1,x2,x3,x4],_,s0,s1 =>
   cases Option.some.inj s0;cases Option.some.inj s1
   simp? only [at2,qE]
   exact⟨Am,EW _,last _ _ _ a b⟩
  | x0 :: x1 :: x2 :: x3 :: x4 :: x5 :: r,_,s0,s1 =>
   cases Option.some.inj s0;cases Option.some.inj s1
   simp? only [at2,qE]
   exact⟨Am,EW _,last _ _ _ a b⟩
 refine a6 fun N hN => ?_
 simp? only [kQ,jy,at2,Nh,qE]
 split
 ·split
  ·rename_i c_
   obtain⟨c,ec⟩:=EV h2 (of_decide_eq_true c_)
   rw[ec]
   refine⟨c,k,rfl,rfl,h2,by omega,fun z' => ?_⟩
   simp? only [qE]
   subst hN
   exact rest _ _ _ (by omega) (by omega) (by show 4 < 5;decide) rfl rfl
  ·rename_i Vs
   split
   ·rename_i l_
    have l_:=of_decide_eq_true l_
    obtain⟨c,ec⟩:=EV (ns:=ns) (k:=(k * 5 + 3) % (ns.length:Int)) (Int.emod_nonneg _ (by omega)) (Int.emod_lt_of_pos _ l_)
    refine⟨.inr ⟨by decide,by decide⟩,l_,?_⟩
    rw[ec]
    refine⟨⟨by decide,by decide,by decide⟩,by show (0:Int) < 10 ^ 17 + k;omega,_,k,rfl,rfl,h2,by omega,fun z' => ?_⟩
    simp? only [qE]
    subst hN
    exact rest _ _ _ (by omega) (by omega) (by show 4 < 5;decide) rfl rfl
   ·refine⟨_,k,rfl,rfl,h2,by omega,fun z' => ?_⟩
    simp? only [qE]
    subst hN
    exact rest _ _ _ (by omega) (by omega) (by show 4 < 5;decide) rfl rfl
 ·subst hN
  exact rest _ _ _ (by omega) (by omega) (by show 4 < 5;decide) rfl rfl
noncomputable def cw (p:Int × Int):D := .tup [.int p.1,.int p.2]
structure c9 (many:Int) (ps:List (Int × Int)):Prop where
 ends:∀ p∈ps,0 <= p.1/\p.1 < p.2/\p.2 < many
 lb:ps.Nodup
 g_:ps.length <= 66
theorem c9.sub {many:Int} {ps qs:List (Int × Int)} (h:c9 many ps) (s:qs.Sublist ps):c9 many qs :=
 ⟨fun p hp=>h.ends p (s.subset hp),h.lb.sublist s,Nat.le_trans s.length_le h.g_⟩
noncomputable def uo:GD:=fun ys ao K=>∃ (n kind many:Int) (o:OV),ys=[.o 0,.p (.int kind),.p (.int many)]/\ao=[o]/\aZ n o/\n + 100 < 2 ^ 30/\1 <= many/\many <= 12/\∀ ps o',c9 many ps->aZ (n + 67) o'->K (.n (ps.map cw)) [o']
noncomputable def An:WS:=(ar (aO 3 (tJ ah)) (ar (dz (ju (ak (aa 2) ah)) (bA 4) (m8 (pC (aa 3) (ak (fG (ju (ak (aa 4) ah)) [none,some 4] (bA 0) cJ (gW (ak (aa 0) (ak (aa 1) ah)))) ah)))) (ar (bp (dT (d2 (aa 1) (dC (.int 1)) oEq)) (aM (oT (zJ (ak (dC (.int 1)) (ak (aa 2) ah))) [none,some 0] (bA 0) cJ (gW (ak (au 2 f6 (ak (aa 1) (ak (aa 0) ah))) (ak (aa 0) ah))))) eJ) (ar (bp (dT (d2 (aa 1) (dC (.int 2)) oEq)) (ar (aO 5 (fG (ju (ak (d2 (aa 2) (dC (.int 1)) (oI fun i j => .int (i - j))) ah)) [none] (bA 0) cJ (gW (ak (aa 0) (ak (d2 (aa 0) (dC (.int 1)) eK) ah))))) (aM (z8 (aa 5) (fG (bK (aa 3)) [none,some 2] (bA 0) (jW (dT (d2 (aa 0) (gW (ak (dC (.int 0)) (ak (d2 (aa 1) (dC (.int 1)) (oI fun i j => .int (i - j))) ah))) oEq)) (dT (d2 (aa 1) (dC (.int 2)) (oI fun i j => .bl (decide (j < i)))))) (aa 0))))) eJ) (ar (bp (dT (d2 (aa 1) (dC (.int 3)) oEq)) (aM (aa 3)) eJ) (ar (bp (dT (d2 (aa 1) (dC (.int 4)) oEq)) (aM (oT (bK (aa 3)) [none,some 0] (bA 0) (dT (d2 (au 2 f6 (ak (aa 1) (ak (dC (.int 4)) ah))) (dC (.int 0)) oEq)) (aa 0))) eJ) (ar (bp (dT (d2 (aa 1) (dC (.int 5)) oEq)) (ar (aO 6 (au 2 f6 (ak (aa 0) (ak (d2 (aa 2) (dC (.int 1)) eK) ah)))) (aM (oT (bK (aa 3)) [none,some 6,some 0] (bA 0) (jW (dT (d2 (d2 (d2 (aa 0) (dC (.int 0)) bg) (aa 1) oLt) (d2 (d2 (aa 0) (dC (.int 1)) bg) (aa 1) oLt) oEq)) (dT (d2 (au 2 f6 (ak (aa 2) (ak (dC (.int 3)) ah))) (dC (.int 0)) (oI fun i j => .bl (decide (j < i)))))) (aa 0)))) eJ) (aM (oT (bK (aa 3)) [none,some 0] (bA 0) (dT (d2 (au 2 f6 (ak (aa 1) (ak (dC (.int 2)) ah))) (dC (.int 0)) oEq)) (aa 0))))))))))
theorem sub_snoc {α : Type} {zs ps:List α} {i:Nat} {x : α} (h:zs.Sublist (ps.take i)) (e:ps[i]? = some x):(zs ++ [x]).Sublist (ps.take (i + 1))/\zs.Sublist (ps.take (i + 1)):=by
 have:ps.take (i + 1)=ps.take i ++ [x]:=by rw[List.take_succ,e];rfl
 rw[this]
 exact⟨h.append (List.Sublist.refl _),h.trans (List.sublist_append_left _ _)⟩
theorem Nm {α : Type} {l:List α} {c : α} (h:l.Nodup) (hc:∀ x∈l,x=c):l.length <= 1:=by
 match l,h,hc with
 | [],_,_=>exact Nat.zero_le _
 | [_],_,_=>exact Nat.le_refl _
 | x :: y :: r,h,hc =>
  have:=(List.pairwise_cons.mp h).1 y (List.mem_cons_self)
  exact absurd ((hc x List.mem_cons_self).trans (hc y (List.mem_cons_of_mem _ List.mem_cons_self)).symm) this
theorem Ao {n:Int} {o:OV} {ps:List (Int × Int)} {t:WT} {K:List D->av->Prop} {rest:List (Option DV)} {ev:Option OV} {a9:av->Prop} (hc:∀ sl o',a9 ⟨sl,[some o',ev]⟩) (hw:ps.length <= 66) (P:aZ n o) (hn:n + 70 < 2 ^ 30)
  (ht:∀ (p:Int × Int) (i:Nat) (o':OV) (Q:Bool->av->Prop),p∈ps->i <= 66->aZ (n + i) o'->(∀ b j9,aZ (n + i + 1) j9->Q b ⟨some (.p (cw p)) :: rest,[some j9,ev]⟩)->t ⟨some (.p (cw p)) :: rest,[some o',ev]⟩ Q)
  (hr:fE 2 rest rest=rest)
  (fin:∀ (zs:List (Int × Int)) o',zs.Sublist ps->aZ (n + ps.length) o'->K (zs.map cw) ⟨none :: rest,[some o',ev]⟩) :
  iE ⟨none :: rest,[some o,ev]⟩ a9 (bA 0) t (aa 0) K (ps.map cw) [] ⟨none :: rest,[some o,ev]⟩:=by
 refine z4 (fun i acc δ => ∃ (zs:List (Int × Int)) (o':OV),zs.Sublist (ps.take i)/\acc=zs.map cw/\aZ (n + i) o' /\ δ = ⟨none :: rest,[some o',ev]⟩) ⟨[],o,List.Sublist.refl _,rfl,P.mono (by omega),rfl⟩ ?_ ?_
 ·rintro j d acc δ L hj ⟨zs,o',hz,rfl,P',rfl⟩ hL
  rw[List.getElem?_map] at hj
  obtain⟨p,hp,rfl⟩:=Option.map_eq_some_iff.mp hj
  have MY:j < ps.length:=(List.getElem?_eq_some_iff.mp hp).1
  refine⟨hc _ _,?_⟩
  show t ⟨some (.p (cw p)) :: rest,[some o',ev]⟩ _
  refine ht p j o' _ (List.mem_of_getElem? hp) (by omega) P' fun b j9 me => ?_
  have hlen:(zs.map cw).length < 1000:=by
   rw[List.length_map]
   have:=hz.length_le
   rw[List.length_take] at this;omega
  have P3:aZ (n + ((j + 1:Nat):Int)) j9:=me.mono (by omega)
  cases b with
  | true =>
   rw[if_pos rfl]
   refine⟨hlen,hL _ _ ⟨zs ++ [p],j9,(sub_snoc hz hp).1,by rw[List.map_append];rfl,P3,?_⟩⟩
   show (⟨none :: fE 2 rest rest,_⟩:av)=_
   rw[hr];rfl
  | false =>
   rw[if_neg (by decide)]
   refine hL _ _ ⟨zs,j9,(sub_snoc hz hp).2,rfl,P3,?_⟩
   show (⟨none :: fE 2 rest rest,_⟩:av)=_
   rw[hr];rfl
 ·rintro acc δ ⟨zs,o',hz,rfl,P',rfl⟩
  rw[List.length_map] at P' hz
  rw[List.take_of_length_le (Nat.le_refl _)] at hz
  exact⟨hc _ _,fin zs o' hz P'⟩
theorem Nn:∀ ys ao K',ys.length=3->uo ys ao K'->An (c8 ao.length K') ⟨ys.map some ++ List.replicate 4 none,ao.map some⟩:=by
 rintro ys ao K' - ⟨n,kind,many,o,rfl,rfl,P,hn,m1,iB,fin⟩
 obtain⟨mm,rfl⟩:∃ mm:Nat,many=mm:=⟨many.toNat,by omega⟩
 have Ap:mm <= 12:=by omega
 unfold An
 have bL:c9 mm (iC mm):=⟨fun p hp=>zk hp,Dm mm,Dn mm Ap⟩
 refine a6 fun N hN => ?_
 simp? only []
 subst hN
 refine a6 fun N hN => ?_
 simp? only []
 refine⟨by omega,?_⟩
 refine l8 (fun i δ => δ = ⟨[some (.o 0),some (.p (.int kind)),some (.p (.int mm)),some (.o 1),none,none,none],[some o,some (.lst ((iC i).map cw))]⟩) rfl ?_ ?_
 ·rintro j d δ L hj rfl hL
  obtain⟨hj,rfl⟩:=l3 hj
  simp? only []
  have e:(0 + (j:Int))=j:=by omega
  rw[e]
  refine⟨by omega,?_⟩
  refine jx (fun d=>match d with
   | .int a=>cw (a,j)
   | _ => .non) (by rw[kO];omega) trivial ?_ ?_
  ·intro d hd acc L' ha h
   obtain⟨i,hi⟩:=List.mem_iff_getElem?.mp hd
   obtain⟨hi,rfl⟩:=l3 hi
   simp? only []
   exact⟨ha,h⟩
  ·have e2:(iC j).map cw ++ (bT 0 (j:Int).toNat).map (fun d=>match d with
    | .int a=>cw (a,j)
    | _ => .non)=(iC (j + 1)).map cw:=by
    show _=(iC j ++ _).map cw
    unfold bT
    rw[List.map_append,List.map_map,List.map_map]
    congr 1
    refine List.map_congr_left fun a _ => ?_
    simp[Function.comp]
   simp? only []
   have Vt:=Dn j (by omega)
   refine⟨by rw[kO];omega,?_⟩
   rw[e2]
   exact hL _ rfl
 ·rintro δ rfl
  refine⟨trivial,?_⟩
  subst hN
  have eL:((mm:Int)).toNat=mm:=by omega
  rw[kO,eL]
  dsimp only
  have back:∀ (ps:List (Int × Int)) (o':OV) (sl:List (Option DV)) (m:List (Option OV)),c9 mm ps->aZ (n + 67) o'->gz 1 K' (.o (m.length + 1)) ⟨sl,some o' :: (m ++ [some (.lst (ps.map cw))])⟩:=fun ps o' sl m h1 h2=>by
   refine⟨[o'],rfl,rfl,?_⟩
   show if m.length + 1 < 1 then _ else _
   rw[if_neg (by omega)]
   have:(some o' :: (m ++ [some (OV.lst (ps.map cw))]))[m.length + 1]? = some (some (.lst (ps.map cw))):=by
    rw[List.getElem?_cons_succ,List.getElem?_append_right (Nat.le_refl _),Nat.sub_self];rfl
   dsimp only
   rw[this]
   exact .inl (fin ps o' h1 h2)
  refine a6 fun N hN => ?_
  simp? only [ax]
  split
  ·refine⟨by omega,?_⟩
   refine z4 (fun i acc δ => ∃ (zs:List (Int × Int)) (o':OV),zs.length=i/\(∀ (q:Nat) (p:Int × Int),zs[q]? = some p->p.2=q + 1/\0 <= p.1/\p.1 < p.2)/\acc=zs.map cw/\aZ (n + i) o' /\ δ = ⟨[none,some (.o 0)],[some o',some (.lst ((iC mm).map cw))]⟩) ⟨[],o,rfl,fun q p e=>by simp at e,rfl,P.mono (by omega),rfl⟩ ?_ ?_
   ·rintro j d acc δ L hj ⟨zs,o',hz,hq,rfl,P',rfl⟩ hL
    obtain⟨hj,rfl⟩:=l3 hj
    simp? only []
    refine⟨n + j,1 + j,o',rfl,rfl,P',by omega,by omega,by omega,fun r j9 r0 r1 me => ?_⟩
    simp? only []
    refine⟨by omega,hL _ _ ⟨zs ++ [(r,1 + (j:Int))],j9,by rw[List.length_append,hz];rfl,fun q p e => ?_,by rw[List.map_append];rfl,me.mono (by omega),rfl⟩⟩
    by_cases c:q < zs.length
    ·rw[List.getElem?_append_left c] at e
     exact hq q p e
    ·have hl:=(List.getElem?_eq_some_iff.mp e).1
     rw[List.length_append,List.length_singleton] at hl
     have:q=zs.length:=by omega
     subst this
     rw[List.getElem?_append_right (Nat.le_refl _),Nat.sub_self] at e
     cases (show some (r,1 + (j:Int))=some p by simpa using e)
     exact⟨by show 1 + (j:Int)=_;omega,r0,r1⟩
   ·rintro acc δ ⟨zs,o',hz,hq,rfl,P',rfl⟩
    rw[kO] at hz P'
    refine⟨trivial,?_⟩
    refine back zs o' _ [_] ⟨fun p hp => ?_,?_,by omega⟩ (P'.mono (by omega))
    ·obtain⟨q,EX⟩:=List.mem_iff_getElem?.mp hp
     have:=hq q p EX
     have hl:=(List.getElem?_eq_some_iff.mp EX).1
     omega
    ·refine List.pairwise_iff_getElem.mpr fun i j hi hj Vu e => ?_
     have q1:=hq i _ (List.getElem?_eq_getElem hi)
     have q2:=hq j _ (List.getElem?_eq_getElem hj)
     rw[e] at q1
     omega
  subst hN
  refine a6 fun N hN => ?_
  simp? only [ax]
  split
  ·clear hN
   refine⟨by omega,?_⟩
   refine jx (fun d=>match d with
    | .int a=>cw (a,a + 1)
    | _ => .non) (by rw[kO];omega) trivial ?_ ?_
   ·intro d hd acc L' ha h
    obtain⟨i,hi⟩:=List.mem_iff_getElem?.mp hd
    obtain⟨hi,rfl⟩:=l3 hi
    simp? only []
    exact⟨ha,h⟩
   ·simp? only []
    refine z5 (fun d=>ax d (cw (0,mm - 1)) && decide ((2:Int) < mm)) id (by rw[List.length_map];have:=bL.g_;omega) rfl ?_ ?_
    ·intro d hd acc L' ha h h'
     obtain⟨p,hp,rfl⟩:=List.mem_map.mp hd
     simp only[cw] at h h'
     simp? only [cw]
     split
     ·rename_i q1
      split
      ·rename_i q2
       exact⟨ha,h (by rw[q1,q2];rfl)⟩
      ·rename_i q2
       exact h' (by rw[q1,Bool.not_eq_true _ |>.mp q2];rfl)
     ·rename_i q1
      exact h' (by rw[Bool.not_eq_true _ |>.mp q1];rfl)
    ·simp? only []
     have er:(bT 0 ((mm:Int) - 1).toNat).map (fun d=>match d with
       | D.int a=>cw (a,a + 1)
       | x=>D.non)=((List.range (mm - 1)).map fun i:Nat=>((i:Int),(i:Int) + 1)).map cw:=by
      unfold bT
      rw[List.map_map,List.map_map]
      have:((mm:Int) - 1).toNat=mm - 1:=by omega
      rw[this]
      refine List.map_congr_left fun a _ => ?_
      simp[Function.comp]
     have ef:(((iC mm).map cw).filter fun d=>ax d (cw (0,mm - 1)) && decide ((2:Int) < mm))=((iC mm).filter fun p=>ax (cw p) (cw (0,mm - 1)) && decide ((2:Int) < mm)).map cw:=by
      rw[List.filter_map];rfl
     rw[er,List.map_id,ef,<-List.map_append]
     have hf:∀ p∈(iC mm).filter (fun p=>ax (cw p) (cw (0,mm - 1)) && decide ((2:Int) < mm)),p=(0,(mm:Int) - 1)/\(2:Int) < mm:=fun p hp=>by
      have:=(List.mem_filter.mp hp).2
      simp[cw,ax,dA] at this
      obtain⟨a,b⟩:=p
      simp at this ⊢
      omega
     have h1:((iC mm).filter (fun p=>ax (cw p) (cw (0,mm - 1)) && decide ((2:Int) < mm))).length <= 1:=Nm (bL.lb.sublist List.filter_sublist) fun p hp=>(hf p hp).1
     refine⟨by rw[kO,List.length_map];omega,back _ o _ [_] ⟨fun p hp => ?_,?_,?_⟩ (P.mono (by omega))⟩
     ·rcases List.mem_append.mp hp with hp | hp
      ·obtain⟨i,hi,rfl⟩:=List.mem_map.mp hp
       have:=List.mem_range.mp hi
       exact⟨by omega,by omega,by show (i:Int) + 1 < mm;omega⟩
      ·exact bL.ends p (List.mem_filter.mp hp).1
     ·refine List.nodup_append.mpr ⟨?_,bL.lb.sublist List.filter_sublist,fun a ha b hb e => ?_⟩
      ·refine List.pairwise_map.mpr (List.nodup_range.imp fun {a b} ne e=>ne ?_)
       have:=congrArg Prod.fst e
       exact Int.ofNat.inj this
      ·subst e
       obtain⟨i,hi,rfl⟩:=List.mem_map.mp ha
       have:=hf _ hb
       have h2:=congrArg Prod.fst this.1
       have h3:=congrArg Prod.snd this.1
       simp at h2 h3
       omega
     ·rw[List.length_append,List.length_map,List.length_range];omega
  subst hN
  refine a6 fun N hN => ?_
  simp? only [ax]
  split
  ·exact⟨[o],rfl,rfl,.inl (fin _ _ bL (P.mono (by omega)))⟩
  subst hN
  refine a6 fun N hN => ?_
  simp? only [ax]
  split
  ·refine Ao (fun _ _=>rfl) bL.g_ P (by omega) (fun p i o' Q hp hi P' hQ => ?_) rfl fun zs o' hz P' => ?_
   ·simp? only [ax]
    refine⟨n + i,4,o',rfl,rfl,P',by omega,by omega,by omega,fun r j9 r0 r1 me => ?_⟩
    simp? only []
    exact hQ _ _ me
   ·exact back zs o' _ [_] (bL.sub hz) (P'.mono (by have:=bL.g_;omega))
  subst hN
  refine a6 fun N hN => ?_
  simp? only [ax]
  split
  ·refine⟨n,mm + 1,o,rfl,rfl,P,by omega,by omega,by omega,fun half o1 r0 r1 P1 => ?_⟩
   simp? only []
   refine Ao (n:=n + 1) (fun _ _=>rfl) bL.g_ P1 (by omega) (fun p i o' Q hp hi P' hQ => ?_) rfl fun zs o' hz P' => ?_
   ·simp? only [ax,cw,kQ,jy]
    split
    ·refine⟨n + 1 + i,3,o',rfl,rfl,P',by omega,by omega,by omega,fun r j9 r0 r1 me => ?_⟩
     simp? only []
     exact hQ _ _ me
    ·exact hQ _ _ (P'.mono (by omega))
   ·exact back zs o' _ [_] (bL.sub hz) (P'.mono (by have:=bL.g_;omega))
  subst hN
  simp? only [ax]
  refine Ao (fun _ _=>rfl) bL.g_ P (by omega) (fun p i o' Q hp hi P' hQ => ?_) rfl fun zs o' hz P' => ?_
  ·simp? only [ax]
   refine⟨n + i,2,o',rfl,rfl,P',by omega,by omega,by omega,fun r j9 r0 r1 me => ?_⟩
   simp? only []
   exact hQ _ _ me
  ·exact back zs o' _ [_] (bL.sub hz) (P'.mono (by have:=bL.g_;omega))
theorem Aq {α : Type}:∀ {l:List α} {j:Nat} (h:j < l.length),List.Perm (l[j] :: l.eraseIdx j) l
 | x :: r,0,h=>List.Perm.refl _
 | x :: r,j + 1,h=>by
  have hj:j < r.length:=by simpa using h
  show List.Perm (r[j] :: x :: r.eraseIdx j) (x :: r)
  exact (List.Perm.swap x r[j] _).trans ((Aq hj).cons x)
theorem Ar {α β : Type} (f : α -> β):∀ (l:List α) (j:Nat),(l.map f).eraseIdx j=(l.eraseIdx j).map f
 | [],_=>rfl
 | _ :: _,0=>rfl
 | x :: r,j + 1=>by
  show f x :: (r.map f).eraseIdx j=f x :: (r.eraseIdx j).map f
  rw[Ar f r j]
noncomputable def cA (y:Int × Int × Int):D := .tup [.int y.1,.int y.2.1,.int y.2.2]
noncomputable def aG (m:Int) (ys:List (Int × Int × Int)):D := .tup [.int m,.tup (ys.map cA)]
noncomputable def pJ (y:Int × Int × Int):Int × Int:=(y.1,y.2.1)
theorem c9.perm {many:Int} {ps qs:List (Int × Int)} (h:c9 many ps) (p:qs.Perm ps):c9 many qs :=
 ⟨fun x hx=>h.ends x (p.mem_iff.mp hx),p.nodup_iff.mpr h.lb,by rw[p.length_eq];exact h.g_⟩
noncomputable def uq:GD:=fun ys ao K=>∃ (n dg most:Int) (o:OV),ys=[.o 0,.p (.int dg),.p (.int most)]/\ao=[o]/\aZ n o/\n + 400 < 2 ^ 30/\1 <= dg/\dg <= 12/\0 <= most/\most <= 30 ∧
 ∀ m ws o',fP m ws->m <= dg->(ws.length:Int) <= most->aZ (n + 300) o'->K (.p (aG m ws)) [o']
noncomputable def As:WS:=(ar (aO 3 (au 2 f6 (ak (aa 0) (ak (dC (.int 8)) ah)))) (ar (aO 4 (au 2 f6 (ak (aa 0) (ak (dC (.int 4)) ah)))) (ar (aO 5 (d2 (dC (.int 1)) (au 2 f6 (ak (aa 0) (ak (aa 1) ah))) eK)) (ar (aO 6 (vF 3 uo (ak (aa 0) (ak (aa 3) (ak (aa 5) ah))))) (ar (aO 7 (tJ ah)) (ar (dz (ju (ak (dN (ak (aa 2) (ak (dN (ak (aa 6) ah) cz) ah)) qA) ah)) (bA 8) (ar (jY (v5 (aa 6) (ak (au 2 f6 (ak (aa 0) (ak (dN (ak (aa 6) ah) cz) ah))) ah)) (m_ 2 (iD (bA 9) (iD (bA 10) lT)))) (ar (aO 11 (d2 (gy (ak (dC (.int 7)) (ak (au 2 f6 (ak (aa 0) (ak (dC (.int 3)) ah))) (ak (d2 (d2 (dC (.int 10)) (dC (.int 9)) (dY gr fun i j => .int (i ^ j.toNat))) (au 2 f6 (ak (aa 0) (ak (dC (.int 2)) ah))) (oI fun i j => .int (i - j))) (ak (au 2 f6 (ak (aa 0) (ak (d2 (d2 (dC (.int 10)) (dC (.int 9)) (dY gr fun i j => .int (i ^ j.toNat))) (dC (.int 1)) eK) ah))) ah))))) (aa 4) bg)) (m8 (l7 (aa 7) (ak (gW (ak (aa 9) (ak (aa 10) (ak (aa 11) ah)))) ah)))))) (aM (gW (ak (aa 5) (ak (dN (ak (aa 7) ah) vY) ah))))))))))
theorem Np:∀ ys ao K',ys.length=3->uq ys ao K'->As (c8 ao.length K') ⟨ys.map some ++ List.replicate 9 none,ao.map some⟩:=by
 rintro ys ao K' - ⟨n,dg,most,o,rfl,rfl,P,hn,h1,Nq,s0,Vv,fin⟩
 unfold As
 refine a6 fun N hN => ?_
 simp? only []
 refine⟨n,8,o,rfl,rfl,P,by omega,by omega,by omega,fun kind o1 _ _ P1 => ?_⟩
 simp? only []
 subst hN
 refine a6 fun N hN => ?_
 simp? only []
 refine⟨n + 1,4,o1,rfl,rfl,P1,by omega,by omega,by omega,fun d7 o2 p0 p4 P2 => ?_⟩
 simp? only []
 subst hN
 refine a6 fun N hN => ?_
 simp? only []
 refine⟨n + 1 + 1,dg,o2,rfl,rfl,P2,by omega,by omega,by omega,fun mm o3 m0 mh P3 => ?_⟩
 simp? only []
 subst hN
 refine a6 fun N hN => ?_
 simp? only []
 refine⟨n + 1 + 1 + 1,kind,1 + mm,o3,rfl,rfl,P3,by omega,by omega,by omega,fun ps o4 EY P4 => ?_⟩
 simp? only []
 subst hN
 refine a6 fun N hN => ?_
 simp? only []
 subst hN
 refine a6 fun N hN => ?_
 have Vw:=EY.g_
 simp? only []
 refine⟨by omega,?_⟩
 have ek:(min most (ps.length:Int)).toNat=min most.toNat ps.length:=by omega
 rw[ek]
 generalize hk:min most.toNat ps.length=k
 refine l8 (fun i δ => ∃ (qs:List (Int × Int)) (ws:List (Int × Int × Int)) (o':OV),qs.length + i=ps.length/\ws.length=i/\c9 (1 + mm) (ws.map pJ ++ qs)/\(∀ y∈ws,0 <= y.2.2/\y.2.2 <= 1000000000)/\aZ (n + 70 + 4 * i) o' ∧
  δ = ⟨[some (.o 0),some (.p (.int dg)),some (.p (.int most)),some (.p (.int kind)),some (.p (.int d7)),some (.p (.int (1 + mm))),some (.o 1),some (.o 2),none,none,none,none],[some o',some (.lst (qs.map cw)),some (.lst (ws.map cA))]⟩)
  ⟨ps,[],o4,by omega,rfl,EY,fun y hy=>absurd hy List.not_mem_nil,P4.mono (by omega),rfl⟩ ?_ ?_
 ·rintro j d δ L hj ⟨qs,ws,o',hq,hw,hp,hy,P',rfl⟩ hL
  obtain⟨hj,rfl⟩:=l3 hj
  have q0:0 < qs.length:=by omega
  have Nr:=hp.g_
  rw[List.length_append,List.length_map] at Nr
  refine⟨trivial,?_⟩
  simp only[bA,List.set_cons_zero,List.set_cons_succ]
  refine a6 fun N2 i_ => ?_
  simp? only []
  refine⟨n + 70 + 4 * j,qs.length,o',rfl,rfl,P',by omega,by omega,by omega,fun r o1 r0 r1 P1 => ?_⟩
  obtain⟨rn,rfl⟩:∃ rn:Nat,r=rn:=⟨r.toNat,by omega⟩
  have hr:rn < qs.length:=by omega
  have ix:seqIndex? (rn:Int) qs.length=some rn:=Dp hr
  have eq:(qs.map cw)[rn]? = some (.tup [.int qs[rn].1,.int qs[rn].2]):=by rw[List.getElem?_map,List.getElem?_eq_getElem hr];rfl
  simp? only [ix,eq]
  refine⟨⟨by omega,by omega⟩,?_⟩
  subst i_
  refine a6 fun N2 i_ => ?_
  simp only[aO,d2,gy]
  refine qG fun K3 j_ => ?_
  simp? only []
  subst j_
  refine qG fun K3 j_ => ?_
  simp? only []
  refine⟨n + 70 + 4 * j + 1,3,o1,rfl,rfl,P1,by omega,by omega,by omega,fun a1 o2 Vx Vy P2 => ?_⟩
  simp? only []
  subst j_
  refine qG fun K3 j_ => ?_
  simp? only []
  refine⟨⟨by decide,by decide,by decide⟩,n + 70 + 4 * j + 1 + 1,2,o2,rfl,rfl,P2,by omega,by omega,by omega,fun a2 o3 Vz VA P3 => ?_⟩
  simp? only []
  subst j_
  refine qG fun K3 j_ => ?_
  simp? only []
  refine⟨⟨by decide,by decide,by decide⟩,n + 70 + 4 * j + 1 + 1 + 1,10 ^ Int.toNat 9 + 1,o3,rfl,rfl,P3,by omega,by decide,by decide,fun a3 o4 VB Nt P4 => ?_⟩
  simp? only []
  subst j_
  simp? only []
  have e9:(10:Int) ^ Int.toNat 9=1000000000:=by decide
  rw[e9] at Nt ⊢
  obtain⟨pr,Nu,Nv,Nx⟩:∃ pr:Int,eO [D.int 7,D.int a1,D.int (1000000000 - a2),D.int a3] d7=some (.int pr)/\0 <= pr/\pr <= 1000000000:=by
   have:d7=0\/d7=1\/d7=2\/d7=3:=by omega
   rcases this with rfl | rfl | rfl | rfl
   ·exact⟨7,rfl,by omega,by omega⟩
   ·exact⟨a1,rfl,by omega,by omega⟩
   ·exact⟨1000000000 - a2,rfl,by omega,by omega⟩
   ·exact⟨a3,rfl,by omega,by omega⟩
  rw[Nu]
  show N2 _
  subst i_
  simp? only []
  refine⟨by omega,hL _ ⟨qs.eraseIdx rn,ws ++ [(qs[rn].1,qs[rn].2,pr)],o4,?_,?_,?_,?_,P4.mono (by omega),?_⟩⟩
  ·rw[List.length_eraseIdx_of_lt hr];omega
  ·rw[List.length_append,hw];rfl
  ·refine hp.perm ?_
   rw[List.map_append,List.append_assoc]
   refine List.Perm.append_left _ ?_
   exact Aq hr
  ·intro y qk
   rcases List.mem_append.mp qk with h | h
   ·exact hy y h
   ·rw[List.mem_singleton.mp h];exact⟨Nv,Nx⟩
  ·rw[List.map_append,Ar];rfl
 ·rintro δ ⟨qs,ws,o',hq,hw,hp,hy,P',rfl⟩
  refine⟨trivial,?_⟩
  subst hN
  simp? only []
  rw[kO] at hw P'
  refine⟨[o'],rfl,rfl,?_⟩
  refine fin (1 + mm) ws o' ⟨by omega,by omega,by omega,fun y qk => ?_,?_⟩ (by omega) (by omega) (P'.mono (by omega))
  ·have:=hp.ends (pJ y) (List.mem_append_left _ (List.mem_map.mpr ⟨y,qk,rfl⟩))
   have h2:=hy y qk
   simp only[pJ] at this
   omega
  ·exact (List.nodup_append.mp hp.lb).1
end LJ
namespace L2
open PySem PySem.Spec PyProof.Rows
variable [aQ]
noncomputable def wg:List D->(D->Prop)->Prop
 | [.lst ds],K=>match nv ds with
  | some ps=>(ps.length <= 30/\∀ p∈ps,0 <= p.1/\p.1 < p.2/\p.2 < 12)/\K (.int (fZ ps ps.length).length)
  | none=>False
 | _,_=>False
section
variable {X:Cx} {fa:WA}
theorem Ny {a:Expr} {p1 p2 q1 q2:Pos} (hc:X.calm=true) (hu:X.A.units + 64 < cLine) (ph:Gl X "len") (hl:X.mg "len" = none) (pj:bootBuiltins "len" = some (.builtin "len")) (pk:Gl X "set") (hr:X.mg "set" = none) (px:bootBuiltins "set" = some (.type "set")) (ha:JA X [a] (bZ fa))
  (he:starEach [a] X.env=[(false,eval a X.env)]:=by rfl) (pA:starEach [.Call (.Name "set" p2) [a] [] q2] X.env=[(false,eval (.Call (.Name "set" p2) [a] [] q2) X.env)]:=by rfl):JE X (.Call (.Name "len" p1) [.Call (.Name "set" p2) [a] [] q2] [] q1) (tD (dN fa wg)) :=
 (vk (Lj) ph hl pj (h_ (lJ (MX hc hu) pk hr px ha (he:=he)) aV) (he:=pA)).weak fun σ H Q h0_ => el7 h0_ fun F ad δ K S q k =>⟨F,ad,δ,_,S,q,fun xs δ1 h1 vs F1 aL H1 E1 S1 V1=>by
  obtain⟨ds,h2,oO⟩:=vq S1 V1 h1
  unfold wg at h2
  split at h2
  ·split at h2
   ·rename_i es ps e
    obtain⟨v,rfl,a,vs,rfl,g1,g2⟩:=cE oO
    rw[EL e] at g2
    obtain⟨as,rfl,hl,g⟩:=ER g2
    refine⟨a,as,ps,rfl,aP.of g1,hl,fun i b k' e1 e2=>S1.sub _ _ (g i b k' e1 e2),h2.1.2,h2.1.1,fun p hp=>⟨p,(fZ ps ps.length).length,rfl,bF,by have:=h2.1.1;have:=Ae ps ps.length;omega,?_⟩⟩
    have s1:aw H1 (upd H1 p (jU p (fZ ps ps.length).length)):=bW hp
    exact k _ _ h2.2 _ _ _ _ (E1.trans (Ext.al S1 s1)) (S1.al s1) rfl
   ·exact h2.elim
  ·exact h2.elim⟩
end
end L2
namespace LJ
open PySem L2
variable [aQ]
noncomputable def EZ:D->Bool
 | .int _=>true
 | _=>false
noncomputable def ja:D->Int->Int->Bool
 | .int i,lo,hi=>decide (lo <= i) && decide (i <= hi)
 | _,_,_=>false
noncomputable def mf:D->Int->Bool
 | .tup ds,n=>(ds.length:Int) == n
 | _,_=>false
theorem cL {K:RV->List OV->Prop} {d:D} {sl:List (Option DV)} (h:K (.p d) []):gz 0 K (.p d) ⟨sl,[]⟩:=⟨[],rfl,rfl,h⟩
noncomputable def ur:GD:=fun ys ao K=>∃ d,ys=[.p d]/\ao=[]/\K (.p (.bl (EZ d))) []
noncomputable def Au:WS:=(aM (jn (d1 (aa 0) (cb "int")) (zy (d1 (aa 0) (cb "bool")))))
theorem Nz:∀ ys ao K',ys.length=1->ur ys ao K'->Au (c8 ao.length K') ⟨ys.map some ++ List.replicate 0 none,ao.map some⟩:=by
 rintro ys ao K' - ⟨d,rfl,rfl,k⟩
 unfold Au
 simp? only []
 cases d<;>simp only[bU,aH]<;>exact cL k
noncomputable def jz:GD:=fun ys ao K=>∃ d lo hi,ys=[.p d,.p (.int lo),.p (.int hi)]/\ao=[]/\K (.p (.bl (ja d lo hi))) []
noncomputable def Av:WS:=(aM (jn (au 1 ur (ak (aa 0) ah)) (zV (aa 1) (aa 0) (aa 2) (oI fun i j => .bl (decide (i <= j))) (oI fun i j => .bl (decide (i <= j))))))
theorem NA:∀ ys ao K',ys.length=3->jz ys ao K'->Av (c8 ao.length K') ⟨ys.map some ++ List.replicate 0 none,ao.map some⟩:=by
 rintro ys ao K' - ⟨d,lo,hi,rfl,rfl,k⟩
 unfold Av
 simp? only []
 refine⟨d,rfl,rfl,?_⟩
 cases d<;>simp? only [EZ,ja] at k ⊢ <;> first | exact cL k | skip
 rename_i i
 by_cases c:lo <= i
 ·rw[decide_eq_true c] at k ⊢
  simp only[Bool.true_and] at k
  exact cL k
 ·rw[decide_eq_false c] at k ⊢
  simp only[Bool.false_and] at k
  exact cL k
noncomputable def pK:GD:=fun ys ao K=>∃ d n,ys=[.p d,.p (.int n)]/\ao=[]/\K (.p (.bl (mf d n))) []
noncomputable def Aw:WS:=(aM (jn (d1 (aa 0) (cb "tuple")) (d2 (dN (ak (aa 0) ah) cz) (aa 1) oEq)))
theorem NB:∀ ys ao K',ys.length=2->pK ys ao K'->Aw (c8 ao.length K') ⟨ys.map some ++ List.replicate 0 none,ao.map some⟩:=by
 rintro ys ao K' - ⟨d,n,rfl,rfl,k⟩
 unfold Aw
 simp? only []
 cases d<;>simp? only [bU,aH,mf,ax] at k ⊢ <;> exact cL k
noncomputable def E5 (m:Int):D->D->Bool
 | .int i,b=>ja b (i + 1) (m - 1)
 | _,_=>false
noncomputable def uu (m:Int) (a b:D):Bool:=ja a 0 (m - 1) && E5 m a b
theorem uv {d:D} {lo hi:Int} (h:ja d lo hi=true):∃ i,d = .int i/\lo <= i/\i <= hi:=by
 cases d with
 | int i =>
  have h:(decide (lo <= i) && decide (i <= hi))=true:=h
  rw[Bool.and_eq_true,decide_eq_true_eq,decide_eq_true_eq] at h
  exact⟨i,rfl,h⟩
 | _=>cases h
noncomputable def uw:GD:=fun ys ao K=>∃ m a b,ys=[.p (.int m),.p a,.p b]/\ao=[]/\K (.p (.bl (uu m a b))) []
noncomputable def Ax:WS:=(aM (jn (au 3 jz (ak (aa 1) (ak (dC (.int 0)) (ak (d2 (aa 0) (dC (.int 1)) (oI fun i j => .int (i - j))) ah)))) (au 3 jz (ak (aa 2) (ak (d2 (aa 1) (dC (.int 1)) eK) (ak (d2 (aa 0) (dC (.int 1)) (oI fun i j => .int (i - j))) ah))))))
theorem NC:∀ ys ao K',ys.length=3->uw ys ao K'->Ax (c8 ao.length K') ⟨ys.map some ++ List.replicate 0 none,ao.map some⟩:=by
 rintro ys ao K' - ⟨m,a,b,rfl,rfl,k⟩
 unfold Ax
 simp? only []
 refine⟨a,0,m - 1,rfl,rfl,?_⟩
 simp? only []
 unfold uu at k
 cases q:ja a 0 (m - 1)
 ·rw[q] at k
  exact cL k
 ·rw[q] at k
  obtain⟨i,rfl,_,_⟩:=uv q
  simp? only [Bool.true_and,E5] at k ⊢
  refine⟨b,i + 1,m - 1,rfl,rfl,?_⟩
  simp? only []
  exact cL k
noncomputable def cf (m:Int):D->Bool
 | .tup [a,b,p]=>uu m a b && ja p 0 1000000000
 | _=>false
noncomputable def ux:GD:=fun ys ao K=>∃ m d,ys=[.p (.int m),.p d]/\ao=[]/\K (.p (.bl (cf m d))) []
noncomputable def Ay:WS:=(ar (bp (e7 (dT (au 2 pK (ak (aa 1) (ak (dC (.int 3)) ah))))) (aM (dC (.bl false))) eJ) (aM (jn (au 3 uw (ak (aa 0) (ak (d2 (aa 1) (dC (.int 0)) bg) (ak (d2 (aa 1) (dC (.int 1)) bg) ah)))) (au 3 jz (ak (d2 (aa 1) (dC (.int 2)) bg) (ak (dC (.int 0)) (ak (dC (.int 1000000000)) ah)))))))
theorem ND {m:Int} {d:D} (h:mf d 3=false):cf m d=false:=by
 unfold cf
 split
 ·exact absurd h (by simp[mf])
 ·rfl
theorem Az {d:D} (h:mf d 3=true):∃ a b c,d = .tup [a,b,c]:=by
 cases d with
 | tup ds =>
  have h:((ds.length:Int) == 3)=true:=h
  have h:=eq_of_beq h
  match ds,h with
  | [a,b,c],_=>exact⟨a,b,c,rfl⟩
  | [],h=>simp at h
  | [_],h=>simp at h
  | [_,_],h=>simp at h
  | _ :: _ :: _ :: _ :: r,h=>simp at h;omega
 | _=>cases h
theorem AA {d:D} (h:mf d 2=true):∃ a b,d = .tup [a,b]:=by
 cases d with
 | tup ds =>
  have h:((ds.length:Int) == 2)=true:=h
  have h:=eq_of_beq h
  match ds,h with
  | [a,b],_=>exact⟨a,b,rfl⟩
  | [],h=>simp at h
  | [_],h=>simp at h
  | _ :: _ :: _ :: r,h=>simp at h;omega
 | _=>cases h
theorem NF:∀ ys ao K',ys.length=2->ux ys ao K'->Ay (c8 ao.length K') ⟨ys.map some ++ List.replicate 0 none,ao.map some⟩:=by
 rintro ys ao K' - ⟨m,d,rfl,rfl,k⟩
 unfold Ay
 refine a6 fun N hN => ?_
 simp? only []
 refine⟨d,3,rfl,rfl,?_⟩
 simp? only []
 cases q:mf d 3
 ·rw[ND q] at k
  simp only[Bool.not_false,if_true]
  exact cL k
 ·simp only[Bool.not_true,Bool.false_eq_true,if_false]
  subst hN
  obtain⟨a,b,c,rfl⟩:=Az q
  simp? only [kQ,jy,at2]
  refine⟨m,a,b,rfl,rfl,?_⟩
  simp? only [cf] at k ⊢
  cases q2:uu m a b
  ·rw[q2] at k
   exact cL k
  ·rw[q2] at k
   refine⟨c,0,1000000000,rfl,rfl,?_⟩
   simp? only [Bool.true_and] at k ⊢
   exact cL k
noncomputable def pairOf:D->Int × Int
 | .tup [.int i,.int j,_]=>(i,j)
 | _=>(0,0)
theorem E6 {m:Int} {d:D} (h:cf m d=true):∃ i j p,d = .tup [.int i,.int j,.int p]/\0 <= i/\i < j/\j < m/\0 <= p/\p <= 1000000000:=by
 unfold cf at h
 split at h
 ·rename_i a b p
  rw[Bool.and_eq_true] at h
  obtain⟨h1,h2⟩:=h
  unfold uu at h1
  rw[Bool.and_eq_true] at h1
  obtain⟨i,rfl,i0,i1⟩:=uv h1.1
  have h3:ja b (i + 1) (m - 1)=true:=h1.2
  obtain⟨j,rfl,j0,j1⟩:=uv h3
  obtain⟨p',rfl,p0,p1⟩:=uv h2
  exact⟨i,j,p',rfl,i0,by omega,by omega,p0,p1⟩
 ·cases h
noncomputable def pL (m:Int):D->Bool
 | .tup ws=>decide (ws.length <= 30) && (ws.all (cf m) && decide ((ws.map pairOf).Nodup))
 | _=>false
noncomputable def uy:GD:=fun ys ao K=>∃ m d,ys=[.p (.int m),.p d]/\ao=[]/\m <= 12/\K (.p (.bl (pL m d))) []
noncomputable def AB:WS:=(ar (bp (lO (e7 (dT (d1 (aa 1) (cb "tuple")))) (dT (d2 (dN (ak (aa 1) ah) cz) (dC (.int 30)) (oI fun i j => .bl (decide (j < i)))))) (aM (dC (.bl false))) eJ) (ar (bp (e7 (dT (dN (ak (fG (bK (aa 1)) [none,some 0] (bA 0) cJ (au 2 ux (ak (aa 1) (ak (aa 0) ah)))) ah) l6))) (aM (dC (.bl false))) eJ) (aM (d2 (dN (ak (fG (bK (aa 1)) [none] (bA 0) cJ (j7 (aa 0) j4 (t4 (dC (.int 2))))) ah) wg) (dN (ak (aa 1) ah) cz) oEq))))
theorem NG:∀ ys ao K',ys.length=2->uy ys ao K'->AB (c8 ao.length K') ⟨ys.map some ++ List.replicate 0 none,ao.map some⟩:=by
 rintro ys ao K' - ⟨m,d,rfl,rfl,hm,k⟩
 unfold AB
 refine a6 fun N hN => ?_
 by_cases ht:∃ ws,d = .tup ws
 ·obtain⟨ws,rfl⟩:=ht
  simp? only [bU,show aH "tuple" "tuple" = true from rfl]
  by_cases E7:(30:Int) < ws.length
  ·rw[if_pos (decide_eq_true E7)]
   have:pL m (.tup ws)=false:=by
    show (decide (ws.length <= 30) && _)=false
    rw[decide_eq_false (by omega)];rfl
   rw[this] at k
   exact cL k
  ·rw[if_neg (by rw[decide_eq_false E7];decide)]
   subst hN
   have uz:ws.length <= 30:=by omega
   refine a6 fun N hN => ?_
   simp? only []
   refine jx (fun d => .bl (cf m d)) (by omega) trivial ?_ ?_
   ·intro d hd acc L ha h
    simp? only []
    refine⟨m,d,rfl,rfl,?_⟩
    simp? only []
    exact⟨ha,h⟩
   ·have e:pe (ws.map fun d=>D.bl (cf m d))=some (ws.map (cf m)):=by
     have:=Eb (ws.map (cf m))
     rw[List.map_map] at this
     exact this
    simp? only [e]
    have ea:(ws.map (cf m)).all id=ws.all (cf m):=by rw[List.all_map];rfl
    rw[ea]
    cases q:ws.all (cf m)
    ·have:pL m (.tup ws)=false:=by
      show (decide (ws.length <= 30) && (ws.all (cf m) && _))=false
      rw[q];simp
     rw[this] at k
     exact cL k
    ·simp only[Bool.not_true,Bool.false_eq_true,if_false]
     subst hN
     have hw:∀ w∈ws,cf m w=true:=List.all_eq_true.mp q
     simp? only []
     refine jx (fun d => .tup [.int (pairOf d).1,.int (pairOf d).2]) (by omega) trivial ?_ ?_
     ·intro d hd acc L ha h
      obtain⟨i,j,p,rfl,_⟩:=E6 (hw d hd)
      have ec:cutD [D.int i,D.int j,D.int p] none (some 2)=[D.int i,D.int j]:=by
       unfold cutD;rfl
      simp? only [ec]
      exact⟨ha,h⟩
     ·have ep:nv (ws.map fun d=>D.tup [.int (pairOf d).1,.int (pairOf d).2])=some (ws.map pairOf):=by
       have:=EM (ws.map pairOf)
       rw[List.map_map] at this
       exact this
      have kk:pL m (.tup ws)=decide ((ws.map pairOf).Nodup):=by
       show (decide (ws.length <= 30) && (ws.all (cf m) && _))=_
       rw[q,decide_eq_true uz];rfl
      rw[kk] at k
      simp? only [wg,ep,ax]
      refine⟨⟨uz,fun p hp => ?_⟩,cL ?_⟩
      ·obtain⟨w,NH,rfl⟩:=List.mem_map.mp hp
       obtain⟨i,j,p,rfl,a1,a2,a3,_⟩:=E6 (hw w NH)
       exact⟨a1,a2,by show j < 12;omega⟩
      ·have:(((fZ (ws.map pairOf) ws.length).length:Int) == (ws.length:Int))=decide ((ws.map pairOf).Nodup):=by
        by_cases c:(ws.map pairOf).Nodup
        ·have e2:=EN c (ws.map pairOf).length (Nat.le_refl _)
         rw[List.length_map] at e2
         rw[decide_eq_true c,e2,List.length_take,List.length_map,Nat.min_self]
         simp
        ·rw[decide_eq_false c]
         refine beq_false_of_ne fun z=>c (MV ?_)
         rw[List.length_map];omega
       rw[this];exact k
 ·have:pL m d=false:=by
   cases d with
   | tup ws=>exact absurd ⟨ws,rfl⟩ ht
   | _=>rfl
  rw[this] at k
  cases d with
  | tup ws=>exact absurd ⟨ws,rfl⟩ ht
  | _=>simp? only [bU];exact cL k
noncomputable def ka:D->Bool
 | .tup [m,ws]=>ja m 1 12 && (match m with
  | .int i=>pL i ws
  | _=>false)
 | _=>false
noncomputable def uA:GD:=fun ys ao K=>∃ d,ys=[.p d]/\ao=[]/\K (.p (.bl (ka d))) []
noncomputable def AD:WS:=(ar (bp (e7 (dT (au 2 pK (ak (aa 0) (ak (dC (.int 2)) ah))))) (aM (dC (.bl false))) eJ) (aM (jn (au 3 jz (ak (d2 (aa 0) (dC (.int 0)) bg) (ak (dC (.int 1)) (ak (dC (.int 12)) ah)))) (au 2 uy (ak (d2 (aa 0) (dC (.int 0)) bg) (ak (d2 (aa 0) (dC (.int 1)) bg) ah))))))
theorem NI:∀ ys ao K',ys.length=1->uA ys ao K'->AD (c8 ao.length K') ⟨ys.map some ++ List.replicate 0 none,ao.map some⟩:=by
 rintro ys ao K' - ⟨d,rfl,rfl,k⟩
 unfold AD
 refine a6 fun N hN => ?_
 simp? only []
 refine⟨d,2,rfl,rfl,?_⟩
 simp? only []
 cases q:mf d 2
 ·have:ka d=false:=by
   unfold ka
   split
   ·exact absurd q (by simp[mf])
   ·rfl
  rw[this] at k
  simp only[Bool.not_false,if_true]
  exact cL k
 ·simp only[Bool.not_true,Bool.false_eq_true,if_false]
  subst hN
  obtain⟨a,b,rfl⟩:=AA q
  simp? only [kQ,jy]
  refine⟨a,1,12,rfl,rfl,?_⟩
  simp? only [ka] at k ⊢
  cases q2:ja a 1 12
  ·rw[q2] at k
   exact cL k
  ·rw[q2] at k
   obtain⟨i,rfl,_,hi⟩:=uv q2
   refine⟨i,b,rfl,rfl,hi,?_⟩
   simp? only [Bool.true_and] at k ⊢
   exact cL k
theorem kc {K:RV->List OV->Prop} {d:D} {sl:List (Option DV)} {mu:List (Option OV)} (h:K (.p d) []):gz 0 K (.p d) ⟨sl,mu⟩:=⟨[],rfl,rfl,h⟩
theorem AE:∀ {ds:List D},kK ds=true->∀ d∈ds,iV d=true
 | [],_,d,h=>nomatch h
 | a :: r,hn,d,h=>by
  simp only[kK,Bool.and_eq_true] at hn
  rcases List.mem_cons.mp h with rfl | h
  ·exact hn.1
  ·exact AE hn.2 d h
theorem AF:∀ {ds:List D} {d:D},d∈ds->dep d <= bf ds
 | a :: r,d,h=>by
  simp only[bf]
  rcases List.mem_cons.mp h with rfl | h
  ·omega
  ·have:=AF h;omega
theorem mi:aH "NoneType" "bool" = false:=rfl
theorem mj:aH "NoneType" "int" = false:=rfl
theorem mn:aH "NoneType" "str" = false:=rfl
theorem mq:aH "NoneType" "tuple" = false:=rfl
theorem mx:aH "NoneType" "list" = false:=rfl
theorem kR:aH "bool" "bool" = true:=rfl
theorem kS:aH "bool" "int" = true:=rfl
theorem kT:aH "bool" "str" = false:=rfl
theorem kU:aH "bool" "tuple" = false:=rfl
theorem kW:aH "bool" "list" = false:=rfl
theorem ke:aH "int" "bool" = false:=rfl
theorem kg:aH "int" "int" = true:=rfl
theorem kh:aH "int" "str" = false:=rfl
theorem ki:aH "int" "tuple" = false:=rfl
theorem kj:aH "int" "list" = false:=rfl
theorem jA:aH "str" "bool" = false:=rfl
theorem jB:aH "str" "int" = false:=rfl
theorem jC:aH "str" "str" = true:=rfl
theorem jD:aH "str" "tuple" = false:=rfl
theorem jE:aH "str" "list" = false:=rfl
theorem ny:aH "tuple" "bool" = false:=rfl
theorem nA:aH "tuple" "int" = false:=rfl
theorem nB:aH "tuple" "str" = false:=rfl
theorem nD:aH "tuple" "tuple" = true:=rfl
theorem nE:aH "tuple" "list" = false:=rfl
theorem kX:aH "list" "bool" = false:=rfl
theorem kY:aH "list" "int" = false:=rfl
theorem kZ:aH "list" "str" = false:=rfl
theorem k6:aH "list" "tuple" = false:=rfl
theorem k7:aH "list" "list" = true:=rfl
theorem AG:∀ {as:List D} {d:D},d∈b_ as as->∃ a,d = .tup [a,a]/\a∈as
 | [],d,h=>nomatch h
 | x :: r,d,h=>by
  simp only[b_] at h
  rcases List.mem_cons.mp h with rfl | h
  ·exact⟨x,rfl,List.mem_cons_self⟩
  ·obtain⟨a,e,m⟩:=AG h
   exact⟨a,e,List.mem_cons_of_mem _ m⟩
theorem AH:∀ l:List D,bf (l.map fun _=>D.bl true) <= 55
 | []=>Nat.zero_le _
 | _ :: r=>by
  rw[List.map_cons]
  have:=AH r
  simp only[bf,dep]
  omega
noncomputable def km (n:Nat):GD:=fun ys ao K=>∃ d,dep d <= n/\n <= 50/\iV d=true/\((ys=[.p d,.p d]/\ao=[]/\K (.p (.bl true)) [])\/(∃ ds,d = .lst ds/\ys=[.o 0,.p d]/\ao=[.lst ds]/\K (.p (.bl true)) [.lst ds]))
noncomputable def iH (wj:GD):WS:=(ar (bp (dT (d2 (aa 1) (dC .non) j8)) (aM (d2 (aa 0) (dC .non) j8)) eJ) (ar (bp (lO (dT (d1 (aa 1) (cb "bool"))) (dT (d1 (aa 0) (cb "bool")))) (aM (jn (d1 (aa 1) (cb "bool")) (jn (d1 (aa 0) (cb "bool")) (d2 (aa 0) (aa 1) oEq)))) eJ) (ar (bp (dT (d1 (aa 1) (cb "int"))) (aM (jn (d1 (aa 0) (cb "int")) (d2 (aa 0) (aa 1) oEq))) eJ) (ar (bp (dT (d1 (aa 1) (cb "str"))) (aM (jn (d1 (aa 0) (cb "str")) (d2 (aa 0) (aa 1) oEq))) eJ) (ar (bp (lO (dT (d2 (d1 (aa 1) (cb "tuple")) (d1 (aa 0) (cb "tuple")) pd)) (dT (d2 (d1 (aa 1) (cb "list")) (d1 (aa 0) (cb "list")) pd))) (aM (dC (.bl false))) eJ) (ar (bp (dT (d2 (dN (ak (aa 0) ah) cz) (dN (ak (aa 1) ah) cz) pd)) (aM (dC (.bl false))) eJ) (aM (d2 (dC (.bl false)) (fG (o5 (ak (aa 0) (ak (aa 1) ah))) [none,none] (m_ 2 (iD (bA 0) (iD (bA 1) lT))) cJ (au 2 wj (ak (aa 0) (ak (aa 1) ah)))) (vU true)))))))))
noncomputable def uB (g:Nat->GD):Nat->GD
 | 0=>fun _ _ _=>False
 | n + 1=>g n
theorem NJ (g:GD) {K':RV->List OV->Prop} (k:K' (.p (.bl true)) []):iH g (c8 0 K') ⟨[some (.p .non),some (.p .non)],[]⟩:=by
 unfold iH
 refine a6 fun N hN => ?_
 simp? only [bU,mi,mj,mn,mq,mx,ax]
 exact kc k
theorem NK (g:GD) {K':RV->List OV->Prop} (b:Bool) (k:K' (.p (.bl true)) []):iH g (c8 0 K') ⟨[some (.p (.bl b)),some (.p (.bl b))],[]⟩:=by
 unfold iH
 refine a6 fun N hN => ?_
 simp? only [bU,kR,kS,kT,kU,kW,fR]
 subst hN
 refine a6 fun N hN => ?_
 simp? only [bU,kR,kS,kT,kU,kW,fR]
 exact kc k
theorem same_int (g:GD) {K':RV->List OV->Prop} (b:Int) (k:K' (.p (.bl true)) []):iH g (c8 0 K') ⟨[some (.p (.int b)),some (.p (.int b))],[]⟩:=by
 unfold iH
 refine a6 fun N hN => ?_
 simp? only [bU,ke,kg,kh,ki,kj,fR]
 subst hN
 refine a6 fun N hN => ?_
 simp? only [bU,ke,kg,kh,ki,kj,fR]
 subst hN
 refine a6 fun N hN => ?_
 simp? only [bU,ke,kg,kh,ki,kj,fR]
 exact kc k
theorem same_str (g:GD) {K':RV->List OV->Prop} (b:Str) (k:K' (.p (.bl true)) []):iH g (c8 0 K') ⟨[some (.p (.str b)),some (.p (.str b))],[]⟩:=by
 unfold iH
 refine a6 fun N hN => ?_
 simp? only [bU,jA,jB,jC,jD,jE,fR]
 subst hN
 refine a6 fun N hN => ?_
 simp? only [bU,jA,jB,jC,jD,jE,fR]
 subst hN
 refine a6 fun N hN => ?_
 simp? only [bU,jA,jB,jC,jD,jE,fR]
 subst hN
 refine a6 fun N hN => ?_
 simp? only [bU,jA,jB,jC,jD,jE,fR]
 exact kc k
theorem NL {n:Nat} {K':RV->List OV->Prop} {ds:List D} (hd:dep (.lst ds) <= n) (hn:n <= 50) (nd:iV (.lst ds)=true) (k:K' (.p (.bl true)) []):iH (uB km n) (c8 0 K') ⟨[some (.p (.lst ds)),some (.p (.lst ds))],[]⟩:=by
 unfold iH
 refine a6 fun N hN => ?_
 simp? only [bU,mi,mj,mn,mq,mx,kR,kS,kT,kU,kW,ke,kg,kh,ki,kj,jA,jB,jC,jD,jE,ny,nA,nB,nD,nE,kX,kY,kZ,k6,k7]
 subst hN
 refine a6 fun N hN => ?_
 simp? only [bU,mi,mj,mn,mq,mx,kR,kS,kT,kU,kW,ke,kg,kh,ki,kj,jA,jB,jC,jD,jE,ny,nA,nB,nD,nE,kX,kY,kZ,k6,k7]
 subst hN
 refine a6 fun N hN => ?_
 simp? only [bU,mi,mj,mn,mq,mx,kR,kS,kT,kU,kW,ke,kg,kh,ki,kj,jA,jB,jC,jD,jE,ny,nA,nB,nD,nE,kX,kY,kZ,k6,k7]
 subst hN
 refine a6 fun N hN => ?_
 simp? only [bU,mi,mj,mn,mq,mx,kR,kS,kT,kU,kW,ke,kg,kh,ki,kj,jA,jB,jC,jD,jE,ny,nA,nB,nD,nE,kX,kY,kZ,k6,k7]
 subst hN
 refine a6 fun N hN => ?_
 simp? only [bU,kX,kY,kZ,k6,k7]
 subst hN
 simp only[fR,Bool.not_true,Bool.false_eq_true,if_false]
 refine a6 fun N hN => ?_
 simp? only [fR]
 subst hN
 obtain⟨m,rfl⟩:∃ m,n=m + 1:=⟨n - 1,by simp only[dep] at hd;omega⟩
 have AI:bf ds <= m:=by simp only[dep] at hd;omega
 have my:kK ds=true:=by simp only[iV,Bool.and_eq_true] at nd;exact nd.2
 have uC:ds.length <= 1000:=by simp only[iV,Bool.and_eq_true,decide_eq_true_eq] at nd;exact nd.1
 have zl:(b_ ds ds).length <= 1000:=by rw[vL];omega
 simp? only []
 refine L2.jx (fun d => .bl true) zl trivial ?_ ?_
 ·intro d rQ acc L ha h
  obtain⟨a,rfl,ma⟩:=AG rQ
  simp? only []
  refine⟨a,Nat.le_trans (AF ma) AI,by omega,AE my a ma,.inl ⟨rfl,rfl,?_⟩⟩
  simp? only []
  exact⟨ha,h⟩
 ·simp? only []
  have e1:((b_ ds ds).map fun _=>D.bl true).any (fun e=>ax e (.bl false))=false:=by
   rw[List.any_eq_false]
   intro x hx
   obtain⟨_,_,rfl⟩:=List.mem_map.mp hx
   simp[ax]
  have e2:bf ((b_ ds ds).map fun _=>D.bl true) <= 55:=AH _
  exact⟨e2,by rw[e1];exact kc k⟩
theorem NM {n:Nat} {K':RV->List OV->Prop} {ds:List D} (hd:dep (.lst ds) <= n) (hn:n <= 50) (nd:iV (.lst ds)=true) (k:K' (.p (.bl true)) [.lst ds]):iH (uB km n) (c8 1 K') ⟨[some (.o 0),some (.p (.lst ds))],[some (.lst ds)]⟩:=by
 unfold iH
 refine a6 fun N hN => ?_
 simp? only [bU,mi,mj,mn,mq,mx,kR,kS,kT,kU,kW,ke,kg,kh,ki,kj,jA,jB,jC,jD,jE,ny,nA,nB,nD,nE,kX,kY,kZ,k6,k7]
 subst hN
 refine a6 fun N hN => ?_
 simp? only [bU,mi,mj,mn,mq,mx,kR,kS,kT,kU,kW,ke,kg,kh,ki,kj,jA,jB,jC,jD,jE,ny,nA,nB,nD,nE,kX,kY,kZ,k6,k7]
 subst hN
 refine a6 fun N hN => ?_
 simp? only [bU,mi,mj,mn,mq,mx,kR,kS,kT,kU,kW,ke,kg,kh,ki,kj,jA,jB,jC,jD,jE,ny,nA,nB,nD,nE,kX,kY,kZ,k6,k7]
 subst hN
 refine a6 fun N hN => ?_
 simp? only [bU,mi,mj,mn,mq,mx,kR,kS,kT,kU,kW,ke,kg,kh,ki,kj,jA,jB,jC,jD,jE,ny,nA,nB,nD,nE,kX,kY,kZ,k6,k7]
 subst hN
 refine a6 fun N hN => ?_
 simp? only [bU,kX,kY,kZ,k6,k7]
 subst hN
 simp only[fR,Bool.not_true,Bool.false_eq_true,if_false]
 refine a6 fun N hN => ?_
 simp? only [fR]
 subst hN
 obtain⟨m,rfl⟩:∃ m,n=m + 1:=⟨n - 1,by simp only[dep] at hd;omega⟩
 have AI:bf ds <= m:=by simp only[dep] at hd;omega
 have my:kK ds=true:=by simp only[iV,Bool.and_eq_true] at nd;exact nd.2
 have uC:ds.length <= 1000:=by simp only[iV,Bool.and_eq_true,decide_eq_true_eq] at nd;exact nd.1
 have zl:(b_ ds ds).length <= 1000:=by rw[vL];omega
 simp? only []
 refine L2.jx (fun d => .bl true) zl rfl ?_ ?_
 ·intro d rQ acc L ha h
  obtain⟨a,rfl,ma⟩:=AG rQ
  simp? only []
  refine⟨a,Nat.le_trans (AF ma) AI,by omega,AE my a ma,.inl ⟨rfl,rfl,?_⟩⟩
  simp? only []
  exact⟨ha,h⟩
 ·simp? only []
  have e1:((b_ ds ds).map fun _=>D.bl true).any (fun e=>ax e (.bl false))=false:=by
   rw[List.any_eq_false]
   intro x hx
   obtain⟨_,_,rfl⟩:=List.mem_map.mp hx
   simp[ax]
  have e2:bf ((b_ ds ds).map fun _=>D.bl true) <= 55:=AH _
  exact⟨e2,by rw[e1];exact⟨[.lst ds],rfl,rfl,k⟩⟩
theorem NN (n:Nat):∀ ys ao K',ys.length=2->km n ys ao K'->iH (uB km n) (c8 ao.length K') ⟨ys.map some ++ List.replicate 0 none,ao.map some⟩:=by
 rintro ys ao K' - ⟨d,hd,hn,nd,⟨rfl,rfl,k⟩ | ⟨ds,rfl,rfl,rfl,k⟩⟩
 ·cases d with
  | tup ds=>cases nd
  | non=>exact NJ _ k
  | bl b=>exact NK _ b k
  | int b=>exact same_int _ b k
  | str b=>exact same_str _ b k
  | lst ds=>exact NL hd hn nd k
 ·exact NM hd hn nd k
noncomputable def bq (ns:List Int):D := .lst (ns.map D.int)
noncomputable def f7 (fs:List Int) (i j:Nat):List Int:=fs.map fun x=>if x=max (fs.getD i 0) (fs.getD j 0) then min (fs.getD i 0) (fs.getD j 0) else x
theorem uD (fs:List Int) (i j:Nat):(f7 fs i j).length=fs.length:=by unfold f7;rw[List.length_map]
theorem uE {ns:List Int} {i:Nat} (h:i < ns.length):eO (ns.map D.int) (i:Int)=some (.int (ns.getD i 0)):=by
 refine mW ?_
 rw[List.getElem?_map,List.getElem?_eq_getElem h,List.getD_eq_getElem?_getD,List.getElem?_eq_getElem h];rfl
theorem g0 {K:RV->List OV->Prop} {d:D} {sl:List (Option DV)} {mu:List (Option OV)} (h:K (.p d) []):gz 0 K (.p d) ⟨sl,mu⟩:=⟨[],rfl,rfl,h⟩
noncomputable def qH:GD:=fun ys ao K=>∃ (fs:List Int) (i j:Nat),ys=[.p (bq fs),.p (.int i),.p (.int j)]/\ao=[]/\i < fs.length/\j < fs.length/\fs.length <= 12/\K (.p (bq (f7 fs i j))) []
noncomputable def AJ:WS:=(ar (aO 3 (dN (ak (d2 (aa 0) (aa 1) bg) (ak (d2 (aa 0) (aa 2) bg) ah)) vZ)) (ar (aO 4 (dN (ak (d2 (aa 0) (aa 1) bg) (ak (d2 (aa 0) (aa 2) bg) ah)) qA)) (aM (fG (bK (aa 0)) [none,some 4,some 3] (bA 0) cJ (tL (dT (d2 (aa 0) (aa 2) oEq)) (aa 1) (aa 0))))))
theorem NO:∀ ys ao K',ys.length=3->qH ys ao K'->AJ (c8 ao.length K') ⟨ys.map some ++ List.replicate 2 none,ao.map some⟩:=by
 rintro ys ao K' - ⟨fs,i,j,rfl,rfl,hi,hj,Nq,k⟩
 have a1:=uE hi
 have a2:=uE hj
 unfold AJ bq
 refine a6 fun N hN => ?_
 simp? only [a1,a2]
 subst hN
 refine a6 fun N hN => ?_
 simp? only [a1,a2]
 subst hN
 simp? only []
 refine jx (fun d=>match d with
  | .int x => .int (if x=max (fs.getD i 0) (fs.getD j 0) then min (fs.getD i 0) (fs.getD j 0) else x)
  | _ => .non) (by rw[List.length_map];omega) trivial ?_ ?_
 ·intro d hd acc L ha h
  obtain⟨x,_,rfl⟩:=List.mem_map.mp hd
  simp? only []
  cases q:ax (.int x) (.int (max (fs.getD i 0) (fs.getD j 0)))
  ·have:¬ x=max (fs.getD i 0) (fs.getD j 0):=fun z=>by rw[z,fR] at q;cases q
   simp only[this,if_false] at h
   exact⟨ha,h⟩
  ·have:x=max (fs.getD i 0) (fs.getD j 0):=by simp only[ax] at q;exact eq_of_beq q
   simp only[this,if_true] at h
   exact⟨ha,h⟩
 ·refine g0 ?_
  have e:(fs.map D.int).map (fun d=>match d with
   | .int x=>D.int (if x=max (fs.getD i 0) (fs.getD j 0) then min (fs.getD i 0) (fs.getD j 0) else x)
   | _ => .non)=(f7 fs i j).map D.int:=by
   unfold f7
   rw[List.map_map,List.map_map];rfl
  rw[e]
  exact k
noncomputable def cZ (ws:List (Int × Int × Int)) (n:Int):Nat × Nat:=((ws.getD n.toNat (0,0,0)).1.toNat,(ws.getD n.toNat (0,0,0)).2.1.toNat)
noncomputable def fJ (ws:List (Int × Int × Int)) (fs:List Int) (ns:List Int):List Int:=ns.foldl (fun fs n=>f7 fs (cZ ws n).1 (cZ ws n).2) fs
theorem wk (ws:List (Int × Int × Int)):∀ (ns:List Int) (fs:List Int),(fJ ws fs ns).length=fs.length
 | [],fs=>rfl
 | n :: r,fs=>by
  show (fJ ws (f7 fs _ _) r).length=_
  rw[wk ws r,uD]
noncomputable def dZ (m:Int) (ws:List (Int × Int × Int)) (ns:List Int):List Int:=fJ ws (a0 m.toNat) ns
noncomputable def Nums (ws:List (Int × Int × Int)) (ns:List Int):Prop:=∀ n∈ns,0 <= n/\n < (ws.length:Int)
theorem pM {m:Int} {ws:List (Int × Int × Int)} (W:fP m ws) {n:Int} (h0:0 <= n) (h1:n < (ws.length:Int)):∃ y,ws.getD n.toNat (0,0,0)=y/\y∈ws/\eO (ws.map cA) n=some (cA y)/\∃ i j:Nat,y.1=i/\y.2.1=j/\i < m.toNat/\j < m.toNat/\i < j:=by
 obtain⟨k,rfl⟩:∃ k:Nat,n=k:=⟨n.toNat,by omega⟩
 have hk:k < ws.length:=by omega
 refine⟨ws[k],?_,List.getElem_mem hk,mW ?_,?_⟩
 ·rw[Int.toNat_natCast,List.getD_eq_getElem?_getD,List.getElem?_eq_getElem hk];rfl
 ·rw[List.getElem?_map,List.getElem?_eq_getElem hk];rfl
 ·obtain⟨a,b,c,_,_⟩:=W.ends _ (List.getElem_mem hk)
  exact⟨ws[k].1.toNat,ws[k].2.1.toNat,by omega,by omega,by omega,by omega,by omega⟩
noncomputable def qI:GD:=fun ys ao K=>∃ (m:Int) (ws:List (Int × Int × Int)) (ns:List Int),fP m ws/\Nums ws ns/\((ys=[.p (aG m ws),.p (bq ns)]/\ao=[]/\K (.p (bq (dZ m ws ns))) [])\/(ys=[.p (aG m ws),.o 0]/\ao=[.lst (ns.map D.int)]/\K (.p (bq (dZ m ws ns))) [.lst (ns.map D.int)]))
noncomputable def wm:WS:=(ar (aO 2 (t6 (ak (d2 (aa 0) (dC (.int 0)) bg) ah))) (ar (dz (bK (aa 1)) (bA 3) (ar (aO 4 (d2 (d2 (aa 0) (dC (.int 1)) bg) (aa 3) bg)) (aO 2 (au 3 qH (ak (aa 2) (ak (d2 (aa 4) (dC (.int 0)) bg) (ak (d2 (aa 4) (dC (.int 1)) bg) ah))))))) (aM (aa 2))))
theorem NP:∀ ys ao K',ys.length=2->qI ys ao K'->wm (c8 ao.length K') ⟨ys.map some ++ List.replicate 3 none,ao.map some⟩:=by
 rintro ys ao K' - ⟨m,ws,ns,W,hn,h⟩
 have m1:=W.m1
 have iB:=W.iB
 have il:(a0 m.toNat).length=m.toNat:=by unfold a0;simp
 have core:∀ (x:DV) (mu:List (Option OV)) (a9:av->Prop) (K:KS),(∀ sl,a9 ⟨sl,mu⟩)->(∀ fs,fs=dZ m ws ns->K.nx ⟨[some (.p (aG m ws)),some x,some (.p (bq fs)),none,none],mu⟩)->(∀ k,x = .o k->k < mu.length) →
   jo ⟨[some (.p (aG m ws)),some x,some (.p (bq (a0 m.toNat))),none,none],mu⟩ a9 (bA 3) (ar (aO 4 (d2 (d2 (aa 0) (dC (.int 1)) bg) (aa 3) bg)) (aO 2 (au 3 qH (ak (aa 2) (ak (d2 (aa 4) (dC (.int 0)) bg) (ak (d2 (aa 4) (dC (.int 1)) bg) ah)))))) K (ns.map D.int) ⟨[some (.p (aG m ws)),some x,some (.p (bq (a0 m.toNat))),none,none],mu⟩:=by
  intro x mu a9 K hc hK hx
  refine l8 (fun i δ => δ = ⟨[some (.p (aG m ws)),some x,some (.p (bq (fJ ws (a0 m.toNat) (ns.take i)))),none,none],mu⟩) rfl ?_ ?_
  ·rintro j d δ L hj rfl hL
   rw[List.getElem?_map] at hj
   obtain⟨n,k8,rfl⟩:=Option.map_eq_some_iff.mp hj
   obtain⟨n0,n1⟩:=hn n (List.mem_of_getElem? k8)
   obtain⟨y,ey,hy,ea,i,k,e1,e2,h1,h2,_⟩:=pM W n0 n1
   refine⟨hc _,?_⟩
   simp only[bA,List.set_cons_zero,List.set_cons_succ]
   refine a6 fun N hN => ?_
   simp? only [jy,aG,ea]
   subst hN
   simp? only [kQ,jy,cA]
   have hlen:(fJ ws (a0 m.toNat) (ns.take j)).length=m.toNat:=by rw[wk,il]
   refine⟨fJ ws (a0 m.toNat) (ns.take j),i,k,by rw[e1,e2],rfl,by omega,by omega,by omega,?_⟩
   have ej:f7 (fJ ws (a0 m.toNat) (ns.take j)) i k=fJ ws (a0 m.toNat) (ns.take (j + 1)):=by
    have:ns.take (j + 1)=ns.take j ++ [n]:=by rw[List.take_succ,k8];rfl
    rw[this]
    unfold fJ
    rw[List.foldl_append]
    show _=f7 _ (cZ ws n).1 (cZ ws n).2
    have:cZ ws n=(i,k):=by
     unfold cZ
     rw[ey,e1,e2,Int.toNat_natCast,Int.toNat_natCast]
    rw[this]
   rw[ej]
   have eq:(av.trim ⟨[some (.p (aG m ws)),some x,some (.p (bq (a0 m.toNat))),none,none],mu⟩ ⟨[some (.p (aG m ws)),some x,some (.p (bq (fJ ws (a0 m.toNat) (ns.take (j + 1))))),some (.p (.int n)),some (.p (cA y))],mu⟩)=⟨[some (.p (aG m ws)),some x,some (.p (bq (fJ ws (a0 m.toNat) (ns.take (j + 1))))),none,none],mu⟩:=by
    unfold av.trim
    rw[List.take_length]
    cases x with
    | p d=>rfl
    | o q =>
     have:=hx q rfl
     simp only[fE,tO,this,if_true]
   have:=hL _ rfl
   rw[<-eq] at this
   exact this
  ·rintro δ rfl
   rw[List.length_map,List.take_of_length_le (Nat.le_refl _)]
   exact⟨hc _,hK _ rfl⟩
 have rg:bT 0 m.toNat=(a0 m.toNat).map D.int:=pf m.toNat
 rcases h with⟨rfl,rfl,k⟩ | ⟨rfl,rfl,k⟩
 ·unfold wm
  refine a6 fun N hN => ?_
  simp? only [kQ,aG]
  refine⟨⟨by omega,by omega⟩,?_⟩
  subst hN
  rw[rg]
  refine a6 fun N hN=>qF fun g' b' K2 hg dc hK => ?_
  simp? only [bq]
  subst hg dc hK
  refine core (.p (bq ns)) [] _ _ (fun _=>trivial) (fun fs e => ?_) (fun k z=>by cases z)
  subst e
  show N _
  subst hN
  simp? only []
  exact g0 k
 ·unfold wm
  refine a6 fun N hN => ?_
  simp? only [kQ,aG]
  refine⟨⟨by omega,by omega⟩,?_⟩
  subst hN
  rw[rg]
  refine a6 fun N hN=>qF fun g' b' K2 hg dc hK => ?_
  simp? only []
  subst hg dc hK
  refine core (.o 0) [some (.lst (ns.map D.int))] _ _ (fun _=>rfl) (fun fs e => ?_) (fun k z=>by cases z;exact Nat.zero_lt_one)
  subst e
  show N _
  subst hN
  simp? only []
  exact⟨[.lst (ns.map D.int)],rfl,rfl,k⟩
theorem NQ (a b:Int):sortI [a,b]=[min a b,max a b]:=by
 refine (vW (as:=[min a b,max a b]) ?_ ?_).symm
 ·by_cases c:a <= b
  ·rw[Int.min_eq_left c,Int.max_eq_right c]
  ·rw[Int.min_eq_right (by omega),Int.max_eq_left (by omega)]
   exact List.Perm.swap ..
 ·refine List.Pairwise.cons (fun x hx => ?_) (List.pairwise_singleton _ _)
  rw[List.mem_singleton.mp hx];omega
noncomputable def uF:GD:=qI
noncomputable def wo:WS:=(ar (aO 2 (t6 (ak (d2 (aa 0) (dC (.int 0)) bg) ah))) (ar (dz (bK (aa 1)) (bA 3) (ar (jY (dN (ak (fG (bK (j7 (d2 (d2 (aa 0) (dC (.int 1)) bg) (aa 3) bg) j4 (t4 (dC (.int 2))))) [none,some 2] (bA 0) cJ (d2 (aa 1) (aa 0) bg)) ah) t5) (m_ 2 (iD (bA 4) (iD (bA 5) lT)))) (aO 2 (fG (bK (aa 2)) [none,some 4,some 5] (bA 0) cJ (tL (dT (d2 (aa 0) (aa 2) oEq)) (aa 1) (aa 0)))))) (aM (aa 2))))
theorem NR:∀ ys ao K',ys.length=2->uF ys ao K'->wo (c8 ao.length K') ⟨ys.map some ++ List.replicate 4 none,ao.map some⟩:=by
 rintro ys ao K' - ⟨m,ws,ns,W,hn,h⟩
 have m1:=W.m1
 have iB:=W.iB
 have il:(a0 m.toNat).length=m.toNat:=by unfold a0;simp
 have core:∀ (x:DV) (mu:List (Option OV)) (a9:av->Prop) (K:KS),(∀ sl,a9 ⟨sl,mu⟩)->(∀ fs,fs=dZ m ws ns->K.nx ⟨[some (.p (aG m ws)),some x,some (.p (bq fs)),none,none,none],mu⟩)->(∀ k,x = .o k->k < mu.length) →
   jo ⟨[some (.p (aG m ws)),some x,some (.p (bq (a0 m.toNat))),none,none,none],mu⟩ a9 (bA 3) (ar (jY (dN (ak (fG (bK (j7 (d2 (d2 (aa 0) (dC (.int 1)) bg) (aa 3) bg) j4 (t4 (dC (.int 2))))) [none,some 2] (bA 0) cJ (d2 (aa 1) (aa 0) bg)) ah) t5) (m_ 2 (iD (bA 4) (iD (bA 5) lT)))) (aO 2 (fG (bK (aa 2)) [none,some 4,some 5] (bA 0) cJ (tL (dT (d2 (aa 0) (aa 2) oEq)) (aa 1) (aa 0))))) K (ns.map D.int) ⟨[some (.p (aG m ws)),some x,some (.p (bq (a0 m.toNat))),none,none,none],mu⟩:=by
  intro x mu a9 K hc hK hx
  refine l8 (fun i δ => δ = ⟨[some (.p (aG m ws)),some x,some (.p (bq (fJ ws (a0 m.toNat) (ns.take i)))),none,none,none],mu⟩) rfl ?_ ?_
  ·rintro j d δ L hj rfl hL
   rw[List.getElem?_map] at hj
   obtain⟨n,k8,rfl⟩:=Option.map_eq_some_iff.mp hj
   obtain⟨n0,n1⟩:=hn n (List.mem_of_getElem? k8)
   obtain⟨y,ey,hy,ea,i,k,e1,e2,h1,h2,_⟩:=pM W n0 n1
   refine⟨hc _,?_⟩
   have hlen:(fJ ws (a0 m.toNat) (ns.take j)).length=m.toNat:=by rw[wk,il]
   have ej:f7 (fJ ws (a0 m.toNat) (ns.take j)) i k=fJ ws (a0 m.toNat) (ns.take (j + 1)):=by
    have:ns.take (j + 1)=ns.take j ++ [n]:=by rw[List.take_succ,k8];rfl
    rw[this]
    unfold fJ
    rw[List.foldl_append]
    show _=f7 _ (cZ ws n).1 (cZ ws n).2
    have:cZ ws n=(i,k):=by
     unfold cZ
     rw[ey,e1,e2,Int.toNat_natCast,Int.toNat_natCast]
    rw[this]
   generalize VC:fJ ws (a0 m.toNat) (ns.take j)=fs at hlen ej
   have a1:=uE (ns:=fs) (i:=i) (by omega)
   have a2:=uE (ns:=fs) (i:=k) (by omega)
   simp only[bA,List.set_cons_zero,List.set_cons_succ]
   refine a6 fun N hN => ?_
   have ec:cutD [D.int y.1,D.int y.2.1,D.int y.2.2] none (some 2)=[D.int i,D.int k]:=by rw[<-e1,<-e2];rfl
   simp? only [jy,aG,ea,cA,ec]
   refine L2.jx (fun d=>match d with
    | .int z => .int (fs.getD z.toNat 0)
    | _ => .non) (by show 2 <= 1000;decide) trivial ?_ ?_
   ·intro d hd acc L' ha h'
    simp only[List.mem_cons,List.not_mem_nil,or_false] at hd
    rcases hd with rfl | rfl
    ·simp? only [bq,a1]
     simp only[Int.toNat_natCast] at h'
     exact⟨ha,h'⟩
    ·simp? only [bq,a2]
     simp only[Int.toNat_natCast] at h'
     exact⟨ha,h'⟩
   ·have es:intsOf [D.int (fs.getD i 0),D.int (fs.getD k 0)]=some [fs.getD i 0,fs.getD k 0]:=rfl
    simp? only [Int.toNat_natCast,t5,es,NQ]
    subst hN
    simp? only [bq]
    refine L2.jx (fun d=>match d with
     | .int x => .int (if x=max (fs.getD i 0) (fs.getD k 0) then min (fs.getD i 0) (fs.getD k 0) else x)
     | _ => .non) (by rw[List.length_map];omega) trivial ?_ ?_
    ·intro d hd acc L' ha h'
     obtain⟨z,_,rfl⟩:=List.mem_map.mp hd
     simp? only []
     cases q:ax (.int z) (.int (max (fs.getD i 0) (fs.getD k 0)))
     ·have:¬ z=max (fs.getD i 0) (fs.getD k 0):=fun w=>by rw[w,fR] at q;cases q
      simp only[this,if_false] at h'
      exact⟨ha,h'⟩
     ·have:z=max (fs.getD i 0) (fs.getD k 0):=by simp only[ax] at q;exact eq_of_beq q
      simp only[this,if_true] at h'
      exact⟨ha,h'⟩
    ·have e:(fs.map D.int).map (fun d=>match d with
      | .int x=>D.int (if x=max (fs.getD i 0) (fs.getD k 0) then min (fs.getD i 0) (fs.getD k 0) else x)
      | _ => .non)=(f7 fs i k).map D.int:=by
      unfold f7
      rw[List.map_map,List.map_map];rfl
     rw[e,ej]
     have eq:(av.trim ⟨[some (.p (aG m ws)),some x,some (.p (bq (a0 m.toNat))),none,none,none],mu⟩ ⟨[some (.p (aG m ws)),some x,some (.p (bq (fJ ws (a0 m.toNat) (ns.take (j + 1))))),some (.p (.int n)),some (.p (.int (min (fs.getD i 0) (fs.getD k 0)))),some (.p (.int (max (fs.getD i 0) (fs.getD k 0))))],mu⟩)=⟨[some (.p (aG m ws)),some x,some (.p (bq (fJ ws (a0 m.toNat) (ns.take (j + 1))))),none,none,none],mu⟩:=by
      unfold av.trim
      rw[List.take_length]
      cases x with
      | p d=>rfl
      | o q =>
       have:=hx q rfl
       simp only[fE,tO,this,if_true]
     have:=hL _ rfl
     rw[<-eq] at this
     exact this
  ·rintro δ rfl
   rw[List.length_map,List.take_of_length_le (Nat.le_refl _)]
   exact⟨hc _,hK _ rfl⟩
 have rg:bT 0 m.toNat=(a0 m.toNat).map D.int:=pf m.toNat
 rcases h with⟨rfl,rfl,k⟩ | ⟨rfl,rfl,k⟩
 ·unfold wo
  refine a6 fun N hN => ?_
  simp? only [kQ,aG]
  refine⟨⟨by omega,by omega⟩,?_⟩
  subst hN
  rw[rg]
  refine a6 fun N hN=>qF fun g' b' K2 hg dc hK => ?_
  simp? only [bq]
  subst hg dc hK
  refine core (.p (bq ns)) [] _ _ (fun _=>trivial) (fun fs e => ?_) (fun k z=>by cases z)
  subst e
  show N _
  subst hN
  simp? only []
  exact g0 k
 ·unfold wo
  refine a6 fun N hN => ?_
  simp? only [kQ,aG]
  refine⟨⟨by omega,by omega⟩,?_⟩
  subst hN
  rw[rg]
  refine a6 fun N hN=>qF fun g' b' K2 hg dc hK => ?_
  simp? only []
  subst hg dc hK
  refine core (.o 0) [some (.lst (ns.map D.int))] _ _ (fun _=>rfl) (fun fs e => ?_) (fun k z=>by cases z;exact Nat.zero_lt_one)
  subst e
  show N _
  subst hN
  simp? only []
  exact⟨[.lst (ns.map D.int)],rfl,rfl,k⟩
noncomputable def uG:GD:=fun ys ao K=>∃ (m:Int) (ws:List (Int × Int × Int)) (ns:List Int),fP m ws/\Nums ws ns/\ns.length <= 1000/\ys=[.p (aG m ws),.p (bq ns)]/\ao=[]/\K (.p (.int (ns.map fun n=>(ws.getD n.toNat (0,0,0)).2.2).sum)) []
noncomputable def AK:WS:=(aM (dN (ak (fG (bK (aa 1)) [none,some 0] (bA 0) cJ (d2 (d2 (d2 (aa 1) (dC (.int 1)) bg) (aa 0) bg) (dC (.int 2)) bg)) ah) i9))
theorem NS:∀ ys ao K',ys.length=2->uG ys ao K'->AK (c8 ao.length K') ⟨ys.map some ++ List.replicate 0 none,ao.map some⟩:=by
 rintro ys ao K' - ⟨m,ws,ns,W,hn,hl,rfl,rfl,k⟩
 unfold AK bq
 simp? only []
 refine jx (fun d=>match d with
  | .int n => .int (ws.getD n.toNat (0,0,0)).2.2
  | _ => .non) (by rw[List.length_map];exact hl) trivial ?_ ?_
 ·intro d hd acc L ha h
  obtain⟨n,ij,rfl⟩:=List.mem_map.mp hd
  obtain⟨n0,n1⟩:=hn n ij
  obtain⟨y,ey,hy,ea,_⟩:=pM W n0 n1
  simp? only [jy,at2,aG,ea,cA]
  simp only[ey] at h
  exact⟨ha,h⟩
 ·have e:intsOf ((ns.map D.int).map fun d=>match d with
   | .int n=>D.int (ws.getD n.toNat (0,0,0)).2.2
   | _ => .non)=some (ns.map fun n=>(ws.getD n.toNat (0,0,0)).2.2):=by
   rw[List.map_map]
   have:=vO (ns.map fun n=>(ws.getD n.toNat (0,0,0)).2.2)
   rw[List.map_map] at this
   exact this
  simp? only [i9,e]
  refine⟨⟨fun x hx => ?_,hl⟩,g0 k⟩
  obtain⟨n,ij,rfl⟩:=List.mem_map.mp hx
  obtain⟨n0,n1⟩:=hn n ij
  obtain⟨y,ey,hy,_⟩:=pM W n0 n1
  rw[ey]
  exact⟨(W.ends y hy).2.2.2.1,(W.ends y hy).2.2.2.2⟩
noncomputable def qJ (marks:List Int) (f:Int):List Int:=(a0 marks.length).filter fun h=>decide (marks.getD h.toNat 0=f)
noncomputable def pN (marks:List Int):List (List Int):=(sortI (j5 marks)).map (qJ marks)
noncomputable def kn (ls:List (List Int)):D := .lst (ls.map bq)
noncomputable def uH:GD:=fun ys ao K=>∃ (m:Int) (ws:List (Int × Int × Int)) (ns:List Int),fP m ws/\Nums ws ns/\((ys=[.p (aG m ws),.p (bq ns)]/\ao=[]/\K (.p (kn (pN (dZ m ws ns)))) [])\/(ys=[.p (aG m ws),.o 0]/\ao=[.lst (ns.map D.int)]/\K (.p (kn (pN (dZ m ws ns)))) [.lst (ns.map D.int)]))
noncomputable def wq:WS:=(ar (aO 2 (au 2 uF (ak (aa 0) (ak (aa 1) ah)))) (aM (fG (bK (dN (ak (aa 2) ah) qD)) [none,some 0,some 2] (bA 0) cJ (fG (ju (ak (d2 (aa 1) (dC (.int 0)) bg) ah)) [none,some 0,some 2] (bA 0) (dT (d2 (d2 (aa 2) (aa 0) bg) (aa 1) oEq)) (aa 0)))))
theorem AL {m:Int} {ws:List (Int × Int × Int)} {ns:List Int}:(dZ m ws ns).length=m.toNat:=by
 unfold dZ
 rw[wk];unfold a0;simp
theorem NT:∀ ys ao K',ys.length=2->uH ys ao K'->wq (c8 ao.length K') ⟨ys.map some ++ List.replicate 1 none,ao.map some⟩:=by
 rintro ys ao K' - ⟨m,ws,ns,W,hn,h⟩
 have m1:=W.m1
 have iB:=W.iB
 have ml:=AL (m:=m) (ws:=ws) (ns:=ns)
 have core:∀ (x:DV) (mu:List (Option OV)) (K:KS),K.rt (.p (kn (pN (dZ m ws ns)))) ⟨[some (.p (aG m ws)),some x,some (.p (bq (dZ m ws ns)))],mu⟩ →
   (aM (fG (bK (dN (ak (aa 2) ah) qD)) [none,some 0,some 2] (bA 0) cJ (fG (ju (ak (d2 (aa 1) (dC (.int 0)) bg) ah)) [none,some 0,some 2] (bA 0) (dT (d2 (d2 (aa 2) (aa 0) bg) (aa 1) oEq)) (aa 0)))) K ⟨[some (.p (aG m ws)),some x,some (.p (bq (dZ m ws ns)))],mu⟩:=by
  intro x mu K k
  generalize dZ m ws ns=marks at ml k
  have ei:intsOf (marks.map D.int)=some marks:=vO marks
  have ol:=EO marks
  simp only[aM,fG,bK,dN,ak,ah,aa,List.getElem?_cons_zero,List.getElem?_cons_succ,iY,gE,qD,bq,ei,oZ,cY,List.map_cons,List.map_nil,Option.join_some]
  refine⟨by omega,?_⟩
  refine L2.jx (fun d=>match d with
   | .int f=>bq (qJ marks f)
   | _ => .non) (by rw[List.length_map,Ea];omega) trivial ?_ ?_
  ·intro d hd acc L ha h
   obtain⟨f,_,rfl⟩:=List.mem_map.mp hd
   simp? only [kQ,aG]
   refine⟨by omega,?_⟩
   refine L2.z5 (fun d=>match d with
    | .int z=>decide (marks.getD z.toNat 0=f)
    | _=>false) id (by rw[kO];omega) trivial ?_ ?_
   ·intro d hd d5 L' NU h1 h2
    obtain⟨i,hi⟩:=List.mem_iff_getElem?.mp hd
    obtain⟨hi,rfl⟩:=l3 hi
    have e0:(0 + (i:Int))=i:=by omega
    rw[e0] at h1 h2 ⊢
    have ai:=uE (ns:=marks) (i:=i) (by omega)
    simp? only [ai]
    cases q:ax (.int (marks.getD i 0)) (.int f)
    ·refine h2 ?_
     show decide (marks.getD (i:Int).toNat 0=f)=false
     rw[Int.toNat_natCast]
     refine decide_eq_false fun z => ?_
     rw[z,fR] at q;cases q
    ·refine⟨NU,h1 ?_⟩
     show decide (marks.getD (i:Int).toNat 0=f)=true
     rw[Int.toNat_natCast]
     simp only[ax] at q
     exact decide_eq_true (eq_of_beq q)
   ·simp? only []
    refine⟨ha,?_⟩
    have e:((bT 0 m.toNat).filter fun d=>match d with
     | .int z=>decide (marks.getD z.toNat 0=f)
     | _=>false).map id=(qJ marks f).map D.int:=by
     rw[List.map_id,pf,List.filter_map]
     unfold qJ
     rw[ml];rfl
    rw[e]
    exact h
  ·have e:((sortI (j5 marks)).map D.int).map (fun d=>match d with
    | .int f=>bq (qJ marks f)
    | _ => .non)=(pN marks).map bq:=by
    unfold pN
    rw[List.map_map,List.map_map];rfl
   rw[e]
   exact k
 rcases h with⟨rfl,rfl,k⟩ | ⟨rfl,rfl,k⟩
 ·unfold wq
  refine a6 fun N hN => ?_
  simp? only []
  refine⟨m,ws,ns,W,hn,.inl ⟨rfl,rfl,?_⟩⟩
  simp? only []
  subst hN
  exact core _ _ _ (g0 k)
 ·unfold wq
  refine a6 fun N hN => ?_
  simp? only []
  refine⟨m,ws,ns,W,hn,.inr ⟨rfl,rfl,?_⟩⟩
  simp? only []
  subst hN
  exact core _ _ _ ⟨[.lst (ns.map D.int)],rfl,rfl,k⟩
theorem NV {n:Nat} {z:Int} (h:z∈a0 n):0 <= z/\z < (n:Int):=by
 unfold a0 at h
 obtain⟨i,hi,rfl⟩:=List.mem_map.mp h
 have:=List.mem_range.mp hi
 simp;omega
theorem NW (n:Nat):(a0 n).Nodup:=by
 unfold a0
 refine List.pairwise_map.mpr (List.nodup_range.imp fun {a b} ne e=>ne ?_)
 exact Int.ofNat.inj e
noncomputable def qK:GD:=fun ys ao K=>∃ (n m most:Int) (ws:List (Int × Int × Int)) (o:OV),fP m ws/\ys=[.o 0,.p (aG m ws),.p (.int most)]/\ao=[o]/\aZ n o/\n + 100 < 2 ^ 30/\0 <= most/\most <= 1000 ∧
 ∀ ns o',Nums ws ns->ns.Nodup->(ns.length:Int) <= most->ns.length <= ws.length->aZ (n + 31) o'->K (.n (ns.map D.int)) [o']
noncomputable def AM:WS:=(ar (aO 3 (z7 (ak (dN (ak (d2 (aa 1) (dC (.int 1)) bg) ah) cz) ah))) (ar (aO 4 (tJ ah)) (ar (dz (ju (ak (dN (ak (dN (ak (aa 3) ah) cz) (ak (au 2 f6 (ak (aa 0) (ak (d2 (aa 2) (dC (.int 1)) eK) ah))) ah)) qA) ah)) (bA 5) (m8 (l7 (aa 4) (ak (v5 (aa 3) (ak (au 2 f6 (ak (aa 0) (ak (dN (ak (aa 3) ah) cz) ah))) ah)) ah)))) (aM (aa 4)))))
theorem NX:∀ ys ao K',ys.length=3->qK ys ao K'->AM (c8 ao.length K') ⟨ys.map some ++ List.replicate 3 none,ao.map some⟩:=by
 rintro ys ao K' - ⟨n,m,most,ws,o,W,rfl,rfl,P,hn,s0,s1,fin⟩
 have NY:=W.lg
 unfold AM
 refine a6 fun N hN => ?_
 simp? only [jy,aG]
 refine⟨⟨by omega,by omega⟩,?_⟩
 subst hN
 rw[Int.toNat_natCast,pf]
 refine a6 fun N hN => ?_
 simp? only []
 subst hN
 refine a6 fun N hN=>qF fun g' b' K2 hg dc hK => ?_
 simp? only []
 refine⟨n,most + 1,o,rfl,rfl,P,by omega,by omega,by omega,fun r o1 r0 r1 P1 => ?_⟩
 have il:(a0 ws.length).length=ws.length:=by unfold a0;simp
 simp? only [il]
 refine⟨by omega,?_⟩
 subst hg dc hK
 have ek:(min (ws.length:Int) r).toNat=min ws.length r.toNat:=by omega
 rw[ek]
 generalize hk:min ws.length r.toNat=k
 refine l8 (fun i δ => ∃ (ls fs:List Int) (o':OV),ls.length + i=ws.length/\fs.length=i/\(fs ++ ls).Nodup/\Nums ws (fs ++ ls)/\aZ (n + 1 + i) o' ∧
  δ = ⟨[some (.o 0),some (.p (.tup [.int m,.tup (ws.map cA)])),some (.p (.int most)),some (.o 1),some (.o 2),none],[some o',some (.lst (ls.map D.int)),some (.lst (fs.map D.int))]⟩)
  ⟨a0 ws.length,[],o1,by omega,rfl,NW _,fun z hz=>NV hz,P1.mono (by omega),rfl⟩ ?_ ?_
 ·rintro j d δ L hj ⟨ls,fs,o',hl,hf,nd,nu,P',rfl⟩ hL
  obtain⟨hj,rfl⟩:=l3 hj
  have q0:0 < ls.length:=by omega
  simp? only []
  refine⟨n + 1 + j,ls.length,o',rfl,rfl,P',by omega,by omega,by omega,fun z o2 z0 z1 P2 => ?_⟩
  obtain⟨zn,rfl⟩:∃ zn:Nat,z=zn:=⟨z.toNat,by omega⟩
  have hz:zn < ls.length:=by omega
  have ix:seqIndex? (zn:Int) ls.length=some zn:=Dp hz
  have eq:(ls.map D.int)[zn]? = some (.int ls[zn]):=by rw[List.getElem?_map,List.getElem?_eq_getElem hz];rfl
  simp? only [ix,eq]
  have pm:((fs ++ [ls[zn]]) ++ ls.eraseIdx zn).Perm (fs ++ ls):=by
   rw[List.append_assoc]
   exact List.Perm.append_left _ (Aq hz)
  refine⟨⟨by omega,by omega⟩,by omega,hL _ ⟨ls.eraseIdx zn,fs ++ [ls[zn]],o2,?_,?_,pm.nodup_iff.mpr nd,fun x hx=>nu x (pm.mem_iff.mp hx),P2.mono (by omega),?_⟩⟩
  ·rw[List.length_eraseIdx_of_lt hz];omega
  ·rw[List.length_append,hf];rfl
  ·rw[List.map_append,Ar];rfl
 ·rintro δ ⟨ls,fs,o',hl,hf,nd,nu,P',rfl⟩
  refine⟨trivial,?_⟩
  show N _
  subst hN
  simp? only []
  rw[kO] at hf P'
  refine⟨[o'],rfl,rfl,.inl (fin fs o' (fun x hx=>nu x (List.mem_append_left _ hx)) (List.nodup_append.mp nd).1 (by omega) (by omega) (P'.mono (by omega)))⟩
theorem k9 {H:Hp} {a:Addr} {o:HO} (h:H a=none):aw H (upd H a o):=fun b u e=>by rw[aS (cv e h)];exact e
structure wt (H:Hp) (p c:Addr) (at_ z:Int):Prop where
 lst:H p=some (.lst [.ref c,.int at_,.int z])
 cells:∃ ns:List Int,H c=some (.lst (ns.map V.int))/\ns.length <= 63
 pos:0 <= at_
theorem wt.ne {H:Hp} {p c:Addr} {k z:Int} (P:wt H p c k z):c≠p:=by
 obtain⟨ns,h,_⟩:=P.cells
 intro e
 subst e
 rw[P.lst] at h
 have h':=Option.some.inj h
 injection h' with qp
 cases ns with
 | nil=>cases qp
 | cons n r=>injection qp with h1 _;cases h1
theorem NZ {ns:List Int} {k:Int} (h0:0 <= k) (h1:k < (ns.length:Int)):∃ n,eO (ns.map V.int) k=some (.int n):=by
 obtain⟨i,rfl⟩:∃ i:Nat,k=i:=⟨k.toNat,by omega⟩
 have hi:i < ns.length:=by omega
 refine⟨ns[i],mW ?_⟩
 rw[List.getElem?_map,List.getElem?_eq_getElem hi];rfl
noncomputable def AN (K:PySem.W.Frag):Sp:=fun vs H Q _=>∃ (a:Addr) (ns:List Int),vs=[.ref a]/\aP K H a (ns.map V.int)/\ns.length <= 63/\∀ (p c:Addr) (H':Hp),aw H H'->H p=none->wt H' p c 0 0->Q (.ref p) H'
noncomputable def wu (K:PySem.W.Frag):Sp:=fun vs H Q _=>∃ (a:Addr) (ns:List Int),vs=[.ref a]/\aP K H a (ns.map V.int)/\ns.length <= 63/\aQ.ok H/\∀ H',Q (.bl true) H'
theorem AO (ns:List Int) (lo hi:Option Int):cG (ns.map V.int) lo hi=((ns.drop (HT.aU ns.length 0 lo)).take (HT.aU ns.length ns.length hi - HT.aU ns.length 0 lo)).map V.int:=by
 unfold cG
 rw[List.length_map,List.map_take,List.map_drop]
theorem N0 {H:Hp} {p c a:Addr} {n:Nat} (hT:aQ.ok H) (N:wt H p c 0 0):∃ (F:Hp) (ns:List Int),ns.length <= 63/\SR F [p] ⟨none :: some (.o 0) :: List.replicate n none,[some (.lst [.lst (ns.map D.int),.int 0,.int 0])]⟩ (some (.ref a) :: some (.ref p) :: List.replicate n none) H:=by
 obtain⟨ns,hc,hn⟩:=N.cells
 have ne:=N.ne
 refine⟨upd (fun _=>none) c (.lst (ns.map V.int)),ns,hn,⟨fun b o e => ?_,fun b ⟨k,ov,e1,e2⟩ => ?_,rfl,fun k l a ov ow e1 e2 _ _ => ?_,fun k ov e => ?_,fun i x e => ?_,by simp,hT,fun b hb=>by
  obtain⟨ps,q⟩:=aQ.tb hT hb
  rw[aS fun z=>by subst z;rw[hc] at q;cases q]⟩⟩
 ·by_cases z:b=c
  ·subst z;rw[bF] at e;cases e;exact hc
  ·rw[aS z] at e;cases e
 ·cases k with
  | zero=>cases (show some p=some b by simpa using e1);rw[aS (Ne.symm ne)]
  | succ k=>simp at e1
 ·cases k with
  | zero =>
   cases l with
   | zero=>rfl
   | succ l=>simp at e2
  | succ k=>simp at e1
 ·cases k with
  | zero =>
   cases (show OV.lst [.lst (ns.map D.int),.int 0,.int 0]=ov by simpa using e)
   refine⟨p,_,rfl,N.lst,_,rfl,?_⟩
   refine .cons ?_ (.cons rfl (.cons rfl .nil))
   simp only[Is]
   exact⟨c,_,rfl,bF,o8⟩
  | succ k=>simp at e
 ·cases i with
  | zero=>simp at e
  | succ i =>
   cases i with
   | zero =>
    cases (show DV.o 0=x by simpa using e)
    exact⟨_,rfl,p,rfl,rfl⟩
   | succ i =>
    exfalso
    have e:(List.replicate n (none:Option DV))[i]? = some (some x):=by simpa using e
    rw[List.getElem?_replicate] at e
    split at e<;>cases e
theorem N3 {B:WS} {F:Hp} {ad:List Addr} {δ : av} {σ : St} {H:Hp} {Q:VK} (S:SR F ad δ σ H) (h:B ⟨fun _=>False,fun x _=>x = .p (.bl true),fun _=>False,fun _=>False⟩ δ) (q:∀ H',Q (.bl true) H'):d_ B { nx:=fun _ H'=>Q .non H',rt:=Q } σ H :=
 ⟨F,ad,δ,_,S,h,⟨fun δ' h=>h.elim,fun δ' h=>h.elim,fun δ' h=>h.elim,fun x δ' h v F' aC σ' H' E' S' V=>by
  have h:x = .p (.bl true):=h
  subst h
  have V:v = .bl true:=V
  subst V
  exact q H'⟩⟩
noncomputable abbrev wx:aQ:=⟨[],fun _=>True,fun _ _=>trivial,fun _ _ _=>trivial,fun _ h=>nomatch h⟩
end LJ
namespace L2
open PySem PySem.Spec PyProof.Rows
section
variable {X:Cx} {pins:List (Addr × Obj)} {σ : St} {H:Hp} {s:Shared} {h':Heap}
end
end L2
namespace L2
open PySem PySem.Spec PyProof.Rows PySem.W
section
variable {X:Cx} {pins:List (Addr × Obj)} {σ : St} {H:Hp} {s:Shared} {params:Arguments} {body:Expr} {scope:Scope} {pos:Pos} {N4:List (Str × Addr)} {cc T:Addr} {ps:Array Value} {E:Value->Shared->Prop} {Q:Value->Shared->Prop}
end
section
variable {X:Cx} {pins:List (Addr × Obj)} {σ : St} {H:Hp} {s:Shared} {params:Arguments} {body:Expr} {scope:Scope} {cl:List (Str × Addr)} {E:Value->Shared->Prop} {Q:VK} {name qual x:Str} {f c:Addr} {pm:Value} {A:Around} {v:V} {u:Value} {Nb:List Str} {cp:List (Option Nat)} {t:TE}
end
section
variable {prog:Program} {w:World} {A:Around} {E:Value->Shared->Prop} {s:Shared} {Q:Bool->Shared->Prop}
end
section
variable {X:Cx} {pins:List (Addr × Obj)} {σ : St} {H:Hp} {s:Shared} {A:Around} {E:Value->Shared->Prop} {a:Addr} {vs:List Value} {f:Value}
end
section
variable {prog:Program} {w:World} {A:Around} {E:Value->Shared->Prop} {s:Shared}
end
section
variable {X:Cx} {pins:List (Addr × Obj)} {σ : St} {H:Hp} {s:Shared} {E:Value->Shared->Prop}
end
variable [aQ]
section
variable {F H H':Hp} {ad:List Addr} {δ : av} {σ : St}
end
section
variable {X:Cx} {params:Arguments} {body:Expr} {scope:Scope} {AQ:Pos} {x:Str} {Nb:List Str} {cp:List (Option Nat)} {fb:WE} {T:Addr}
end
section
variable {X:Cx} {params:Arguments} {body a e:Expr} {scope:Scope} {AQ p1 p2 q1 q2 ym:Pos} {x:Str} {Nb:List Str} {cp:List (Option Nat)} {fb f:WE} {fa:WA} {T:Addr}
end
end L2
namespace L2
open PySem PySem.Spec PyProof.Rows PySem.W
section
variable {prog:Program} {w:World} {A:Around} {E:Value->Shared->Prop} {s:Shared} {Q:Bool->Shared->Prop}
end
section
variable {X:Cx} {pins:List (Addr × Obj)} {σ : St} {H:Hp} {s:Shared} {A:Around} {E:Value->Shared->Prop} {a:Addr} {vs:List Value} {ks:List LK} {κ : SortKind}
end
section
variable [aQ] {X:Cx}
end
end L2
namespace LJ
open PySem L2 PySem.W
end LJ
namespace LJ
open PySem L2
variable [aQ]
omit [aQ] in
theorem N5 {m:Int} {ws:List (Int × Int × Int)} (h:fP m ws):ka (aG m ws)=true:=by
 show (ja (.int m) 1 12 && pL m (.tup (ws.map cA)))=true
 have h1:ja (.int m) 1 12=true:=by
  show (decide (1 <= m) && decide (m <= 12))=true
  rw[decide_eq_true h.m1,decide_eq_true h.iB];rfl
 rw[h1,Bool.true_and]
 show (decide ((ws.map cA).length <= 30) && ((ws.map cA).all (cf m) && decide (((ws.map cA).map pairOf).Nodup)))=true
 have h2:(ws.map cA).all (cf m)=true:=by
  refine List.all_eq_true.mpr fun d hd => ?_
  obtain⟨y,hy,rfl⟩:=List.mem_map.mp hd
  obtain⟨a,b,c,d,e⟩:=h.ends y hy
  show (((decide (0 <= y.1) && decide (y.1 <= m - 1)) && (decide (y.1 + 1 <= y.2.1) && decide (y.2.1 <= m - 1))) && (decide (0 <= y.2.2) && decide (y.2.2 <= 1000000000)))=true
  rw[decide_eq_true a,decide_eq_true (by omega:y.1 <= m - 1),decide_eq_true (by omega:y.1 + 1 <= y.2.1),decide_eq_true (by omega:y.2.1 <= m - 1),decide_eq_true d,decide_eq_true e];rfl
 have h3:(ws.map cA).map pairOf=ws.map fun y=>(y.1,y.2.1):=by rw[List.map_map];rfl
 rw[h2,h3,decide_eq_true h.unlike,List.length_map,decide_eq_true h.lg];rfl
noncomputable def uI:GD:=fun ys ao K=>∃ (m:Int) (ws:List (Int × Int × Int)),fP m ws/\ys=[.p (aG m ws)]/\ao=[]/\K (.p .non) []
noncomputable def AR:WS:=(bp (e7 (dT (au 1 uA (ak (aa 0) ah)))) tN eJ)
theorem N6:∀ ys ao K',ys.length=1->uI ys ao K'->AR (c8 ao.length K') ⟨ys.map some ++ List.replicate 0 none,ao.map some⟩:=by
 rintro ys ao K' - ⟨m,ws,W,rfl,rfl,k⟩
 unfold AR
 simp? only []
 refine⟨aG m ws,rfl,rfl,?_⟩
 rw[N5 W]
 simp? only []
 exact g0 k
end LJ
namespace L2
open PySem PySem.Spec PyProof.Rows
variable [aQ]
noncomputable def cB (kvs:List (Key × D)) (k:Key):Option D:=(kvs.find? fun kv=>decide (kv.1=k)).map (·.2)
noncomputable def putD (kvs:List (Key × D)) (k:Key) (d:D):List (Key × D) :=
 if (kvs.any fun kv=>decide (kv.1=k))=true then kvs.map (fun kv=>if kv.1=k then (kv.1,d) else kv) else kvs ++ [(k,d)]
theorem eY.val {F:Hp} (k:Key):∀ {fQ:List (Key × D)} {ws:List (Key × V)},eY F fQ ws->(cB fQ k=none/\bH ws k=none)\/∃ d v,cB fQ k=some d/\bH ws k=some v/\Is F d v
 | [],_,h=>by have h:_=[]:=h;subst h;exact .inl ⟨rfl,rfl⟩
 | kd :: r,_,⟨v,t,e,h1,h2⟩=>by
  subst e
  by_cases c:kd.1=k
  ·refine .inr ⟨kd.2,v,?_,sV c,h1⟩
   unfold cB;rw[List.find?_cons_of_pos (by simpa using c)];rfl
  ·rw[sW c]
   have e:cB (kd :: r) k=cB r k:=by unfold cB;rw[List.find?_cons_of_neg (by simpa using c)]
   rw[e]
   exact eY.val k h2
theorem eY.length {F:Hp}:∀ {fQ:List (Key × D)} {ws:List (Key × V)},eY F fQ ws->ws.length=fQ.length
 | [],_,h=>by have h:_=[]:=h;subst h;rfl
 | kd :: r,_,⟨v,t,e,h1,h2⟩=>by subst e;rw[List.length_cons,List.length_cons,h2.length]
theorem eY.any {F:Hp} (k:Key):∀ {fQ:List (Key × D)} {ws:List (Key × V)},eY F fQ ws->(ws.any fun kv=>decide (kv.1=k))=fQ.any fun kv=>decide (kv.1=k)
 | [],_,h=>by have h:_=[]:=h;subst h;rfl
 | kd :: r,_,⟨v,t,e,h1,h2⟩=>by subst e;rw[List.any_cons,List.any_cons,h2.any k]
theorem eY.h8 {F:Hp} (k:Key) {d:D} {v:V} (hd:Is F d v):∀ {fQ:List (Key × D)} {ws:List (Key × V)},eY F fQ ws->eY F (fQ.map fun kv=>if kv.1=k then (kv.1,d) else kv) (ws.map fun kv=>if kv.1=k then (kv.1,v) else kv)
 | [],_,h=>by have h:_=[]:=h;subst h;rfl
 | kd :: r,_,⟨u,t,e,h1,h2⟩=>by
  subst e
  by_cases c:kd.1=k
  ·rw[List.map_cons,List.map_cons,if_pos c,if_pos c]
   exact⟨v,_,rfl,hd,h2.h8 k hd⟩
  ·rw[List.map_cons,List.map_cons,if_neg c,if_neg c]
   exact⟨u,_,rfl,h1,h2.h8 k hd⟩
theorem eY.snoc {F:Hp} {k:Key} {d:D} {v:V} (hd:Is F d v):∀ {fQ:List (Key × D)} {ws:List (Key × V)},eY F fQ ws->eY F (fQ ++ [(k,d)]) (ws ++ [(k,v)])
 | [],_,h=>by have h:_=[]:=h;subst h;exact⟨v,[],rfl,hd,rfl⟩
 | kd :: r,_,⟨u,t,e,h1,h2⟩=>by subst e;exact⟨u,_,rfl,h1,h2.snoc hd⟩
theorem eY.put {F:Hp} {fQ:List (Key × D)} {ws:List (Key × V)} {k:Key} {d:D} {v:V} (h:eY F fQ ws) (hd:Is F d v):eY F (putD fQ k d) (putK ws k v):=by
 unfold putD putK
 rw[h.any k]
 split
 ·exact h.h8 k hd
 ·exact h.snoc hd
noncomputable def jc (x:DV) (δ : av) (K:Nat->List (Key × D)->Prop):Prop:=match x with
 | .o k=>match δ.mu[k]? with
  | some (some (.dct kvs))=>K k kvs
  | _=>False
 | _=>False
theorem E8 {F H:Hp} {ad:List Addr} {δ : av} {σ : St} {x:DV} {v:V} {K:Nat->List (Key × D)->Prop} (S:SR F ad δ σ H) (V1:fX F ad x v) (h:jc x δ K):∃ k kvs a ws,x = .o k/\K k kvs/\v = .ref a/\ad[k]? = some a/\H a=some (.dK ws)/\eY F kvs ws /\ δ.mu[k]? = some (some (.dct kvs)):=by
 unfold jc at h
 split at h
 ·rename_i k
  split at h
  ·rename_i kvs e
   obtain⟨a,e1,rfl⟩:=V1
   obtain⟨a',o,e2,e3,ws,rfl,h4⟩:=S.mu k _ e
   rw[e1] at e2;cases e2
   exact⟨k,kvs,a,ws,rfl,h,rfl,e1,e3,h4,e⟩
  ·exact h.elim
 ·exact h.elim
noncomputable def jd (x:DV) (P:Int->Prop):Prop:=match x with
 | .p (.int i)=>P i
 | _=>False
theorem E9 {F:Hp} {ad:List Addr} {x:DV} {v:V} {P:Int->Prop} (hv:fX F ad x v) (h:jd x P):∃ i,v=kV (.inl i)/\P i:=by
 unfold jd at h
 split at h
 ·rename_i i;exact⟨i,hv,h⟩
 ·exact h.elim
noncomputable def AS:WE:=fun δ K=>K (.o δ.mu.length) ⟨δ.sl,δ.mu ++ [some (.dct [])]⟩
noncomputable def mz (neg:Bool) (fi fo:WE):WE:=fun δ K=>fi δ fun x δ1=>fo δ1 fun y δ2=>jd x fun i=>jc y δ2 fun _ kvs=>K (.p (.bl (neg != (cB kvs (.inl i)).isSome))) δ2
noncomputable def AU (fv fo fi:WE):WS:=fun K δ => fv δ fun z δ1=>fo δ1 fun x δ2=>fi δ2 fun y δ3=>lN z δ3 fun d δ4=>jd y fun i=>jc x δ4 fun k kvs=>kvs.length < 1000/\K.nx ⟨δ4.sl,δ4.mu.set k (some (.dct (putD kvs (.inl i) d)))⟩
section
variable {X:Cx} {o i e v:Expr} {fo fi fv fk fe:WE} {pos:Pos}
theorem N7:JE X (.Dict [] [] pos) (tD AS):=gT.weak fun σ H Q ⟨F,ad,δ,K,S,q,k⟩ p hp=>by
 have oi:fD F (.dct []) (.dK []):=⟨[],rfl,rfl⟩
 refine k _ _ q _ _ _ _ (Ext.own S hp) (S.own hp oi) ⟨p,?_,rfl⟩
 rw[<-S.cD,List.getElem?_append_right (Nat.le_refl _),Nat.sub_self];rfl
theorem N8 {neg:Bool} (td:TE) (hn:∀ σ H (Q:VK),(tD fi σ H fun y H1=>tD fo σ H1 fun x H2=>∃ a o,x = .ref a/\iW H2 a y o/\Q (.bl (neg != o.isSome)) H2)->td σ H Q):∀ σ H Q,tD (mz neg fi fo) σ H Q->td σ H Q:=fun σ H Q h0_ => el7 h0_ fun F ad δ K S q k =>hn σ H Q ⟨F,ad,δ,_,S,q,fun x δ1 h1 v F1 aL H1 E1 S1 V1=>⟨F1,aL,δ1,_,S1,h1,fun y δ2 h2 u F2 cV H2 E2 S2 V2=>by
  obtain⟨i,rfl,h3⟩:=E9 (V1.ext E2) h2
  obtain⟨k0,kvs,a,ws,rfl,h4,rfl,e1,e2,i1,m1⟩:=E8 S2 V2 h3
  refine⟨a,_,rfl,iW.k e2,?_⟩
  have es:(bH ws (Sum.inl i:Key)).isSome=(cB kvs (.inl i)).isSome:=by
   rcases i1.val (.inl i) with⟨z1,z2⟩ | ⟨d,v,z1,z2,_⟩
   ·rw[z1,z2];rfl
   ·rw[z1,z2];rfl
  rw[es]
  exact k _ _ h4 _ _ _ _ (E1.trans E2) S2 rfl⟩⟩
theorem N9 {t:TE} {f:WE} (h:∀ σ H Q,tD f σ H Q->t σ H Q):∀ σ H Q,cI (dT f) σ H Q->tB t σ H Q:=fun σ H Q h0_ => el7 h0_ fun F ad δ K S q k =>h σ H _ ⟨F,ad,δ,_,S,q,fun x δ1 h1 v F1 aL H1 E1 S1 V1=>by
  obtain⟨b,rfl,h2⟩:=tM V1 h1
  exact⟨b,rfl,k _ _ h2 _ _ _ E1 S1⟩⟩
theorem N_ (hu:X.A.units + 64 < cLine) (hi:JE X i (tD fi)) (ho:JE X o (tD fo)) (hm:behindInMarks .In o=false:=by rfl):JT X (.Compare i [.In] [o] pos) (cI (dT (mz false fi fo))) :=
 (KO (Lc (by omega) hi ho) hm).weak (N9 (N8 (oJ (tD fi) (tD fo)) fun σ H Q h=>by simp only[Bool.false_bne] at h;exact h))
theorem Oa {pos':Pos} (hu:X.A.units + 64 < cLine) (ho:JE X o (tD fo)) (hi:JE X i (tD fi)) (hv:JE X v (tD fv)) (hs:swapsWith v (some (.Subscript o i pos')) pos.line X.env=pure false:=by rfl):JS X (.Assign [.Subscript o i pos'] v pos) (d_ (AU fv fo fi)) :=
 (Ld (by omega) ho hi hv hs).weak fun D σ H h0_ => el7 h0_ fun F ad δ K S q k =>⟨F,ad,δ,_,S,q,fun z δ1 h1 w F1 aL H1 E1 S1 V1=>⟨F1,aL,δ1,_,S1,h1,fun x δ2 h2 u F2 cV H2 E2 S2 V2=>⟨F2,cV,δ2,_,S2,h2,fun y δ3 h3 t F3 lV H3 E3 S3 V3=>by
  obtain⟨d,δ4,F4,h4,E4,S4,i4⟩:=tI S3 ((V1.ext E2).ext E3) h3
  obtain⟨i,rfl,h5⟩:=E9 V3 h4
  obtain⟨k0,kvs,a,ws,rfl,h6,rfl,e1,e2,i1,m1⟩:=E8 S4 ((V2.ext E3).ext E4) h5
  have oi:fD F4 (.dct (putD kvs (.inl i) d)) (.dK (putK ws (.inl i) w)):=⟨_,rfl,i1.put i4⟩
  refine⟨a,_,rfl,jT.k e2 (ji (by rw[i1.length];exact Nat.le_of_lt h6.1)),?_⟩
  exact k.nx _ h6.2 _ _ _ _ ((((E1.trans E2).trans E3).trans E4).trans (Ext.put S4 m1 e1)) (S4.put m1 e1 oi)⟩⟩⟩
end
end L2
namespace LJ
open PySem L2
variable [aQ]
theorem Ob {kvs:List (Key × D)} {k l:Key} {d:D} (h:cB kvs k=none):cB (putD kvs k d) l=if l=k then some d else cB kvs l:=by
 have na:(kvs.any fun kv=>decide (kv.1=k))=false:=by
  cases q:kvs.any fun kv=>decide (kv.1=k) with
  | false=>rfl
  | true =>
   obtain⟨kv,h1,h2⟩:=List.any_eq_true.mp q
   unfold cB at h
   rw[Option.map_eq_none_iff] at h
   exact absurd h2 (List.find?_eq_none.mp h kv h1)
 unfold putD
 rw[na,if_neg Bool.false_ne_true]
 unfold cB
 rw[List.find?_append]
 cases q:kvs.find? fun kv=>decide (kv.1=l) with
 | some kv =>
  have e:=List.find?_some q
  have e:kv.1=l:=by simpa using e
  rw[if_neg]
  ·rfl
  ·intro z
   subst z
   have hm:=List.mem_of_find?_eq_some q
   have:=List.any_eq_false.mp na kv hm
   exact this (by simpa using e)
 | none =>
  by_cases c:l=k
  ·subst c
   rw[if_pos rfl]
   simp
  ·rw[if_neg c]
   simp[show ¬ k=l from fun z=>c z.symm]
theorem Oc {kvs:List (Key × D)} {k:Key} {d:D}:(putD kvs k d).length <= kvs.length + 1:=by
 unfold putD
 split
 ·rw[List.length_map];omega
 ·rw[List.length_append];simp
noncomputable def mB:GD:=fun ys ao K=>∃ (m:Int) (ws:List (Int × Int × Int)) (ns:List Int),fP m ws/\Nums ws ns/\ns.Nodup/\ns.length <= 900/\ys=[.p (aG m ws),.p (bq ns)]/\ao=[]/\K (.p .non) []
noncomputable def AV:WS:=(ar (m8 (au 1 uI (ak (aa 0) ah))) (ar (bp (e7 (dT (d1 (aa 1) (cb "list")))) tN eJ) (ar (aO 2 (d2 (dN (ak (d2 (aa 0) (dC (.int 1)) bg) ah) cz) (dC (.int 1)) (oI fun i j => .int (i - j)))) (ar (aO 3 AS) (dz (lZ (ak (aa 1) ah)) (m_ 2 (iD (bA 4) (iD (bA 5) lT))) (ar (bp (lO (e7 (dT (au 3 jz (ak (aa 5) (ak (dC (.int 0)) (ak (aa 2) ah)))))) (dT (mz false (aa 5) (aa 3)))) tN eJ) (AU (dC (.bl true)) (aa 3) (aa 5))))))))
theorem Od:∀ ys ao K',ys.length=2->mB ys ao K'->AV (c8 ao.length K') ⟨ys.map some ++ List.replicate 4 none,ao.map some⟩:=by
 rintro ys ao K' - ⟨m,ws,ns,W,hn,nd,hl,rfl,rfl,k⟩
 unfold AV
 refine a6 fun N hN => ?_
 simp? only []
 refine⟨m,ws,W,rfl,rfl,?_⟩
 show N _
 subst hN
 refine a6 fun N hN => ?_
 simp? only []
 rw[show bq ns = .lst (ns.map D.int) from rfl]
 simp? only [bU,aH,Bool.true_or]
 subst hN
 refine a6 fun N hN => ?_
 simp? only [jy,aG]
 subst hN
 refine a6 fun N hN => ?_
 simp? only [AS]
 subst hN
 have il:∀ (j:Nat) (d:D),(kN 0 (ns.map D.int))[j]? = some d->∃ n:Int,ns[j]? = some n/\d=D.tup [.int (j:Int),.int n]:=fun j d hd=>by
  obtain⟨e,h1,h2⟩:=vK hd
  rw[List.getElem?_map] at h1
  obtain⟨n,h3,rfl⟩:=Option.map_eq_some_iff.mp h1
  exact⟨n,h3,by rw[h2,Nat.zero_add]⟩
 have el:(kN 0 (ns.map D.int)).length=ns.length:=by rw[vJ,List.length_map]
 simp only[dz,lZ,ak,aa,ah,List.getElem?_cons_zero,List.getElem?_cons_succ,oZ]
 refine l8 (fun i δ => ∃ kvs:List (Key × D),kvs.length <= i/\(∀ n:Int,(cB kvs (.inl n)).isSome=decide (n∈ns.take i)) /\ δ = ⟨[some (.p (.tup [.int m,.tup (ws.map cA)])),some (.p (.lst (ns.map D.int))),some (.p (.int (ws.length - 1))),some (.o 0),none,none],[some (.dct kvs)]⟩) ?_ ?_ ?_
 ·refine⟨[],Nat.le_refl _,fun n=>by simp[cB],?_⟩
  simp only[List.length_map]
 ·rintro j d δ L hj ⟨kvs,kl,kv,rfl⟩ hL
  obtain⟨n,k8,rfl⟩:=il j d hj
  obtain⟨n0,n1⟩:=hn n (List.mem_of_getElem? k8)
  have jl:j < ns.length:=(List.getElem?_eq_some_iff.mp k8).1
  have ff:(cB kvs (.inl n)).isSome=false:=by
   rw[kv n]
   refine decide_eq_false fun hm => ?_
   obtain⟨i,hi,ei⟩:=List.mem_iff_getElem.mp hm
   rw[List.length_take] at hi
   rw[List.getElem_take] at ei
   have e2:ns[j]=n:=(List.getElem?_eq_some_iff.mp k8).2
   have:=(List.getElem_inj (h₀ := by omega) (h₁ := jl) nd).mp (ei.trans e2.symm)
   omega
  have fn:cB kvs (.inl n)=none:=by
   cases q:cB kvs (.inl n) with
   | none=>rfl
   | some d=>rw[q] at ff;cases ff
  have wb:ja (.int n) 0 (ws.length - 1)=true:=by
   show (decide (0 <= n) && decide (n <= (ws.length:Int) - 1))=true
   rw[decide_eq_true n0,decide_eq_true (by omega)];rfl
  refine⟨trivial,?_⟩
  simp only[m_,iD,lT,bA,gE,List.set_cons_zero,List.set_cons_succ,List.length_cons,List.length_nil]
  refine⟨trivial,?_⟩
  refine a6 fun N hN => ?_
  simp? only []
  refine⟨.int n,0,ws.length - 1,rfl,rfl,?_⟩
  simp? only [wb,mz,jd,jc,ff,Bool.false_bne]
  subst hN
  simp? only [AU,jd,jc]
  refine⟨by omega,hL _ ⟨putD kvs (.inl n) (.bl true),?_,fun l => ?_,?_⟩⟩
  ·have:=Oc (kvs:=kvs) (k := .inl n) (d := .bl true);omega
  ·rw[Ob fn,List.take_succ,k8]
   by_cases c:l=n
   ·subst c
    rw[if_pos rfl]
    exact (decide_eq_true (by simp)).symm
   ·rw[if_neg (fun z=>c (Sum.inl.inj z)),kv l]
    simp[c]
  ·simp? only []
 ·rintro δ ⟨kvs,_,_,rfl⟩
  exact⟨trivial,g0 k⟩
end LJ
namespace L2
open PySem PySem.Spec PyProof.Rows PySem.W
section
open PySem.SeqAt
open PySem.AutoSeq1 (wpAny_loadPart')
open PySem.MeetsSeq PySem.MeetsSeq2 PySem.MeetsSeq3
end
section
variable {prog:Program} {w:World} {A:Around} {E:Value->Shared->Prop} {s:Shared} {Q:Bool->Shared->Prop}
end
section
variable [aQ] {X:Cx}
end
end L2
namespace LJ
open PySem L2
noncomputable abbrev Lt:=Int × (Addr × List Int)
noncomputable def dB (es:List Lt):List (Key × V):=es.map fun e=>(Sum.inl e.1,V.ref e.2.1)
structure cM (H:Hp) (es:List Lt):Prop where
 at_:∀ e∈es,H e.2.1=some (.lst (e.2.2.map V.int))
 mC:(es.map (·.2.1)).Nodup
 mD:(es.map (·.1)).Nodup
noncomputable def strip (es:List Lt):List (Int × List Int):=es.map fun e=>(e.1,e.2.2)
noncomputable def k_ (g:List (Int × List Int)) (x h:Int):List (Int × List Int):=if x∈g.map (·.1) then g.map (fun e=>if e.1=x then (e.1,e.2 ++ [h]) else e) else g ++ [(x,[h])]
noncomputable def cN (fs:List Int):Nat->List (Int × List Int)
 | 0=>[]
 | i + 1=>k_ (cN fs i) (fs.getD i 0) i
theorem E_ (x:Int):∀ es:List Lt,bH (dB es) (Sum.inl x:Key)=(es.find? fun e=>decide (e.1=x)).map fun e=>V.ref e.2.1
 | []=>rfl
 | e :: es=>by
  by_cases c:e.1=x
  ·rw[List.find?_cons_of_pos (by simpa using c)]
   exact sV (congrArg Sum.inl c)
  ·rw[List.find?_cons_of_neg (by simpa using c)]
   have:=E_ x es
   rw[<-this]
   exact sW (fun z=>c (Sum.inl.inj z))
theorem Oe (es:List Lt):(strip es).map (·.1)=es.map (·.1):=by unfold strip;rw[List.map_map];rfl
noncomputable def grow (es:List Lt) (x h:Int):List Lt:=es.map fun e=>if e.1=x then (e.1,e.2.1,e.2.2 ++ [h]) else e
theorem Of (es:List Lt) (x h:Int):dB (grow es x h)=dB es:=by
 unfold dB grow
 rw[List.map_map]
 refine List.map_congr_left fun e _ => ?_
 show ((Sum.inl (if e.1=x then (e.1,e.2.1,e.2.2 ++ [h]) else e).1:Key),V.ref (if e.1=x then (e.1,e.2.1,e.2.2 ++ [h]) else e).2.1)=_
 split<;>rfl
theorem Og (es:List Lt) (x h:Int):(grow es x h).map (·.2.1)=es.map (·.2.1):=by
 unfold grow
 rw[List.map_map]
 refine List.map_congr_left fun e _ => ?_
 show (if e.1=x then (e.1,e.2.1,e.2.2 ++ [h]) else e).2.1=_
 split<;>rfl
theorem Oh (es:List Lt) (x h:Int):(grow es x h).map (·.1)=es.map (·.1):=by
 unfold grow
 rw[List.map_map]
 refine List.map_congr_left fun e _ => ?_
 show (if e.1=x then (e.1,e.2.1,e.2.2 ++ [h]) else e).1=_
 split<;>rfl
theorem Oi {es:List Lt} {x h:Int} (hx:x∈es.map (·.1)):strip (grow es x h)=k_ (strip es) x h:=by
 unfold k_
 rw[if_pos (by rw[Oe];exact hx)]
 unfold strip grow
 rw[List.map_map,List.map_map]
 refine List.map_congr_left fun e _ => ?_
 show ((if e.1=x then (e.1,e.2.1,e.2.2 ++ [h]) else e).1,(if e.1=x then (e.1,e.2.1,e.2.2 ++ [h]) else e).2.2)=if e.1=x then (e.1,e.2.2 ++ [h]) else (e.1,e.2.2)
 split<;>rfl
theorem Oj {es:List Lt} (n:(es.map (·.1)).Nodup) {e e':Lt} (h:e∈es) (h':e'∈es) (q:e.1=e'.1):e=e':=by
 obtain⟨i,hi,rfl⟩:=List.mem_iff_getElem.mp h
 obtain⟨j,hj,rfl⟩:=List.mem_iff_getElem.mp h'
 have:=(List.getElem_inj (h₀ := by rw[List.length_map];exact hi) (h₁ := by rw[List.length_map];exact hj) n).mp (by rw[List.getElem_map,List.getElem_map];exact q)
 subst this;rfl
theorem Ol {es:List Lt} (n:(es.map (·.2.1)).Nodup) {e e':Lt} (h:e∈es) (h':e'∈es) (q:e.2.1=e'.2.1):e=e':=by
 obtain⟨i,hi,rfl⟩:=List.mem_iff_getElem.mp h
 obtain⟨j,hj,rfl⟩:=List.mem_iff_getElem.mp h'
 have:=(List.getElem_inj (h₀ := by rw[List.length_map];exact hi) (h₁ := by rw[List.length_map];exact hj) n).mp (by rw[List.getElem_map,List.getElem_map];exact q)
 subst this;rfl
theorem cM.grow {H:Hp} {es:List Lt} {e:Lt} {h:Int} (L:cM H es) (he:e∈es):cM (upd H e.2.1 (.lst (e.2.2.map V.int ++ [V.int h]))) (grow es e.1 h):=by
 refine⟨fun e' nF => ?_,by rw[Og];exact L.mC,by rw[Oh];exact L.mD⟩
 unfold LJ.grow at nF
 obtain⟨d,hd,rfl⟩:=List.mem_map.mp nF
 by_cases c:d.1=e.1
 ·obtain rfl:=Oj L.mD hd he c
  rw[if_pos rfl]
  show upd H d.2.1 _ d.2.1=some (.lst ((d.2.2 ++ [h]).map V.int))
  rw[bF,List.map_append];rfl
 ·rw[if_neg c]
  rw[aS fun z=>c (by rw[Ol L.mC hd he z])]
  exact L.at_ d hd
theorem cM.snoc {H H':Hp} {es:List Lt} {x h:Int} {n:Addr} (L:cM H es) (hn:H n=none) (hx:x∉es.map (·.1)) (kp:∀ e∈es,H' e.2.1=H e.2.1) (h':H' n=some (.lst [V.int h])):cM H' (es ++ [(x,n,[h])]):=by
 refine⟨fun e he => ?_,?_,?_⟩
 ·rcases List.mem_append.mp he with q | q
  ·rw[kp e q];exact L.at_ e q
  ·rw[List.mem_singleton.mp q];exact h'
 ·rw[List.map_append]
  refine List.nodup_append.mpr ⟨L.mC,by simp,fun a ha b hb z => ?_⟩
  subst z
  obtain⟨e,he,rfl⟩:=List.mem_map.mp ha
  have:e.2.1=n:=by simpa using hb
  rw[<-this,L.at_ e he] at hn
  cases hn
 ·rw[List.map_append]
  refine List.nodup_append.mpr ⟨L.mD,by simp,fun a ha b hb z => ?_⟩
  subst z
  have:a=x:=by simpa using hb
  exact hx (by rw[<-this];exact ha)
variable [aQ]
noncomputable def wy:GD:=fun ys ao K=>∃ (m:Int) (ws:List (Int × Int × Int)) (ns:List Int),fP m ws/\Nums ws ns/\ns.Nodup/\ns.length <= 900/\ys=[.p (aG m ws),.p (bq ns)]/\ao=[]/\K (.p (kn ((cN (dZ m ws ns) m.toNat).map (·.2)))) []
end LJ
namespace L2
open PySem
variable [aQ]
noncomputable def iN (δ : av):av:=⟨δ.sl,δ.mu.map fun _=>none⟩
section
variable {F F' H H':Hp} {ad aC:List Addr} {δ δ':av} {σ σ':St}
theorem Fb {a:Addr}:¬ Lv ad (iN δ).mu a:=fun ⟨k,ov,_,e⟩=>by
 unfold iN at e
 rw[show (av.mk δ.sl (δ.mu.map fun _=>(none:Option OV))).mu = δ.mu.map fun _=>none from rfl,List.getElem?_map] at e
 obtain⟨_,_,z⟩:=Option.map_eq_some_iff.mp e
 cases z
theorem SR.hide (S:SR F ad δ σ H):SR F ad (iN δ) σ H:=by
 have no:∀ (k:Nat) (ov:OV),(iN δ).mu[k]? = some (some ov)->False:=fun k ov e=>by
  unfold iN at e
  rw[show (av.mk δ.sl (δ.mu.map fun _=>(none:Option OV))).mu = δ.mu.map fun _=>none from rfl,List.getElem?_map] at e
  obtain⟨_,_,z⟩:=Option.map_eq_some_iff.mp e
  cases z
 exact⟨S.sub,fun a l=>absurd l Fb,by rw[S.cD];unfold iN;rw[List.length_map],fun k l a ov ow _ _ e _=>(no _ _ e).elim,fun k ov e=>(no _ _ e).elim,S.sl,S.len,S.tab,S.nt⟩
noncomputable def wz (H:Hp) (v:V) (H':Hp):Prop:=∃ a b r,v = .ref a/\H a=none/\H' a=some (.lst (.ref b :: r))/\H b=none
noncomputable def qL (G:GD) (n:Nat):Sp:=fun vs H Q _=>vs.length=n/\∃ F ad ys ao K,SR F ad ⟨ys.map some,ao.map some⟩ (vs.map some) H/\G ys ao K/\∀ r ows,K r ows->∀ v F' H',tQ F ad H r ows v F' H'->wz H v H'->Q v H'
theorem Om {G:GD} {n:Nat} {vs:List V} {H:Hp} {Q:VK} {E:XK} (h:aR G n vs H (fun v H'=>wz H v H'->Q v H') E):qL G n vs H Q E:=by
 obtain⟨hl,F,ad,ys,ao,K,S,g,k⟩:=h
 exact⟨hl,F,ad,ys,ao,K,S,g,fun r ows hk v F' H' P=>k r ows hk v F' H' P⟩
noncomputable def wA (i n:Nat) (G:GD) (fa:WA) (t:WT):WS:=fun K δ => i < δ.sl.length/\fa (iN δ) fun xs δ1=>match passes δ1.mu xs 0 with
 | some r=>(j3 r.2=true/\r.1.length=n)/\G r.1 (r.2.map (·.2)) fun res ows=>∃ ds rr,res = .p (.lst (.lst ds :: rr))/\ds.length <= 900/\rr.length <= 900/\t ⟨δ1.sl.set i (some (.p (.lst (.lst ds :: rr)))),e_ δ1.mu r.2 ows⟩ fun b _=>b=false/\K.nx ⟨δ.sl.set i none,δ.mu⟩
 | none=>False
noncomputable def AW (Kf:PySem.W.Frag) (i:Nat):TS:=gP (rW (lF Kf "list" sF (kH (sA Kf) (eE i) (tC (.int 0))) (eM (tC (.int 0)) eT))) (rW (lF Kf "list" sF (eE i) (eM (lB eT) eT)))
theorem Oo {x:V} {r:List V}:eO (x :: r) 0=some x:=by
 unfold eO iy
 rw[List.length_cons,if_pos (by omega),if_pos (by omega)]
 rfl
theorem Oq {Kf:PySem.W.Frag} {i:Nat} {a b:Addr} {r us:List V} {du:List (Option OV)} {F3:Hp} {lV:List Addr} {K:KS} {D:Ends} (S:SR F ad δ σ H) (hi:i < δ.sl.length) (C:Cn F ad δ.mu H K.nx D.nx) (E:Ext F ad (iN δ).mu H F3 lV du H') (tk:aQ.ok H')
  (ha:H a=none) (hb:H b=none) (h1:H' a=some (.lst (.ref b :: r))) (h2:H' b=some (.lst us)) (l1:r.length <= 900) (l2:us.length <= 900) (hk:K.nx ⟨δ.sl.set i none,δ.mu⟩):AW Kf i D (σ.set i (some (.ref a))) H':=by
 have gi:(σ.set i (some (V.ref a)))[i]? = some (some (.ref a)):=List.getElem?_set_self (by rw[S.len];exact hi)
 refine⟨_,gi,a,_,0,V.ref b,rfl,rfl,aP.of h1,Oo,Or.inl ⟨rfl,us,aP.of h2⟩,b,us,_,rfl,rfl,h2,ji (by omega),?_⟩
 obtain⟨nG,h4,l4⟩:∃ nG,upd H' b (.lst (us ++ [V.int 0])) a=some (.lst nG)/\nG.length <= 950:=by
  by_cases c:a=b
  ·subst c;exact⟨_,bF,by rw[List.length_append,List.length_singleton];omega⟩
  ·exact⟨_,by rw[aS c];exact h1,by rw[List.length_cons];omega⟩
 have Ot:=aQ.put (o' := .lst (us ++ [V.int 0])) tk h2 (.inl ⟨_,rfl⟩)
 refine⟨_,gi,Or.inl ⟨rfl,nG,aP.of h4⟩,Nat.zero_le _,fun p hp => ?_⟩
 have pa:a≠p:=cv h4 hp
 have h5:upd (upd H' b (.lst (us ++ [V.int 0]))) p (.lst []) a=some (.lst nG):=by rw[aS pa];exact h4
 refine⟨a,nG,_,rfl,rfl,h5,ji (by omega),?_⟩
 have nH:=aQ.put (o' := .lst (nG ++ [V.ref p])) (aQ.same Ot (bW (o := .lst []) hp)) h5 (.inl ⟨_,rfl⟩)
 have pH:H p=none:=by
  cases q:H p with
  | none=>rfl
  | some u =>
   obtain⟨u',z⟩:=E.gx p u q
   by_cases c:p=b
   ·subst c;rw[hb] at q;cases q
   ·rw[aS c,z] at hp;cases hp
 have old:∀ x o,H x=some o->x∉aQ.ad->upd (upd (upd H' b (.lst (us ++ [V.int 0]))) p (.lst [])) a (.lst (nG ++ [V.ref p])) x=some o:=fun x o e n=>by
  rw[aS (cv e ha),aS (cv e pH),aS (cv e hb)]
  exact E.keep x o e Fb n
 refine C _ hk F ad _ _ ⟨fun _ _ e=>e,fun _ _ e => .inl e,fun x o e _ n=>old x o e n,fun _ _ e=>e,fun _ e => .inl e,fun x o e => ?_⟩ ⟨fun x o e=>old x o (S.sub x o e) (fun z=>by rw[S.nt x z] at e;cases e),S.off,S.cD,S.inj,fun k ov e => ?_,fun j x e => ?_,?_,nH,S.nt⟩
 ·obtain⟨u,z⟩:=E.gx x o e
  rw[aS (cv e ha),aS (cv e pH),aS (cv e hb)]
  exact⟨u,z⟩
 ·obtain⟨x,o,e1,e2,e3⟩:=S.mu k ov e
  refine⟨x,o,e1,old x o e2 fun z => ?_,e3⟩
  obtain⟨ps,q⟩:=aQ.tb S.tab z
  rw[e2] at q
  rcases e3.kind with⟨_,y⟩ | ⟨_,y⟩<;>rw[y] at q<;>cases q
 ·have e:(δ.sl.set i none)[j]? = some (some x):=e
  by_cases c:i=j
  ·subst c;rw[List.getElem?_set_self hi] at e;cases e
  ·rw[List.getElem?_set_ne c] at e ⊢
   exact S.sl j x e
 ·show (σ.set i _).length=(δ.sl.set i none).length
  rw[List.length_set,List.length_set];exact S.len
theorem Ou {Kf:PySem.W.Frag} {i n:Nat} {G:GD} {fa:WA} {t:WT} {B:TS} {E:XK}:∀ D σ H,d_ (wA i n G fa t) D σ H->gP (eS (om (qL G n) [] E (bZ fa)) (jh i)) (gP (lu (cI t) B u5) (AW Kf i)) D σ H:=fun D σ H ⟨F,ad,δ,K,S,⟨hi,q⟩,C⟩=>by
 refine⟨F,ad,iN δ,_,S.hide,q,fun xs δ1 h1 vs F1 aL H1 E1 S1 V1 => ?_⟩
 split at h1
 ·rename_i r hp
  obtain⟨⟨nd,hn⟩,h1⟩:=h1
  rw[List.append_nil]
  refine Om (vI S1 V1 (by rw[V1.length,<-tR hp,hn]) hp nd h1 fun res ows v F2 H2 hk E2 S2 cK fr => ?_)
  obtain⟨ds,rr,rfl,l1,l2,ht⟩:=hk
  have cK:Is F2 (.lst (.lst ds :: rr)) v:=cK
  have hv:=cK
  simp only[Is,af] at cK
  obtain⟨a,ws,rfl,Fc,x,tl,rfl,⟨b,us,rfl,Ov,iu⟩,it⟩:=cK
  obtain⟨a',b',r',e1,e2,e3,e4⟩:=fr
  cases e1
  rw[S2.sub _ _ Fc] at e3
  cases e3
  have Ox:=S2.set (i:=i) (x := .p (.lst (.lst ds :: rr))) (v := .ref a) hv
  refine⟨F2,aL,_,_,Ox,ht,fun c δ3 ⟨hc,hk⟩ F3 lV H3 E3 S3 => ?_⟩
  subst hc
  rw[if_neg (by decide)]
  have non:∀ {x:Addr},H1 x=none->H x=none:=fun {x} e=>by
   cases q:H x with
   | none=>rfl
   | some u=>obtain⟨u',z⟩:=E1.gx x u q;rw[e] at z;cases z
  refine Oq (us:=us) S hi C.nx ((E1.trans E2).trans E3) S3.tab (non e2) (non e4) (S3.sub _ _ (E3.same _ _ Fc)) (S3.sub _ _ (E3.same _ _ Ov)) ?_ ?_ hk
  ·rw[it.length];exact l2
  ·rw[iu.length];exact l1
 ·exact h1.elim
end
section
variable {X:Cx} {Fd jI ip mQ:Stmt} {i n:Nat} {G:GD} {fa:WA} {t:WT} {B:TS} {E:XK}
theorem Oy (h0:JS X Fd (eS (om (qL G n) [] E (bZ fa)) (jh i))) (h1:JS X jI (lu (cI t) B u5)) (h2:fB X [ip,mQ] (AW X.K i)):fB X [Fd,jI,ip,mQ] (d_ (wA i n G fa t)):=(kL h0 (kL h1 h2)).weak Ou
end
end L2
namespace LJ
open PySem L2
variable [aQ]
noncomputable def Oz:V->List V->Hp->VK->Prop:=fun x vs H Q=>∃ (d:Addr) (kvs:List (Key × V)) (k:Key) (dv:V),x = .ref d/\vs=[kV k,dv]/\H d=some (.dK kvs)/\kvs.length < sizeLine/\(∀ v,bH kvs k=some v->Q v H)/\(bH kvs k=none->Q dv (upd H d (.dK (putK kvs k dv))))
noncomputable def OA:V->List V->Hp->VK->Prop:=fun x vs H Q=>∃ (d:Addr) (kvs:List (Key × V)),x = .ref d/\vs=[]/\H d=some (.dK kvs)/\∀ r,H r=none->Q (.ref r) (upd H r (gU r d))
noncomputable def OB:List V->Hp->VK->Prop:=fun xs H Q=>∃ (r d:Addr) (kvs:List (Key × V)),xs=[.ref r]/\H r=some (gU r d)/\H d=some (.dK kvs)/\∀ l,H l=none->Q (.ref l) (upd H l (.lst (kvs.map (·.2))))
noncomputable def OC:TS:=d_ (m8 (au 2 mB (ak (aa 0) (ak (aa 1) ah))))
noncomputable def OD (Kf:PySem.W.Frag):TS:=gP (eS zb (jh 2)) (gP (n_ (yX Kf (eM (om (aR qI 2) [] E0 (eM (eE 0) (eM (eE 1) eT))) eT)) (n8 Kf 2 (u6 (jh 3) (u6 (jh 4) n6)))
 (rW (lF Kf "list" sF (lF Kf "dict" Oz (eE 2) (eM (eE 4) (eM (lB eT) eT))) (eM (eE 3) eT))))
 (nZ (qa OB (eM (ot Kf "dict" OA (eE 2)) eT))))
theorem Fe {fs:List Int}:∀ {i:Nat},0 < i->cN fs i≠[]
 | i + 1,_,z=>by
  unfold cN k_ at z
  split at z
  ·rename_i c
   rw[List.map_eq_nil_iff] at z
   rw[z] at c
   exact nomatch c
  ·simp at z
theorem OE {Kf:PySem.W.Frag} {H F0:Hp} {ad:List Addr} {vs:List V} {m:Int} {ws:List (Int × Int × Int)} {ns:List Int} {K':RV->List OV->Prop} {Q:VK} {Dd:Ends} (hl:vs.length=2) (W:fP m ws) (hn:Nums ws ns) (hd:ns.Nodup) (AX:ns.length <= 900)
  (hK:K' (.p (kn ((cN (dZ m ws ns) m.toNat).map (·.2)))) []) (S0:SR F0 ad ⟨[DV.p (aG m ws),DV.p (bq ns)].map some,([]:List OV).map some⟩ (vs.map some) H) (kk:∀ r ows,K' r ows->∀ v F' H',tQ F0 ad H r ows v F' H'->wz H v H'->Q v H') (hD:∀ v H',Q v H'->Dd.rt v H') :
  gP OC (OD Kf) Dd (start ["web", "ways", "lots", "house", "first"] vs) H:=by
 have ea:ad=[]:=by have:=S0.cD;simpa using this
 subst ea
 have S1:=S0.start (N:=["web", "ways", "lots", "house", "first"])
 rw[hl] at S1
 refine⟨F0,[],_,{ nx:=fun δ' => δ'=⟨[some (.p (aG m ws)),some (.p (bq ns)),none,none,none],[]⟩,rt:=fun _ _=>False },S1,?_,⟨?_,fun _ h=>h.elim,fun _ h=>h.elim,fun _ _ h=>h.elim⟩⟩
 ·simp? only []
  exact⟨m,ws,ns,W,hn,hd,AX,rfl,rfl,rfl⟩
 rintro δ' rfl F1 aL σ1 H1 E1 S1
 have ea:aL=[]:=by have:=S1.cD;simpa using this
 subst ea
 obtain⟨v0,e0,i0⟩:=S1.sl 0 _ rfl
 obtain⟨v1,e1,i1⟩:=S1.sl 1 _ rfl
 have hlen:=S1.len
 obtain⟨w2,w3,w4,rfl⟩:∃ w2 w3 w4,σ1=[some v0,some v1,w2,w3,w4]:=by
  match σ1,hlen,e0,e1 with
  | [a,b,c,d,e],_,e0,e1 =>
   cases (show some a=some (some v0) from e0)
   cases (show some b=some (some v1) from e1)
   exact⟨c,d,e,rfl⟩
 intro dl lY
 have uJ:H dl=none:=by
  cases q:H dl with
  | none=>rfl
  | some u=>obtain⟨u',h'⟩:=E1.gx dl u q;rw[lY] at h';cases h'
 have fl:F1 dl=none:=by
  cases q:F1 dl with
  | none=>rfl
  | some u=>rw[S1.sub dl u q] at lY;cases lY
 have nl:¬ Lv [] ([]:List (Option OV)) dl:=fun ⟨k,ov,z,_⟩=>by simp at z
 have S2:=S1.other (o := .dK []) fl nl (aQ.same S1.tab (bW lY))
 have E2:=E1.other (o := .dK []) uJ
 refine⟨_,rfl,_,rfl,?_⟩
 refine vI (E:=E0) (xs:=[.p (aG m ws),.p (bq ns)]) (K:=fun r ows=>r = .p (bq (dZ m ws ns))/\ows=[]) S2 ⟨v0,_,rfl,i0,v1,_,rfl,i1,rfl⟩ rfl rfl rfl ⟨m,ws,ns,W,hn,.inl ⟨rfl,rfl,rfl,rfl⟩⟩ fun res ows v F3 H3 ⟨er,eo⟩ X3 S3 cK => ?_
 subst er eo
 have uK:(dZ m ws ns).length=m.toNat:=AL
 have iB:=W.iB
 generalize dZ m ws ns=fs at hK cK uK
 have cK:Is F3 (.lst (fs.map D.int)) v:=cK
 simp only[Is] at cK
 obtain⟨g,us,rfl,hg,iu⟩:=cK
 have OF:=o7 iu
 subst OF
 have AY:Ext F1 [] [] (upd H1 dl (.dK [])) F3 [] [] H3:=X3
 have E3:Ext F0 [] [] H F3 [] [] H3:=E2.trans AY
 have wB:∀ a,¬ Lv [] ([]:List (Option OV)) a:=fun a ⟨k,ov,z,_⟩=>by simp at z
 have OG:dl∉aQ.ad:=fun z=>by obtain⟨ps,q⟩:=aQ.tb S1.tab z;rw[lY] at q;cases q
 have wC:H3 dl=some (.dK []):=AY.keep dl _ bF (wB _) OG
 have wD:H3 g=some (.lst (fs.map V.int)):=S3.sub _ _ hg
 have OH:F3 dl=none:=by
  cases q:F3 dl with
  | none=>rfl
  | some u =>
   rcases AY.new dl u q with z | z | z
   ·rw[fl] at z;cases z
   ·rw[bF] at z;cases z
   ·exact absurd z (wB _)
 have gd:g≠dl:=fun z=>by rw[z,wC] at wD;cases wD
 refine⟨g,rfl,⟨_,aP.of wD⟩,?_⟩
 refine C4 (K:=Kf) (a:=g) (xs:=fs.map V.int) (fun i σ H4=>∃ (es:List Lt) (w3 w4:Option V),σ = [some v0,some v1,some (.ref dl),w3,w4]/\(∀ a o,H3 a=some o->a≠dl->H4 a=some o)/\aQ.ok H4/\H4 dl=some (.dK (dB es))/\cM H4 es/\(∀ e∈es,H3 e.2.1=none)/\strip es=cN fs i/\es.length <= i/\∀ e∈es,e.2.2.length <= i) ?_ (fun i σ H4 _ ⟨_,_,_,_,kp,_⟩=>aP.of (kp g _ wD gd)) ?_ ?_
 ·exact⟨[],w3,w4,rfl,fun a o e _=>e,S3.tab,wC,⟨(fun e he=>nomatch he),List.nodup_nil,List.nodup_nil⟩,(fun e he=>nomatch he),rfl,Nat.le_refl _,fun e he=>nomatch he⟩
 ·rintro i x T' σ H4 hx ⟨es,w3,w4,rfl,kp,tk,nJ,L4,fr,st,le,ll⟩ OI
  rw[List.getElem?_map] at hx
  obtain⟨y,ey,rfl⟩:=Option.map_eq_some_iff.mp hx
  have hi:=(List.getElem?_eq_some_iff.mp ey).1
  have eD:fs.getD i 0=y:=by rw[List.getD_eq_getElem?_getD,ey];rfl
  have s5:aw H4 (upd H4 T' (.tup [.int (i:Int),.int y])):=k9 OI
  refine⟨T',_,rfl,bw.of bF,rfl,_,_,rfl,_,_,rfl,rfl,?_⟩
  have OJ:=s5 _ _ nJ
  refine⟨_,rfl,.inr (.inr (.inl ⟨rfl,.inl ⟨_,OJ⟩⟩)),_,rfl,Nat.zero_le _,fun en Ff => ?_⟩
  have s6:=s5.trans (k9 (o := .lst []) Ff)
  have wF:=s6 _ _ nJ
  have uL:upd (upd H4 T' (.tup [.int (i:Int),.int y])) en (.lst []) en=some (.lst []):=bF
  have je:H4 en=none:=s5.free Ff
  have nH:=aQ.same tk s6
  generalize upd (upd H4 T' (.tup [.int (i:Int),.int y])) en (.lst [])=H6 at s6 wF uL nH
  have L6:cM H6 es:=⟨fun e he=>s6 _ _ (L4.at_ e he),L4.mC,L4.mD⟩
  have AZ:en≠dl:=fun z=>by rw[z,nJ] at je;cases je
  have uM:H3 en=none:=by
   cases q:H3 en with
   | none=>rfl
   | some u=>rw[kp en u q AZ] at je;cases je
  have fv:=E_ y es
  refine⟨dl,dB es,Sum.inl y,.ref en,rfl,rfl,wF,ji (by unfold dB;rw[List.length_map];omega),fun v hv => ?_,fun hv => ?_⟩
  ·rw[hv] at fv
   cases ff:es.find? fun e=>decide (e.1=y) with
   | none=>rw[ff] at fv;cases fv
   | some e =>
    rw[ff] at fv
    obtain rfl:v=V.ref e.2.1:=by simpa using fv
    have he:e∈es:=List.mem_of_find?_eq_some ff
    have ek:e.1=y:=by simpa using List.find?_some ff
    have g7:y∈es.map (·.1):=List.mem_map.mpr ⟨e,he,ek⟩
    have A0:=L6.at_ e he
    have A2:e.2.1≠dl:=fun z=>by have:=fr e he;rw[z,wC] at this;cases this
    refine⟨.inl ⟨rfl,_,aP.of A0⟩,_,rfl,e.2.1,_,_,rfl,rfl,A0,?_,?_⟩
    ·refine ji ?_
     rw[List.length_map]
     have:=ll e he
     omega
    ·refine⟨LJ.grow es y i,_,_,rfl,fun b' o eb nb => ?_,aQ.put nH A0 (.inl ⟨_,rfl⟩),?_,?_,?_,?_,?_,?_⟩
     ·rw[aS (cv eb (fr e he))];exact s6 _ _ (kp _ _ eb nb)
     ·rw[aS (Ne.symm A2),Of];exact wF
     ·rw[<-ek];exact L6.grow he
     ·intro e' nF
      unfold LJ.grow at nF
      obtain⟨d,hd,rfl⟩:=List.mem_map.mp nF
      have:=fr d hd
      split<;>exact this
     ·rw[Oi g7,st];show k_ (cN fs i) y i=k_ (cN fs i) (fs.getD i 0) i;rw[eD]
     ·unfold LJ.grow;rw[List.length_map];omega
     ·intro e' nF
      unfold LJ.grow at nF
      obtain⟨d,hd,rfl⟩:=List.mem_map.mp nF
      have:=ll d hd
      split
      ·show (d.2.2 ++ [(i:Int)]).length <= i + 1
       rw[List.length_append,List.length_singleton];omega
      ·omega
  ·rw[hv] at fv
   have g7:y∉es.map (·.1):=fun z=>by
    obtain⟨e,he,ek⟩:=List.mem_map.mp z
    cases ff:es.find? fun e=>decide (e.1=y) with
    | none=>exact absurd (List.find?_eq_none.mp ff e he) (by simpa using ek)
    | some e'=>rw[ff] at fv;cases fv
   have pO:upd H6 dl (.dK (putK (dB es) (Sum.inl y) (.ref en))) en=some (.lst []):=by rw[aS AZ];exact uL
   refine⟨.inl ⟨rfl,_,aP.of pO⟩,_,rfl,en,_,_,rfl,rfl,pO,ji (Nat.zero_le _),?_⟩
   refine⟨es ++ [(y,en,[(i:Int)])],_,_,rfl,fun b' o eb nb => ?_,aQ.put (aQ.put nH wF (.inr ⟨_,rfl⟩)) pO (.inl ⟨_,rfl⟩),?_,?_,?_,?_,?_,?_⟩
   ·rw[aS (cv eb uM),aS nb];exact s6 _ _ (kp _ _ eb nb)
   ·rw[aS (Ne.symm AZ),bF,Kw _ hv];unfold dB;rw[List.map_append];rfl
   ·refine L4.snoc je g7 (fun e he => ?_) (by rw[bF];rfl)
    have ne1:e.2.1≠en:=cv (L4.at_ e he) je
    have A2:e.2.1≠dl:=fun z=>by have:=fr e he;rw[z,wC] at this;cases this
    rw[aS ne1,aS A2,L4.at_ e he];exact s6 _ _ (L4.at_ e he)
   ·intro e he
    rcases List.mem_append.mp he with q | q
    ·exact fr e q
    ·rw[List.mem_singleton.mp q];exact uM
   ·unfold strip at st ⊢
    rw[List.map_append,st]
    show cN fs i ++ [(y,[(i:Int)])]=k_ (cN fs i) (fs.getD i 0) i
    unfold k_
    rw[eD,if_neg (by rw[<-st,List.map_map];exact g7)]
   ·rw[List.length_append,List.length_singleton];omega
   ·intro e he
    rcases List.mem_append.mp he with q | q
    ·have:=ll e q;omega
    ·rw[List.mem_singleton.mp q];show 1 <= i + 1;omega
 ·rintro σ H4 ⟨es,w3,w4,rfl,kp,tk,nJ,L4,fr,st,le,ll⟩
  rw[List.length_map,uK] at st
  refine⟨_,rfl,.inr (.inr (.inl ⟨rfl,.inl ⟨_,nJ⟩⟩)),dl,_,rfl,rfl,nJ,fun v hv => ?_⟩
  have s5:aw H4 (upd H4 v (gU v dl)):=k9 hv
  refine⟨v,dl,_,rfl,bF,s5 _ _ nJ,fun r Fg => ?_⟩
  have s6:=s5.trans (k9 (o := .lst ((dB es).map (·.2))) Fg)
  have wG:H4 r=none:=s5.free Fg
  have A3:upd (upd H4 v (gU v dl)) r (.lst ((dB es).map (·.2))) r=some (.lst ((dB es).map (·.2))):=bF
  have nH:=aQ.same tk s6
  generalize upd (upd H4 v (gU v dl)) r (.lst ((dB es).map (·.2)))=H5 at s6 A3 nH
  have OK:r≠dl:=fun z=>by rw[z,nJ] at wG;cases wG
  have Fh:H3 r=none:=by
   cases q:H3 r with
   | none=>rfl
   | some u=>rw[kp r u q OK] at wG;cases wG
  have non:∀ {x:Addr},H3 x=none->H x=none:=fun {x} e=>by
   cases q:H x with
   | none=>rfl
   | some u=>obtain⟨u',z⟩:=E3.gx x u q;rw[e] at z;cases z
  have OL:wz H (.ref r) H5:=by
   cases es with
   | nil=>exact absurd st.symm (Fe (by have:=W.m1;omega))
   | cons e es=>exact⟨r,e.2.1,_,rfl,non Fh,A3,non (fr e List.mem_cons_self)⟩
  refine hD _ _ (kk _ _ hK _ (Nw F3 H3 H5) _ ?_ OL)
  have sm:aw F3 (Nw F3 H3 H5):=Nw.same S3.sub
  refine⟨fun a o e => ?_,E3.same.trans sm,fun a o e => ?_,fun a o e _ t => ?_,nH,fun a ha => ?_,rfl,fun j ow e=>by simp at e,fun a ha=>by simp at ha,?_⟩
  ·unfold Nw at e
   cases q:H3 a with
   | none=>rw[q] at e;exact e
   | some u =>
    rw[q] at e
    have e:F3 a=some o:=e
    exact s6 _ _ (kp _ _ (S3.sub _ _ e) fun z=>by rw[z,OH] at e;cases e)
  ·unfold Nw at e
   cases q:H3 a with
   | none =>
    refine .inr ?_
    cases q0:H a with
    | none=>rfl
    | some u=>obtain⟨u',h'⟩:=E3.gx a u q0;rw[q] at h';cases h'
   | some u =>
    rw[q] at e
    have e:F3 a=some o:=e
    rcases E3.new a o e with z | z | z
    ·exact .inl z
    ·exact .inr z
    ·exact absurd z (wB _)
  ·exact s6 _ _ (kp _ _ (E3.keep a o e (wB _) t) fun z=>by rw[z,uJ] at e;cases e)
  ·obtain⟨ps,q⟩:=aQ.tb S3.tab ha
   unfold Nw;rw[q];exact S3.nt a ha
  ·show Is (Nw F3 H3 H5) (.lst (((cN fs m.toNat).map (·.2)).map bq)) _
   simp only[Is]
   refine⟨r,_,rfl,by unfold Nw;rw[Fh];exact A3,?_⟩
   rw[<-st]
   have key:∀ xs:List Lt,(∀ e∈xs,e∈es)->af (Nw F3 H3 H5) (((strip xs).map (·.2)).map bq) ((dB xs).map (·.2)):=by
    intro xs
    induction xs with
    | nil=>intro _;exact .nil
    | cons e xs ih =>
     intro h
     show af _ (bq e.2.2 :: _) (V.ref e.2.1 :: _)
     simp only[af]
     refine⟨_,_,rfl,?_,ih fun x hx=>h x (List.mem_cons_of_mem _ hx)⟩
     have he:=h e List.mem_cons_self
     show Is _ (.lst (e.2.2.map D.int)) _
     simp only[Is]
     refine⟨e.2.1,e.2.2.map V.int,rfl,by unfold Nw;rw[fr e he];exact s6 _ _ (L4.at_ e he),o8⟩
   exact key es fun _ h=>h
noncomputable def A4 (p q:Int) (fs:List Int):List Int:=fs.map fun x=>if x=p then q else x
theorem OM {p q x y:Int}:(if x=p then q else x)=(if y=p then q else y)↔x=y\/((x=p\/x=q)/\(y=p\/y=q)):=by
 by_cases h1:x=p<;>by_cases h2:y=p
 ·rw[if_pos h1,if_pos h2];constructor<;>intro h<;>omega
 ·rw[if_pos h1,if_neg h2];constructor<;>intro h<;>omega
 ·rw[if_neg h1,if_pos h2];constructor<;>intro h<;>omega
 ·rw[if_neg h1,if_neg h2];constructor<;>intro h<;>omega
theorem Fi {f:Int->Int} {fs:List Int} {i:Nat} (h:i < fs.length):(fs.map f).getD i 0=f (fs.getD i 0):=by
 rw[List.getD_eq_getElem?_getD,List.getElem?_map,List.getElem?_eq_getElem h,List.getD_eq_getElem?_getD,List.getElem?_eq_getElem h];rfl
end LJ
namespace LJ
open PySem L2
noncomputable abbrev Wy:=Int × Int × Int
noncomputable def wH (S:Wy->Prop) (a b:Int):Prop:=∃ w,S w/\((w.1=a/\w.2.1=b)\/(w.1=b/\w.2.1=a))
inductive aX (S:Wy->Prop) (a:Int):Int->Prop
 | rf:aX S a a
 | st {b c:Int}:aX S a b->wH S b c->aX S a c
section
variable {S S':Wy->Prop} {a b c:Int}
theorem wH.symm (h:wH S a b):wH S b a:=let ⟨w,h1,h2⟩:=h; ⟨w,h1,h2.symm⟩
theorem aX.trans (h:aX S a b) (h':aX S b c):aX S a c:=by
 induction h' with
 | rf=>exact h
 | st _ e ih=>exact .st ih e
theorem aX.symm (h:aX S a b):aX S b a:=by
 induction h with
 | rf=>exact .rf
 | st _ e ih=>exact (aX.st .rf e.symm).trans ih
theorem aX.bind (h:aX S a b) (k:∀ w,S w->aX S' w.1 w.2.1):aX S' a b:=by
 induction h with
 | rf=>exact .rf
 | st _ e ih =>
  obtain⟨w,h1,h2⟩:=e
  rcases h2 with⟨rfl,rfl⟩ | ⟨rfl,rfl⟩
  ·exact ih.trans (k w h1)
  ·exact ih.trans (k w h1).symm
theorem aX.one {w:Wy} (h:S w):aX S w.1 w.2.1 := .st .rf ⟨w,h,.inl ⟨rfl,rfl⟩⟩
theorem aX.mono (h:aX S a b) (k:∀ w,S w->S' w):aX S' a b:=h.bind fun w hw => .one (k w hw)
theorem aX.none (h:aX S a b) (k:∀ w,¬ S w):a=b:=by
 cases h with
 | rf=>rfl
 | st _ e=>obtain⟨w,h1,_⟩:=e;exact absurd h1 (k w)
theorem aX.add {w:Wy} (k:∀ v,S' v↔S v\/v=w):aX S' a b↔aX S a b\/(aX S a w.1/\aX S w.2.1 b)\/(aX S a w.2.1/\aX S w.1 b):=by
 constructor
 ·intro h
  induction h with
  | rf=>exact .inl .rf
  | st _ e ih =>
   rename_i b c _
   obtain⟨v,h1,h2⟩:=e
   rcases (k v).mp h1 with h1 | rfl
   ·have e':aX S b c := .st .rf ⟨v,h1,h2⟩
    rcases ih with i | ⟨i,j⟩ | ⟨i,j⟩
    ·exact .inl (i.trans e')
    ·exact .inr (.inl ⟨i,j.trans e'⟩)
    ·exact .inr (.inr ⟨i,j.trans e'⟩)
   ·rcases h2 with⟨rfl,rfl⟩ | ⟨rfl,rfl⟩
    ·rcases ih with i | ⟨i,j⟩ | ⟨i,j⟩
     ·exact .inr (.inl ⟨i,.rf⟩)
     ·exact .inr (.inl ⟨i,.rf⟩)
     ·exact .inl i
    ·rcases ih with i | ⟨i,j⟩ | ⟨i,j⟩
     ·exact .inr (.inr ⟨i,.rf⟩)
     ·exact .inl i
     ·exact .inr (.inr ⟨i,.rf⟩)
 ·have up:∀ {x y},aX S x y->aX S' x y:=fun h=>h.mono fun v hv=>(k v).mpr (.inl hv)
  have o:aX S' w.1 w.2.1 := .one ((k w).mpr (.inr rfl))
  rintro (h | ⟨h,h'⟩ | ⟨h,h'⟩)
  ·exact up h
  ·exact ((up h).trans o).trans (up h')
  ·exact ((up h).trans o.symm).trans (up h')
end
variable [aQ]
noncomputable def bh (n:Nat) (fs:List Int) (S:Wy->Prop):Prop:=fs.length=n/\∀ i j:Nat,i < n->j < n->(fs.getD i 0=fs.getD j 0↔aX S i j)
theorem Fj {n i:Nat} (h:i < n):(a0 n).getD i 0=i:=by
 unfold a0
 rw[List.getD_eq_getElem?_getD,List.getElem?_map,List.getElem?_range h];rfl
theorem bh.start (n:Nat):bh n (a0 n) (fun _=>False):=by
 refine⟨by unfold a0;simp,fun i j hi hj => ?_⟩
 rw[Fj hi,Fj hj]
 exact⟨fun e=>by rw[e];exact .rf,fun h=>h.none fun _ z=>z⟩
theorem bh.join {n i j:Nat} {fs:List Int} {S S':Wy->Prop} {w:Wy} {p q:Int} (h:bh n fs S) (hi:i < n) (hj:j < n) (e1:w.1=i) (e2:w.2.1=j) (k:∀ v,S' v↔S v\/v=w) (pq:(p=fs.getD i 0/\q=fs.getD j 0)\/(p=fs.getD j 0/\q=fs.getD i 0)):bh n (A4 p q fs) S':=by
 refine⟨by unfold A4;rw[List.length_map,h.1],fun x y hx hy => ?_⟩
 unfold A4
 rw[Fi (by rw[h.1];exact hx),Fi (by rw[h.1];exact hy),OM,aX.add k,e1,e2,<-h.2 x y hx hy,<-h.2 x i hx hi,<-h.2 x j hx hj,<-h.2 j y hj hy,<-h.2 i y hi hy]
 rcases pq with⟨rfl,rfl⟩ | ⟨rfl,rfl⟩
 ·constructor
  ·rintro (h | ⟨h1 | h1,h2 | h2⟩)
   ·exact .inl h
   ·exact .inl (h1.trans h2.symm)
   ·exact .inr (.inl ⟨h1,h2.symm⟩)
   ·exact .inr (.inr ⟨h1,h2.symm⟩)
   ·exact .inl (h1.trans h2.symm)
  ·rintro (h | ⟨h1,h2⟩ | ⟨h1,h2⟩)
   ·exact .inl h
   ·exact .inr ⟨.inl h1,.inr h2.symm⟩
   ·exact .inr ⟨.inr h1,.inl h2.symm⟩
 ·constructor
  ·rintro (h | ⟨h1 | h1,h2 | h2⟩)
   ·exact .inl h
   ·exact .inl (h1.trans h2.symm)
   ·exact .inr (.inr ⟨h1,h2.symm⟩)
   ·exact .inr (.inl ⟨h1,h2.symm⟩)
   ·exact .inl (h1.trans h2.symm)
  ·rintro (h | ⟨h1,h2⟩ | ⟨h1,h2⟩)
   ·exact .inl h
   ·exact .inr ⟨.inr h1,.inl h2.symm⟩
   ·exact .inr ⟨.inl h1,.inr h2.symm⟩
noncomputable def d8 (ws:List Wy) (n:Int):Wy:=ws.getD n.toNat (0,0,0)
end LJ
namespace LJ
open PySem L2
variable [aQ]
open Classical in
open Classical in
open Classical in
noncomputable def k3 (w:Wy):LK:=[w.1,w.2.1,w.2.2]
theorem uN (n:Nat):(a0 n).length=n:=by unfold a0;simp
structure Good (fs:List Int):Prop where
 le:∀ h:Nat,h < fs.length->0 <= fs.getD h 0/\fs.getD h 0 <= h
 own:∀ h:Nat,h < fs.length->fs.getD (fs.getD h 0).toNat 0=fs.getD h 0
theorem getD_at {fs:List Int} {h:Nat} (hl:h < fs.length):fs.getD h 0=fs[h]:=by rw[List.getD_eq_getElem?_getD,List.getElem?_eq_getElem hl];rfl
theorem ON {fs:List Int} {i j h:Nat} (hl:h < fs.length):(f7 fs i j).getD h 0=if fs.getD h 0=max (fs.getD i 0) (fs.getD j 0) then min (fs.getD i 0) (fs.getD j 0) else fs.getD h 0:=by
 rw[getD_at (by rw[uD];exact hl),getD_at hl]
 unfold f7
 rw[List.getElem_map]
theorem OO (n:Nat):Good (a0 n):=by
 have e:∀ h:Nat,h < (a0 n).length->(a0 n).getD h 0=h:=fun h hl=>by
  rw[uN] at hl
  rw[a0,List.getD_eq_getElem?_getD,List.getElem?_map,List.getElem?_range hl];rfl
 refine⟨fun h hl=>by rw[e h hl];omega,fun h hl => ?_⟩
 rw[e h hl,Int.toNat_natCast,e h hl]
theorem Good.join {fs:List Int} (G:Good fs) {i j:Nat} (hi:i < fs.length) (hj:j < fs.length):Good (f7 fs i j):=by
 have a1:=G.le i hi
 have a2:=G.le j hj
 have o1:=G.own i hi
 have o2:=G.own j hj
 generalize hg:max (fs.getD i 0) (fs.getD j 0)=g
 generalize hk:min (fs.getD i 0) (fs.getD j 0)=k
 have gk:0 <= k/\k <= g/\k.toNat < fs.length/\fs.getD k.toNat 0=k:=by
  rw[<-hg,<-hk]
  rcases Int.le_total (fs.getD i 0) (fs.getD j 0) with c | c
  ·rw[Int.min_eq_left c,Int.max_eq_right c];exact⟨a1.1,c,by omega,o1⟩
  ·rw[Int.min_eq_right c,Int.max_eq_left c];exact⟨a2.1,c,by omega,o2⟩
 have at_:∀ h,h < fs.length->(f7 fs i j).getD h 0=if fs.getD h 0=g then k else fs.getD h 0:=fun h hl=>by rw[ON hl,hg,hk]
 refine⟨fun h hl => ?_,fun h hl => ?_⟩
 ·rw[uD] at hl
  have:=G.le h hl
  rw[at_ h hl]
  split<;>omega
 ·rw[uD] at hl
  have b:=G.le h hl
  have c:=G.own h hl
  rw[at_ h hl]
  by_cases d:fs.getD h 0=g
  ·rw[if_pos d,at_ _ gk.2.2.1,gk.2.2.2]
   split<;>rfl
  ·rw[if_neg d,at_ _ (by omega),c,if_neg d]
theorem Fl {m:Int} {ws:List Wy} (W:fP m ws) {n:Int} (h0:0 <= n) (h1:n < (ws.length:Int)):∃ i k:Nat,cZ ws n=(i,k)/\(d8 ws n).1=i/\(d8 ws n).2.1=k/\i < m.toNat/\k < m.toNat:=by
 obtain⟨y,ey,hy,_,i,k,e1,e2,h1,h2,_⟩:=pM W h0 h1
 refine⟨i,k,?_,by unfold d8;rw[ey];exact e1,by unfold d8;rw[ey];exact e2,h1,h2⟩
 unfold cZ
 rw[ey,e1,e2,Int.toNat_natCast,Int.toNat_natCast]
theorem Fm {m:Int} {ws:List Wy} (W:fP m ws):∀ (ns fs:List Int),Nums ws ns->fs.length=m.toNat->Good fs->Good (fJ ws fs ns)
 | [],_,_,_,G=>G
 | n :: ns,fs,hn,hl,G=>by
  have b:=hn n (List.mem_cons_self ..)
  obtain⟨i,k,e,_,_,h1,h2⟩:=Fl W b.1 b.2
  refine Fm W ns _ (fun x hx=>hn x (List.mem_cons_of_mem _ hx)) (by rw[uD];exact hl) ?_
  show Good (f7 fs (cZ ws n).1 (cZ ws n).2)
  rw[e]
  exact G.join (by omega) (by omega)
theorem Fo {m:Int} {ws:List Wy} (W:fP m ws):∀ (ns fs:List Int) (S:Wy->Prop),Nums ws ns->bh m.toNat fs S->bh m.toNat (fJ ws fs ns) (fun v=>S v\/∃ k∈ns,v=d8 ws k)
 | [],fs,S,_,h=>by
  have:(fun v=>S v\/∃ k∈([]:List Int),v=d8 ws k)=S:=funext fun v=>propext (by simp)
  rw[this];exact h
 | n :: ns,fs,S,hn,h=>by
  have b:=hn n (List.mem_cons_self ..)
  obtain⟨i,k,e,e1,e2,h1,h2⟩:=Fl W b.1 b.2
  have step:bh m.toNat (f7 fs i k) (fun v=>S v\/v=d8 ws n):=by
   refine bh.join (w:=d8 ws n) (p:=max (fs.getD i 0) (fs.getD k 0)) (q:=min (fs.getD i 0) (fs.getD k 0)) h h1 h2 e1 e2 (fun v=>Iff.rfl) ?_
   omega
  have:=Fo W ns _ _ (fun x hx=>hn x (List.mem_cons_of_mem _ hx)) step
  have eq:(fun v=>(S v\/v=d8 ws n)\/∃ k∈ns,v=d8 ws k)=(fun v=>S v\/∃ k∈n :: ns,v=d8 ws k):=funext fun v=>propext (by
   constructor
   ·rintro ((h | h) | ⟨k,hk,h⟩)
    ·exact .inl h
    ·exact .inr ⟨n,List.mem_cons_self,h⟩
    ·exact .inr ⟨k,List.mem_cons_of_mem _ hk,h⟩
   ·rintro (h | ⟨k,hk,h⟩)
    ·exact .inl (.inl h)
    ·rcases List.mem_cons.mp hk with rfl | hk
     ·exact .inl (.inr h)
     ·exact .inr ⟨k,hk,h⟩)
  rw[eq] at this
  show bh _ (fJ ws (f7 fs (cZ ws n).1 (cZ ws n).2) ns) _
  rw[e]
  exact this
noncomputable def wI (ws:List Wy) (ns:List Int):Wy->Prop:=fun v=>∃ k∈ns,v=d8 ws k
theorem OQ {m:Int} {ws:List Wy} (W:fP m ws) {ns:List Int} (hn:Nums ws ns):bh m.toNat (dZ m ws ns) (wI ws ns):=by
 have:=Fo W ns _ _ hn (bh.start m.toNat)
 have eq:(fun v=>False\/∃ k∈ns,v=d8 ws k)=wI ws ns:=funext fun v=>propext (by unfold wI;simp)
 rw[eq] at this
 exact this
theorem Fp {m:Int} {ws:List Wy} (W:fP m ws) {ns:List Int} (hn:Nums ws ns):Good (dZ m ws ns):=Fm W ns _ hn (uN _) (OO _)
noncomputable def bu (fs:List Int) (i:Nat) (x:Int):List Int:=((List.range i).filter fun h=>decide (fs.getD h 0=x)).map fun h:Nat=>(h:Int)
noncomputable def roots (fs:List Int) (i:Nat):List Nat:=(List.range i).filter fun h=>decide (fs.getD h 0=(h:Int))
theorem A5 {fs:List Int} (G:Good fs):∀ i,i <= fs.length->cN fs i=(roots fs i).map fun r:Nat=>((r:Int),bu fs i (r:Int))
 | 0,_=>rfl
 | i + 1,hi=>by
  have ih:=A5 G i (by omega)
  have le:=G.le i (by omega)
  have own:=G.own i (by omega)
  show k_ (cN fs i) (fs.getD i 0) i=_
  rw[ih]
  have keys:((roots fs i).map fun r:Nat=>((r:Int),bu fs i (r:Int))).map (·.1)=(roots fs i).map fun r:Nat=>(r:Int):=by rw[List.map_map];rfl
  have kq:∀ x,bu fs (i + 1) x=if fs.getD i 0=x then bu fs i x ++ [(i:Int)] else bu fs i x:=fun x=>by
   unfold bu
   rw[List.range_succ,List.filter_append]
   by_cases c:fs.getD i 0=x
   ·rw[if_pos c,List.map_append,List.filter_cons_of_pos (by simpa using c)];rfl
   ·rw[if_neg c,List.filter_cons_of_neg (by simpa using c),List.filter_nil,List.append_nil]
  have kr:∀ r,r∈roots fs i↔r < i/\fs.getD r 0=(r:Int):=fun r=>by
   unfold roots
   rw[List.mem_filter,List.mem_range,decide_eq_true_eq]
  unfold k_
  rw[keys]
  by_cases c:fs.getD i 0=(i:Int)
  ·have no:fs.getD i 0∉(roots fs i).map fun r:Nat=>(r:Int):=fun z=>by
    obtain⟨r,hr,e⟩:=List.mem_map.mp z
    have:=((kr r).mp hr).1
    omega
   rw[if_neg no]
   have er:roots fs (i + 1)=roots fs i ++ [i]:=by
    unfold roots
    rw[List.range_succ,List.filter_append,List.filter_cons_of_pos (by simpa using c)];rfl
   rw[er,List.map_append]
   congr 1
   ·refine List.map_congr_left fun r hr => ?_
    have:=((kr r).mp hr).1
    rw[kq,if_neg (by omega)]
   ·show [(fs.getD i 0,[(i:Int)])]=[((i:Int),bu fs (i + 1) i)]
    rw[kq,if_pos c,c]
    have:bu fs i (i:Int)=[]:=by
     unfold bu
     rw[List.filter_eq_nil_iff.mpr fun h hh => ?_]
     ·rfl
     ·have h1:=List.mem_range.mp hh
      have:=G.le h (by omega)
      rw[decide_eq_true_eq]
      omega
    rw[this];rfl
  ·obtain⟨x,ex⟩:∃ x:Nat,fs.getD i 0=x:=⟨(fs.getD i 0).toNat,by omega⟩
   rw[ex] at own le c ⊢
   rw[Int.toNat_natCast] at own
   have hx:x∈roots fs i:=(kr x).mpr ⟨by omega,own⟩
   rw[if_pos (List.mem_map.mpr ⟨x,hx,rfl⟩)]
   have er:roots fs (i + 1)=roots fs i:=by
    unfold roots
    rw[List.range_succ,List.filter_append,List.filter_cons_of_neg (by rw[ex];simpa using c),List.filter_nil,List.append_nil]
   rw[er,List.map_map]
   refine List.map_congr_left fun r hr => ?_
   show (if (r:Int)=(x:Int) then ((r:Int),bu fs i r ++ [(i:Int)]) else ((r:Int),bu fs i r))=((r:Int),bu fs (i + 1) r)
   rw[kq,ex]
   by_cases d:(r:Int)=(x:Int)
   ·rw[if_pos d,if_pos d.symm]
   ·rw[if_neg d,if_neg (Ne.symm d)]
theorem wJ:∀ {a b:List Int},a.Pairwise (· < ·)->b.Pairwise (· < ·)->(∀ x,x∈a↔x∈b)->a=b
 | [],[],_,_,_=>rfl
 | [],y :: _,_,_,h=>absurd ((h y).mpr (List.mem_cons_self ..)) (by simp)
 | x :: _,[],_,_,h=>absurd ((h x).mp (List.mem_cons_self ..)) (by simp)
 | x :: a,y :: b,ha,hb,h=>by
  obtain⟨h1,h2⟩:=List.pairwise_cons.mp ha
  obtain⟨h3,h4⟩:=List.pairwise_cons.mp hb
  have OR:x=y:=by
   rcases List.mem_cons.mp ((h x).mp (List.mem_cons_self ..)) with e | e
   ·exact e
   ·rcases List.mem_cons.mp ((h y).mpr (List.mem_cons_self ..)) with e' | e'
    ·exact e'.symm
    ·have:=h3 x e
     have:=h1 y e'
     omega
  subst OR
  rw[wJ h2 h4 fun z => ?_]
  constructor
  ·intro hz
   rcases List.mem_cons.mp ((h z).mp (List.mem_cons_of_mem _ hz)) with e | e
   ·have:=h1 z hz;omega
   ·exact e
  ·intro hz
   rcases List.mem_cons.mp ((h z).mpr (List.mem_cons_of_mem _ hz)) with e | e
   ·have:=h3 z hz;omega
   ·exact e
theorem OS {fs:List Int} (G:Good fs) {S:List Int} (up:S.Pairwise (· < ·)) (mem:∀ x,x∈S↔x∈fs):S=(roots fs fs.length).map fun r:Nat=>(r:Int):=by
 refine wJ up ?_ fun x => ?_
 ·refine List.pairwise_map.mpr ?_
  unfold roots
  exact ((List.pairwise_lt_range (n:=fs.length)).filter _).imp fun h=>by omega
 ·rw[mem]
  constructor
  ·intro h
   obtain⟨i,hi,e⟩:=List.mem_iff_getElem.mp h
   have e':fs.getD i 0=x:=by rw[getD_at hi,e]
   have le:=G.le i hi
   have own:=G.own i hi
   rw[e'] at le own
   refine List.mem_map.mpr ⟨x.toNat,?_,by omega⟩
   unfold roots
   rw[List.mem_filter,List.mem_range,decide_eq_true_eq,own]
   omega
  ·intro h
   obtain⟨r,hr,rfl⟩:=List.mem_map.mp h
   unfold roots at hr
   rw[List.mem_filter,List.mem_range,decide_eq_true_eq] at hr
   rw[<-hr.2,getD_at hr.1]
   exact List.getElem_mem hr.1
theorem OT {fs:List Int} (G:Good fs) {S:List Int} (up:S.Pairwise (· < ·)) (mem:∀ x,x∈S↔x∈fs):(cN fs fs.length).map (·.2)=S.map fun x=>bu fs fs.length x:=by
 rw[A5 G fs.length (Nat.le_refl _),OS G up mem,List.map_map,List.map_map]
 rfl
open Classical in
noncomputable def cls (n:Nat) (S:Wy->Prop) (h:Int):List Int:=(a0 n).filter fun x=>decide (aX S h x)
theorem Fq {n:Nat} {x:Int}:x∈a0 n↔0 <= x/\x < n:=by
 unfold a0
 constructor
 ·intro h
  obtain⟨k,hk,rfl⟩:=List.mem_map.mp h
  have:=List.mem_range.mp hk
  omega
 ·intro h
  exact List.mem_map.mpr ⟨x.toNat,List.mem_range.mpr (by omega),by omega⟩
theorem Fs (n:Nat):(a0 n).Pairwise (· < ·):=by
 unfold a0
 exact List.pairwise_map.mpr ((List.pairwise_lt_range (n:=n)).imp fun h=>by omega)
open Classical in
theorem cg {n:Nat} {S:Wy->Prop} {h x:Int}:x∈cls n S h↔(0 <= x/\x < n)/\aX S h x:=by
 unfold cls
 rw[List.mem_filter,Fq,decide_eq_true_eq]
open Classical in
theorem wK (n:Nat) (S:Wy->Prop) (h:Int):(cls n S h).Pairwise (· < ·):=(Fs n).filter _
structure uO (n:Nat) (S:Wy->Prop) (L:List (List Int)):Prop where
 nd:L.Nodup
 mem:∀ l,l∈L↔∃ h:Int,(0 <= h/\h < n)/\l=cls n S h
theorem Ft {n:Nat} {S:Wy->Prop} {a b:Int} (h:aX S a b):cls n S a=cls n S b :=
 wJ (wK _ _ _) (wK _ _ _) fun x=>by
  rw[cg,cg]
  exact⟨fun ⟨h1,h2⟩=>⟨h1,h.symm.trans h2⟩,fun ⟨h1,h2⟩=>⟨h1,h.trans h2⟩⟩
theorem Fu {n:Nat} {S:Wy->Prop} {a:Int} (h:0 <= a/\a < n):a∈cls n S a:=cg.mpr ⟨h,.rf⟩
theorem OU {x y:Int} {xs ys:List Int} (h:x < y):kle (x :: xs) (y :: ys):=by
 unfold kle
 rw[HT.Cq,if_neg (by omega)]
 exact decide_eq_false (by omega)
theorem Fv {n:Nat} {fs:List Int} {S:Wy->Prop} (M:bh n fs S) {r:Nat} (hr:r < n) (e:fs.getD r 0=r):bu fs n r=cls n S r:=by
 refine wJ ?_ (wK _ _ _) fun x => ?_
 ·unfold bu
  exact List.pairwise_map.mpr (((List.pairwise_lt_range (n:=n)).filter _).imp fun h=>by omega)
 ·rw[cg]
  unfold bu
  constructor
  ·intro h
   obtain⟨k,hk,rfl⟩:=List.mem_map.mp h
   rw[List.mem_filter,List.mem_range,decide_eq_true_eq] at hk
   exact⟨by omega,(M.2 r k hr hk.1).mp (by rw[e,hk.2])⟩
  ·rintro ⟨⟨h0,h1⟩,hc⟩
   obtain⟨k,rfl⟩:∃ k:Nat,x=k:=⟨x.toNat,by omega⟩
   refine List.mem_map.mpr ⟨k,?_,rfl⟩
   rw[List.mem_filter,List.mem_range,decide_eq_true_eq]
   have:=(M.2 r k hr (by omega)).mpr hc
   exact⟨by omega,by rw[<-this,e]⟩
noncomputable def pP (fs:List Int) (n:Nat):List (List Int):=(roots fs n).map fun r:Nat=>bu fs n (r:Int)
theorem OW {fs:List Int} (G:Good fs):(cN fs fs.length).map (·.2)=pP fs fs.length:=by
 rw[A5 G fs.length (Nat.le_refl _),List.map_map];rfl
theorem wL {n:Nat} {fs:List Int} (G:Good fs) (hl:fs.length=n) {r:Nat} (hr:r < n) (e:fs.getD r 0=r):∃ t,bu fs n r=(r:Int) :: t:=by
 have mem:(r:Int)∈bu fs n r:=by
  unfold bu
  refine List.mem_map.mpr ⟨r,?_,rfl⟩
  rw[List.mem_filter,List.mem_range,decide_eq_true_eq]
  exact⟨hr,e⟩
 have up:(bu fs n r).Pairwise (· < ·):=by
  unfold bu
  exact List.pairwise_map.mpr (((List.pairwise_lt_range (n:=n)).filter _).imp fun h=>by omega)
 cases q:bu fs n r with
 | nil=>rw[q] at mem;simp at mem
 | cons x t =>
  refine⟨t,?_⟩
  have hx:x∈bu fs n r:=by rw[q];exact List.mem_cons_self
  unfold bu at hx
  obtain⟨k,hk,rfl⟩:=List.mem_map.mp hx
  rw[List.mem_filter,List.mem_range,decide_eq_true_eq] at hk
  have l:=G.le k (by omega)
  rw[hk.2] at l
  rw[q] at mem up
  rcases List.mem_cons.mp mem with z | z
  ·rw[z]
  ·have:=(List.pairwise_cons.mp up).1 _ z
   omega
theorem OX {fs:List Int} (G:Good fs):(pP fs fs.length).Pairwise kle:=by
 unfold pP
 refine List.pairwise_map.mpr ?_
 have:(roots fs fs.length).Pairwise fun a b=>a < b/\(a < fs.length/\fs.getD a 0=a)/\b < fs.length/\fs.getD b 0=b:=by
  have h1:(roots fs fs.length).Pairwise (· < ·):=(List.pairwise_lt_range (n:=fs.length)).filter _
  have hm:∀ a∈roots fs fs.length,a < fs.length/\fs.getD a 0=a:=fun a ha=>by
   unfold roots at ha
   rw[List.mem_filter,List.mem_range,decide_eq_true_eq] at ha
   exact ha
  exact h1.imp_of_mem fun ha hb h=>⟨h,hm _ ha,hm _ hb⟩
 refine this.imp fun {a b} h => ?_
 obtain⟨t,e⟩:=wL G rfl h.2.1.1 h.2.1.2
 obtain⟨u,e'⟩:=wL G rfl h.2.2.1 h.2.2.2
 rw[e,e']
 exact OU (by omega)
theorem OY {n:Nat} {fs:List Int} {S:Wy->Prop} (G:Good fs) (M:bh n fs S):uO n S (pP fs n):=by
 have hl:=M.1
 have hm:∀ a∈roots fs n,a < n/\fs.getD a 0=a:=fun a ha=>by
  unfold roots at ha
  rw[List.mem_filter,List.mem_range,decide_eq_true_eq] at ha
  exact ha
 refine⟨?_,fun l => ?_⟩
 ·unfold pP
  refine List.pairwise_map.mpr ?_
  have h1:(roots fs n).Pairwise (· < ·):=(List.pairwise_lt_range (n:=n)).filter _
  refine h1.imp_of_mem fun {a b} ha hb h z => ?_
  obtain⟨t,e⟩:=wL G hl (hm a ha).1 (hm a ha).2
  obtain⟨u,e'⟩:=wL G hl (hm b hb).1 (hm b hb).2
  rw[e,e'] at z
  have:=(List.cons.inj z).1
  omega
 ·unfold pP
  constructor
  ·intro h
   obtain⟨r,hr,rfl⟩:=List.mem_map.mp h
   obtain⟨h1,h2⟩:=hm r hr
   exact⟨r,by omega,Fv M h1 h2⟩
  ·rintro ⟨h,hh,rfl⟩
   obtain⟨k,rfl⟩:∃ k:Nat,h=k:=⟨h.toNat,by omega⟩
   have le:=G.le k (by omega)
   have own:=G.own k (by omega)
   obtain⟨r,er⟩:∃ r:Nat,fs.getD k 0=r:=⟨(fs.getD k 0).toNat,by omega⟩
   rw[er] at le own
   rw[Int.toNat_natCast] at own
   refine List.mem_map.mpr ⟨r,?_,?_⟩
   ·unfold roots
    rw[List.mem_filter,List.mem_range,decide_eq_true_eq]
    exact⟨by omega,own⟩
   ·rw[Fv M (by omega) own]
    exact Ft ((M.2 r k (by omega) (by omega)).mp (by rw[own,er]))
noncomputable def g9 (m:Int) (ws:List Wy) (ns:List Int):List (List Int):=(cN (dZ m ws ns) m.toNat).map (·.2)
theorem OZ {m:Int} {ws:List Wy} (W:fP m ws) {ns:List Int} (hn:Nums ws ns):uO m.toNat (wI ws ns) (g9 m ws ns)/\(g9 m ws ns).Pairwise kle:=by
 have M:=OQ W hn
 have G:=Fp W hn
 have e:g9 m ws ns=pP (dZ m ws ns) m.toNat:=by
  unfold g9
  have:=OW G
  rw[M.1] at this
  exact this
 rw[e]
 refine⟨OY G M,?_⟩
 have:=OX G
 rw[M.1] at this
 exact this
theorem O0 {n:Nat} {S:Wy->Prop} {L:List (List Int)} (h:uO n S L) {l l':List Int} {x:Int} (hl:l∈L) (ib:l'∈L) (hx:x∈l) (g7:x∈l'):l=l':=by
 obtain⟨a,_,rfl⟩:=(h.mem l).mp hl
 obtain⟨b,_,rfl⟩:=(h.mem l').mp ib
 exact Ft ((cg.mp hx).2.trans (cg.mp g7).2.symm)
theorem Fw {n:Nat} {S:Wy->Prop}:∀ {L L0:List (List Int)},uO n S L0->(∀ l∈L,l∈L0)->L.Nodup->L.flatten.Nodup
 | [],_,_,_,_=>List.nodup_nil
 | l :: L,L0,h,hs,nd=>by
  rw[List.flatten_cons,List.nodup_append]
  rw[List.nodup_cons] at nd
  refine⟨?_,Fw h (fun x hx=>hs x (List.mem_cons_of_mem _ hx)) nd.2,fun x hx y hy e => ?_⟩
  ·obtain⟨a,_,rfl⟩:=(h.mem l).mp (hs l List.mem_cons_self)
   exact (wK _ _ _).imp fun h=>by omega
  ·subst e
   obtain⟨l',h1,h2⟩:=List.mem_flatten.mp hy
   exact nd.1 (by rw[O0 h (hs l List.mem_cons_self) (hs l' (List.mem_cons_of_mem _ h1)) hx h2];exact h1)
theorem O1 {l:List Int} (h:l.Pairwise (· < ·)):l.Nodup:=h.imp fun h=>by omega
theorem O3 {xs ys:List Int} (nd:xs.Nodup) (up:ys.Pairwise (· < ·)) (h:∀ x,x∈xs↔x∈ys):sortI xs=ys :=
 (vW ((List.perm_ext_iff_of_nodup (O1 up) nd).mpr fun x=>(h x).symm) (up.imp fun h=>by omega)).symm
theorem O4 {n:Nat} {S:Wy->Prop} {L:List (List Int)} (h:uO n S L):sortI L.flatten=a0 n:=by
 refine O3 (Fw h (fun _ hx=>hx) h.nd) (Fs n) fun x => ?_
 rw[List.mem_flatten,Fq]
 constructor
 ·rintro ⟨l,hl,hx⟩
  obtain⟨a,_,rfl⟩:=(h.mem l).mp hl
  exact (cg.mp hx).1
 ·intro hx
  exact⟨_,(h.mem _).mpr ⟨x,hx,rfl⟩,Fu hx⟩
theorem wM:∀ us:List Int,bf (us.map D.int)=0
 | []=>by simp[bf]
 | u :: r=>by rw[List.map_cons];simp only[bf,dep];rw[wM r];rfl
noncomputable def uP:GD:=fun ys ao K=>∃ (m:Int) (ws:List (Int × Int × Int)) (ns:List Int),fP m ws/\Nums ws ns/\ns.Nodup/\ns.length <= 900/\ys=[.p (aG m ws),.p (bq ns)]/\ao=[]/\K (.p (.int (ns.map fun n=>(ws.getD n.toNat (0,0,0)).2.2).sum)) []
noncomputable def A6:WS:=(ar (m8 (au 2 mB (ak (aa 0) (ak (aa 1) ah)))) (aM (dN (ak (fG (bK (aa 1)) [none,some 0] (bA 0) cJ (d2 (d2 (d2 (aa 1) (dC (.int 1)) bg) (aa 0) bg) (dC (.int 2)) bg)) ah) i9)))
theorem O5:∀ ys ao K',ys.length=2->uP ys ao K'->A6 (c8 ao.length K') ⟨ys.map some ++ List.replicate 0 none,ao.map some⟩:=by
 rintro ys ao K' - ⟨m,ws,ns,W,hn,nd,hl,rfl,rfl,k⟩
 unfold A6
 refine a6 fun N hN => ?_
 simp? only []
 refine⟨m,ws,ns,W,hn,nd,hl,rfl,rfl,?_⟩
 show N _
 subst hN
 unfold bq
 simp? only []
 refine jx (fun d=>match d with
  | .int n => .int (ws.getD n.toNat (0,0,0)).2.2
  | _ => .non) (by rw[List.length_map];omega) trivial ?_ ?_
 ·intro d hd acc L ha h
  obtain⟨n,ij,rfl⟩:=List.mem_map.mp hd
  obtain⟨n0,n1⟩:=hn n ij
  obtain⟨y,ey,hy,ea,_⟩:=pM W n0 n1
  simp? only [jy,at2,aG,ea,cA]
  simp only[ey] at h
  exact⟨ha,h⟩
 ·have e:intsOf ((ns.map D.int).map fun d=>match d with
   | .int n=>D.int (ws.getD n.toNat (0,0,0)).2.2
   | _ => .non)=some (ns.map fun n=>(ws.getD n.toNat (0,0,0)).2.2):=by
   rw[List.map_map]
   have:=vO (ns.map fun n=>(ws.getD n.toNat (0,0,0)).2.2)
   rw[List.map_map] at this
   exact this
  simp? only [i9,e]
  refine⟨⟨fun x hx => ?_,by omega⟩,g0 k⟩
  obtain⟨n,ij,rfl⟩:=List.mem_map.mp hx
  obtain⟨n0,n1⟩:=hn n ij
  obtain⟨y,ey,hy,_⟩:=pM W n0 n1
  rw[ey]
  exact⟨(W.ends y hy).2.2.2.1,(W.ends y hy).2.2.2.2⟩
theorem Fx:∀ {ls:List (List Int)} {l:List Int},l∈ls->l.length <= ls.flatten.length
 | x :: r,l,h=>by
  rw[List.flatten_cons,List.length_append]
  rcases List.mem_cons.mp h with rfl | h
  ·omega
  ·have:=Fx h;omega
theorem O6 {m:Int} {ws:List Wy} (W:fP m ws) {ns:List Int} (hn:Nums ws ns):(g9 m ws ns).length <= 12/\(g9 m ws ns).flatten.length <= 12:=by
 have iB:=W.iB
 obtain⟨h,_⟩:=OZ W hn
 have e:=O4 h
 have fl:(g9 m ws ns).flatten.length=m.toNat:=by
  have:=Ea (g9 m ws ns).flatten
  rw[e,uN] at this
  exact this.symm
 refine⟨?_,by omega⟩
 have key:∀ L:List (List Int),(∀ l∈L,l≠[])->L.length <= L.flatten.length:=by
  intro L
  induction L with
  | nil=>intro _;simp
  | cons l r ih =>
   intro h
   have h1:=ih fun x hx=>h x (List.mem_cons_of_mem _ hx)
   have h2:l≠[]:=h l List.mem_cons_self
   have h3:0 < l.length:=List.length_pos_iff.mpr h2
   rw[List.flatten_cons,List.length_append,List.length_cons];omega
 have:=key (g9 m ws ns) fun l hl=>by
  obtain⟨a,ha,rfl⟩:=(h.mem l).mp hl
  exact List.ne_nil_of_mem (Fu ha)
 omega
theorem Fy (ns:List Int):∀ i,i <= ns.length->(LJS.jf ns i).Nodup/\∀ x,x∈LJS.jf ns i↔x∈ns.take i
 | 0,_=>⟨List.nodup_nil,fun x=>by simp[LJS.jf]⟩
 | i + 1,h=>by
  obtain⟨n,m⟩:=Fy ns i (by omega)
  have et:ns.take (i + 1)=ns.take i ++ [ns.getD i 0]:=by
   rw[List.take_succ,List.getD_eq_getElem?_getD,List.getElem?_eq_getElem (show i < ns.length by omega)];rfl
  rw[et]
  unfold LJS.jf LJS.once
  split
  ·rename_i c
   refine⟨n,fun x => ?_⟩
   rw[m x,List.mem_append,List.mem_singleton]
   refine⟨.inl,fun z=>z.elim id fun z => ?_⟩
   subst z;exact (m _).mp c
  ·rename_i c
   refine⟨List.nodup_append.mpr ⟨n,by simp,fun a ha b hb z => ?_⟩,fun x => ?_⟩
   ·subst z;rw[List.mem_singleton.mp hb] at ha;exact c ha
   ·rw[List.mem_append,List.mem_append,m x]
theorem O7 {m:Int} {ws:List Wy} (W:fP m ws) {ns:List Int} (hn:Nums ws ns):pN (dZ m ws ns)=g9 m ws ns:=by
 have G:=Fp W hn
 obtain⟨nd,mem⟩:=Fy (dZ m ws ns) _ (Nat.le_refl _)
 have hl:(dZ m ws ns).length=m.toNat:=AL
 rw[List.take_length] at mem
 have up:(sortI (j5 (dZ m ws ns))).Pairwise (· < ·):=by
  have my:(sortI (j5 (dZ m ws ns))).Nodup:=(sortI_perm _).nodup_iff.mpr nd
  exact ((D9 _).and my).imp fun ⟨a,b⟩=>by omega
 have:=OT G up fun x=>((sortI_perm _).mem_iff).trans (mem x)
 unfold g9 pN
 rw[<-hl,this]
 refine List.map_congr_left fun x _ => ?_
 unfold qJ bu a0
 rw[List.filter_map]
 rfl
noncomputable abbrev wj:=km 3
noncomputable def A7:WS:=(ar (dz (ju (ak (dC (.int 4)) ah)) (bA 2) (ar (aO 3 (au 3 uq (ak (au 1 um (ak (aa 1) ah)) (ak (dC (.int 12)) (ak (dC (.int 30)) ah))))) (ar (aO 4 (t6 (ak (dN (ak (d2 (aa 3) (dC (.int 1)) bg) ah) cz) ah))) (dz (bK (gy (ak (au 3 qK (ak (aa 1) (ak (aa 3) (ak (dC (.int 30)) ah)))) (ak (au 3 qK (ak (aa 1) (ak (aa 3) (ak (dC (.int 8)) ah)))) (ak (gy ah) (ak (aa 4) (ak (d1 (aa 4) wd) ah))))))) (bA 5) (ar (aO 6 (dN (ak (aa 5) ah) vX)) (ar (dz (ju (ak (dC (.int 2)) ah)) (bA 7) (wA 8 2 wy (ak (aa 3) (ak (aa 6) ah)) (lO (e7 (dT (au 2 wj (ak (aa 8) (ak (au 2 uH (ak (aa 3) (ak (aa 5) ah))) ah))))) (dT (d2 (aa 6) (aa 5) pd))))) (ar (bp (lO (e7 (dT (au 2 wj (ak (au 2 uP (ak (aa 3) (ak (aa 6) ah))) (ak (au 2 uG (ak (aa 3) (ak (aa 5) ah))) ah))))) (dT (d2 (au 2 mB (ak (aa 3) (ak (aa 6) ah))) (dC .non) we))) (aM (dC (.bl false))) eJ) (bp (dT (d2 (aa 6) (aa 5) pd)) (aM (dC (.bl false))) eJ)))))))) (aM (dC (.bl true))))
theorem O8 {m:Int} {ws:List Wy} (W:fP m ws) {ns:List Int}:∃ l r,g9 m ws ns=l :: r:=by
 have:=Fe (fs:=dZ m ws ns) (i:=m.toNat) (by have:=W.m1;omega)
 unfold g9
 cases q:cN (dZ m ws ns) m.toNat with
 | nil=>exact absurd q this
 | cons a b=>exact⟨_,_,rfl⟩
theorem O9 (L:List (List Int)):dep (kn L) <= 3:=by
 have e:∀ L:List (List Int),bf (L.map bq) <= 2:=fun L=>by
  induction L with
  | nil=>exact Nat.zero_le _
  | cons l r ih =>
   simp only[List.map_cons,bf]
   exact Nat.max_le.mpr ⟨by have:=wM l;simp only[bq,dep];omega,ih⟩
 have:=e L
 unfold kn
 simp only[dep]
 omega
theorem O_ (L:List (List Int)) (h:L.length <= 1000) (h2:∀ l∈L,l.length <= 1000):iV (kn L)=true:=by
 have e:∀ us:List Int,kK (us.map D.int)=true:=fun us=>by
  induction us with
  | nil=>rfl
  | cons n r ih=>simp only[List.map_cons,kK,iV,ih,Bool.and_self]
 have e2:∀ L:List (List Int),(∀ l∈L,l.length <= 1000)->kK (L.map bq)=true:=fun L h2=>by
  induction L with
  | nil=>rfl
  | cons l r ih =>
   simp only[List.map_cons,kK,ih fun x hx=>h2 x (List.mem_cons_of_mem _ hx),Bool.and_true,bq,iV,e,List.length_map,decide_eq_true (h2 l List.mem_cons_self)]
 simp only[kn,iV,e2 L h2,List.length_map,decide_eq_true h,Bool.and_self]
noncomputable abbrev KL:KS:=⟨fun _=>False,fun x _=>x = .p (.bl true),fun _=>False,fun _=>False⟩
theorem Pa (ns:List Int) (hn:ns.length <= 63):A7 KL ⟨none :: some (.o 0) :: List.replicate 7 none,[some (ig ns 0 0)]⟩:=by
 unfold A7
 refine a6 fun N hN => ?_
 simp? only []
 refine⟨by decide,?_⟩
 refine l8 (fun i δ => ∃ o,aZ (1000 * i) o /\ δ = ⟨none :: some (.o 0) :: List.replicate 7 none,[some o]⟩) ⟨ig ns 0 0,⟨ns,0,0,rfl,hn,by omega,by omega⟩,rfl⟩ ?_ ?_
 ·rintro j d δ L hj ⟨o,P,rfl⟩ hL
  obtain⟨FA,rfl⟩:=l3 hj
  have FA:j < 4:=FA
  refine⟨trivial,?_⟩
  simp only[bA,List.replicate_succ,List.replicate_zero,List.set_cons_zero,List.set_cons_succ]
  generalize (0 + (j:Int))=jt
  refine a6 fun N2 i_ => ?_
  simp? only []
  refine⟨1000 * j,o,rfl,rfl,P,fun o1 P1 => ?_⟩
  simp? only []
  refine⟨1000 * j,12,30,o1,rfl,rfl,P1,by omega,by omega,by omega,by omega,by omega,fun m ws o2 W _ _ P2 => ?_⟩
  have m1:=W.m1
  have iB:=W.iB
  have NY:=W.lg
  simp? only []
  subst i_
  refine a6 fun N2 i_ => ?_
  simp? only [jy,aG]
  refine⟨by omega,?_⟩
  subst i_
  refine qF fun g' b' K2 hg dc hK => ?_
  simp only[bK,gy]
  refine qG fun K3 j_ => ?_
  simp? only []
  refine⟨1000 * j + 300,m,30,ws,o2,W,rfl,rfl,P2,by omega,by omega,by omega,fun us o3 hu Pb VD _ P3 => ?_⟩
  simp? only []
  subst j_
  refine qG fun K3 j_ => ?_
  simp? only []
  refine⟨1000 * j + 300 + 31,m,8,ws,o3,W,rfl,rfl,P3,by omega,by omega,by omega,fun vs o4 hv Pc VE _ P4 => ?_⟩
  simp? only []
  subst j_
  simp? only []
  subst hg dc hK
  rw[show (bT 0 (ws.length:Int).toNat)=(a0 ws.length).map D.int from by rw[pf];rfl,<-List.map_reverse]
  have ev:Nums ws (a0 ws.length):=fun n h=>by
   unfold a0 at h
   obtain⟨k,hk,rfl⟩:=List.mem_map.mp h
   have:=List.mem_range.mp hk
   omega
  have en:(a0 ws.length).Nodup:=by
   unfold a0
   exact List.Pairwise.map _ (fun a b h z=>h (by omega)) List.nodup_range
  have all:∀ d∈[D.lst (List.map D.int us),D.lst (List.map D.int vs),D.lst [],D.lst (List.map D.int (a0 ws.length)),D.lst (List.map D.int (a0 ws.length).reverse)],∃ gG:List Int,d = .lst (gG.map D.int)/\Nums ws gG/\gG.Nodup/\gG.length <= 30:=by
   intro d hd
   simp only[List.mem_cons,List.not_mem_nil,or_false] at hd
   rcases hd with rfl | rfl | rfl | rfl | rfl
   ·exact⟨us,rfl,hu,Pb,by omega⟩
   ·exact⟨vs,rfl,hv,Pc,by omega⟩
   ·exact⟨([]:List Int),rfl,(fun n h=>nomatch h),List.nodup_nil,by decide⟩
   ·exact⟨_,rfl,ev,en,by rw[uN];omega⟩
   ·exact⟨_,rfl,fun n h=>ev n (List.mem_reverse.mp h),(List.reverse_perm _).nodup_iff.mpr en,by rw[List.length_reverse,uN];omega⟩
  generalize D.lst (List.map D.int (a0 ws.length))=ed at all
  generalize [D.lst (List.map D.int us),D.lst (List.map D.int vs),D.lst [],ed,D.lst (List.map D.int (a0 ws.length).reverse)]=items at all
  rw[show (D.tup [D.int m,D.tup (List.map cA ws)])=aG m ws from rfl]
  refine l8 (fun i δ => δ = ⟨[none,some (.o 0),some (.p (.int jt)),some (.p (aG m ws)),some (.p ed),none,none,none,none],[some o4]⟩) rfl ?_ ?_
  ·rintro i d δ L2 hi rfl nQ
   obtain⟨gG,rfl,hu',my,ib⟩:=all d (List.mem_of_getElem? hi)
   have nQ:=nQ _ rfl
   refine⟨trivial,?_⟩
   simp only[bA,List.set_cons_zero,List.set_cons_succ]
   refine a6 fun N2 i_ => ?_
   simp? only []
   subst i_
   refine a6 fun N2 i_ => ?_
   simp only[dz,ju,ak,dC,ah,iY,gE]
   refine⟨by decide,?_⟩
   obtain⟨l0,lr,el⟩:=O8 W (ns:=gG)
   obtain⟨ll,lf⟩:=O6 W hu'
   refine l8 (fun i δ => δ = ⟨[none,some (.o 0),some (.p (.int jt)),some (.p (aG m ws)),some (.p ed),some (.p (.lst (gG.map D.int))),some (.p (.lst (gG.map D.int))),none,none],[some o4]⟩) rfl ?_ ?_
   ·rintro a d δ L3 ha rfl A8
    have A8:=A8 _ rfl
    refine⟨trivial,?_⟩
    simp only[bA,List.set_cons_zero,List.set_cons_succ]
    simp? only [wA,iN]
    have lm:∀ l∈g9 m ws gG,l.length <= 12:=fun l h=>Nat.le_trans (Fx h) lf
    refine⟨m,ws,gG,W,hu',my,by omega,rfl,rfl,l0.map D.int,lr.map bq,?_,?_,?_,?_⟩
    ·show RV.p (kn (g9 m ws gG))=_
     rw[el];rfl
    ·have:=lm l0 (by rw[el];exact List.mem_cons_self)
     rw[List.length_map];omega
    ·rw[el,List.length_cons] at ll
     rw[List.length_map];omega
    ·refine⟨m,ws,gG,W,hu',.inl ⟨rfl,rfl,?_⟩⟩
     rw[O7 W hu']
     simp? only []
     refine⟨kn (g9 m ws gG),O9 _,by decide,O_ _ (by omega) (fun l h=>by have:=lm l h;omega),.inl ⟨?_,rfl,?_⟩⟩
     ·rw[el];rfl
     ·simp? only []
      refine⟨by have:=wM gG;omega,?_⟩
      rw[fR]
      exact⟨rfl,A8⟩
   ·rintro δ rfl
    refine⟨trivial,?_⟩
    subst i_
    dsimp only
    refine a6 fun N2 i_ => ?_
    refine Ni fun A1 B1 hA hB => ?_
    simp? only []
    refine⟨m,ws,gG,W,hu',my,by omega,rfl,rfl,?_⟩
    simp? only []
    refine⟨m,ws,gG,W,hu',by omega,rfl,rfl,?_⟩
    simp? only []
    refine⟨_,by simp only[dep];omega,by decide,rfl,.inl ⟨rfl,rfl,?_⟩⟩
    simp? only []
    refine⟨m,ws,gG,W,hu',my,by omega,rfl,rfl,?_⟩
    simp? only []
    subst hB
    show N2 _
    subst i_
    simp? only []
    refine⟨by have:=wM gG;omega,?_⟩
    rw[fR]
    simp? only []
    exact nQ
  ·rintro δ rfl
   refine⟨trivial,?_⟩
   simp? only []
   exact hL _ ⟨o4,P4.mono (by omega),rfl⟩
 ·rintro δ ⟨o,P,rfl⟩
  refine⟨trivial,?_⟩
  subst hN
  simp? only []
end LJ
namespace LJ
open PySem L2
noncomputable def top (i:Nat):Stmt:=PySem.Challenge.pw_lotjoin_k03_lots_told.main.body.getD i (.Pass ⟨0,0,0,0⟩)
section
variable [aQ] {P:Program} {w:World} {K:PySem.W.Frag} {mg:Str->Option Value} {base:Heap}
noncomputable abbrev qM:Stmt:=top 8
theorem eg:di ["thing"] ["thing"] (a7 qM):=⟨rfl,rfl,rfl,by decide +kernel,rfl,by decide +kernel,by decide +kernel⟩
theorem Pd {f:Addr} {fd:FuncData} (F:cH K "is_whole" "is_whole" qM f fd) (B:BT mg):aT P w K mg base bV 1 f fd ["thing"] (aR ur 1):=by
 refine F.fH (k:=0) eg fun bc A outer s H E hr => ?_
 have nd:=eg.nd
 have hu:=hr.units
 exact⟨Au,(bj (b4 (kM (gY zZ (by rfl) B.isinstance (by rfl) B.int zj (dv 0)) (lQ (Lz (gY t7 (by rfl) B.isinstance (by rfl) B.bool tE (dv 0))))))),Nz⟩
noncomputable abbrev qN:Stmt:=top 9
theorem dD:di ["thing", "least", "most"] ["thing", "least", "most"] (a7 qN):=⟨rfl,rfl,rfl,by decide +kernel,rfl,by decide +kernel,by decide +kernel⟩
theorem Pe {f Pf:Addr} {fd Pg:FuncData} (F:cH K "is_within" "is_within" qN f fd) (B:BT mg) (cj:Fn P w K mg base 1 "is_whole" ["thing"] (aR ur 1) Pf Pg):aT P w K mg base bV 2 f fd ["thing", "least", "most"] (aR jz 3):=by
 refine F.fH (k:=1) dD fun bc A outer s H E hr => ?_
 have nd:=dD.nd
 have hu:=hr.units
 exact⟨Av,(bj (b4 (kM (bS cj.ok (hr.mono (by decide)) (by rfl) cj.bz cj.kp cj.bd (aq (dv 0) aE)) (lQ (Mf D2 D2 (dv 1) (dv 0) (dv 2)))))),NA⟩
noncomputable abbrev qO:Stmt:=top 10
theorem cO:di ["thing", "size"] ["thing", "size"] (a7 qO):=⟨rfl,rfl,rfl,by decide +kernel,rfl,by decide +kernel,by decide +kernel⟩
theorem Ph {f:Addr} {fd:FuncData} (F:cH K "is_tuple_of" "is_tuple_of" qO f fd) (B:BT mg):aT P w K mg base bV 1 f fd ["thing", "size"] (aR pK 2):=by
 refine F.fH (k:=0) cO fun bc A outer s H E hr => ?_
 have nd:=cO.nd
 have hu:=hr.units
 exact⟨Aw,(bj (b4 (kM (gY v3 (by rfl) B.isinstance (by rfl) B.tuple tF (dv 0)) (lQ (lM (gX hu) (eZ ie (by rfl) B.len PySem.boot_len (aq (dv 0) aE)) (dv 1) (by rfl)))))),NB⟩
noncomputable abbrev qP:Stmt:=top 11
theorem eu:di ["many", "one", "other"] ["many", "one", "other"] (a7 qP):=⟨rfl,rfl,rfl,by decide +kernel,rfl,by decide +kernel,by decide +kernel⟩
theorem Pj {f pQ:Addr} {fd pR:FuncData} (F:cH K "are_ends" "are_ends" qP f fd) (B:BT mg) (aj:Fn P w K mg base 2 "is_within" ["thing", "least", "most"] (aR jz 3) pQ pR):aT P w K mg base bV 3 f fd ["many", "one", "other"] (aR uw 3):=by
 refine F.fH (k:=2) eu fun bc A outer s H E hr => ?_
 have nd:=eu.nd
 have hu:=hr.units
 exact⟨Ax,(bj (b4 (kM (bS aj.ok (hr.mono (by decide)) (by rfl) aj.bz aj.kp aj.bd (aq (dv 1) (a5 ay (g8 (bo qz (dv 0) ay) aE)))) (lQ (bS aj.ok (hr.mono (by decide)) (by rfl) aj.bz aj.kp aj.bd (aq (dv 2) (g8 (bo fI (dv 1) ay) (g8 (bo qz (dv 0) ay) aE)))))))),NC⟩
noncomputable abbrev qQ:Stmt:=top 12
theorem f9:di ["many", "thing"] ["many", "thing"] (a7 qQ):=⟨rfl,rfl,rfl,by decide +kernel,rfl,by decide +kernel,by decide +kernel⟩
theorem Pk {f A9 Pl pQ:Addr} {fd A_ Pn pR:FuncData} (F:cH K "is_way" "is_way" qQ f fd) (B:BT mg) {FC:Value} (FD:RelV (.int 1000000000) FC/\mg "MOST_PRICE" = some FC) (aD:Fn P w K mg base 1 "is_tuple_of" ["thing", "size"] (aR pK 2) A9 A_) (cm:Fn P w K mg base 3 "are_ends" ["many", "one", "other"] (aR uw 3) Pl Pn) (aj:Fn P w K mg base 2 "is_within" ["thing", "least", "most"] (aR jz 3) pQ pR):aT P w K mg base bV 4 f fd ["many", "thing"] (aR ux 2):=by
 refine F.fH (k:=3) f9 fun bc A outer s H E hr => ?_
 have nd:=f9.nd
 have hu:=hr.units
 exact⟨Ay,(a8 (eQ (lP (i7 (bS aD.ok (hr.mono (by decide)) (by rfl) aD.bz aD.kp aD.bd (aq (dv 1) (a5 ay aE))))) (bj (b4 jm)) e8) (bj (b4 (kM (bS cm.ok (hr.mono (by decide)) (by rfl) cm.bz cm.kp cm.bd (aq (dv 0) (bJ (bC bD (dv 1) ay (fun _ _=>rfl)) (bJ (bC bD (dv 1) ay (fun _ _=>rfl)) aE)))) (lQ (bS aj.ok (hr.mono (by decide)) (by rfl) aj.bz aj.kp aj.bd (bJ (bC bD (dv 1) ay (fun _ _=>rfl)) (a5 ay (aq (zu (i:=1000000000) (by rfl) FD.2 FD.1) aE))))))))),NF⟩
noncomputable abbrev qR:Stmt:=top 13
theorem eA:di ["many", "thing"] ["many", "thing"] (a7 qR):=⟨rfl,rfl,rfl,by decide +kernel,rfl,by decide +kernel,by decide +kernel⟩
theorem Po {f Pp:Addr} {fd Pq:FuncData} (F:cH K "are_ways" "are_ways" qR f fd) (B:BT mg) {FE:Value} (FF:RelV (.int 30) FE/\mg "MOST_WAYS" = some FE) (dE:Fn P w K mg base 4 "is_way" ["many", "thing"] (aR ux 2) Pp Pq):aT P w K mg base bV 5 f fd ["many", "thing"] (aR uy 2):=by
 refine F.fH (k:=4) eA fun bc A outer s H E hr => ?_
 have nd:=eA.nd
 have hu:=hr.units
 exact⟨AB,(a8 (eQ (JW.jt (qu (lP (i7 (gY v3 (by rfl) B.isinstance (by rfl) B.tuple tF (dv 1)))) (qt (d9 vT (eZ ie (by rfl) B.len PySem.boot_len (aq (dv 1) aE)) (zu (i:=30) (by rfl) FF.2 FF.1) (by rfl))))) (bj (b4 jm)) e8) (a8 (eQ (lP (i7 (eZ (Ml rfl) (by rfl) B.all Ll (g8 (jr [none,some 0] ["way", "many"] rfl (ic (dv 1)) (fun d=>(c7 (i:=0) (show (["way", "many"]:List Str).Nodup by decide +kernel) rfl (by trivial))) (fun d=>jq) (fun d=>(bS dE.ok (hr.mono (by decide)) (by rfl) dE.bz dE.kp dE.bd (aq (dv 1) (aq (dv 0) aE))))) aE)))) (bj (b4 jm)) e8) (bj (b4 (lM (gX hu) (Ny rfl hu (by rfl) B.len PySem.boot_len (by rfl) B.set Dl (g8 (jr [none] ["way"] rfl (ic (dv 1)) (fun d=>(c7 (i:=0) (show (["way"]:List Str).Nodup by decide +kernel) rfl (by trivial))) (fun d=>jq) (fun d=>(ET (dv 0) D7 (D8 ay)))) aE)) (eZ ie (by rfl) B.len PySem.boot_len (aq (dv 1) aE)) (by rfl)))))),NG⟩
noncomputable abbrev qS:Stmt:=top 14
theorem f_:di ["thing"] ["thing"] (a7 qS):=⟨rfl,rfl,rfl,by decide +kernel,rfl,by decide +kernel,by decide +kernel⟩
theorem Pr {f A9 pQ Pt:Addr} {fd A_ pR Pu:FuncData} (F:cH K "is_web" "is_web" qS f fd) (B:BT mg) {FG:Value} (FH:RelV (.int 12) FG/\mg "MOST_HOUSES" = some FG) (aD:Fn P w K mg base 1 "is_tuple_of" ["thing", "size"] (aR pK 2) A9 A_) (aj:Fn P w K mg base 2 "is_within" ["thing", "least", "most"] (aR jz 3) pQ pR) (cn:Fn P w K mg base 5 "are_ways" ["many", "thing"] (aR uy 2) Pt Pu):aT P w K mg base bV 6 f fd ["thing"] (aR uA 1):=by
 refine F.fH (k:=5) f_ fun bc A outer s H E hr => ?_
 have nd:=f_.nd
 have hu:=hr.units
 exact⟨AD,(a8 (eQ (lP (i7 (bS aD.ok (hr.mono (by decide)) (by rfl) aD.bz aD.kp aD.bd (aq (dv 0) (a5 ay aE))))) (bj (b4 jm)) e8) (bj (b4 (kM (bS aj.ok (hr.mono (by decide)) (by rfl) aj.bz aj.kp aj.bd (bJ (bC bD (dv 0) ay (fun _ _=>rfl)) (a5 ay (aq (zu (i:=12) (by rfl) FH.2 FH.1) aE)))) (lQ (bS cn.ok (hr.mono (by decide)) (by rfl) cn.bz cn.kp cn.bd (bJ (bC bD (dv 0) ay (fun _ _=>rfl)) (bJ (bC bD (dv 0) ay (fun _ _=>rfl)) aE)))))))),NI⟩
noncomputable abbrev qT:Stmt:=top 15
theorem eB:di ["web"] ["web"] (a7 qT):=⟨rfl,rfl,rfl,by decide +kernel,rfl,by decide +kernel,by decide +kernel⟩
theorem Pw {f Px:Addr} {fd Py:FuncData} (F:cH K "need_web" "need_web" qT f fd) (B:BT mg) (dF:Fn P w K mg base 6 "is_web" ["thing"] (aR uA 1) Px Py):aT P w K mg base bV 7 f fd ["web"] (aR uI 1):=by
 refine F.fH (k:=6) eB fun bc A outer s H E hr => ?_
 have nd:=eB.nd
 have hu:=hr.units
 exact⟨AR,(bj (eQ (lP (i7 (bS dF.ok (hr.mono (by decide)) (by rfl) dF.bz dF.kp dF.bd (aq (dv 0) aE)))) (bj z9) e8)),N6⟩
noncomputable abbrev qU:Stmt:=top 17
theorem dG:di ["web", "ways", "last", "seen", "place", "number"] ["web", "ways"] (a7 qU):=⟨rfl,rfl,rfl,by decide +kernel,rfl,by decide +kernel,by decide +kernel⟩
theorem Pz {f PB pQ:Addr} {fd PD pR:FuncData} (F:cH K "need_ways" "need_ways" qU f fd) (B:BT mg) (cq:Fn P w K mg base 7 "need_web" ["web"] (aR uI 1) PB PD) (aj:Fn P w K mg base 2 "is_within" ["thing", "least", "most"] (aR jz 3) pQ pR):aT P w K mg base bV 8 f fd ["web", "ways"] (aR mB 2):=by
 refine F.fH (k:=7) dG fun bc A outer s H E hr => ?_
 have nd:=dG.nd
 have hu:=hr.units
 exact⟨AV,(a8 (qv (bS cq.ok (hr.mono (by decide)) (by rfl) cq.bz cq.kp cq.bd (aq (dv 0) aE))) (a8 (eQ (lP (i7 (gY z3 (by rfl) B.isinstance (by rfl) B.list lL (dv 1)))) (bj z9) e8) (a8 (cX (i:=2) nd rfl (by trivial) (bo qz (eZ ie (by rfl) B.len PySem.boot_len (bJ (bC bD (dv 0) ay (fun _ _=>rfl)) aE)) ay)) (a8 (cX (i:=3) nd rfl (by trivial) N7) (bj (lU PassesOwn.never rfl (LY (by rfl) B.enumerate (aq (dv 1) aE)) (vz rfl (m9 (c7 (i:=4) nd rfl (by trivial)) (m9 (c7 (i:=5) nd rfl (by trivial)) vy))) (a8 (eQ (JW.jt (qu (lP (i7 (bS aj.ok (hr.mono (by decide)) (by rfl) aj.bz aj.kp aj.bd (aq (dv 5) (a5 ay (aq (dv 2) aE)))))) (qt (N_ hu (dv 5) (dv 3))))) (bj z9) e8) (bj (Oa hu (dv 3) (dv 5) jm))))))))),Od⟩
noncomputable abbrev qV:Stmt:=top 18
theorem gb:di ["firsts", "one", "other", "gone", "kept"] ["firsts", "one", "other"] (a7 qV):=⟨rfl,rfl,rfl,by decide +kernel,rfl,by decide +kernel,by decide +kernel⟩
theorem PH {f:Addr} {fd:FuncData} (F:cH K "joined" "joined" qV f fd) (B:BT mg):aT P w K mg base bV 1 f fd ["firsts", "one", "other"] (aR qH 3):=by
 refine F.fH (k:=0) gb fun bc A outer s H E hr => ?_
 have nd:=gb.nd
 have hu:=hr.units
 exact⟨AJ,(a8 (cX (i:=3) nd rfl (by trivial) (eZ (Mm rfl) (by rfl) B.max Mr (bJ (bC bD (dv 0) (dv 1) (fun _ _=>rfl)) (bJ (bC bD (dv 0) (dv 2) (fun _ _=>rfl)) aE)))) (a8 (cX (i:=4) nd rfl (by trivial) (eZ (zW rfl) (by rfl) B.min z6 (bJ (bC bD (dv 0) (dv 1) (fun _ _=>rfl)) (bJ (bC bD (dv 0) (dv 2) (fun _ _=>rfl)) aE)))) (bj (b4 (jr [none,some 4,some 3] ["first", "kept", "gone"] rfl (ic (dv 0)) (fun d=>(c7 (i:=0) (show (["first", "kept", "gone"]:List Str).Nodup by decide +kernel) rfl (by trivial))) (fun d=>jq) (fun d=>(DF (d9 (gX hu) (dv 0) (dv 2) (by rfl)) (dv 1) (dv 0)))))))),NO⟩
noncomputable abbrev qW:Stmt:=top 19
theorem dH:di ["web", "ways", "firsts", "number", "way"] ["web", "ways"] (a7 qW):=⟨rfl,rfl,rfl,by decide +kernel,rfl,by decide +kernel,by decide +kernel⟩
theorem PJ {f PK:Addr} {fd PL:FuncData} (F:cH K "firsts_of" "firsts_of" qW f fd) (B:BT mg) (dI:Fn P w K mg base 1 "joined" ["firsts", "one", "other"] (aR qH 3) PK PL):aT P w K mg base bV 2 f fd ["web", "ways"] (aR qI 2):=by
 refine F.fH (k:=1) dH fun bc A outer s H E hr => ?_
 have nd:=dH.nd
 have hu:=hr.units
 exact⟨wm,(a8 (cX (i:=2) nd rfl (by trivial) (zX rfl (by rfl) B.list lL (by rfl) B.range v8 (bJ (bC bD (dv 0) ay (fun _ _=>rfl)) aE))) (a8 (lU PassesOwn.never rfl (ic (dv 1)) (c7 (i:=3) nd rfl (by trivial)) (a8 (cX (i:=4) nd rfl (by trivial) (bC bD (bC bD (dv 0) ay (fun _ _=>rfl)) (dv 3) (fun _ _=>rfl))) (bj (cX (i:=2) nd rfl (by trivial) (bS dI.ok (hr.mono (by decide)) (by rfl) dI.bz dI.kp dI.bd (aq (dv 2) (bJ (bC bD (dv 4) ay (fun _ _=>rfl)) (bJ (bC bD (dv 4) ay (fun _ _=>rfl)) aE)))))))) (bj (b4 (dv 2))))),NP⟩
noncomputable abbrev qX:Stmt:=top 21
theorem dJ:di ["web", "ways"] ["web", "ways"] (a7 qX):=⟨rfl,rfl,rfl,by decide +kernel,rfl,by decide +kernel,by decide +kernel⟩
theorem PM {f Ba:Addr} {fd Bb:FuncData} (F:cH K "weight_of" "weight_of" qX f fd) (B:BT mg) (aN:Fn P w K mg base 8 "need_ways" ["web", "ways"] (aR mB 2) Ba Bb):aT P w K mg base bV 9 f fd ["web", "ways"] (aR uP 2):=by
 refine F.fH (k:=8) dJ fun bc A outer s H E hr => ?_
 have nd:=dJ.nd
 have hu:=hr.units
 exact⟨A6,(a8 (qv (bS aN.ok (hr.mono (by decide)) (by rfl) aN.bz aN.kp aN.bd (aq (dv 0) (aq (dv 1) aE)))) (bj (b4 (eZ (Ef rfl) (by rfl) B.sum Em (g8 (jr [none,some 0] ["number", "web"] rfl (ic (dv 1)) (fun d=>(c7 (i:=0) (show (["number", "web"]:List Str).Nodup by decide +kernel) rfl (by trivial))) (fun d=>jq) (fun d=>(bC bD (bC bD (bC bD (dv 1) ay (fun _ _=>rfl)) (dv 0) (fun _ _=>rfl)) ay (fun _ _=>rfl)))) aE))))),O5⟩
noncomputable abbrev qY:Stmt:=top 23
theorem cP:di ["cell", "at", "primes", "one", "two", "three"] ["cell", "at"] (a7 qY):=⟨rfl,rfl,rfl,by decide +kernel,rfl,by decide +kernel,by decide +kernel⟩
theorem PN {f:Addr} {fd:FuncData} (F:cH K "_law_spread" "_law_spread" qY f fd) (B:BT mg):aT P w K mg base bV 1 f fd ["cell", "at"] (aR ui 2):=by
 refine F.fH (k:=0) cP fun bc A outer s H E hr => ?_
 have nd:=cP.nd
 have hu:=hr.units
 exact⟨Aj,(a8 (eQ (d9 Mb (dv 0) (bo pb ay ay) (by rfl)) (bj (b4 (dv 0))) e8) (a8 (cX (i:=2) nd rfl (by trivial) (tK (a5 ay (a5 ay (a5 ay (a5 ay (a5 ay (a5 ay (a5 ay (a5 ay aE)))))))))) (a8 (cX (i:=2) nd rfl (by trivial) (bo fI (dv 2) (tK (a5 ay (a5 ay (a5 ay (a5 ay (a5 ay aE)))))))) (a8 (cX (i:=3) nd rfl (by trivial) (bo jw (bo pb (bo fI (bo fI (bo o_ (bo jw (dv 0) ay) (bo fI (bo o_ ay (dv 1)) ay)) (bo o_ (dv 1) ay)) ay) ay) (bC bD (dv 2) (bo jw (dv 1) ay) (fun _ _=>rfl)))) (a8 (cX (i:=4) nd rfl (by trivial) (bo jw (bo pb (bo fI (bo fI (bo o_ (dv 3) (bo fI (dv 1) ay)) (bo jw (dv 0) ay)) ay) ay) (bC bD (dv 2) (bo jw (bo fI (dv 1) ay) ay) (fun _ _=>rfl)))) (a8 (cX (i:=5) nd rfl (by trivial) (bo jw (bo pb (bo fI (bo fI (dv 4) (bo jw (dv 3) ay)) (dv 1)) ay) (bC bD (dv 2) (bo jw (bo fI (dv 1) ay) ay) (fun _ _=>rfl)))) (bj (b4 (bo fI (bo o_ (bo fI (bo o_ (dv 3) ay) (dv 4)) ay) (dv 5)))))))))),Nj⟩
noncomputable abbrev qZ:Stmt:=top 25
theorem dM:di ["pen"] ["pen"] (a7 qZ):=⟨rfl,rfl,rfl,by decide +kernel,rfl,by decide +kernel,by decide +kernel⟩
theorem PQ {f:Addr} {fd:FuncData} (F:cH K "_law_anew" "_law_anew" qZ f fd) (B:BT mg):aT P w K mg base bV 1 f fd ["pen"] (aR um 1):=by
 refine F.fH (k:=0) dM fun bc A outer s H E hr => ?_
 have nd:=dM.nd
 have hu:=hr.units
 exact⟨Ak,(a8 ((qm ay (sZ (dv 0) ay set_list)).weak v7) (bj (b4 (dv 0)))),Nk⟩
noncomputable abbrev q9:Stmt:=top 26
theorem dO:di ["pen", "many", "at", "cell", "found"] ["pen", "many"] (a7 q9):=⟨rfl,rfl,rfl,by decide +kernel,rfl,by decide +kernel,by decide +kernel⟩
theorem PR {f PU:Addr} {fd PV:FuncData} (F:cH K "_law_take" "_law_take" q9 f fd) (B:BT mg) (br:Fn P w K mg base 1 "_law_spread" ["cell", "at"] (aR ui 2) PU PV):aT P w K mg base bV 2 f fd ["pen", "many"] (aR f6 2):=by
 refine F.fH (k:=1) dO fun bc A outer s H E hr => ?_
 have nd:=dO.nd
 have hu:=hr.units
 exact⟨Al,(a8 (eQ (d9 (vS hu) (bC bD (dv 0) ay (fun _ _=>rfl)) (dv 1) (by rfl)) (a8 (cX (i:=2) nd rfl (by trivial) (bC bD (dv 0) ay (fun _ _=>rfl))) (a8 (cX (i:=3) nd rfl (by trivial) ay) (a8 (eQ (d9 (vS hu) (dv 2) (eZ ie (by rfl) B.len PySem.boot_len (bJ (bC bD (dv 0) ay (fun _ _=>rfl)) aE)) (by rfl)) (bj (cX (i:=3) nd rfl (by trivial) (bC bD (bC bD (dv 0) ay (fun _ _=>rfl)) (dv 2) (fun _ _=>rfl)))) (bj (eQ (d9 vT (eZ ie (by rfl) B.len PySem.boot_len (bJ (bC bD (dv 0) ay (fun _ _=>rfl)) aE)) ay (by rfl)) (bj (cX (i:=3) nd rfl (by trivial) (bo jw (bC bD (bC bD (dv 0) ay (fun _ _=>rfl)) (bo jw (bo fI (bo o_ (dv 2) ay) ay) (eZ ie (by rfl) B.len PySem.boot_len (bJ (bC bD (dv 0) ay (fun _ _=>rfl)) aE))) (fun _ _=>rfl)) (bo fI (bo pb ay ay) (dv 2))))) e8))) (a8 ((qm (bo fI (dv 2) ay) (sZ (dv 0) ay set_list)).weak v7) (bj ((qm (bS br.ok (hr.mono (by decide)) (by rfl) br.bz br.kp br.bd (aq (dv 3) (aq (dv 2) aE))) (sZ (dv 0) ay set_list)).weak v7)))))) e8) (a8 (cX (i:=4) nd rfl (by trivial) (bo jw (bC bD (dv 0) ay (fun _ _=>rfl)) (dv 1))) (a8 ((qm (bo Ma (bC bD (dv 0) ay (fun _ _=>rfl)) (dv 1)) (sZ (dv 0) ay set_list)).weak v7) (bj (b4 (dv 4)))))),Nl⟩
noncomputable abbrev q_:Stmt:=top 28
theorem bX:di ["pen", "kind", "many", "every", "other", "ring", "half"] ["pen", "kind", "many"] (a7 q_):=⟨rfl,rfl,rfl,by decide +kernel,rfl,by decide +kernel,by decide +kernel⟩
theorem PX {f uQ:Addr} {fd uR:FuncData} (F:cH K "_law_pairs_of" "_law_pairs_of" q_ f fd) (B:BT mg) (ae:Fn P w K mg base 2 "_law_take" ["pen", "many"] (aR f6 2) uQ uR):aT P w K mg base bV 3 f fd ["pen", "kind", "many"] (aR uo 3):=by
 refine F.fH (k:=2) bX fun bc A outer s H E hr => ?_
 have nd:=bX.nd
 have hu:=hr.units
 exact⟨An,(a8 (cX (i:=3) nd rfl (by trivial) (zx aE)) (a8 (lU PassesOwn.never rfl (ni (by rfl) B.range (aq (dv 2) aE)) (c7 (i:=4) nd rfl (by trivial)) (bj (qv ((lK PySem.F.plainAttrs_list PySem.F.slot_list_extend PySem.F.type_list_extend Jx (dv 3) (g8 (jr [none,some 4] ["one", "other"] rfl (ni (by rfl) B.range (aq (dv 4) aE)) (fun d=>(c7 (i:=0) (show (["one", "other"]:List Str).Nodup by decide +kernel) rfl (by trivial))) (fun d=>jq) (fun d=>(qq (aq (dv 0) (aq (dv 1) aE))))) aE)).weak Mq)))) (a8 (eQ (d9 (gX hu) (dv 1) ay (by rfl)) (bj (b4 (vE [none,some 0] ["other", "pen"] rfl (L9 (by rfl) B.range (a5 ay (aq (dv 2) aE))) (fun d=>(c7 (i:=0) (show (["other", "pen"]:List Str).Nodup by decide +kernel) rfl (by trivial))) (fun d=>jq) (fun d=>(qq (bI (bS ae.ok (hr.mono (by decide)) (by rfl) ae.bz ae.kp ae.bd (aq (dv 1) (aq (dv 0) aE))) (aq (dv 0) aE))))))) e8) (a8 (eQ (d9 (gX hu) (dv 1) ay (by rfl)) (a8 (LC [none] ["k"] (i:=5) nd rfl (by trivial) rfl (ni (by rfl) B.range (g8 (bo qz (dv 2) ay) aE)) (fun d=>(c7 (i:=0) (show (["k"]:List Str).Nodup by decide +kernel) rfl (by trivial))) (fun d=>jq) (fun d=>(qq (aq (dv 0) (g8 (bo fI (dv 0) ay) aE))))) (bj (b4 (Mt (dv 5) (jr [none,some 2] ["pair", "many"] rfl (ic (dv 3)) (fun d=>(c7 (i:=0) (show (["pair", "many"]:List Str).Nodup by decide +kernel) rfl (by trivial))) (fun d=>(tP (JW.jt (DE (d9 (gX hu) (dv 0) (qq (a5 ay (g8 (bo qz (dv 1) ay) aE))) (by rfl)) (DD (d9 vT (dv 1) ay (by rfl))))))) (fun d=>(dv 0))))))) e8) (a8 (eQ (d9 (gX hu) (dv 1) ay (by rfl)) (bj (b4 (dv 3))) e8) (a8 (eQ (d9 (gX hu) (dv 1) ay (by rfl)) (bj (b4 (vE [none,some 0] ["pair", "pen"] rfl (ic (dv 3)) (fun d=>(c7 (i:=0) (show (["pair", "pen"]:List Str).Nodup by decide +kernel) rfl (by trivial))) (fun d=>(tP (d9 (gX hu) (bS ae.ok (hr.mono (by decide)) (by rfl) ae.bz ae.kp ae.bd (aq (dv 1) (a5 ay aE))) ay (by rfl)))) (fun d=>(dv 0))))) e8) (a8 (eQ (d9 (gX hu) (dv 1) ay (by rfl)) (a8 (cX (i:=6) nd rfl (by trivial) (bS ae.ok (hr.mono (by decide)) (by rfl) ae.bz ae.kp ae.bd (aq (dv 0) (g8 (bo fI (dv 2) ay) aE)))) (bj (b4 (vE [none,some 6,some 0] ["pair", "half", "pen"] rfl (ic (dv 3)) (fun d=>(c7 (i:=0) (show (["pair", "half", "pen"]:List Str).Nodup by decide +kernel) rfl (by trivial))) (fun d=>(tP (JW.jt (DE (d9 (gX hu) (lM (vS hu) (bC bD (dv 0) ay (fun _ _=>rfl)) (dv 1) (by rfl)) (lM (vS hu) (bC bD (dv 0) ay (fun _ _=>rfl)) (dv 1) (by rfl)) (by rfl)) (DD (d9 vT (bS ae.ok (hr.mono (by decide)) (by rfl) ae.bz ae.kp ae.bd (aq (dv 2) (a5 ay aE))) ay (by rfl))))))) (fun d=>(dv 0)))))) e8) (bj (b4 (vE [none,some 0] ["pair", "pen"] rfl (ic (dv 3)) (fun d=>(c7 (i:=0) (show (["pair", "pen"]:List Str).Nodup by decide +kernel) rfl (by trivial))) (fun d=>(tP (d9 (gX hu) (bS ae.ok (hr.mono (by decide)) (by rfl) ae.bz ae.kp ae.bd (aq (dv 1) (a5 ay aE))) ay (by rfl)))) (fun d=>(dv 0)))))))))))),Nn⟩
noncomputable abbrev rh:Stmt:=top 29
theorem eC:di ["pen", "houses", "most", "kind", "prices", "many", "pairs", "ways", "k", "one", "other", "price"] ["pen", "houses", "most"] (a7 rh):=⟨rfl,rfl,rfl,by decide +kernel,rfl,by decide +kernel,by decide +kernel⟩
theorem PY {f uQ PZ:Addr} {fd uR P0:FuncData} (F:cH K "_law_web" "_law_web" rh f fd) (B:BT mg) (ae:Fn P w K mg base 2 "_law_take" ["pen", "many"] (aR f6 2) uQ uR) (a_:Fn P w K mg base 3 "_law_pairs_of" ["pen", "kind", "many"] (aR uo 3) PZ P0):aT P w K mg base bV 4 f fd ["pen", "houses", "most"] (aR uq 3):=by
 refine F.fH (k:=3) eC fun bc A outer s H E hr => ?_
 have nd:=eC.nd
 have hu:=hr.units
 exact⟨As,(a8 (cX (i:=3) nd rfl (by trivial) (bS ae.ok (hr.mono (by decide)) (by rfl) ae.bz ae.kp ae.bd (aq (dv 0) (a5 ay aE)))) (a8 (cX (i:=4) nd rfl (by trivial) (bS ae.ok (hr.mono (by decide)) (by rfl) ae.bz ae.kp ae.bd (aq (dv 0) (a5 ay aE)))) (a8 (cX (i:=5) nd rfl (by trivial) (bo fI ay (bS ae.ok (hr.mono (by decide)) (by rfl) ae.bz ae.kp ae.bd (aq (dv 0) (aq (dv 1) aE))))) (a8 (cX (i:=6) nd rfl (by trivial) (LM a_.ok (hr.mono (by decide)) (by rfl) a_.bz a_.kp a_.bd (aq (dv 0) (aq (dv 3) (aq (dv 5) aE))))) (a8 (cX (i:=7) nd rfl (by trivial) (zx aE)) (a8 (lU PassesOwn.never rfl (ni (by rfl) B.range (bI (eZ (zW rfl) (by rfl) B.min z6 (aq (dv 2) (bI (eZ ie (by rfl) B.len PySem.boot_len (aq (dv 6) aE)) aE))) aE)) (c7 (i:=8) nd rfl (by trivial)) (a8 (DG ((lK PySem.F.plainAttrs_list PySem.F.slot_list_pop PySem.F.type_list_pop CH (dv 6) (bI (bS ae.ok (hr.mono (by decide)) (by rfl) ae.bz ae.kp ae.bd (aq (dv 0) (bI (eZ ie (by rfl) B.len PySem.boot_len (aq (dv 6) aE)) aE))) aE)).weak Ej) (vz rfl (m9 (c7 (i:=9) nd rfl (by trivial)) (m9 (c7 (i:=10) nd rfl (by trivial)) vy)))) (a8 (cX (i:=11) nd rfl (by trivial) (bC bD (tK (a5 ay (bI (bS ae.ok (hr.mono (by decide)) (by rfl) ae.bz ae.kp ae.bd (aq (dv 0) (a5 ay aE))) (g8 (bo qz (bo pb ay ay) (bS ae.ok (hr.mono (by decide)) (by rfl) ae.bz ae.kp ae.bd (aq (dv 0) (a5 ay aE)))) (bI (bS ae.ok (hr.mono (by decide)) (by rfl) ae.bz ae.kp ae.bd (aq (dv 0) (g8 (bo fI (bo pb ay ay) ay) aE))) aE))))) (dv 4) (fun _ _=>rfl))) (bj (qv ((lK PySem.F.plainAttrs_list PySem.F.slot_list_append PySem.F.type_list_append qd (dv 7) (zw (qq (aq (dv 9) (aq (dv 10) (aq (dv 11) aE)))) aE)).weak Eh)))))) (bj (b4 (qq (aq (dv 5) (bI (DB Mi (by rfl) B.tuple tF (aq (dv 7) aE)) aE))))))))))),Np⟩
noncomputable abbrev rm:Stmt:=top 30
theorem bY:di ["web", "ways", "found", "number", "one", "other"] ["web", "ways"] (a7 rm):=⟨rfl,rfl,rfl,by decide +kernel,rfl,by decide +kernel,by decide +kernel⟩
theorem P5 {f:Addr} {fd:FuncData} (F:cH K "_law_marks_by" "_law_marks_by" rm f fd) (B:BT mg):aT P w K mg base bV 1 f fd ["web", "ways"] (aR uF 2):=by
 refine F.fH (k:=0) bY fun bc A outer s H E hr => ?_
 have nd:=bY.nd
 have hu:=hr.units
 exact⟨wo,(a8 (cX (i:=2) nd rfl (by trivial) (zX rfl (by rfl) B.list lL (by rfl) B.range v8 (bJ (bC bD (dv 0) ay (fun _ _=>rfl)) aE))) (a8 (lU PassesOwn.never rfl (ic (dv 1)) (c7 (i:=3) nd rfl (by trivial)) (a8 (DG (eZ Mj (by rfl) B.sorted En (g8 (jr [none,some 2] ["house", "found"] rfl (ic (ET (bC bD (bC bD (dv 0) ay (fun _ _=>rfl)) (dv 3) (fun _ _=>rfl)) D7 (D8 ay))) (fun d=>(c7 (i:=0) (show (["house", "found"]:List Str).Nodup by decide +kernel) rfl (by trivial))) (fun d=>jq) (fun d=>(bC bD (dv 1) (dv 0) (fun _ _=>rfl)))) aE)) (vz rfl (m9 (c7 (i:=4) nd rfl (by trivial)) (m9 (c7 (i:=5) nd rfl (by trivial)) vy)))) (bj (cX (i:=2) nd rfl (by trivial) (jr [none,some 4,some 5] ["mark", "one", "other"] rfl (ic (dv 2)) (fun d=>(c7 (i:=0) (show (["mark", "one", "other"]:List Str).Nodup by decide +kernel) rfl (by trivial))) (fun d=>jq) (fun d=>(DF (d9 (gX hu) (dv 0) (dv 2) (by rfl)) (dv 1) (dv 0)))))))) (bj (b4 (dv 2))))),NR⟩
noncomputable abbrev rp:Stmt:=top 31
theorem dP:di ["web", "ways", "marks"] ["web", "ways"] (a7 rp):=⟨rfl,rfl,rfl,by decide +kernel,rfl,by decide +kernel,by decide +kernel⟩
theorem P6 {f P7:Addr} {fd P8:FuncData} (F:cH K "_law_lots" "_law_lots" rp f fd) (B:BT mg) (ba:Fn P w K mg base 1 "_law_marks_by" ["web", "ways"] (aR uF 2) P7 P8):aT P w K mg base bV 2 f fd ["web", "ways"] (aR uH 2):=by
 refine F.fH (k:=1) dP fun bc A outer s H E hr => ?_
 have nd:=dP.nd
 have hu:=hr.units
 exact⟨wq,(a8 (cX (i:=2) nd rfl (by trivial) (bS ba.ok (hr.mono (by decide)) (by rfl) ba.bz ba.kp ba.bd (aq (dv 0) (aq (dv 1) aE)))) (bj (b4 (jr [none,some 0,some 2] ["first", "web", "marks"] rfl (ic (MW rfl (by rfl) B.sorted En (by rfl) B.set Dl (aq (dv 2) aE))) (fun d=>(c7 (i:=0) (show (["first", "web", "marks"]:List Str).Nodup by decide +kernel) rfl (by trivial))) (fun d=>jq) (fun d=>(jr [none,some 0,some 2] ["house", "first", "marks"] rfl (ni (by rfl) B.range (bJ (bC bD (dv 1) ay (fun _ _=>rfl)) aE)) (fun d=>(c7 (i:=0) (show (["house", "first", "marks"]:List Str).Nodup by decide +kernel) rfl (by trivial))) (fun d=>(tP (d9 (gX hu) (bC bD (dv 2) (dv 0) (fun _ _=>rfl)) (dv 1) (by rfl)))) (fun d=>(dv 0)))))))),NT⟩
noncomputable abbrev rq:Stmt:=top 32
theorem cQ:di ["web", "ways"] ["web", "ways"] (a7 rq):=⟨rfl,rfl,rfl,by decide +kernel,rfl,by decide +kernel,by decide +kernel⟩
theorem P9 {f:Addr} {fd:FuncData} (F:cH K "_law_weight" "_law_weight" rq f fd) (B:BT mg):aT P w K mg base bV 1 f fd ["web", "ways"] (aR uG 2):=by
 refine F.fH (k:=0) cQ fun bc A outer s H E hr => ?_
 have nd:=cQ.nd
 have hu:=hr.units
 exact⟨AK,(bj (b4 (eZ (Ef rfl) (by rfl) B.sum Em (g8 (jr [none,some 0] ["number", "web"] rfl (ic (dv 1)) (fun d=>(c7 (i:=0) (show (["number", "web"]:List Str).Nodup by decide +kernel) rfl (by trivial))) (fun d=>jq) (fun d=>(bC bD (bC bD (bC bD (dv 1) ay (fun _ _=>rfl)) (dv 0) (fun _ _=>rfl)) ay (fun _ _=>rfl)))) aE)))),NS⟩
noncomputable abbrev rz:Stmt:=top 33
theorem bM:di ["pen", "web", "most", "left", "found", "k"] ["pen", "web", "most"] (a7 rz):=⟨rfl,rfl,rfl,by decide +kernel,rfl,by decide +kernel,by decide +kernel⟩
theorem P_ {f uQ:Addr} {fd uR:FuncData} (F:cH K "_law_some_ways" "_law_some_ways" rz f fd) (B:BT mg) (ae:Fn P w K mg base 2 "_law_take" ["pen", "many"] (aR f6 2) uQ uR):aT P w K mg base bV 3 f fd ["pen", "web", "most"] (aR qK 3):=by
 refine F.fH (k:=2) bM fun bc A outer s H E hr => ?_
 have nd:=bM.nd
 have hu:=hr.units
 exact⟨AM,(a8 (cX (i:=3) nd rfl (by trivial) (Ms rfl (by rfl) B.list lL (by rfl) B.range v8 (bI (eZ ie (by rfl) B.len PySem.boot_len (bJ (bC bD (dv 1) ay (fun _ _=>rfl)) aE)) aE))) (a8 (cX (i:=4) nd rfl (by trivial) (zx aE)) (a8 (lU PassesOwn.never rfl (ni (by rfl) B.range (bI (eZ (zW rfl) (by rfl) B.min z6 (bI (eZ ie (by rfl) B.len PySem.boot_len (aq (dv 3) aE)) (bI (bS ae.ok (hr.mono (by decide)) (by rfl) ae.bz ae.kp ae.bd (aq (dv 0) (g8 (bo fI (dv 2) ay) aE))) aE))) aE)) (c7 (i:=5) nd rfl (by trivial)) (bj (qv ((lK PySem.F.plainAttrs_list PySem.F.slot_list_append PySem.F.type_list_append qd (dv 4) (bI ((lK PySem.F.plainAttrs_list PySem.F.slot_list_pop PySem.F.type_list_pop CH (dv 3) (bI (bS ae.ok (hr.mono (by decide)) (by rfl) ae.bz ae.kp ae.bd (aq (dv 0) (bI (eZ ie (by rfl) B.len PySem.boot_len (aq (dv 3) aE)) aE))) aE)).weak Ej) aE)).weak Eh)))) (bj (b4 (dv 4)))))),NX⟩
noncomputable abbrev rA:Stmt:=top 20
theorem fc:di ["web", "ways", "lots", "house", "first"] ["web", "ways"] (a7 rA):=⟨rfl,rfl,rfl,by decide +kernel,rfl,by decide +kernel,by decide +kernel⟩
theorem Qa {f fN fF:Addr} {fd Qb Qc:FuncData} (F:cH K "lots_of" "lots_of" rA f fd) (B:BT mg) (GN:Fn P w K mg base 8 "need_ways" ["web", "ways"] (aR mB 2) fN Qb) (GF:Fn P w K mg base 2 "firsts_of" ["web", "ways"] (aR qI 2) fF Qc):aT P w K mg base bV 9 f fd ["web", "ways"] (qL wy 2):=by
 refine F.vm fc (fun vs H Q E h=>h.1) (fun bc A outer s H vs Q E hr h => ?_)
 obtain⟨hl,F0,ad,ys,ao,K',S0,⟨m,ws,ns,W,hn,hd,AX,rfl,rfl,hK⟩,kk⟩:=h
 have nd:=fc.nd
 have hu:=hr.units
 refine⟨_,kL (qv (bS GN.ok (hr.mono (by decide)) (by rfl) GN.bz GN.kp GN.bd (aq (dv 0) (aq (dv 1) aE))))
  (kL (s_ (i:=2) nd rfl (Or.inl rfl) gT)
  (kL (ze PassesOwn.never rfl (Df (by rfl) B.enumerate (h_ (tu GF.ok (hr.mono (by decide)) (by rfl) GF.bz GF.kp GF.bd .nil sI (h9 (jv 0) (h9 (jv 1) aV))) aV)) (zd rfl (sY (sX (i:=3) nd rfl (Or.inl rfl)) (sY (sX (i:=4) nd rfl (Or.inl rfl)) gw)))
   (ql (vj (lK PySem.F.plainAttrs_list PySem.F.slot_list_append PySem.F.type_list_append qd (lK PySem.F.plainAttrs_dict PySem.F.slot_dict_setdefault PySem.F.type_dict_setdefault Lr (jv 2) (h9 (jv 4) (oN (tq aV) aV))) (h9 (jv 3) aV)))))
  (ql (zc (lJ (Lu rfl) (by rfl) B.list lL (h_ (Lb PySem.F.plainAttrs_dict PySem.F.slot_dict_values PySem.F.type_dict_values Ls (jv 2)) aV)))))),?_⟩
 exact OE (Kf:=K) hl W hn hd AX hK S0 kk fun _ _ h=>h
noncomputable abbrev rB:Stmt:=top 24
theorem ku:di ["script", "cells", "k", "cell"] ["script"] (a7 rB):=⟨rfl,rfl,rfl,by decide +kernel,rfl,by decide +kernel,by decide +kernel⟩
theorem Qd {f:Addr} {fd:FuncData} (F:cH K "_law_open" "_law_open" rB f fd) (h1:mg "list" = none) (h2:mg "enumerate" = none):aT P w K mg base bV 1 f fd ["script"] (AN K):=by
 refine F.vm ku (fun vs H Q E h => ?_) (fun bc A outer s H vs Q E hr h => ?_)
 ·obtain⟨a,ns,rfl,_⟩:=h
  rfl
 ·obtain⟨a,ns,rfl,hS,hlen,fin⟩:=h
  have nd:=ku.nd
  refine⟨_,kL (s_ (i:=1) nd rfl (Or.inl rfl) (lJ yB (by rfl) h1 PyProof.Rows.boot_list (oK (zf gv (jv 0) Ct (vb bR.out)) aV)))
   (kL (ze PassesOwn.never rfl (Df (by rfl) h2 (oK (zf gv (jv 0) (vb bR.out) (vb bR.out)) aV)) (zd rfl (sY (sX (i:=2) nd rfl (Or.inl rfl)) (sY (sX (i:=3) nd rfl (Or.inl rfl)) gw)))
    (ql (qm (tj Cc (zg yz (jv 1) (tj yf (jv 2) bR) (fun _ _=>rfl)) (jv 3)) (sZ (jv 1) (tj yf (jv 2) bR) set_list))))
   (ql (zc (tq (oK (jv 1) (oK bR (oK bR aV))))))),?_⟩
  refine⟨_,rfl,_,rfl,a,_,rfl,hS,fun l1 n1=>⟨l1,_,rfl,.inl (aP.of bF),fun c nc => ?_⟩⟩
  have s1:aw H (upd (upd H l1 (.lst (cG (ns.map V.int) none (some 12)))) c (.lst (cG (ns.map V.int) none (some 12)))):=(k9 n1).trans (k9 nc)
  refine⟨_,rfl,_,rfl,_,rfl,a,_,rfl,s1.seq hS,fun l2 n2=>⟨l2,rfl,⟨_,aP.of bF⟩,?_⟩⟩
  have Qe:H c=none:=(k9 n1).free nc
  have Qf:=n2
  have hcc:∃ ms:List Int,ms.length=min 12 ns.length/\cG (ns.map V.int) none (some 12)=ms.map V.int:=by
   refine⟨_,?_,AO ns none (some 12)⟩
   rw[List.length_take,List.length_drop]
   have e1:HT.aU ns.length 0 none=0:=HT.Ja _ _
   have e2:HT.aU ns.length ns.length (some 12)=min 12 ns.length:=HT.yq ns.length ns.length 12
   rw[e1,e2];omega
  have Ag:(cG (ns.map V.int) (some 12) (some 63)).length=ns.length - 12:=by
   rw[AO,List.length_map,List.length_take,List.length_drop]
   have e1:HT.aU ns.length 0 (some 12)=min 12 ns.length:=HT.yq ns.length 0 12
   have e2:HT.aU ns.length ns.length (some 63)=min 63 ns.length:=HT.yq ns.length ns.length 63
   rw[e1,e2];omega
  have FI:∀ i x,(cG (ns.map V.int) (some 12) (some 63))[i]? = some x->∃ n:Int,x=V.int n:=fun i x e=>by
   rw[AO,List.getElem?_map] at e
   cases q:((ns.drop (HT.aU ns.length 0 (some 12))).take (HT.aU ns.length ns.length (some 63) - HT.aU ns.length 0 (some 12)))[i]? with
   | none=>rw[q] at e;cases e
   | some n=>rw[q] at e;exact⟨n,(Option.some.inj e).symm⟩
  generalize cG (ns.map V.int) (some 12) (some 63)=rest at Ag FI n2 ⊢
  obtain⟨ms,Qg,Qh⟩:=hcc
  refine C4 (K:=K) (a:=l2) (xs:=rest) (fun i σ H2=>∃ (ks:List Int) (v1 v2:Option V),σ = [some (.ref a),some (.ref c),v1,v2]/\H2 c=some (.lst (ks.map V.int))/\ks.length=min 12 ns.length/\H2 l2=some (.lst rest)/\aw H H2)
   ⟨ms,none,none,rfl,?_,Qg,bF,?_⟩ (fun i σ H2 _ ⟨_,_,_,_,_,_,q,_⟩=>aP.of q) ?_ ?_
  ·rw[aS (cv bF n2),bF,Qh]
  ·exact s1.trans (k9 n2)
  ·rintro i x T σ H2 hi ⟨ks,v1,v2,rfl,hc,hk,qe,sm⟩ hT
   obtain⟨n,rfl⟩:=FI i x hi
   have oW:i < rest.length:=(List.getElem?_eq_some_iff.mp hi).1
   have Qi:ks.length=12:=by omega
   have cT:c≠T:=cv hc hT
   have mM:upd H2 T (.tup [.int i,.int n]) c=some (.lst (ks.map V.int)):=by rw[aS cT];exact hc
   have j0:0 <= ((i:Int)) % 12:=Int.emod_nonneg _ (by decide)
   have j1:((i:Int)) % 12 < 12:=Int.emod_lt_of_pos _ (by decide)
   obtain⟨m,em⟩:=NZ (ns:=ks) j0 (by omega)
   have ix:iy (ks.map V.int).length ((i:Int) % 12)=some ((i:Int) % 12).toNat:=by
    unfold iy
    rw[if_pos j0,if_pos (by rw[List.length_map];omega)]
   refine⟨T,_,rfl,bw.of bF,rfl,_,_,rfl,_,_,rfl,rfl,?_⟩
   refine⟨_,rfl,_,rfl,_,_,rfl,rfl,(show (0:Int) < 12 by decide),_,_,_,_,rfl,rfl,aP.of mM,em,_,rfl,_,_,rfl,rfl,_,rfl,_,rfl,_,_,rfl,rfl,(show (0:Int) < 12 by decide),_,_,_,_,rfl,rfl,mM,ix,?_⟩
   refine⟨ks.set ((i:Int) % 12).toNat (m + n),_,_,rfl,?_,by rw[List.length_set];exact hk,?_,?_⟩
   ·rw[bF,List.map_set]
   ·have Qj:l2≠c:=by
     intro z
     subst z
     exact absurd Qf (by rw[bF];intro y;cases y)
    rw[aS Qj,aS (cv qe hT)];exact qe
   ·intro b o e
    rw[aS (cv e Qe)]
    exact k9 hT b o (sm b o e)
  ·rintro σ H2 ⟨ks,v1,v2,rfl,hc,hk,qe,sm⟩
   refine⟨_,rfl,(by show 3 <= sizeLine;decide),fun p np => ?_⟩
   have Qk:H p=none:=sm.free np
   exact fin p c _ (sm.trans (k9 np)) Qk ⟨bF,⟨ks,by rw[aS (cv hc np)];exact hc,by omega⟩,Int.le_refl 0⟩
noncomputable abbrev pS:Stmt:=top 27
theorem dQ:di ["found", "due"] ["found", "due"] (a7 pS):=⟨rfl,rfl,rfl,by decide +kernel,rfl,by decide +kernel,by decide +kernel⟩
theorem Bc {k:Nat} {f:Addr} {fd:FuncData} {ps:List Str} {n:Nat}:aT P w K mg base bV k f fd ps (aR (fun _ _ _=>False) n) :=
 ⟨fun vs H Q E h=>by obtain⟨_,_,_,_,_,_,_,hF,_⟩:=h;exact hF.elim,fun A outer s H args us vs Q E _ _ _ _ h=>by obtain⟨_,_,_,_,_,_,_,hF,_⟩:=h;exact hF.elim⟩
theorem FJ {f:Addr} {fd:FuncData} (F:cH K "_law_same" "_law_same" pS f fd) (B:BT mg) (n:Nat) (az:Fn P w K mg base n "_law_same" ["found", "due"] (aR (uB km n) 2) f fd):aT P w K mg base bV (n + 1) f fd ["found", "due"] (aR (km n) 2):=by
 refine F.fH (k:=n) dQ fun bc A outer s H E hr => ?_
 have nd:=dQ.nd
 have hu:=hr.units
 exact⟨iH (uB km n),(a8 (eQ (d9 EU (dv 1) zt (by rfl)) (bj (b4 (lM EU (dv 0) zt (by rfl)))) e8) (a8 (eQ (JW.jt (qu (i7 (gY t7 (by rfl) B.isinstance (by rfl) B.bool tE (dv 1))) (qt (i7 (gY t7 (by rfl) B.isinstance (by rfl) B.bool tE (dv 0)))))) (bj (b4 (kM (gY t7 (by rfl) B.isinstance (by rfl) B.bool tE (dv 1)) (kM (gY t7 (by rfl) B.isinstance (by rfl) B.bool tE (dv 0)) (lQ (lM (gX hu) (dv 0) (dv 1) (by rfl))))))) e8) (a8 (eQ (i7 (gY zZ (by rfl) B.isinstance (by rfl) B.int zj (dv 1))) (bj (b4 (kM (gY zZ (by rfl) B.isinstance (by rfl) B.int zj (dv 0)) (lQ (lM (gX hu) (dv 0) (dv 1) (by rfl)))))) e8) (a8 (eQ (i7 (gY Eg (by rfl) B.isinstance (by rfl) B.str Dk (dv 1))) (bj (b4 (kM (gY Eg (by rfl) B.isinstance (by rfl) B.str Dk (dv 0)) (lQ (lM (gX hu) (dv 0) (dv 1) (by rfl)))))) e8) (a8 (eQ (JW.jt (qu (d9 (tZ hu) (gY v3 (by rfl) B.isinstance (by rfl) B.tuple tF (dv 1)) (gY v3 (by rfl) B.isinstance (by rfl) B.tuple tF (dv 0)) (by rfl)) (qt (d9 (tZ hu) (gY z3 (by rfl) B.isinstance (by rfl) B.list lL (dv 1)) (gY z3 (by rfl) B.isinstance (by rfl) B.list lL (dv 0)) (by rfl))))) (bj (b4 jm)) e8) (a8 (eQ (d9 (tZ hu) (eZ ie (by rfl) B.len PySem.boot_len (aq (dv 0) aE)) (eZ ie (by rfl) B.len PySem.boot_len (aq (dv 1) aE)) (by rfl)) (bj (b4 jm)) e8) (bj (b4 (lM (Me hu) jm (jr [none,none] ["one", "other"] rfl (LZ (by rfl) B.zip (aq (dv 0) (aq (dv 1) aE))) (fun d=>(vz rfl (m9 (c7 (i:=0) (show (["one", "other"]:List Str).Nodup by decide +kernel) rfl (by trivial)) (m9 (c7 (i:=1) (show (["one", "other"]:List Str).Nodup by decide +kernel) rfl (by trivial)) vy)))) (fun d=>jq) (fun d=>(bS az.ok (hr.mono (by omega)) (by rfl) az.bz az.kp az.bd (aq (dv 0) (aq (dv 1) aE))))) (by rfl)))))))))),NN n⟩
theorem Ql {f:Addr} {fd:FuncData} (F:cH K "_law_same" "_law_same" pS f fd) (B:BT mg) (bz:mg "_law_same" = some (.ref f)) (kp:PySem.W.keepIn K (.ref f)=true) (bd:Binds K fd ["found", "due"] []) (n:Nat):aT P w K mg base bV (n + 1) f fd ["found", "due"] (aR (km n) 2):=by
 induction n with
 | zero=>exact FJ F B 0 ⟨Bc,bz,kp,bd⟩
 | succ m ih=>exact FJ F B (m + 1) ⟨ih,bz,kp,bd⟩
noncomputable abbrev kz:Stmt:=top 34
theorem kA:di ["script", "pen", "turn", "web", "every", "ways", "handed", "again", "found"] ["script"] (a7 kz):=⟨rfl,rfl,rfl,by decide +kernel,rfl,by decide +kernel,by decide +kernel⟩
theorem Qm {f pT Qn Qo Qp Qq Qr Qs Qt Qu Ba:Addr} {fd mE Qv Qw Qx Qy Qz QA QB QC Bb:FuncData} (F:cH K "law" "law" kz f fd) (B:BT mg) (GO:Fn P w K mg base 1 "_law_open" ["script"] (AN K) pT mE) (cu:Fn P w K mg base 4 "_law_web" ["pen", "houses", "most"] (aR uq 3) Qn Qv) (bN:Fn P w K mg base 1 "_law_anew" ["pen"] (aR um 1) Qo Qw) (aA:Fn P w K mg base 3 "_law_some_ways" ["pen", "web", "most"] (aR qK 3) Qp Qx) (cW:Fn P w K mg base 9 "lots_of" ["web", "ways"] (qL wy 2) Qq Qy) (az:Fn P w K mg base 4 "_law_same" ["found", "due"] (aR (km 3) 2) Qr Qz) (bO:Fn P w K mg base 2 "_law_lots" ["web", "ways"] (aR uH 2) Qs QA) (bt:Fn P w K mg base 1 "_law_weight" ["web", "ways"] (aR uG 2) Qt QB) (bP:Fn P w K mg base 9 "weight_of" ["web", "ways"] (aR uP 2) Qu QC) (aN:Fn P w K mg base 8 "need_ways" ["web", "ways"] (aR mB 2) Ba Bb):aT P w K mg base bV 13 f fd ["script"] (wu K):=by
 refine F.vm (k:=12) kA (fun vs H Q E h => ?_) (fun bc A outer s H vs Q E hr h => ?_)
 ·obtain⟨a,ns,rfl,_⟩:=h
  rfl
 obtain⟨a,ns,rfl,hS,hlen,hT,fin⟩:=h
 have nd:=kA.nd
 have hu:=hr.units
 have rest:fB (gu bV P w K mg base ["script", "pen", "turn", "web", "every", "ways", "handed", "again", "found"] "law" (a7 kz) f bc A outer s H E).nY ((cU kz).drop 1) (d_ A7):=(a8 (lU PassesOwn.never rfl (ni (by rfl) B.range (a5 ay aE)) (c7 (i:=2) nd rfl (by trivial)) (a8 (cX (i:=3) nd rfl (by trivial) (bS cu.ok (hr.mono (by decide)) (by rfl) cu.bz cu.kp cu.bd (bI (bS bN.ok (hr.mono (by decide)) (by rfl) bN.bz bN.kp bN.bd (aq (dv 1) aE)) (a5 ay (a5 ay aE))))) (a8 (cX (i:=4) nd rfl (by trivial) (zX rfl (by rfl) B.list lL (by rfl) B.range v8 (bI (eZ ie (by rfl) B.len PySem.boot_len (bJ (bC bD (dv 3) ay (fun _ _=>rfl)) aE)) aE))) (bj (lU PassesOwn.never rfl (ic (tK (bI (bS aA.ok (hr.mono (by decide)) (by rfl) aA.bz aA.kp aA.bd (aq (dv 1) (aq (dv 3) (a5 ay aE)))) (bI (bS aA.ok (hr.mono (by decide)) (by rfl) aA.bz aA.kp aA.bd (aq (dv 1) (aq (dv 3) (a5 ay aE)))) (zv (tK aE) (aq (dv 4) (bJ (Nf (dv 4)) aE))))))) (c7 (i:=5) nd rfl (by trivial)) (a8 (cX (i:=6) nd rfl (by trivial) (DB Mh (by rfl) B.list lL (aq (dv 5) aE))) (a8 (lU PassesOwn.never rfl (ni (by rfl) B.range (a5 ay aE)) (c7 (i:=7) nd rfl (by trivial)) (Oy (s_ (i:=8) nd rfl (by trivial) (tu cW.ok (hr.mono (by decide)) (by rfl) cW.bz cW.kp cW.bd .nil sI (aq (dv 3) (aq (dv 6) aE)))) (Dc (JW.jt (qu (lP (i7 (bS az.ok (hr.mono (by decide)) (by rfl) az.bz az.kp az.bd (aq (dv 8) (bI (bS bO.ok (hr.mono (by decide)) (by rfl) bO.bz bO.kp bO.bd (aq (dv 3) (aq (dv 5) aE))) aE))))) (qt (d9 (tZ hu) (dv 6) (dv 5) (by rfl))))) (bj (b4 jm)) iA) (kL (vj (lK PySem.F.plainAttrs_list PySem.F.slot_list_append PySem.F.type_list_append qd (zg yz (jv 8) bR (fun _ _=>rfl)) (tw bR aV))) (ql (vj (lK PySem.F.plainAttrs_list PySem.F.slot_list_append PySem.F.type_list_append qd (jv 8) (oN (tq aV) aV))))))) (a8 (eQ (JW.jt (qu (lP (i7 (bS az.ok (hr.mono (by decide)) (by rfl) az.bz az.kp az.bd (bI (bS bP.ok (hr.mono (by decide)) (by rfl) bP.bz bP.kp bP.bd (aq (dv 3) (aq (dv 6) aE))) (bI (bS bt.ok (hr.mono (by decide)) (by rfl) bt.bz bt.kp bt.bd (aq (dv 3) (aq (dv 5) aE))) aE))))) (qt (d9 Ng (bS aN.ok (hr.mono (by decide)) (by rfl) aN.bz aN.kp aN.bd (aq (dv 3) (aq (dv 6) aE))) zt (by rfl))))) (bj (b4 jm)) e8) (bj (eQ (d9 (tZ hu) (dv 6) (dv 5) (by rfl)) (bj (b4 jm)) e8)))))))))) (bj (b4 jm)))
 refine⟨_,kL (s_ (i:=1) nd rfl (by trivial) (tu GO.ok (hr.mono (by decide)) (by rfl) GO.bz GO.kp GO.bd .nil sI (h9 (jv 0) aV))) rest,?_⟩
 refine⟨_,rfl,a,ns,rfl,hS,hlen,fun p c H1 sm hp N1 => ?_⟩
 obtain⟨F',ms,hm,S⟩:=N0 (a:=a) (n:=7) (aQ.same hT sm) N1
 exact N3 S (Pa ms hm) fin
end
theorem pU {us:List Value} (h:us.length=1):∃ a,us=[a]:=List.length_eq_one_iff.mp h
theorem iI {us:List Value} (h:us.length=2):∃ a b,us=[a,b]:=by
 cases us with
 | nil=>cases h
 | cons a r=>obtain⟨b,e⟩:=pU (Nat.succ.inj h);exact⟨a,b,by rw[e]⟩
theorem rC {us:List Value} (h:us.length=3):∃ a b c,us=[a,b,c]:=by
 cases us with
 | nil=>cases h
 | cons a r=>obtain⟨b,c,e⟩:=iI (Nat.succ.inj h);exact⟨a,b,c,by rw[e]⟩
theorem QD {l:PySem.W.OpenLaw} {w:World} {K:PySem.W.Frag} {h:Heap} {mg:Str->Option Value} {fa wN wO wQ wR wU wV wW wX wY wZ w5 w6 w9 w_ xa xb xc xf xg xh xi xj xk xl pV:Addr} (X:K.In h) (G:h.Ns mainGlobals mg) (QE:mg "law" = some (.ref fa))
  {QF QG:Option Addr} {QH:Array (Option Value)} {QI QJ QK QL FK QM:Value}
  {QN QO:Option Addr} {QP:Array (Option Value)} {QQ QR QS QT FL QU:Value}
  {QV QW:Option Addr} {QX:Array (Option Value)} {QY QZ Q0 Q1 FN Q2:Value}
  {Q3 Q4:Option Addr} {Q5:Array (Option Value)} {Q6 Q7 Q8 Q9 FO Q_:Value}
  {Ra Rb:Option Addr} {Rc:Array (Option Value)} {Rf Rg Rh Ri FP Rj:Value}
  {Rk Rl:Option Addr} {Rm:Array (Option Value)} {Rn Ro Rp Rq FQ Rr:Value}
  {Rt Ru:Option Addr} {Rv:Array (Option Value)} {Rw Rx Ry Rz FR RA:Value}
  {RB RC:Option Addr} {RD:Array (Option Value)} {RE RF RG RH FT RI:Value}
  {RJ RK:Option Addr} {RL:Array (Option Value)} {RM RN RO RP FU RQ:Value}
  {RR RS:Option Addr} {RT:Array (Option Value)} {RU RW RX RY FV RZ:Value}
  {R0 R1:Option Addr} {R3:Array (Option Value)} {R4 R5 R6 R7 FW R8:Value}
  {R9 R_:Option Addr} {Sa:Array (Option Value)} {Sb Sd Se Sf FX Sg:Value}
  {Sh Si:Option Addr} {Sj:Array (Option Value)} {Sk Sl Sm Sn FY So:Value}
  {Sq Sr:Option Addr} {Ss:Array (Option Value)} {Su Sv Sw Sx FZ Sy:Value}
  {Sz SA:Option Addr} {SD:Array (Option Value)} {SE SF SG SH F7 SI:Value}
  {SJ SK:Option Addr} {SM:Array (Option Value)} {SN SO SQ SS F8 SU:Value}
  {SV SW:Option Addr} {SX:Array (Option Value)} {SY S7 S8 S9 F9 S_:Value}
  {Ta Tb:Option Addr} {Tc:Array (Option Value)} {Td Te Tf Tg F_ Th:Value}
  {Ti Tj:Option Addr} {Tn:Array (Option Value)} {To Tp Tq Tr Ga Ts:Value}
  {Tt Tu:Option Addr} {Tv:Array (Option Value)} {Tw Tx Tz TB Gb TC:Value}
  {TF TH:Option Addr} {TJ:Array (Option Value)} {TK TL TM TN Gd TQ:Value}
  {TR TU:Option Addr} {TV:Array (Option Value)} {TX TY TZ T1 Ge T2:Value}
  {T3 T4:Option Addr} {T5:Array (Option Value)} {T6 T7 T8 T9 Gf T_:Value}
  {Ua Ub:Option Addr} {Uc:Array (Option Value)} {Ud Ue Ug Uh Gg Ui:Value}
  {Uj Gh:Option Addr} {Uk:Array (Option Value)} {Ul Gi Gj Gk Bd Gm:Value}
  {Gn:Value}
  {Gp:Value}
  {Gq:Value}
  (q8g:PySem.W.nsIn K mainGlobals "is_whole" = some (some (.ref wN))) (q7x:K.lookup wN=some ⟨QI,QF,.func (PySem.W.fnOf "is_whole" "is_whole" (dj qM) (cU qM) (a7 qM) .none QJ QK QL QG FK QM),QH⟩) (q7c:PySem.W.codeIn K FK "is_whole" = true) (q4M:PySem.W.keepIn K (.ref wN)=true)
  (q54:PySem.W.nsIn K mainGlobals "is_within" = some (some (.ref wO))) (q5F:K.lookup wO=some ⟨QQ,QN,.func (PySem.W.fnOf "is_within" "is_within" (dj qN) (cU qN) (a7 qN) .none QR QS QT QO FL QU),QP⟩) (q5s:PySem.W.codeIn K FL "is_within" = true) (q3Z:PySem.W.keepIn K (.ref wO)=true)
  (q3L:PySem.W.nsIn K mainGlobals "is_tuple_of" = some (some (.ref wQ))) (q3w:K.lookup wQ=some ⟨QY,QV,.func (PySem.W.fnOf "is_tuple_of" "is_tuple_of" (dj qO) (cU qO) (a7 qO) .none QZ Q0 Q1 QW FN Q2),QX⟩) (q3t:PySem.W.codeIn K FN "is_tuple_of" = true) (q2y:PySem.W.keepIn K (.ref wQ)=true)
  (q8i:PySem.W.nsIn K mainGlobals "are_ends" = some (some (.ref wR))) (q7z:K.lookup wR=some ⟨Q6,Q3,.func (PySem.W.fnOf "are_ends" "are_ends" (dj qP) (cU qP) (a7 qP) .none Q7 Q8 Q9 Q4 FO Q_),Q5⟩) (q7e:PySem.W.codeIn K FO "are_ends" = true) (q4O:PySem.W.keepIn K (.ref wR)=true)
  (x3V:PySem.W.nsIn K mainGlobals "is_way" = some (some (.ref wU))) (x2x:K.lookup wU=some ⟨Rf,Ra,.func (PySem.W.fnOf "is_way" "is_way" (dj qQ) (cU qQ) (a7 qQ) .none Rg Rh Ri Rb FP Rj),Rc⟩) (x1P:PySem.W.codeIn K FP "is_way" = true) (q9A:PySem.W.keepIn K (.ref wU)=true)
  (q8h:PySem.W.nsIn K mainGlobals "are_ways" = some (some (.ref wV))) (q7y:K.lookup wV=some ⟨Rn,Rk,.func (PySem.W.fnOf "are_ways" "are_ways" (dj qR) (cU qR) (a7 qR) .none Ro Rp Rq Rl FQ Rr),Rm⟩) (q7d:PySem.W.codeIn K FQ "are_ways" = true) (q4N:PySem.W.keepIn K (.ref wV)=true)
  (x3U:PySem.W.nsIn K mainGlobals "is_web" = some (some (.ref wW))) (x2w:K.lookup wW=some ⟨Rw,Rt,.func (PySem.W.fnOf "is_web" "is_web" (dj qS) (cU qS) (a7 qS) .none Rx Ry Rz Ru FR RA),Rv⟩) (x1O:PySem.W.codeIn K FR "is_web" = true) (q9z:PySem.W.keepIn K (.ref wW)=true)
  (q8d:PySem.W.nsIn K mainGlobals "need_web" = some (some (.ref wX))) (q7w:K.lookup wX=some ⟨RE,RB,.func (PySem.W.fnOf "need_web" "need_web" (dj qT) (cU qT) (a7 qT) .none RF RG RH RC FT RI),RD⟩) (q7b:PySem.W.codeIn K FT "need_web" = true) (q4L:PySem.W.keepIn K (.ref wX)=true)
  (q53:PySem.W.nsIn K mainGlobals "need_ways" = some (some (.ref wY))) (q5D:K.lookup wY=some ⟨RM,RJ,.func (PySem.W.fnOf "need_ways" "need_ways" (dj qU) (cU qU) (a7 qU) .none RN RO RP RK FU RQ),RL⟩) (q5r:PySem.W.codeIn K FU "need_ways" = true) (q3Y:PySem.W.keepIn K (.ref wY)=true)
  (x3T:PySem.W.nsIn K mainGlobals "joined" = some (some (.ref wZ))) (x2v:K.lookup wZ=some ⟨RU,RR,.func (PySem.W.fnOf "joined" "joined" (dj qV) (cU qV) (a7 qV) .none RW RX RY RS FV RZ),RT⟩) (x1N:PySem.W.codeIn K FV "joined" = true) (q9y:PySem.W.keepIn K (.ref wZ)=true)
  (q55:PySem.W.nsIn K mainGlobals "firsts_of" = some (some (.ref w5))) (q5G:K.lookup w5=some ⟨R4,R0,.func (PySem.W.fnOf "firsts_of" "firsts_of" (dj qW) (cU qW) (a7 qW) .none R5 R6 R7 R1 FW R8),R3⟩) (q5t:PySem.W.codeIn K FW "firsts_of" = true) (q30:PySem.W.keepIn K (.ref w5)=true)
  (x0a:PySem.W.nsIn K mainGlobals "lots_of" = some (some (.ref w6))) (q9u:K.lookup w6=some ⟨Sb,R9,.func (PySem.W.fnOf "lots_of" "lots_of" (dj rA) (cU rA) (a7 rA) .none Sd Se Sf R_ FX Sg),Sa⟩) (q9i:PySem.W.codeIn K FX "lots_of" = true) (q6L:PySem.W.keepIn K (.ref w6)=true)
  (q51:PySem.W.nsIn K mainGlobals "weight_of" = some (some (.ref w9))) (q5C:K.lookup w9=some ⟨Sk,Sh,.func (PySem.W.fnOf "weight_of" "weight_of" (dj qX) (cU qX) (a7 qX) .none Sl Sm Sn Si FY So),Sj⟩) (q5q:PySem.W.codeIn K FY "weight_of" = true) (q3W:PySem.W.keepIn K (.ref w9)=true)
  (q3N:PySem.W.nsIn K mainGlobals "_law_spread" = some (some (.ref w_))) (q3A:K.lookup w_=some ⟨Su,Sq,.func (PySem.W.fnOf "_law_spread" "_law_spread" (dj qY) (cU qY) (a7 qY) .none Sv Sw Sx Sr FZ Sy),Ss⟩) (q3v:PySem.W.codeIn K FZ "_law_spread" = true) (q2A:PySem.W.keepIn K (.ref w_)=true)
  (q57:PySem.W.nsIn K mainGlobals "_law_open" = some (some (.ref xa))) (q5J:K.lookup xa=some ⟨SE,Sz,.func (PySem.W.fnOf "_law_open" "_law_open" (dj rB) (cU rB) (a7 rB) .none SF SG SH SA F7 SI),SD⟩) (q5w:PySem.W.codeIn K F7 "_law_open" = true) (q32:PySem.W.keepIn K (.ref xa)=true)
  (q59:PySem.W.nsIn K mainGlobals "_law_anew" = some (some (.ref xb))) (q5L:K.lookup xb=some ⟨SN,SJ,.func (PySem.W.fnOf "_law_anew" "_law_anew" (dj qZ) (cU qZ) (a7 qZ) .none SO SQ SS SK F8 SU),SM⟩) (q5y:PySem.W.codeIn K F8 "_law_anew" = true) (q34:PySem.W.keepIn K (.ref xb)=true)
  (q56:PySem.W.nsIn K mainGlobals "_law_take" = some (some (.ref xc))) (q5H:K.lookup xc=some ⟨SY,SV,.func (PySem.W.fnOf "_law_take" "_law_take" (dj q9) (cU q9) (a7 q9) .none S7 S8 S9 SW F9 S_),SX⟩) (q5u:PySem.W.codeIn K F9 "_law_take" = true) (q31:PySem.W.keepIn K (.ref xc)=true)
  (q4j:PySem.W.nsIn K mainGlobals "_law_same" = some (some (.ref xf))) (q5I:K.lookup xf=some ⟨Td,Ta,.func (PySem.W.fnOf "_law_same" "_law_same" (dj pS) (cU pS) (a7 pS) .none Te Tf Tg Tb F_ Th),Tc⟩) (q5v:PySem.W.codeIn K F_ "_law_same" = true) (q2Z:PySem.W.keepIn K (.ref xf)=true)
  (q2P:PySem.W.nsIn K mainGlobals "_law_pairs_of" = some (some (.ref xg))) (q2L:K.lookup xg=some ⟨To,Ti,.func (PySem.W.fnOf "_law_pairs_of" "_law_pairs_of" (dj q_) (cU q_) (a7 q_) .none Tp Tq Tr Tj Ga Ts),Tn⟩) (q2I:PySem.W.codeIn K Ga "_law_pairs_of" = true) (q1T:PySem.W.keepIn K (.ref xg)=true)
  (q8j:PySem.W.nsIn K mainGlobals "_law_web" = some (some (.ref xh))) (q7A:K.lookup xh=some ⟨Tw,Tt,.func (PySem.W.fnOf "_law_web" "_law_web" (dj rh) (cU rh) (a7 rh) .none Tx Tz TB Tu Gb TC),Tv⟩) (q7f:PySem.W.codeIn K Gb "_law_web" = true) (q4P:PySem.W.keepIn K (.ref xh)=true)
  (q2Q:PySem.W.nsIn K mainGlobals "_law_marks_by" = some (some (.ref xi))) (q2M:K.lookup xi=some ⟨TK,TF,.func (PySem.W.fnOf "_law_marks_by" "_law_marks_by" (dj rm) (cU rm) (a7 rm) .none TL TM TN TH Gd TQ),TJ⟩) (q2J:PySem.W.codeIn K Gd "_law_marks_by" = true) (q1U:PySem.W.keepIn K (.ref xi)=true)
  (q58:PySem.W.nsIn K mainGlobals "_law_lots" = some (some (.ref xj))) (q5K:K.lookup xj=some ⟨TX,TR,.func (PySem.W.fnOf "_law_lots" "_law_lots" (dj rp) (cU rp) (a7 rp) .none TY TZ T1 TU Ge T2),TV⟩) (q5x:PySem.W.codeIn K Ge "_law_lots" = true) (q33:PySem.W.keepIn K (.ref xj)=true)
  (q3M:PySem.W.nsIn K mainGlobals "_law_weight" = some (some (.ref xk))) (q3z:K.lookup xk=some ⟨T6,T3,.func (PySem.W.fnOf "_law_weight" "_law_weight" (dj rq) (cU rq) (a7 rq) .none T7 T8 T9 T4 Gf T_),T5⟩) (q3u:PySem.W.codeIn K Gf "_law_weight" = true) (q2z:PySem.W.keepIn K (.ref xk)=true)
  (q2u:PySem.W.nsIn K mainGlobals "_law_some_ways" = some (some (.ref xl))) (q2m:K.lookup xl=some ⟨Ud,Ua,.func (PySem.W.fnOf "_law_some_ways" "_law_some_ways" (dj rz) (cU rz) (a7 rz) .none Ue Ug Uh Ub Gg Ui),Uc⟩) (q2j:PySem.W.codeIn K Gg "_law_some_ways" = true) (q1B:PySem.W.keepIn K (.ref xl)=true)
  (alaw:PySem.W.nsIn K mainGlobals "law" = some (some (.ref pV))) (llaw:K.lookup pV=some ⟨Ul,Uj,.func (PySem.W.fnOf "law" "law" (dj kz) (cU kz) (a7 kz) .none Gi Gj Gk Gh Bd Gm),Uk⟩) (qlaw:PySem.W.codeIn K Bd "law" = true) (klaw:PySem.W.keepIn K (.ref pV)=true)
  (q3I:PySem.W.nsIn K mainGlobals "MOST_HOUSES" = some (some Gn)) (q3s:RelV (.int 12) Gn)
  (q5V:PySem.W.nsIn K mainGlobals "MOST_WAYS" = some (some Gp)) (q5p:RelV (.int 30) Gp)
  (q4z:PySem.W.nsIn K mainGlobals "MOST_PRICE" = some (some Gq)) (q4p:RelV (.int 1000000000) Gq)
  (zlen:PySem.W.nsIn K mainGlobals "len" = some none)
  (zrange:PySem.W.nsIn K mainGlobals "range" = some none)
  (zlist:PySem.W.nsIn K mainGlobals "list" = some none)
  (ztuple:PySem.W.nsIn K mainGlobals "tuple" = some none)
  (zset:PySem.W.nsIn K mainGlobals "set" = some none)
  (zsorted:PySem.W.nsIn K mainGlobals "sorted" = some none)
  (zmin:PySem.W.nsIn K mainGlobals "min" = some none)
  (zmax:PySem.W.nsIn K mainGlobals "max" = some none)
  (zsum:PySem.W.nsIn K mainGlobals "sum" = some none)
  (zall:PySem.W.nsIn K mainGlobals "all" = some none)
  (zany:PySem.W.nsIn K mainGlobals "any" = some none)
  (zenumerate:PySem.W.nsIn K mainGlobals "enumerate" = some none)
  (zzip:PySem.W.nsIn K mainGlobals "zip" = some none)
  (zisinstance:PySem.W.nsIn K mainGlobals "isinstance" = some none)
  (zint:PySem.W.nsIn K mainGlobals "int" = some none)
  (zbool:PySem.W.nsIn K mainGlobals "bool" = some none)
  (zstr:PySem.W.nsIn K mainGlobals "str" = some none)
  : ∃ fd:FuncData,(∀ (s:Shared) (v:Value),BindsTo s fd ⟨[v],[]⟩ [("script",v)])/\∀ base:Heap,K.In base->base.Ns mainGlobals mg->aT l.prog w K mg base bV 13 fa fd ["script"] (@wu wx K):=by
 have e:=QE.symm.trans (PySem.W.mg_of X G alaw)
 cases e
 letI:aQ:=wx
 have B:BT mg:=⟨PySem.W.mg_none_of X G zlen,PySem.W.mg_none_of X G zrange,PySem.W.mg_none_of X G zlist,PySem.W.mg_none_of X G ztuple,PySem.W.mg_none_of X G zset,PySem.W.mg_none_of X G zsorted,PySem.W.mg_none_of X G zmin,PySem.W.mg_none_of X G zmax,PySem.W.mg_none_of X G zsum,PySem.W.mg_none_of X G zall,PySem.W.mg_none_of X G zany,PySem.W.mg_none_of X G zenumerate,PySem.W.mg_none_of X G zzip,PySem.W.mg_none_of X G zisinstance,PySem.W.mg_none_of X G zint,PySem.W.mg_none_of X G zbool,PySem.W.mg_none_of X G zstr⟩
 have gc:=eG (st:=qM) q7x q7c q4M
 have Um:=gc.binds (ps:=["thing"]) fun _ _ _ _ _ _ us hl=>by obtain⟨_,rfl⟩:=pU hl;rfl
 have fg:=eG (st:=qN) q5F q5s q3Z
 have Uo:=fg.binds (ps:=["thing", "least", "most"]) fun _ _ _ _ _ _ us hl=>by obtain⟨_,_,_,rfl⟩:=rC hl;rfl
 have dR:=eG (st:=qO) q3w q3t q2y
 have Uq:=dR.binds (ps:=["thing", "size"]) fun _ _ _ _ _ _ us hl=>by obtain⟨_,_,rfl⟩:=iI hl;rfl
 have gf:=eG (st:=qP) q7z q7e q4O
 have Ur:=gf.binds (ps:=["many", "one", "other"]) fun _ _ _ _ _ _ us hl=>by obtain⟨_,_,_,rfl⟩:=rC hl;rfl
 have iJ:=eG (st:=qQ) x2x x1P q9A
 have Us:=iJ.binds (ps:=["many", "thing"]) fun _ _ _ _ _ _ us hl=>by obtain⟨_,_,rfl⟩:=iI hl;rfl
 have gg:=eG (st:=qR) q7y q7d q4N
 have Ut:=gg.binds (ps:=["many", "thing"]) fun _ _ _ _ _ _ us hl=>by obtain⟨_,_,rfl⟩:=iI hl;rfl
 have iK:=eG (st:=qS) x2w x1O q9z
 have Uu:=iK.binds (ps:=["thing"]) fun _ _ _ _ _ _ us hl=>by obtain⟨_,rfl⟩:=pU hl;rfl
 have gh:=eG (st:=qT) q7w q7b q4L
 have Uv:=gh.binds (ps:=["web"]) fun _ _ _ _ _ _ us hl=>by obtain⟨_,rfl⟩:=pU hl;rfl
 have fh:=eG (st:=qU) q5D q5r q3Y
 have Uw:=fh.binds (ps:=["web", "ways"]) fun _ _ _ _ _ _ us hl=>by obtain⟨_,_,rfl⟩:=iI hl;rfl
 have iL:=eG (st:=qV) x2v x1N q9y
 have Ux:=iL.binds (ps:=["firsts", "one", "other"]) fun _ _ _ _ _ _ us hl=>by obtain⟨_,_,_,rfl⟩:=rC hl;rfl
 have fj:=eG (st:=qW) q5G q5t q30
 have Uy:=fj.binds (ps:=["web", "ways"]) fun _ _ _ _ _ _ us hl=>by obtain⟨_,_,rfl⟩:=iI hl;rfl
 have g5:=eG (st:=rA) q9u q9i q6L
 have Uz:=g5.binds (ps:=["web", "ways"]) fun _ _ _ _ _ _ us hl=>by obtain⟨_,_,rfl⟩:=iI hl;rfl
 have fq:=eG (st:=qX) q5C q5q q3W
 have UA:=fq.binds (ps:=["web", "ways"]) fun _ _ _ _ _ _ us hl=>by obtain⟨_,_,rfl⟩:=iI hl;rfl
 have dS:=eG (st:=qY) q3A q3v q2A
 have UB:=dS.binds (ps:=["cell", "at"]) fun _ _ _ _ _ _ us hl=>by obtain⟨_,_,rfl⟩:=iI hl;rfl
 have ft:=eG (st:=rB) q5J q5w q32
 have UC:=ft.binds (ps:=["script"]) fun _ _ _ _ _ _ us hl=>by obtain⟨_,rfl⟩:=pU hl;rfl
 have fu:=eG (st:=qZ) q5L q5y q34
 have UD:=fu.binds (ps:=["pen"]) fun _ _ _ _ _ _ us hl=>by obtain⟨_,rfl⟩:=pU hl;rfl
 have fw:=eG (st:=q9) q5H q5u q31
 have UE:=fw.binds (ps:=["pen", "many"]) fun _ _ _ _ _ _ us hl=>by obtain⟨_,_,rfl⟩:=iI hl;rfl
 have fx:=eG (st:=pS) q5I q5v q2Z
 have Gr:=fx.binds (ps:=["found", "due"]) fun _ _ _ _ _ _ us hl=>by obtain⟨_,_,rfl⟩:=iI hl;rfl
 have cR:=eG (st:=q_) q2L q2I q1T
 have UG:=cR.binds (ps:=["pen", "kind", "many"]) fun _ _ _ _ _ _ us hl=>by obtain⟨_,_,_,rfl⟩:=rC hl;rfl
 have gj:=eG (st:=rh) q7A q7f q4P
 have UH:=gj.binds (ps:=["pen", "houses", "most"]) fun _ _ _ _ _ _ us hl=>by obtain⟨_,_,_,rfl⟩:=rC hl;rfl
 have cS:=eG (st:=rm) q2M q2J q1U
 have UI:=cS.binds (ps:=["web", "ways"]) fun _ _ _ _ _ _ us hl=>by obtain⟨_,_,rfl⟩:=iI hl;rfl
 have fy:=eG (st:=rp) q5K q5x q33
 have UJ:=fy.binds (ps:=["web", "ways"]) fun _ _ _ _ _ _ us hl=>by obtain⟨_,_,rfl⟩:=iI hl;rfl
 have dU:=eG (st:=rq) q3z q3u q2z
 have UK:=dU.binds (ps:=["web", "ways"]) fun _ _ _ _ _ _ us hl=>by obtain⟨_,_,rfl⟩:=iI hl;rfl
 have cx:=eG (st:=rz) q2m q2j q1B
 have UL:=cx.binds (ps:=["pen", "web", "most"]) fun _ _ _ _ _ _ us hl=>by obtain⟨_,_,_,rfl⟩:=rC hl;rfl
 have uS:=eG (st:=kz) llaw qlaw klaw
 have UM:=uS.binds (ps:=["script"]) fun _ _ _ _ _ _ us hl=>by obtain⟨_,rfl⟩:=pU hl;rfl
 refine⟨PySem.W.fnOf "law" "law" (dj kz) (cU kz) (a7 kz) .none Gi Gj Gk Gh Bd Gm,fun s v => .of_eq rfl,fun base _ _ => ?_⟩
 have UN:Fn l.prog w K mg base 1 "is_whole" ["thing"] (aR ur 1) wN _:=⟨Pd gc B,PySem.W.mg_of X G q8g,q4M,Um⟩
 have xm:Fn l.prog w K mg base 2 "is_within" ["thing", "least", "most"] (aR jz 3) wO _:=⟨Pe fg B UN,PySem.W.mg_of X G q54,q3Z,Uo⟩
 have Gs:Fn l.prog w K mg base 1 "is_tuple_of" ["thing", "size"] (aR pK 2) wQ _:=⟨Ph dR B,PySem.W.mg_of X G q3L,q2y,Uq⟩
 have UO:Fn l.prog w K mg base 3 "are_ends" ["many", "one", "other"] (aR uw 3) wR _:=⟨Pj gf B xm,PySem.W.mg_of X G q8i,q4O,Ur⟩
 have UP:Fn l.prog w K mg base 4 "is_way" ["many", "thing"] (aR ux 2) wU _:=⟨Pk iJ B ⟨q4p,PySem.W.mg_of X G q4z⟩ Gs UO xm,PySem.W.mg_of X G x3V,q9A,Us⟩
 have UQ:Fn l.prog w K mg base 5 "are_ways" ["many", "thing"] (aR uy 2) wV _:=⟨Po gg B ⟨q5p,PySem.W.mg_of X G q5V⟩ UP,PySem.W.mg_of X G q8h,q4N,Ut⟩
 have UR:Fn l.prog w K mg base 6 "is_web" ["thing"] (aR uA 1) wW _:=⟨Pr iK B ⟨q3s,PySem.W.mg_of X G q3I⟩ Gs xm UQ,PySem.W.mg_of X G x3U,q9z,Uu⟩
 have US:Fn l.prog w K mg base 7 "need_web" ["web"] (aR uI 1) wX _:=⟨Pw gh B UR,PySem.W.mg_of X G q8d,q4L,Uv⟩
 have Be:Fn l.prog w K mg base 8 "need_ways" ["web", "ways"] (aR mB 2) wY _:=⟨Pz fh B US xm,PySem.W.mg_of X G q53,q3Y,Uw⟩
 have UT:Fn l.prog w K mg base 1 "joined" ["firsts", "one", "other"] (aR qH 3) wZ _:=⟨PH iL B,PySem.W.mg_of X G x3T,q9y,Ux⟩
 have UU:Fn l.prog w K mg base 2 "firsts_of" ["web", "ways"] (aR qI 2) w5 _:=⟨PJ fj B UT,PySem.W.mg_of X G q55,q30,Uy⟩
 have UW:Fn l.prog w K mg base 9 "lots_of" ["web", "ways"] (qL wy 2) w6 _:=⟨Qa g5 B Be UU,PySem.W.mg_of X G x0a,q6L,Uz⟩
 have UX:Fn l.prog w K mg base 9 "weight_of" ["web", "ways"] (aR uP 2) w9 _:=⟨PM fq B Be,PySem.W.mg_of X G q51,q3W,UA⟩
 have UY:Fn l.prog w K mg base 1 "_law_spread" ["cell", "at"] (aR ui 2) w_ _:=⟨PN dS B,PySem.W.mg_of X G q3N,q2A,UB⟩
 have UZ:Fn l.prog w K mg base 1 "_law_open" ["script"] (AN K) xa _:=⟨Qd ft B.list B.enumerate,PySem.W.mg_of X G q57,q32,UC⟩
 have U0:Fn l.prog w K mg base 1 "_law_anew" ["pen"] (aR um 1) xb _:=⟨PQ fu B,PySem.W.mg_of X G q59,q34,UD⟩
 have Bf:Fn l.prog w K mg base 2 "_law_take" ["pen", "many"] (aR f6 2) xc _:=⟨PR fw B UY,PySem.W.mg_of X G q56,q31,UE⟩
 have U1:Fn l.prog w K mg base 4 "_law_same" ["found", "due"] (aR (km 3) 2) xf _:=⟨Ql fx B (PySem.W.mg_of X G q4j) q2Z Gr 3,PySem.W.mg_of X G q4j,q2Z,Gr⟩
 have U2:Fn l.prog w K mg base 3 "_law_pairs_of" ["pen", "kind", "many"] (aR uo 3) xg _:=⟨PX cR B Bf,PySem.W.mg_of X G q2P,q1T,UG⟩
 have U3:Fn l.prog w K mg base 4 "_law_web" ["pen", "houses", "most"] (aR uq 3) xh _:=⟨PY gj B Bf U2,PySem.W.mg_of X G q8j,q4P,UH⟩
 have U4:Fn l.prog w K mg base 1 "_law_marks_by" ["web", "ways"] (aR uF 2) xi _:=⟨P5 cS B,PySem.W.mg_of X G q2Q,q1U,UI⟩
 have U5:Fn l.prog w K mg base 2 "_law_lots" ["web", "ways"] (aR uH 2) xj _:=⟨P6 fy B U4,PySem.W.mg_of X G q58,q33,UJ⟩
 have U6:Fn l.prog w K mg base 1 "_law_weight" ["web", "ways"] (aR uG 2) xk _:=⟨P9 dU B,PySem.W.mg_of X G q3M,q2z,UK⟩
 have U7:Fn l.prog w K mg base 3 "_law_some_ways" ["pen", "web", "most"] (aR qK 3) xl _:=⟨P_ cx B Bf,PySem.W.mg_of X G q2u,q1B,UL⟩
 exact Qm uS B UZ U3 U0 U7 UW U1 U5 U6 UX Be
theorem walk {l:PySem.W.OpenLaw} {q:Program} {loose:List Str} {XP:(Str->Option Value)->Heap->Prop} {YP:World->Heap->Prop} {d:DefRec} {K:Params->PySem.W.Frag} (hn:l.most=some 63) (sG:d.params.defaults=[])
  (hY:∀ (w:World) (h:Heap),YP w h->(K w.params).In h)
  (F:∀ (w:World) (mg:Str->Option Value) (fa:Addr) (h:Heap),(K w.params).In h->h.Ns mainGlobals mg->mg d.name=some (.ref fa) →
   ∃ fd:FuncData,(∀ (s:Shared) (u:Value),BindsTo s fd ⟨[u],[]⟩ [("script",u)])/\∀ base:Heap,(K w.params).In base->base.Ns mainGlobals mg->aT l.prog w (K w.params) mg base bV 13 fa fd ["script"] (@wu wx (K w.params))) :
  PySem.W.WalkO q loose XP YP l.row.toRowW d [] (fun f vs=>PySem.call f vs) :=
 L2.CM (n:=63) (k:=13) (x := "script") (CX:=fun _=>bV) (sp:=fun w=>@wu wx (K w.params)) hn (by decide) sG ⟨rfl,by decide,by decide⟩ hY F (fun _ _ a ns hl _ hS=>⟨a,ns,rfl,hS,hl,trivial,fun _=>rfl⟩) fun _ _ _ _ _ z=>z
end LJ
open PySem PySem.W PyProof.Rows
set_option maxRecDepth 100000 in
set_option maxHeartbeats 0 in
theorem PySem.Challenge.cw_lotjoin_k03_lots_told_holds : PySem.Challenge.rw_lotjoin_k03_lots_told.Holds := by
 w_on;o_law;k_head; (case hw=>w_witness2)
 k_fill
 refine LJ.walk (l:=PySem.Challenge.rw_lotjoin_k03_lots_told) rfl rfl (fun w h Y=>PySem.W.kIn_of Y) ?F
 case F =>
  intro w mg fa h KX G oA
  refine' LJ.QD KX G oA ?q8g ?q7x ?q7c ?q4M ?q54 ?q5F ?q5s ?q3Z ?q3L ?q3w ?q3t ?q2y ?q8i ?q7z ?q7e ?q4O ?x3V ?x2x ?x1P ?q9A ?q8h ?q7y ?q7d ?q4N ?x3U ?x2w ?x1O ?q9z ?q8d ?q7w ?q7b ?q4L ?q53 ?q5D ?q5r ?q3Y ?x3T ?x2v ?x1N ?q9y ?q55 ?q5G ?q5t ?q30 ?x0a ?q9u ?q9i ?q6L ?q51 ?q5C ?q5q ?q3W ?q3N ?q3A ?q3v ?q2A ?q57 ?q5J ?q5w ?q32 ?q59 ?q5L ?q5y ?q34 ?q56 ?q5H ?q5u ?q31 ?q4j ?q5I ?q5v ?q2Z ?q2P ?q2L ?q2I ?q1T ?q8j ?q7A ?q7f ?q4P ?q2Q ?q2M ?q2J ?q1U ?q58 ?q5K ?q5x ?q33 ?q3M ?q3z ?q3u ?q2z ?q2u ?q2m ?q2j ?q1B ?alaw ?llaw ?qlaw ?klaw ?q3I ?q3s ?q5V ?q5p ?q4z ?q4p ?zlen ?zrange ?zlist ?ztuple ?zset ?zsorted ?zmin ?zmax ?zsum ?zall ?zany ?zenumerate ?zzip ?zisinstance ?zint ?zbool ?zstr
  (case q8g=>k_is)
  (case q7x=>k_is)
  (case q7c=>k_is)
  (case q4M=>k_is)
  (case q54=>k_is)
  (case q5F=>k_is)
  (case q5s=>k_is)
  (case q3Z=>k_is)
  (case q3L=>k_is)
  (case q3w=>k_is)
  (case q3t=>k_is)
  (case q2y=>k_is)
  (case q8i=>k_is)
  (case q7z=>k_is)
  (case q7e=>k_is)
  (case q4O=>k_is)
  (case x3V=>k_is)
  (case x2x=>k_is)
  (case x1P=>k_is)
  (case q9A=>k_is)
  (case q8h=>k_is)
  (case q7y=>k_is)
  (case q7d=>k_is)
  (case q4N=>k_is)
  (case x3U=>k_is)
  (case x2w=>k_is)
  (case x1O=>k_is)
  (case q9z=>k_is)
  (case q8d=>k_is)
  (case q7w=>k_is)
  (case q7b=>k_is)
  (case q4L=>k_is)
  (case q53=>k_is)
  (case q5D=>k_is)
  (case q5r=>k_is)
  (case q3Y=>k_is)
  (case x3T=>k_is)
  (case x2v=>k_is)
  (case x1N=>k_is)
  (case q9y=>k_is)
  (case q55=>k_is)
  (case q5G=>k_is)
  (case q5t=>k_is)
  (case q30=>k_is)
  (case x0a=>k_is)
  (case q9u=>k_is)
  (case q9i=>k_is)
  (case q6L=>k_is)
  (case q51=>k_is)
  (case q5C=>k_is)
  (case q5q=>k_is)
  (case q3W=>k_is)
  (case q3N=>k_is)
  (case q3A=>k_is)
  (case q3v=>k_is)
  (case q2A=>k_is)
  (case q57=>k_is)
  (case q5J=>k_is)
  (case q5w=>k_is)
  (case q32=>k_is)
  (case q59=>k_is)
  (case q5L=>k_is)
  (case q5y=>k_is)
  (case q34=>k_is)
  (case q56=>k_is)
  (case q5H=>k_is)
  (case q5u=>k_is)
  (case q31=>k_is)
  (case q4j=>k_is)
  (case q5I=>k_is)
  (case q5v=>k_is)
  (case q2Z=>k_is)
  (case q2P=>k_is)
  (case q2L=>k_is)
  (case q2I=>k_is)
  (case q1T=>k_is)
  (case q8j=>k_is)
  (case q7A=>k_is)
  (case q7f=>k_is)
  (case q4P=>k_is)
  (case q2Q=>k_is)
  (case q2M=>k_is)
  (case q2J=>k_is)
  (case q1U=>k_is)
  (case q58=>k_is)
  (case q5K=>k_is)
  (case q5x=>k_is)
  (case q33=>k_is)
  (case q3M=>k_is)
  (case q3z=>k_is)
  (case q3u=>k_is)
  (case q2z=>k_is)
  (case q2u=>k_is)
  (case q2m=>k_is)
  (case q2j=>k_is)
  (case q1B=>k_is)
  (case alaw=>k_is)
  (case llaw=>k_is)
  (case qlaw=>k_is)
  (case klaw=>k_is)
  (case q3I=>k_is)
  (case q3s=>exact⟨_,rfl⟩)
  (case q5V=>k_is)
  (case q5p=>exact⟨_,rfl⟩)
  (case q4z=>k_is)
  (case q4p=>exact⟨_,rfl⟩)
  (case zlen=>k_is)
  (case zrange=>k_is)
  (case zlist=>k_is)
  (case ztuple=>k_is)
  (case zset=>k_is)
  (case zsorted=>k_is)
  (case zmin=>k_is)
  (case zmax=>k_is)
  (case zsum=>k_is)
  (case zall=>k_is)
  (case zany=>k_is)
  (case zenumerate=>k_is)
  (case zzip=>k_is)
  (case zisinstance=>k_is)
  (case zint=>k_is)
  (case zbool=>k_is)
  (case zstr=>k_is)
