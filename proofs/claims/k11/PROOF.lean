import PyProof.Rows.All
import Wide.All
import OpenK.AllK
import Wide.FinOn
import HandS.TupSets
import HandS.SortInts
import HandS.SortRule
import HandS.Strs
import HandS.ForExc
import HandS.ForMost
import HandS.ExcCtx
import HandS.HotCalls
import HandS.ExcIs
import HandS.IsInst
import HandS.More
import HandS.Flow
import HandS.Evl
import HandS.SetIn
import HandS.Deep
import HandS.Style
import HandS.Zip
import HandS.Sort
import PyProof.DictUpdate
import PyProof.ListRange
import HandS.SetFor
import KE.DataFind
import PyProof.StrBlock2
import HandS.List
import HandS.Walk
import HandS.Small
import HandS.Iter
import PySem.Challenge.RW_oddpairs_k11_whole_kept
set_option Elab.async false
set_option linter.all false
set_option maxRecDepth 100000
set_option maxHeartbeats 4000000

/-! Sets of tuples of ints, up to a thousand members: the masks 7, 31, 127, 511, 2047. -/
namespace Bs
open PySem PySem.Spec PyProof.Rows L2

/-- the masks that come while a set grows one by one to a thousand -/
def Msk (m : Nat) : Prop := m = 7 ∨ m = 31 ∨ m = 127 ∨ m = 511 ∨ m = 2047

/-! ### the round of the leaps -/
def st5 (m x : Nat) : Nat := (x * 5 + 1) % (m + 1)
/-- f steps from x: where one stands, and a number whose bits tell where one was -/
def trail (m : Nat) : Nat → Nat → Nat → Nat × Nat
  | 0, x, acc => (x, acc)
  | f + 1, x, acc => trail m f (st5 m x) (acc ||| (1 <<< x))
theorem lcgI_front (m : Nat) : ∀ (k x : Nat), lcgI m x (k + 1) = lcgI m (st5 m x) k
  | 0, _ => rfl
  | k + 1, x => by
    show (lcgI m x (k + 1) * 5 + 1) % (m + 1) = (lcgI m (st5 m x) k * 5 + 1) % (m + 1)
    rw [lcgI_front m k x]
theorem trail_at (m : Nat) : ∀ (f x acc : Nat), (trail m f x acc).1 = lcgI m x f
  | 0, _, _ => rfl
  | f + 1, x, acc => (trail_at m f _ _).trans (lcgI_front m f x).symm
theorem trail_bit (m j : Nat) : ∀ (f x acc : Nat), (trail m f x acc).2.testBit j = true → acc.testBit j = true ∨ ∃ b, b < f ∧ lcgI m x b = j
  | 0, _, _, h => .inl h
  | f + 1, x, acc, h => by
    rcases trail_bit m j f _ _ h with c | ⟨b, hb, e⟩
    · rw [Nat.testBit_or, Nat.one_shiftLeft, Nat.testBit_two_pow, Bool.or_eq_true, decide_eq_true_eq] at c
      rcases c with c | c
      · exact .inl c
      · exact .inr ⟨0, Nat.succ_pos _, c⟩
    · exact .inr ⟨b + 1, Nat.succ_lt_succ hb, (lcgI_front m b x).trans e⟩
theorem trail_all {m : Nat} (h : Msk m) : trail m (m + 1) 0 0 = (0, 2 ^ (m + 1) - 1) := by
  rcases h with e | e | e | e | e <;> subst e <;> decide +kernel
theorem lcgI_plus (m x a : Nat) : ∀ k, lcgI m (lcgI m x a) k = lcgI m x (a + k)
  | 0 => rfl
  | k + 1 => congrArg (st5 m) (lcgI_plus m x a k)
theorem round_all {m : Nat} (h : Msk m) {i j : Nat} (hi : i ≤ m) (hj : j ≤ m) : ∃ k, k ≤ m ∧ lcgI m i k = j := by
  have T := trail_all h
  have back : lcgI m 0 (m + 1) = 0 := by rw [← trail_at m (m + 1) 0 0, T]
  have hit : ∀ y, y ≤ m → ∃ b, b ≤ m ∧ lcgI m 0 b = y := fun y hy => by
    have q : (trail m (m + 1) 0 0).2.testBit y = true := by
      rw [T]
      show (2 ^ (m + 1) - 1).testBit y = true
      rw [Nat.testBit_two_pow_sub_one, decide_eq_true_eq]
      omega
    rcases trail_bit m y _ _ _ q with c | ⟨b, hb, e⟩
    · rw [Nat.zero_testBit] at c; cases c
    · exact ⟨b, Nat.le_of_lt_succ hb, e⟩
  obtain ⟨a, ha, ea⟩ := hit i hi
  obtain ⟨b, hb, eb⟩ := hit j hj
  subst ea
  by_cases c : a ≤ b
  · exact ⟨b - a, by omega, by rw [lcgI_plus, Nat.add_sub_cancel' c]; exact eb⟩
  · refine ⟨m + 1 + b - a, by omega, ?_⟩
    rw [lcgI_plus, show a + (m + 1 + b - a) = m + 1 + b by omega, ← lcgI_plus m 0 (m + 1) b, back]
    exact eb
theorem begins {m : Nat} (h : Msk m) (x : Int) {j : Nat} (hj : j ≤ m) : ∃ n, n ≤ m + 12 ∧ runI m (SetTable.bits x) n = j := by
  obtain ⟨k, hk, e⟩ := round_all h (runI_le m (SetTable.bits x) 12) hj
  exact ⟨12 + k, by omega, (runI_tail (bits_lt x) k).trans e⟩
theorem way_top {m : Nat} {x : Int} {k : Nat} : way m x k ≤ m := by
  have hi : SetTable.bits x % (m + 1) ≤ m := Nat.le_of_lt_succ (Nat.mod_lt _ (Nat.succ_pos _))
  have r := runEnd_bd hi
  have q : (nth m (runAt m (SetTable.bits x % (m + 1)) (SetTable.bits x)) k).j + _ ≤ m := nth_in (m := m) k _ (by
    show SetTable.bits x % (m + 1) + (SetTable.runEnd m (SetTable.bits x % (m + 1)) - SetTable.bits x % (m + 1)) ≤ m
    omega)
  exact Nat.le_trans (Nat.le_add_right _ _) q
theorem comes {m : Nat} (h : Msk m) (x : Int) {j : Nat} (hj : j ≤ m) : ∃ k, k < 10 * SetTable.turns m ∧ way m x k = j := by
  obtain ⟨n, hn, e⟩ := begins h x hj
  obtain ⟨k, hk, e2⟩ := run_nth m (SetTable.bits x) n
  refine ⟨k, by unfold SetTable.turns; omega, ?_⟩
  show (nth m _ k).j = j
  rw [e2]
  exact e

/-! ### tables -/
/-- a table in which each hash is found again, no slot between being empty -/
structure Tab (t : SetTable) (hs : List Int) : Prop where
  up : Ris t.place.toList
  dm : t.dummies = #[]
  sz : t.place.toList.length = hs.length
  ms : Msk t.mask
  bd : ∀ x ∈ t.place.toList, x ≤ t.mask
  fd : ∀ (i : Nat) (x : Int) (j : Nat), hs[i]? = some x → t.place.toList[i]? = some j → ∃ k, way t.mask x k = j ∧ ∀ k', k' < k → way t.mask x k' ∈ t.place.toList
theorem Tab.gap {t : SetTable} {hs : List Int} (T : Tab t hs) (hl : hs.length ≤ t.mask) (x : Int) :
    ∃ K, K < 10 * SetTable.turns t.mask ∧ way t.mask x K ∉ t.place.toList ∧ ∀ k, k < K → way t.mask x k ∈ t.place.toList := by
  have z := T.sz
  obtain ⟨j, hj, hn⟩ := st_missing t.place.toList (t.mask + 1) (by omega)
  obtain ⟨k, hk, e⟩ := comes T.ms x (Nat.le_of_lt_succ hj)
  obtain ⟨K, a, b, c⟩ := st_least (p := fun k => way t.mask x k ∉ t.place.toList) k (fun q => hn (e ▸ q))
  exact ⟨K, Nat.lt_of_le_of_lt a hk, b, fun k' q => Classical.byContradiction fun y => c k' q y⟩
theorem Tab.ahead {t : SetTable} {hs : List Int} (T : Tab t hs) {x : Int} {K i j : Nat} (hK : way t.mask x K ∉ t.place.toList) (hi : hs[i]? = some x) (hj : t.place.toList[i]? = some j) : ∃ k, k < K ∧ way t.mask x k = j := by
  obtain ⟨k, e, hb⟩ := T.fd i x j hi hj
  refine ⟨k, Nat.lt_of_not_le fun c => ?_, e⟩
  rcases Nat.lt_or_eq_of_le c with c | c
  · exact hK (hb K c)
  · subst c
    exact hK (e ▸ List.mem_of_getElem? hj)
theorem Tab.place {t : SetTable} {hs : List Int} (T : Tab t hs) {x : Int} {K : Nat} (hK : way t.mask x K ∉ t.place.toList) (hb : ∀ k, k < K → way t.mask x k ∈ t.place.toList) :
    ∃ p t1, t.put (way t.mask x K) = (t1, p) ∧ p ≤ hs.length ∧ Tab t1 (hs.take p ++ x :: hs.drop p) ∧ t1.mask = t.mask ∧ t1.led = t.led ∧ t1.plain = t.plain ∧ t1.fill = hs.length + 1 := by
  obtain ⟨j, hj⟩ : ∃ j, j = way t.mask x K := ⟨_, rfl⟩
  have top : j ≤ t.mask := by rw [hj]; exact way_top
  rw [← hj] at hK ⊢
  have lo : SetTable.below t.place j ≤ t.place.toList.length := (below_cut T.up j).1
  have lh : SetTable.below t.place j ≤ hs.length := by rw [← T.sz]; exact lo
  have pp := put_place t j
  have up : ∀ {y : Nat}, y ∈ t.place.toList → y ∈ (t.put j).1.place.toList := fun hy => by rw [pp]; exact mem_ins.2 (.inr hy)
  have ln : (t.put j).1.place.toList.length = hs.length + 1 := by rw [pp, len_ins _ lo, T.sz]
  refine ⟨SetTable.below t.place j, (t.put j).1, rfl, lh, ⟨?_, put_dm T.dm j, ?_, T.ms, fun y hy => ?_, fun i x' j' a b => ?_⟩, rfl, rfl, rfl, ?_⟩
  · exact ris_insert T.up fun e => hK (List.mem_of_getElem? (by rw [Array.getElem?_toList]; exact e))
  · rw [len_ins _ lh]; exact ln
  · rw [pp] at hy
    rcases mem_ins.1 hy with z | z
    · rw [z]; exact top
    · exact T.bd y z
  · rw [tins_get hs lh] at a
    rw [pp, tins_get _ lo] at b
    show ∃ k, way t.mask x' k = j' ∧ ∀ k', k' < k → way t.mask x' k' ∈ (t.put j).1.place.toList
    have old : ∀ i', hs[i']? = some x' → t.place.toList[i']? = some j' → ∃ k, way t.mask x' k = j' ∧ ∀ k', k' < k → way t.mask x' k' ∈ (t.put j).1.place.toList := fun i' a' b' => by
      obtain ⟨k, e, z⟩ := T.fd i' x' j' a' b'
      exact ⟨k, e, fun k' q => up (z k' q)⟩
    by_cases c : i < SetTable.below t.place j
    · rw [if_pos c] at a b; exact old i a b
    · by_cases d : i = SetTable.below t.place j
      · rw [if_neg c, if_pos d] at a b
        cases a; cases b
        exact ⟨K, hj.symm, fun k' q => up (hb k' q)⟩
      · rw [if_neg c, if_neg d] at a b; exact old _ a b
  · show (t.put j).1.place.size + (t.put j).1.dummies.size = hs.length + 1
    rw [put_dm T.dm j, ← Array.length_toList, ln]; rfl

/-! ### a table laid anew -/
theorem sits {m : Nat} (hm : Msk m) (ow : Array (Option Nat)) (x : Int) {j : Nat} (hj : j ≤ m) (hf : oAt ow j = none) :
    ∃ K, SetTable.layClean.free m ow (SetTable.turns m) (SetTable.bits x % (m + 1)) (SetTable.bits x) = some (way m x K) ∧ oAt ow (way m x K) = none ∧ ∀ k, k < K → oAt ow (way m x k) ≠ none := by
  obtain ⟨n, hn, e⟩ := begins hm x hj
  have hw : way m x (off m (SetTable.bits x % (m + 1)) (SetTable.bits x) n) = j := by
    show (nth m (runAt m (SetTable.bits x % (m + 1)) (SetTable.bits x)) _).j = j
    rw [nth_off, itL_run]; exact e
  obtain ⟨K, k1, k2, k3⟩ := st_least (p := fun k => oAt ow (way m x k) = none) _ (show oAt ow (way m x _) = none from hw ▸ hf)
  refine ⟨K, free_spec m ow (SetTable.turns m) n _ _ K (by unfold SetTable.turns; omega) k1 (fun k q => ?_) ?_, k2, k3⟩
  · exact Option.isNone_eq_false_iff.mpr (Option.isSome_iff_ne_none.mpr (k3 k q))
  · exact Option.isNone_iff_eq_none.mpr k2
theorem sits_more {m : Nat} (hm : Msk m) {dn : List Int} {ow : Array (Option Nat)} (W : Own m dn ow) (hl : dn.length ≤ m) (x : Int) :
    ∃ j, SetTable.layClean.free m ow (SetTable.turns m) (SetTable.bits x % (m + 1)) (SetTable.bits x) = some j ∧ Own m (dn ++ [x]) (ow.setIfInBounds j (some dn.length)) := by
  obtain ⟨ps, hps, hin⟩ := W.ps
  obtain ⟨j0, h0, n0⟩ := st_missing ps (m + 1) (by omega)
  have f0 : oAt ow j0 = none := Classical.byContradiction fun z => n0 (hin j0 (Nat.le_of_lt_succ h0) z)
  obtain ⟨K, e1, e2, e3⟩ := sits hm ow x (Nat.le_of_lt_succ h0) f0
  have hjm : way m x K ≤ m := way_top
  have own := oAt_set_self (owner := ow) (j := way m x K) (some dn.length) (by rw [W.sz]; exact Nat.lt_succ_of_le hjm)
  have keep : ∀ {i : Nat}, oAt ow i ≠ none → oAt (ow.setIfInBounds (way m x K) (some dn.length)) i ≠ none := fun {i} hi => by
    by_cases c : i = way m x K
    · rw [c, own]; exact fun z => nomatch z
    · rw [oAt_set_ne _ c]; exact hi
  refine ⟨way m x K, e1, by rw [Array.size_setIfInBounds]; exact W.sz, fun j k hj e => ?_, fun k hk => ?_, way m x K :: ps, by rw [List.length_cons, List.length_append, hps]; rfl, fun j hj e => ?_⟩
  · by_cases c : j = way m x K
    · rw [c, own] at e
      cases e
      exact ⟨x, K, by rw [List.getElem?_append_right (Nat.le_refl _), Nat.sub_self]; rfl, c.symm, fun k' q => keep (e3 k' q)⟩
    · rw [oAt_set_ne _ c] at e
      obtain ⟨y, K', a, b, d⟩ := W.at_ j k hj e
      exact ⟨y, K', by rw [List.getElem?_append_left (List.getElem?_eq_some_iff.mp a).1]; exact a, b, fun k' q => keep (d k' q)⟩
  · rw [List.length_append, List.length_singleton] at hk
    by_cases c : k < dn.length
    · obtain ⟨j, hj, e⟩ := W.all k c
      exact ⟨j, hj, by rw [oAt_set_ne _ (fun z => by rw [z, e2] at e; cases e)]; exact e⟩
    · exact ⟨way m x K, hjm, by rw [own, show k = dn.length by omega]⟩
  · by_cases c : j = way m x K
    · exact c ▸ List.mem_cons_self
    · rw [oAt_set_ne _ c] at e
      exact List.mem_cons_of_mem _ (hin j hj e)
theorem sits_all {m : Nat} (hm : Msk m) : ∀ (rest dn : List Int) (ow : Array (Option Nat)), Own m dn ow → dn.length + rest.length ≤ m →
    ∃ ow', rest.foldl (stepF m) (some (ow, dn.length)) = some (ow', (dn ++ rest).length) ∧ Own m (dn ++ rest) ow'
  | [], dn, ow, W, _ => ⟨ow, by rw [List.append_nil]; rfl, by rw [List.append_nil]; exact W⟩
  | x :: rest, dn, ow, W, hl => by
    obtain ⟨j, e, W1⟩ := sits_more hm W (by rw [List.length_cons] at hl; omega) x
    have l1 : (dn ++ [x]).length = dn.length + 1 := List.length_append
    obtain ⟨ow', f, W2⟩ := sits_all hm rest (dn ++ [x]) _ W1 (by rw [l1]; rw [List.length_cons] at hl; omega)
    have ea : dn ++ [x] ++ rest = dn ++ x :: rest := by rw [List.append_assoc]; rfl
    rw [ea] at W2
    rw [ea, l1] at f
    exact ⟨ow', by rw [List.foldl_cons, stepF_some e]; exact f, W2⟩
theorem anew (t : SetTable) {hs : Array Int} {wanted M : Nat} (hw : SetTable.sizeAbove wanted - 1 = M) (hM : Msk M) (hn : hs.size ≤ M) :
    ∃ t' order, t.relaid hs wanted = some (t', order) ∧ order.toList.Perm (List.range hs.size) ∧ Tab t' (order.toList.map fun i => hs.getD i 0) ∧ t'.mask = M ∧ t'.led = t.led ∧ t'.plain = t.plain := by
  obtain ⟨ow, f, W⟩ := sits_all hM hs.toList [] _ (Own.init M) (by show 0 + hs.size ≤ M; omega)
  rw [List.nil_append] at W
  have lay : SetTable.layClean M hs = some ow := by
    rw [layClean_eq, show hs.toList.foldl (stepF M) (some (Array.replicate (M + 1) none, 0)) = _ from f]; rfl
  have hr : t.relaid hs wanted = some (tabOf t M ow, ((liveOf M ow).map (·.2)).toArray) := by rw [relaid_eq, hw, lay]; rfl
  obtain ⟨r1, r2⟩ := ris_live (fun j => ow.getD j none) (List.range (M + 1)) (by unfold Ris; exact List.pairwise_lt_range)
  have r1' : Ris ((liveOf M ow).map (·.1)) := r1
  have r2' : ∀ x ∈ (liveOf M ow).map (·.1), x ∈ List.range (M + 1) := r2
  have le : (liveOf M ow).length = hs.size := by
    obtain ⟨ps, p1, p2⟩ := W.ps
    have nd : ((liveOf M ow).map (·.1)).Nodup := List.Pairwise.imp (fun h => Nat.ne_of_lt h) r1'
    have a := nat_nodup_len ((liveOf M ow).map (·.1)) ps nd fun x hx => by
      obtain ⟨⟨y, k⟩, hq, rfl⟩ := List.mem_map.mp hx
      obtain ⟨b1, b2⟩ := (mem_live W.sz).1 hq
      exact p2 y b1 (by rw [b2]; exact fun z => nomatch z)
    have b := nat_nodup_len (List.range hs.size) ((liveOf M ow).map (·.2)) List.nodup_range fun k hk => by
      obtain ⟨j, b1, b2⟩ := W.all k (List.mem_range.mp hk)
      exact List.mem_map.mpr ⟨(j, k), (mem_live W.sz).2 ⟨b1, b2⟩, rfl⟩
    rw [List.length_map, p1] at a
    rw [List.length_map, List.length_range] at b
    exact Nat.le_antisymm a b
  refine ⟨_, _, hr, perm_range hs.size _ (by rw [List.toList_toArray, List.length_map]; exact le) fun k hk => ?_, ⟨r1', rfl, ?_, hM, fun x hx => ?_, fun i x j a b => ?_⟩, rfl, rfl, rfl⟩
  · obtain ⟨j, b1, b2⟩ := W.all k hk
    exact List.mem_map.mpr ⟨(j, k), (mem_live W.sz).2 ⟨b1, b2⟩, rfl⟩
  · show ((liveOf M ow).map (·.1)).length = (((liveOf M ow).map (·.2)).map fun i => hs.getD i 0).length
    rw [List.length_map, List.length_map, List.length_map]
  · exact Nat.le_of_lt_succ (List.mem_range.mp (r2' x hx))
  · have a' : (((liveOf M ow).map (·.2)).map fun i => hs.getD i 0)[i]? = some x := a
    have b' : ((liveOf M ow).map (·.1))[i]? = some j := b
    rw [List.getElem?_map, List.getElem?_map] at a'
    rw [List.getElem?_map] at b'
    cases hq : (liveOf M ow)[i]? with
    | none => rw [hq] at b'; cases b'
    | some q =>
      rw [hq] at a' b'
      cases b'
      obtain ⟨b1, b2⟩ := (mem_live W.sz).1 (List.mem_of_getElem? (show (liveOf M ow)[i]? = some (q.1, q.2) from hq))
      obtain ⟨y, K, c1, c2, c3⟩ := W.at_ q.1 q.2 b1 b2
      have ey : hs.getD q.2 0 = y := by rw [Array.getD_eq_getD_getElem?, ← Array.getElem?_toList, c1]; rfl
      have ex : y = x := ey.symm.trans (Option.some.inj a')
      subst ex
      refine ⟨K, c2, fun k' q' => ?_⟩
      show way M y k' ∈ (liveOf M ow).map (·.1)
      cases z : oAt ow (way M y k') with
      | none => exact absurd z (c3 k' q')
      | some k2 => exact List.mem_map.mpr ⟨(_, k2), (mem_live W.sz).2 ⟨way_top, z⟩, rfl⟩
end Bs

namespace Bs
open PySem PySem.Spec PyProof.Rows L2

/-- at a stands the set of the tuples L (address and ints), its entries es, its table t -/
structure At (P : Program) (w : World) (h : Heap) (a : Addr) (L : List (Addr × List Int)) (es : Array (Int × Value)) (ep : Nat) (t : SetTable) : Prop where
  ob : ∃ o, h.get? a = some o ∧ o.ExactSet ∧ o.data = .set es ep t
  rw_ : es.toList = rowsOf P w L
  tb : Tab t (L.map fun p => thash P w p.2)
  nd : (L.map (·.2)).Nodup
  tp : ∀ p ∈ L, IsT P w h p.2 p.1
  pl : t.plain = true
  ld : w.params.followText "set-order" = true ∨ t.led = true
  rm : L.length * 5 < t.mask * 3
  fw : L.length < 1200
section
variable {P : Program} {w : World} {A : Around} {E : Value → Shared → Prop} {s : Shared}
variable {a : Addr} {L : List (Addr × List Int)} {es : Array (Int × Value)} {ep : Nat} {t : SetTable}
theorem rows_len (h : es.toList = rowsOf P w L) : es.size = L.length := by
  rw [← Array.length_toList, h]; exact List.length_map _
theorem At.n (R : At P w s.heap a L es ep t) : es.size = L.length := rows_len R.rw_
theorem fits_of {n : Nat} (dm : t.dummies = #[]) (hz : t.place.toList.length = n) (hm : n ≤ t.mask) : t.fits n = true := by
  unfold SetTable.fits SetTable.fill
  rw [dm, Bool.and_eq_true, beq_iff_eq, decide_eq_true_eq]
  exact ⟨hz, by show t.place.size + 0 ≤ t.mask; rw [show t.place.size = n from hz]; exact hm⟩
theorem At.fits (R : At P w s.heap a L es ep t) : t.fits es.size = true := by
  have q := R.rm
  refine fits_of R.tb.dm ?_ (by rw [R.n]; omega)
  rw [R.tb.sz, List.length_map, R.n]
theorem At.row (R : At P w s.heap a L es ep t) {i : Nat} {p : Addr × List Int} (h : L[i]? = some p) : es[i]? = some (thash P w p.2, Value.ref p.1) := by
  rw [← Array.getElem?_toList, R.rw_]
  show (L.map _)[i]? = _
  rw [List.getElem?_map, h]; rfl
theorem no_way (hm : Msk t.mask) : ¬ t.gaveWay = true := by
  unfold SetTable.gaveWay
  rcases hm with e | e | e | e | e <;> rw [e] <;> decide
theorem nth_dummy (m : Nat) : ∀ (n : Nat) (p : SetTable.Probe), p.dummy = none → (nth m p n).dummy = none
  | 0, _, h => h
  | n + 1, p, h => nth_dummy m n (adv m p) (by unfold adv; split <;> exact h)
abbrev go0 (m : Nat) (x : Int) : SetTable.Probe := runAt m (SetTable.bits x % (m + 1)) (SetTable.bits x)

/-- the search from the c-th step of the way on, whether one is to be added or not -/
theorem seek (R : At P w s.heap a L es ep t) {x : Addr} {k : List Int} {ad : Bool} (hx : IsT P w s.heap k x) (hu : A.units < cLine) {K : Nat} (hKf : K < 10 * SetTable.turns t.mask)
    (hK : way t.mask (thash P w k) K ∉ t.place.toList) (hKb : ∀ c, c < K → way t.mask (thash P w k) c ∈ t.place.toList) {Q : SetFound → Shared → Prop}
    (hin : k ∈ L.map (·.2) → ∀ o : Option Nat, (ad = false → o.isSome = true) → Q (.there o) s) (hout : k ∉ L.map (·.2) → Q (.free (way t.mask (thash P w k) K) false) s) :
    ∀ (f c : Nat) (stand : Option SetTable.Probe), stand.getD (t.probeStart (thash P w k)) = nth t.mask (go0 t.mask (thash P w k)) c → c ≤ K → K - c < f →
      (∀ (i : Nat) p, L[i]? = some p → p.2 = k → ∃ c', c ≤ c' ∧ c' < K ∧ t.place.toList[i]? = some (way t.mask (thash P w k) c')) →
      wpAny (model P w) A (setSearchFrom a (.ref x) (thash P w k) ad f stand) Q E s
  | 0, _, _, _, _, hf, _ => absurd hf (Nat.not_lt_zero _)
  | f + 1, c, stand, hst, hc, hf, hre => by
    obtain ⟨o, ho, hex, hd⟩ := R.ob
    rw [setSearchFrom_succ]
    refine wpAny_bind (wpAny_setState_of ho hd R.fits ?_)
    dsimp only
    refine wp_if_neg (no_way R.tb.ms) ?_
    try refine wpAny_bind (wpAny_pure ?_)
    have step : ∀ q, nth t.mask (nth t.mask (go0 t.mask (thash P w k)) c) q = nth t.mask (go0 t.mask (thash P w k)) (c + q) := fun q => (nth_add t.mask c _ q).symm
    have sj : ∀ q, (nth t.mask (nth t.mask (go0 t.mask (thash P w k)) c) q).j = way t.mask (thash P w k) (c + q) := fun q => congrArg SetTable.Probe.j (step q)
    have cK : c + (K - c) = K := Nat.add_sub_cancel' hc
    have spec := go_spec t R.tb.up R.tb.dm (fun i => (es[i]?.map (·.1)).getD 0) (thash P w k) (10 * SetTable.turns t.mask) (K - c) (nth t.mask (go0 t.mask (thash P w k)) c) (nth_dummy _ c _ rfl) (by omega)
      (fun q hq => by rw [sj]; exact hKb _ (by omega)) (by rw [sj, cK]; exact hK)
    have hashAt : ∀ (i : Nat) p, L[i]? = some p → (es[i]?.map (·.1)).getD 0 = thash P w p.2 := fun i p hp => by rw [R.row hp]; rfl
    have far : ∀ (c' i0 : Nat) p0, c ≤ c' → L[i0]? = some p0 → p0.2 = k → t.place.toList[i0]? = some (way t.mask (thash P w k) c') →
        t.place.toList[i0]? = some (nth t.mask (nth t.mask (go0 t.mask (thash P w k)) c) (c' - c)).j ∧ (es[i0]?.map (·.1)).getD 0 = thash P w k := fun c' i0 p0 h1 h2 h3 h4 => by
      refine ⟨?_, (hashAt i0 p0 h2).trans (congrArg _ h3)⟩
      rw [sj, Nat.add_sub_cancel' h1]; exact h4
    rcases spec with ⟨q, i, hq, hi, hh, hno, hpr⟩ | ⟨hno, hpr⟩
    · rw [show t.probe (fun i => (es[i]?.map (·.1)).getD 0) (thash P w k) (stand.getD (t.probeStart (thash P w k))) = _ from (congrArg _ hst).trans hpr]
      dsimp only
      rw [sj] at hi ⊢
      rw [step]
      have hil : i < L.length := by
        have h1 := (List.getElem?_eq_some_iff.mp hi).1
        rw [R.tb.sz, List.length_map] at h1; exact h1
      obtain ⟨p, hp⟩ : ∃ p, L[i]? = some p := ⟨_, List.getElem?_eq_getElem hil⟩
      have hmem : p ∈ L := List.mem_of_getElem? hp
      have more : p.2 ≠ k → wpAny (model P w) A (setSearchFrom a (.ref x) (thash P w k) ad f (some (nth t.mask (go0 t.mask (thash P w k)) (c + (q + 1))))) Q E s := fun hne => by
        refine seek R hx hu hKf hK hKb hin hout f _ _ rfl (by omega) (by omega) fun i0 p0 h0 hk0 => ?_
        obtain ⟨c', a1, a2, a3⟩ := hre i0 p0 h0 hk0
        refine ⟨c', Nat.lt_of_not_le fun z => ?_, a2, a3⟩
        obtain ⟨b1, b2⟩ := far c' i0 p0 a1 h0 hk0 a3
        rcases Nat.lt_or_eq_of_le (show c' ≤ c + q from z) with y | y
        · exact hno (c' - c) i0 (by omega) b1 b2
        · rw [y] at a3
          have s0 := (slot_live R.tb.up a3).symm.trans (slot_live R.tb.up hi)
          cases s0
          rw [hp] at h0
          cases h0
          exact hne hk0
      have rest : wpAny (model P w) A (searchRest a (.ref x) (thash P w k) ad f es t (way t.mask (thash P w k) (c + q)) i (nth t.mask (go0 t.mask (thash P w k)) (c + (q + 1)))) Q E s := by
        unfold searchRest
        rw [R.row hp]
        dsimp only
        refine wpAny_bind (wpAny_holding (wpAny_eqBool_tuple hu (R.tp p hmem) hx ?_))
        refine wpAny_bind (wpAny_setState_of ho hd R.fits ?_)
        dsimp only
        have live : ∀ e : Bool, (e = true → wpAny (model P w) A (pure (SetFound.there (some i)) : Sem SetFound) Q E s) → (e = false → wpAny (model P w) A (setSearchFrom a (.ref x) (thash P w k) ad f (some (nth t.mask (go0 t.mask (thash P w k)) (c + (q + 1))))) Q E s) →
            wpAny (model P w) A (do
              let some same := t.sameMemory t.moves t.mask | unsupported "set.changed-during-lookup:is-the-new-block-at-the-old-address"
              let still ← match (if same then t.slot (way t.mask (thash P w k) (c + q)) else .empty) with
                | .live i' => match es[i']? with
                  | some (_, y') => do pure (if ← isSame y' (.ref p.1) then some i' else none)
                  | none => pure none
                | _ => pure none
              match still with
              | none => rule "set.search.anew"; setSearchFrom a (.ref x) (thash P w k) ad f none
              | some i' => if e = true then pure (SetFound.there (some i')) else setSearchFrom a (.ref x) (thash P w k) ad f (some (nth t.mask (go0 t.mask (thash P w k)) (c + (q + 1))))) Q E s := fun e he hf => by
          rw [sameMem]
          dsimp only
          simp only [if_true, slot_live R.tb.up hi, R.row hp]
          refine wpAny_bind (wpAny_isSame_ref_self (wpAny_bind (wpAny_pure ?_)))
          simp only [if_true]
          cases e with
          | true => exact wp_if_pos rfl (he rfl)
          | false => exact wp_if_neg (by decide) (hf rfl)
        by_cases hkk : p.2 = k
        · have there : ∀ o : Option Nat, (ad = false → o.isSome = true) → Q (.there o) s := hin (List.mem_map.mpr ⟨p, hmem, hkk⟩)
          cases ad with
          | true =>
            refine wp_if_pos (by simp [hkk]) ?_
            exact wpAny_pure (there none fun z => nomatch z)
          | false =>
            refine wp_if_neg (by simp) ?_
            try refine wpAny_bind (wpAny_pure ?_)
            rw [decide_eq_true hkk]
            exact live true (fun _ => wpAny_pure (there (some i) fun _ => rfl)) (fun z => nomatch z)
        · refine wp_if_neg (by simp [hkk]) ?_
          try refine wpAny_bind (wpAny_pure ?_)
          rw [decide_eq_false hkk]
          exact live false (fun z => nomatch z) (fun _ => more hkk)
      by_cases hl : t.led = true
      · refine wp_if_neg (by simp [hl]) ?_
        try refine wpAny_bind (wpAny_pure ?_)
        exact rest
      · refine wp_if_pos (by simp [hl]) ?_
        refine wpAny_bind (seen_tup hx (fun y hy => ?_) ?_)
        · obtain ⟨e, he, ee⟩ := List.mem_map.mp hy
          have he2 : e ∈ es.toList := by
            have he1 : e ∈ es ∧ e.1 = thash P w k := by simpa using he
            simpa using he1.1
          rw [R.rw_] at he2
          obtain ⟨p2, hp2, e2⟩ := List.mem_map.mp he2
          exact ⟨p2.2, p2.1, by rw [← ee, ← e2], R.tp p2 hp2⟩
        · refine wp_if_neg (by decide) ?_
          try refine wpAny_bind (wpAny_pure ?_)
          exact rest
    · rw [show t.probe (fun i => (es[i]?.map (·.1)).getD 0) (thash P w k) (stand.getD (t.probeStart (thash P w k))) = _ from (congrArg _ hst).trans hpr, sj, cK]
      dsimp only
      refine wpAny_pure (hout fun hm => ?_)
      obtain ⟨p0, h0, hk0⟩ := List.mem_map.mp hm
      obtain ⟨i0, h00⟩ := List.getElem?_of_mem h0
      obtain ⟨c', a1, a2, a3⟩ := hre i0 p0 h00 hk0
      obtain ⟨b1, b2⟩ := far c' i0 p0 a1 h00 hk0 a3
      exact hno (c' - c) i0 (by omega) b1 b2
theorem search (R : At P w s.heap a L es ep t) {x : Addr} {k : List Int} {ad : Bool} (hx : IsT P w s.heap k x) (hu : A.units < cLine) {Q : SetFound → Shared → Prop}
    (hin : k ∈ L.map (·.2) → ∀ o : Option Nat, (ad = false → o.isSome = true) → Q (.there o) s)
    (hout : ∀ K, k ∉ L.map (·.2) → way t.mask (thash P w k) K ∉ t.place.toList → (∀ c, c < K → way t.mask (thash P w k) c ∈ t.place.toList) → Q (.free (way t.mask (thash P w k) K) false) s) :
    wpAny (model P w) A (setSearch a (.ref x) (thash P w k) ad) Q E s := by
  have hr := R.rm
  obtain ⟨K, hKf, hK, hKb⟩ := R.tb.gap (by rw [List.length_map]; omega) (thash P w k)
  have big : K < 100000 := by
    have : 10 * SetTable.turns t.mask ≤ 20620 := by
      unfold SetTable.turns
      rcases R.tb.ms with e | e | e | e | e <;> omega
    omega
  unfold setSearch
  refine seek R hx hu hKf hK hKb hin (fun z => hout K z hK hKb) 100000 0 none rfl (Nat.zero_le _) (by omega) fun i p hp hk => ?_
  have hi : (L.map fun p => thash P w p.2)[i]? = some (thash P w k) := by rw [List.getElem?_map, hp, ← hk]; rfl
  have hil : i < t.place.toList.length := by rw [R.tb.sz]; exact (List.getElem?_eq_some_iff.mp hi).1
  obtain ⟨c, hc, e⟩ := R.tb.ahead hK hi (List.getElem?_eq_getElem hil)
  exact ⟨c, Nat.zero_le _, hc, by rw [List.getElem?_eq_getElem hil, e]⟩
/-- is the tuple in the set? -/
theorem find (R : At P w s.heap a L es ep t) {x : Addr} {k : List Int} (hx : IsT P w s.heap k x) (hu : A.units < cLine) {Q : Option Nat → Shared → Prop}
    (hQ : ∀ o : Option Nat, o.isSome = decide (k ∈ L.map (·.2)) → Q o s) : wpAny (model P w) A (setFind a (.ref x) (thash P w k)) Q E s := by
  obtain ⟨o, ho, hex, hd⟩ := R.ob
  unfold setFind
  rw [show (100000 : Nat) = 99999 + 1 from rfl]
  unfold setFindIn
  refine wpAny_bind (wpAny_setState_of ho hd R.fits ?_)
  dsimp only
  refine wp_if_neg (by simp [byScan, Value.scannable]) ?_
  try refine wpAny_bind (wpAny_pure ?_)
  refine wpAny_bind (search (ad := false) R hx hu (fun hm o h => ?_) fun K hm _ _ => ?_)
  · dsimp only
    exact wpAny_pure (hQ o (by rw [decide_eq_true hm]; exact h rfl))
  · dsimp only
    exact wpAny_pure (hQ none (by rw [decide_eq_false hm]; rfl))
end
end Bs

namespace Bs
open PySem PySem.Spec PyProof.Rows L2
section
variable {P : Program} {w : World} {A : Around} {E : Value → Shared → Prop} {s : Shared}
variable {a : Addr} {L : List (Addr × List Int)} {es : Array (Int × Value)} {ep : Nat} {t : SetTable}

/-- how large the next table is, and that it has room -/
theorem grows {m n : Nat} (hm : Msk m) (h1 : n * 5 < m * 3) (h2 : (n + 1) * 5 ≥ m * 3) (h3 : n + 1 < 1200) :
    ∃ M, SetTable.sizeAbove (SetTable.grown (n + 1)) - 1 = M ∧ Msk M ∧ SetTable.sizeAbove (SetTable.grown (n + 1)) ≤ 2048 ∧ (n + 1) * 5 < M * 3 ∧ n + 1 ≤ m := by
  have k5 : SetTable.sizeAbove (SetTable.grown 5) = 32 := by decide +kernel
  have k19 : SetTable.sizeAbove (SetTable.grown 19) = 128 := by decide +kernel
  have k77 : SetTable.sizeAbove (SetTable.grown 77) = 512 := by decide +kernel
  have k307 : SetTable.sizeAbove (SetTable.grown 307) = 2048 := by decide +kernel
  rcases hm with e | e | e | e | e <;> subst e
  · obtain rfl : n = 4 := by omega
    exact ⟨31, by rw [k5], .inr (.inl rfl), by rw [k5]; decide, by decide, by decide⟩
  · obtain rfl : n = 18 := by omega
    exact ⟨127, by rw [k19], .inr (.inr (.inl rfl)), by rw [k19]; decide, by decide, by decide⟩
  · obtain rfl : n = 76 := by omega
    exact ⟨511, by rw [k77], .inr (.inr (.inr (.inl rfl))), by rw [k77]; decide, by decide, by decide⟩
  · obtain rfl : n = 306 := by omega
    exact ⟨2047, by rw [k307], .inr (.inr (.inr (.inr rfl))), by rw [k307]; decide, by decide, by decide⟩
  · omega

theorem relay {o : Obj} (ho : s.heap.get? a = some o) (hex : o.ExactSet) (hd : o.data = .set es ep t) (hr : es.toList = rowsOf P w L) (T : Tab t (L.map fun p => thash P w p.2)) (hm : L.length ≤ t.mask)
    (nd : (L.map (·.2)).Nodup) (tp : ∀ p ∈ L, IsT P w s.heap p.2 p.1) (pl : t.plain = true) (ld : w.params.followText "set-order" = true ∨ t.led = true) (fw : L.length < 1200) {wanted M : Nat}
    (hw : SetTable.sizeAbove wanted - 1 = M) (hM : Msk M) (h2 : SetTable.sizeAbove wanted ≤ 2048) (hn : L.length * 5 < M * 3) {Q : Unit → Shared → Prop}
    (hQ : ∀ h' L' es' ep' t', Heap.SameBut a s.heap h' → At P w h' a L' es' ep' t' → L'.Perm L → Q () { s with heap := h' }) : wpAny (model P w) A (setRelay a wanted) Q E s := by
  have hsl := rows_len hr
  obtain ⟨t', order, e, hp, T', em, el, epl⟩ := anew t (hs := es.map (·.1)) hw hM (by rw [Array.size_map, hsl]; omega)
  rw [Array.size_map, hsl] at hp
  obtain ⟨L2, r1, r2, r3⟩ := order_rows L es order hr hp
  rw [← r3] at T'
  have hs2 : (order.filterMap (es[·]?)).size = es.size := by rw [rows_len r1, r2.length_eq, hsl]
  rw [setRelay_eq]
  refine wpAny_bind (wpAny_setState_of ho hd (fits_of T.dm (by rw [T.sz, List.length_map, hsl]) (by rw [hsl]; exact hm)) ?_)
  dsimp only
  refine wp_if_neg (by rw [sizeLine_eq]; omega) ?_
  try refine wpAny_bind (wpAny_pure ?_)
  rw [e]
  dsimp only
  refine wpAny_bind ?_
  refine wp_if_neg (by rw [hs2]; simp) ?_
  try refine wpAny_bind (wpAny_pure ?_)
  refine wpAny_pure ?_
  dsimp only
  refine wpAny_storeSet_of ho hd ?_ (by rw [hs2, hsl, sizeLine_eq]; omega)
  have sb : Heap.SameBut a s.heap (s.heap.update a (Obj.putSet (order.filterMap (es[·]?)) t')) := Heap.SameBut.update ..
  refine hQ _ L2 _ (ep + 1) t' sb ⟨⟨_, store_at ho hd, ⟨hex.1, hex.2.1, hex.2.2⟩, rfl⟩, r1, T', (r2.map (·.2)).nodup_iff.mpr nd, fun p q => isT_same (tp p (r2.mem_iff.mp q)) ho hd sb, by rw [epl]; exact pl, by rw [el]; exact ld, ?_, by rw [r2.length_eq]; exact fw⟩ r2
  rw [r2.length_eq, em]; exact hn

/-- one more, or none where it is there -/
theorem add (R : At P w s.heap a L es ep t) {x : Addr} {k : List Int} (hx : IsT P w s.heap k x) (hu : A.units < cLine) (hf : L.length + 1 < 1200) {Q : Bool → Shared → Prop}
    (hQ : ∀ b h' L' es' ep' t', Heap.SameBut a s.heap h' → At P w h' a L' es' ep' t' → (k ∈ L.map (·.2) → L' = L) → (k ∉ L.map (·.2) → L'.Perm ((x, k) :: L)) → Q b { s with heap := h' }) :
    wpAny (model P w) A (setAddHashed a (.ref x) (thash P w k)) Q E s := by
  obtain ⟨o, ho, hex, hd⟩ := R.ob
  have hrm := R.rm
  unfold setAddHashed
  refine wpAny_holding ?_
  rw [show (100000 : Nat) = 99999 + 1 from rfl, setAddHashedIn_succ]
  refine wpAny_bind (wpAny_setState_of ho hd R.fits ?_)
  dsimp only
  refine wp_if_neg (by simp [byScan, Value.scannable]) ?_
  try refine wpAny_bind (wpAny_pure ?_)
  refine wpAny_bind (search (ad := true) R hx hu (fun hm oo _ => ?_) fun K hm hK hb => ?_)
  · dsimp only
    exact wpAny_pure (hQ false s.heap L es ep t (Heap.SameBut.refl a s.heap) R (fun _ => rfl) fun z => absurd hm z)
  · dsimp only
    refine wpAny_bind (wpAny_setState_of ho hd R.fits ?_)
    dsimp only
    obtain ⟨p, t1, ep1, q2, q3, q4, q5, q6, q9⟩ := R.tb.place hK hb
    rw [ep1]
    have hp1 : t1.plain = true := q6.trans R.pl
    dsimp only
    first
      | (refine wpAny_bind ?_; refine wp_if_pos hp1 ?_; refine hashBy_tup hx ?_)
      | refine wp_if_pos hp1 (wpAny_bind (hashBy_tup hx ?_))
    simp only [if_true]
    have hin : (SetTable.insertAt es p (thash P w k, Value.ref x)).toList = rowsOf P w (L.take p ++ (x, k) :: L.drop p) := by
      rw [SetTable.toList_insertAt, rows_put, R.rw_]
    have pm := put_perm L p (x, k)
    have hhs : (L.take p ++ (x, k) :: L.drop p).map (fun p => thash P w p.2) = (L.map fun p => thash P w p.2).take p ++ thash P w k :: (L.map fun p => thash P w p.2).drop p := by
      rw [List.map_append, List.map_cons, List.map_take, List.map_drop]
    rw [← hhs] at q3
    generalize SetTable.insertAt es p (thash P w k, Value.ref x) = es1 at hin ⊢
    generalize L.take p ++ (x, k) :: L.drop p = L1 at pm q3 hin
    have ln : L1.length = L.length + 1 := pm.length_eq
    have nd1 : (L1.map (·.2)).Nodup := (pm.map (·.2)).nodup_iff.mpr (List.nodup_cons.mpr ⟨hm, R.nd⟩)
    have n1 : es1.size = L.length + 1 := (rows_len hin).trans ln
    refine wpAny_bind (wpAny_storeSet_of ho hd ?_ (by rw [n1, sizeLine_eq]; omega))
    have sb : Heap.SameBut a s.heap (s.heap.update a (Obj.putSet es1 t1)) := Heap.SameBut.update ..
    have ho1 := store_at (es' := es1) (t' := t1) ho hd
    generalize s.heap.update a (Obj.putSet es1 t1) = h1 at sb ho1 ⊢
    have tp1 : ∀ p ∈ L1, IsT P w h1 p.2 p.1 := fun p hp => by
      rcases List.mem_cons.mp (pm.mem_iff.mp hp) with e | hp
      · rw [e]; exact isT_same hx ho hd sb
      · exact isT_same (R.tp p hp) ho hd sb
    have ld1 : w.params.followText "set-order" = true ∨ t1.led = true := by rw [q5]; exact R.ld
    have full : t1.tooFull = decide ((L.length + 1) * 5 ≥ t.mask * 3) := by
      unfold SetTable.tooFull
      rw [q9, q4, List.length_map]
    by_cases hfu : t1.tooFull = true
    · first
        | (refine wpAny_bind ?_; refine wp_if_pos (by simp [hfu]) ?_)
        | (refine wp_if_pos (by simp [hfu]) ?_; refine wpAny_bind ?_)
      rw [full, decide_eq_true_eq] at hfu
      obtain ⟨M, g1, g2, g3, g4, g5⟩ := grows R.tb.ms hrm hfu hf
      rw [R.n]
      refine relay (s := { s with heap := h1 }) ho1 ⟨hex.1, hex.2.1, hex.2.2⟩ rfl hin q3 (by rw [ln, q4]; exact g5) nd1 tp1 hp1 ld1 (by rw [ln]; exact hf) g1 g2 g3 (by rw [ln]; exact g4) ?_
      intro h2 L2 es2 ep2 t2 sb2 R2 pm2
      exact wpAny_pure (hQ true h2 L2 es2 ep2 t2 (sb.trans sb2) R2 (fun z => absurd z hm) fun _ => pm2.trans pm)
    · first
        | refine wp_if_neg (by simp [hfu]) ?_
        | (refine wpAny_bind ?_; refine wp_if_neg (by simp [hfu]) ?_; refine wpAny_pure ?_)
      refine wpAny_pure (hQ true h1 L1 es1 (ep + 1) t1 sb ⟨⟨_, ho1, ⟨hex.1, hex.2.1, hex.2.2⟩, rfl⟩, hin, q3, nd1, tp1, hp1, ld1, ?_, by rw [ln]; exact hf⟩ (fun z => absurd z hm) fun _ => pm)
      rw [full, decide_eq_true_eq] at hfu
      rw [ln, q4]; omega
theorem fresh {h : Heap} {b : Addr} (ho : h.get? b = some { cls := .type "set", dict := none, data := .set #[] 0 (.fresh 0 0 (!w.params.followText "set-order")) }) : At P w h b [] #[] 0 (.fresh 0 0 (!w.params.followText "set-order")) := by
  refine ⟨⟨_, ho, ⟨rfl, rfl, rfl⟩, rfl⟩, rfl, ⟨List.Pairwise.nil, rfl, rfl, .inl rfl, fun x hx => (by cases hx), fun i x j hi => (by simp at hi)⟩, List.nodup_nil, fun p hp => (by cases hp), rfl, ?_, (by show 0 * 5 < 7 * 3; decide), (by show 0 < 1200; decide)⟩
  show _ ∨ (!w.params.followText "set-order") = true
  cases w.params.followText "set-order"
  · exact .inr rfl
  · exact .inl rfl

/-! ### sorted(s), the members pairs -/
theorem sorted_pairs (R : At P w s.heap a L es ep t) (hh : A.handled = none) (h2 : ∀ p ∈ L, ∃ i j, p.2 = [i, j]) {Q : Value → Shared → Prop}
    (hQ : ∀ s' p (out : Array Value) (c : Nat) (L' : List (Addr × List Int)), (∀ b o, s.heap.get? b = some o → s'.heap.get? b = some o) → s'.gens = s.gens → s'.os = s.os → s.heap.objs.size ≤ p →
      s'.heap.get? p = some (seqObj "list" out c) → out.toList = L'.map (fun q => Value.ref q.1) → L'.Perm L →
      L'.Pairwise (fun q r => SrtO.lexB (r.2.headD 0, r.2.getD 1 0) (q.2.headD 0, q.2.getD 1 0) = false) → Q (.ref p) s') :
    wpAny (model P w) A (call (.builtin "sorted") [.ref a]) Q E s := by
  obtain ⟨o, ho, hex, hd⟩ := R.ob
  have hsz := R.n
  have hfw := R.fw
  refine Calls.call_function_entry kind_sorted plain_sorted entry_sorted (args_sorted1 _) ?_
  unfold Builtin.«sorted»
  refine wpAny_bind (m := checkCount "sorted" 1 1 _) (wpAny_pure ?_)
  refine wpAny_bind (collect_set (A := A.in1) hh ⟨o, ho, hex.1, hd⟩ R.fits (by unfold scanBound; omega) R.tb.up R.ld fun s1 vs k1 hz g1 o1 pm => ?_)
  have hes : es.toList.map (·.2) = L.map fun q => Value.ref q.1 := by
    rw [R.rw_]
    exact List.map_map
  rw [hes] at pm
  -- an address has one key
  have one : ∀ q ∈ L, ∀ r ∈ L, q.1 = r.1 → q = r := fun q hq r hr e => by
    have a1 := R.tp q hq
    rw [e] at a1
    exact Prod.ext e (a1.inj (R.tp r hr))
  -- the key of a value
  let key : Value → Int × Int := fun v => match L.find? (fun q => decide (Value.ref q.1 = v)) with
    | some q => (q.2.headD 0, q.2.getD 1 0)
    | none => (0, 0)
  have hkey : ∀ q ∈ L, key (.ref q.1) = (q.2.headD 0, q.2.getD 1 0) := fun q hq => by
    show (match L.find? (fun r => decide (Value.ref r.1 = Value.ref q.1)) with
      | some q => (q.2.headD 0, q.2.getD 1 0)
      | none => ((0 : Int), (0 : Int))) = _
    cases hf : L.find? (fun r => decide (Value.ref r.1 = Value.ref q.1)) with
    | none => exact absurd (decide_eq_true rfl) (List.find?_eq_none.mp hf q hq)
    | some r =>
      have e0 := List.find?_some hf
      have e1 : Value.ref r.1 = Value.ref q.1 := of_decide_eq_true (by simpa using e0)
      injection e1 with e1
      rw [one r (List.mem_of_find?_eq_some hf) q hq e1]
  have hvl : vs.length ≤ sizeLine := by rw [pm.length_eq, List.length_map, sizeLine_eq]; omega
  refine wpAny_bind (wpAny_newList ?_ hvl)
  have hoL : (s1.heap.push (seqObj "list" vs.toArray 0)).get? s1.heap.objs.size = some (seqObj "list" vs.toArray 0) := Heap.get?_push_size _ rfl
  have pr : ∀ v ∈ vs, Srt.IsPair (s1.heap.push (seqObj "list" vs.toArray 0)) v (key v).1 (key v).2 := fun v hv => by
    obtain ⟨q, hq, rfl⟩ := List.mem_map.mp (pm.mem_iff.mp hv)
    rw [hkey q hq]
    obtain ⟨i, j, eij⟩ := h2 q hq
    have it : IsT P w (s1.heap.push (seqObj "list" vs.toArray 0)) q.2 q.1 := isT_keep (R.tp q hq) fun b u e => Heap.get?_push_of_some _ (k1 b u e)
    rw [eij] at it ⊢
    obtain ⟨ob, items, n, h1, h3, h4, h5⟩ := it
    have hI := ints_of_items (P := P) (w := w) h5
    obtain ⟨ls, hls⟩ : ∃ ls, ls = items.toList := ⟨_, rfl⟩
    rw [← hls] at hI
    cases hI with
    | cons _ t1 r1 =>
      cases r1 with
      | cons _ t2 r2 =>
        cases r2
        have hit : items = #[.int i t1, .int j t2] := by
          rw [← Array.toArray_toList (xs := items), ← hls]
        exact ⟨q.1, ob, t1, t2, n, rfl, h1, h3, by rw [h4, hit]; rfl⟩
  have ncls : ∀ u, (s1.heap.push (seqObj "list" vs.toArray 0)).get? s1.heap.objs.size = some u → u.cls ≠ .type "tuple" := fun u e c => by
    rw [hoL] at e
    cases e
    exact absurd (Value.type.inj c) (by decide)
  refine wpAny_bind (wpAny_holding (wpAny_call_entry slot_list_sort ⟨_, hoL, rfl⟩ entry_list_sort
    (SrtO.list_sort_ord (s := { s1 with heap := s1.heap.push (seqObj "list" vs.toArray 0) }) (SrtO.swo_lex key) hoL hvl (fun z => SrtO.pairs_sortableO (by omega) pr ncls) fun out o1' o2' => ⟨_, rfl, ?_⟩) (args_list_sort _)))
  obtain ⟨c, hc⟩ := sortedHeap_at (vs := vs) (out := out.toArray) hoL
  have hm : ∀ v ∈ out, ∃ q ∈ L, v = Value.ref q.1 := fun v hv => by
    obtain ⟨q, hq, e⟩ := List.mem_map.mp (pm.mem_iff.mp (o2'.perm.mem_iff.mp hv))
    exact ⟨q, hq, e.symm⟩
  have ord : ∀ us : List Value, (∀ v ∈ us, ∃ q ∈ L, v = Value.ref q.1) → ∃ L1 : List (Addr × List Int), us = L1.map (fun q => Value.ref q.1) ∧ ∀ q ∈ L1, q ∈ L := fun us => by
    induction us with
    | nil => exact fun _ => ⟨[], rfl, fun q hq => (by cases hq)⟩
    | cons v us ih =>
      intro hv
      obtain ⟨q, hq, e⟩ := hv v List.mem_cons_self
      obtain ⟨L1, e1, hs⟩ := ih fun u hu => hv u (List.mem_cons_of_mem _ hu)
      exact ⟨q :: L1, by rw [List.map_cons, e, e1], fun r hr => by
        rcases List.mem_cons.mp hr with z | z
        · exact z ▸ hq
        · exact hs r z⟩
  obtain ⟨L', e', hs'⟩ := ord out hm
  have inj : ∀ q ∈ L', ∀ r ∈ L', Value.ref q.1 = Value.ref r.1 → q = r := fun q hq r hr e => by
    injection e with e
    exact one q (hs' q hq) r (hs' r hr) e
  have pL : L'.Perm L := by
    have p1 : (L'.map fun q => Value.ref q.1).Perm (L.map fun q => Value.ref q.1) := by rw [← e']; exact o2'.perm.trans pm
    have nL : L.Nodup := nodup_of_map R.nd
    have nr : (L.map fun q => Value.ref q.1).Nodup := List.pairwise_map.mpr (List.Pairwise.imp_of_mem (fun {q r} hq hr hne e => by
      injection e with e
      exact hne (one q hq r hr e)) nL)
    have n1 : L'.Nodup := nodup_of_map (p1.nodup_iff.mpr nr)
    refine (List.perm_ext_iff_of_nodup n1 nL).mpr fun q => ⟨hs' q, fun hq => ?_⟩
    obtain ⟨r, hr, e⟩ := List.mem_map.mp (p1.mem_iff.mpr (List.mem_map.mpr ⟨q, hq, rfl⟩))
    injection e with e
    exact one r (hs' r hr) q hq e ▸ hr
  refine wpAny_pure ⟨_, rfl, hQ _ s1.heap.objs.size out.toArray c L' (fun b u e => ?_) g1 o1 hz hc e' pL ?_⟩
  · have q := k1 b u e
    have hlt := Heap.lt_size q
    show (sortedHeap (s1.heap.push (seqObj "list" vs.toArray 0)) s1.heap.objs.size vs out.toArray).get? b = some u
    rw [sortedHeap_old (Nat.ne_of_lt hlt) (by rw [size_push']; exact Nat.lt_succ_of_lt hlt)]
    exact Heap.get?_push_of_some _ q
  · rw [e'] at o1'
    refine List.Pairwise.imp_of_mem (fun {q r} hq hr h => ?_) (List.pairwise_map.mp o1')
    rw [← hkey q (hs' q hq), ← hkey r (hs' r hr)]
    exact h
end
end Bs

namespace Bs
open PySem PySem.Spec PyProof.Rows L2
/-- the set at a, its members' ints told by L; that the tuples stand is told by the heap -/
def Set0 (P : Program) (w : World) (h : Heap) (a : Addr) (L : List (Addr × List Int)) : Prop :=
  ∃ es ep t, (∃ o, h.get? a = some o ∧ o.ExactSet ∧ o.data = .set es ep t) ∧ es.toList = rowsOf P w L ∧ Tab t (L.map fun p => thash P w p.2) ∧ (L.map (·.2)).Nodup ∧ t.plain = true ∧
    (w.params.followText "set-order" = true ∨ t.led = true) ∧ L.length * 5 < t.mask * 3 ∧ L.length < 1200
def SO (P : Program) (w : World) (a : Addr) (L : List (Addr × List Int)) : HO := .ext fun h => Set0 P w h a L
theorem At.set0 {P : Program} {w : World} {h : Heap} {a : Addr} {L : List (Addr × List Int)} {es : Array (Int × Value)} {ep : Nat} {t : SetTable} (R : At P w h a L es ep t) : Set0 P w h a L :=
  ⟨es, ep, t, R.ob, R.rw_, R.tb, R.nd, R.pl, R.ld, R.rm, R.fw⟩
theorem Set0.at {P : Program} {w : World} {h : Heap} {a : Addr} {L : List (Addr × List Int)} (R : Set0 P w h a L) (ht : ∀ p ∈ L, IsT P w h p.2 p.1) : ∃ es ep t, At P w h a L es ep t := by
  obtain ⟨es, ep, t, h1, h2, h3, h4, h5, h6, h7, h8⟩ := R
  exact ⟨es, ep, t, h1, h2, h3, h4, ht, h5, h6, h7, h8⟩
theorem so_ok {P : Program} {w : World} {H : Hp} {h : Heap} {a : Addr} {L : List (Addr × List Int)} (R : Set0 P w h a L) : ObjOk P w H h a (SO P w a L) := by
  have ⟨es, ep, t, ⟨o, ho, r⟩, q⟩ := R
  refine ⟨R, ⟨o, ho⟩, fun h1 h2 p k => ?_⟩
  obtain ⟨es', ep', t', ⟨o', ho', r'⟩, q'⟩ := p
  exact ⟨es', ep', t', ⟨o', k o' ho', r'⟩, q'⟩
theorem Set0.type {P : Program} {w : World} {s : Shared} {a : Addr} {L : List (Addr × List Int)} (R : Set0 P w s.heap a L) : s.TypeIs (.ref a) "set" ∧ ∀ b, Value.ref a = .ref b → ∃ ob, s.heap.get? b = some ob ∧ ob.dict = none := by
  obtain ⟨es, ep, t, ⟨o, ho, hx, hd⟩, _⟩ := R
  exact ⟨⟨o, ho, hx.1⟩, fun b e => by cases e; exact ⟨o, ho, hx.2.1⟩⟩
/-- all members stand as tuples -/
def Tups (K : PySem.W.Frag) (H : Hp) (L : List (Addr × List Int)) : Prop := ∀ p ∈ L, SqT K H p.1 (p.2.map V.int)
section
variable {X : Cx}
theorem isTs {pins : List (Addr × Obj)} {σ : L2.St} {H : Hp} {s : Shared} {L : List (Addr × List Int)} (I : Inv X pins σ H s) (h : Tups X.K H L) : ∀ p ∈ L, IsT X.prog X.w s.heap p.2 p.1 := fun p hp => Inv.isT I (h p hp)
/-- set() -/
def rNew (P : Program) (w : World) : List V → Hp → VK → Prop := fun xs H Q => xs = [] ∧ ∀ p, H p = none → Q (.ref p) (upd H p (SO P w p []))
theorem cr_new : CallR X (.type "set") (rNew X.prog X.w) := by
  intro pins s σ H xs us Q I r h
  obtain ⟨rfl, q⟩ := h
  cases r
  refine setR_new fun new => ?_
  exact ⟨.ref _, upd H s.heap.objs.size (SO X.prog X.w s.heap.objs.size []), I.laid (t' := s.toks) (fun b u e => Heap.get?_push_of_some _ e) (Nat.le_refl _) (so_ok (fresh (Heap.get?_push_size _ rfl)).set0), rfl, q _ (I.hok.fresh (Nat.le_refl _))⟩
/-- (i, j) in s -/
def rIn (K : PySem.W.Frag) (P : Program) (w : World) (neg : Bool) : V → V → Hp → VK → Prop := fun x y H Q => ∃ (b : Addr) (k : List Int) (a : Addr) (L : List (Addr × List Int)), x = .ref b ∧ y = .ref a ∧ SqT K H b (k.map V.int) ∧ H a = some (SO P w a L) ∧ Tups K H L ∧
  Q (.bl (xor neg (decide (k ∈ L.map (·.2))))) H
theorem contains_at {s : Shared} {a b : Addr} {k : List Int} {L : List (Addr × List Int)} {A : Around} {E : Value → Shared → Prop} {Q : Bool → Shared → Prop} (hu : A.units + 64 < cLine)
    (R : Set0 X.prog X.w s.heap a L) (hL : ∀ p ∈ L, IsT X.prog X.w s.heap p.2 p.1) (hk : IsT X.prog X.w s.heap k b)
    (h : ∀ t', Q (decide (k ∈ L.map (·.2))) { s with toks := t' }) : wpAny (model X.prog X.w) A (contains (.ref a) (.ref b)) Q E s := by
  have hT := R.type.1
  unfold contains
  try with_reducible refine wpAny_holding ?_
  refine wpAny_bind (wpAny_specialOf hT F.slot_set_contains.lookup ?_)
  show wpAny _ _ (if (some (Value.builtin "set.__contains__") == some Value.none) = true then _ else _) _ E s
  rw [if_neg (by rw [beq_builtin_none]; exact Bool.false_ne_true)]
  refine wpAny_bind (wpAny_callSpecialUnlessNone?_slot (name := Str.ofString "__contains__") hT F.slot_set_contains
    (wpAny_call_entry F.slot_set_contains hT entry_set_contains ?_ (F.args_set_contains_2 _ _)))
  unfold Builtin.«frozenset.__contains__» Builtin.Frozenset.oneOther
  simp only [List.isEmpty_nil, bind_assoc]
  unfold Builtin.Frozenset.addrOf Builtin.Frozenset.withSetAsKey setContains
  refine wpAny_bind (wpAny_pure ?_)
  try dsimp only
  refine wpAny_bind (wpAny_pure ?_)
  try dsimp only
  refine wpAny_bind (wpAny_tryCatch ?_)
  refine wpAny_holding ?_
  refine wpAny_bind (wpAny_pyHash_tuple (knd := intKind X.prog X.w) ?_ hk ?_)
  · exact Nat.lt_of_le_of_lt (Nat.add_le_add_left (by decide) _) hu
  · obtain ⟨es, ep, t, R1⟩ := Set0.at R hL
    refine wpAny_bind (find (s := { s with toks := s.toks + (k.length + 1) }) R1 hk ?_ fun r hr => ?_)
    · exact Nat.lt_of_le_of_lt (Nat.add_le_add_left (by decide) _) hu
    · refine wpAny_pure ?_
      show wpAny _ _ (ret (Value.bool r.isSome)) _ _ _
      rw [hr]
      exact wpAny_pure ⟨_, rfl, wpAny_truthy_bool (h _)⟩
theorem or_in (hu : X.A.units + 64 < cLine) : OpR X (compareOp .In) (rIn X.K X.prog X.w false) := by
  intro pins s σ H x y v u Q I rx ry h
  obtain ⟨b, k, a, L, rfl, rfl, hb, ha, hL, q⟩ := h
  cases rx; cases ry
  show wpAny _ _ (do return Value.bool (← contains (.ref a) (.ref b))) _ _ s
  refine wpAny_bind (contains_at (X := X) hu (I.hok a _ ha).1 (isTs I hL) (Inv.isT I hb) fun t' => wpAny_pure ?_)
  rw [Bool.false_xor] at q
  exact ⟨.bl (decide (k ∈ L.map fun p : Addr × List Int => p.2)), H, I.tok _, rfl, q⟩
theorem or_notin (hu : X.A.units + 64 < cLine) : OpR X (compareOp .NotIn) (rIn X.K X.prog X.w true) := by
  intro pins s σ H x y v u Q I rx ry h
  obtain ⟨b, k, a, L, rfl, rfl, hb, ha, hL, q⟩ := h
  cases rx; cases ry
  show wpAny _ _ (do return Value.bool (!(← contains (.ref a) (.ref b)))) _ _ s
  refine wpAny_bind (contains_at (X := X) hu (I.hok a _ ha).1 (isTs I hL) (Inv.isT I hb) fun t' => wpAny_pure ?_)
  rw [Bool.true_xor] at q
  exact ⟨.bl (!decide (k ∈ L.map fun p : Addr × List Int => p.2)), H, I.tok _, rfl, q⟩
/-- s.add((i, j)) -/
def rAdd (K : PySem.W.Frag) (P : Program) (w : World) : V → List V → Hp → VK → Prop := fun x xs H Q => ∃ (a b : Addr) (k : List Int) (L : List (Addr × List Int)), x = V.ref a ∧ xs = [V.ref b] ∧ H a = some (SO P w a L) ∧ SqT K H b (k.map V.int) ∧ Tups K H L ∧ L.length + 1 < 1200 ∧
  ∀ L', (k ∈ L.map (·.2) → L' = L) → (k ∉ L.map (·.2) → L'.Perm ((b, k) :: L)) → Q .non (upd H a (SO P w a L'))
theorem mt_add (hu : X.A.units + 64 < cLine) : MtR X "set.add" (rAdd X.K X.prog X.w) := by
  intro pins s σ H x xs v us Q I rx rxs h
  obtain ⟨a, b, k, L, rfl, rfl, ha, hb, hL, room, q⟩ := h
  cases rx
  cases rxs with
  | cons ry rt =>
    cases rt; cases ry
    have R0 : Set0 X.prog X.w s.heap a L := (I.hok a _ ha).1
    have hT := R0.type.1
    obtain ⟨es, ep, t, R⟩ := R0.at (isTs I hL)
    have hk := Inv.isT I hb
    refine wpAny_call_entry F.slot_set_add hT F.entry_set_add ?_ (F.args_set_add_2 _ _)
    unfold Builtin.«set.add» Builtin.Frozenset.oneOther
    simp only [List.isEmpty_nil, bind_assoc]
    unfold Builtin.Frozenset.addrOf setAdd
    refine wpAny_bind (wpAny_pure ?_)
    try dsimp only
    refine wpAny_bind (wpAny_pure ?_)
    try dsimp only
    refine wpAny_bind ?_
    refine wpAny_holding ?_
    refine wpAny_bind (wpAny_pyHash_tuple (knd := intKind X.prog X.w) (Nat.lt_of_le_of_lt (Nat.add_le_add_left (by decide) _) hu) hk ?_)
    refine add (s := { s with toks := s.toks + (k.length + 1) }) R hk (Nat.lt_of_le_of_lt (Nat.add_le_add_left (by decide) _) hu) room fun bb h' L' es' ep' t' sb R' c1 c2 => ?_
    show wpAny _ _ (ret Value.none) _ _ _
    have he : ∃ u, h'.get? a = some u := by
      obtain ⟨o, ho, _⟩ := R'.ob
      exact ⟨o, ho⟩
    exact wpAny_pure ⟨_, rfl, .non, upd H a (SO X.prog X.w a L'), I.write (e := a) (t' := s.toks + (k.length + 1)) (by rw [ha]; trivial) (.inl rfl) (fun b u hb hu => (sb.2 b hb).trans hu) he (so_ok R'.set0), rfl, q L' c1 c2⟩
def tAdd (K : PySem.W.Frag) (P : Program) (w : World) (to : TE) (t : TA) : TE := fun σ H Q => to σ H fun x H1 => (∃ a L, x = V.ref a ∧ H1 a = some (SO P w a L)) ∧ t σ H1 fun xs H2 => rAdd K P w x xs H2 Q
variable {o e : Expr} {es : List Expr} {to : TE} {t : TA} {apos cpos : Pos}
theorem pe_add (hu : X.A.units + 64 < cLine) (ho : PE X o to) (ha : PA X (e :: es) t)
    (hbase : attributeBase o "add" X.env (eval o X.env) = eval o X.env := by rfl)
    (hfew : ((backTo cpos (starEach (e :: es) X.env)).all (fun x => !x.1) && (backToKw cpos (keywordEach [] X.env)).all (fun x => x.1.isSome)
      && decide ((e :: es).length + ([] : List Keyword).length + (if ([] : List Keyword).isEmpty then 0 else 1) < 30)) = true := by rfl)
    (hline : (apos.endLine == cpos.line) = true := by rfl) (hs : starEach (e :: es) X.env = (false, eval e X.env) :: starEach es X.env := by rfl) (hplain : (backTo cpos (starEach es X.env)).any (·.1) = false := by rfl) :
    PE X (.Call (.Attribute o "add" apos) (e :: es) [] cpos) (tAdd X.K X.prog X.w to t) := by
  refine ⟨fun pins s σ H Q I h => ?_⟩
  refine wpAny_Call_method_late hbase hfew hline rfl (thn (ho.run pins s σ H _ I h) fun v s1 ⟨x, H1, I1, r1, ty, q1⟩ => ?_)
  obtain ⟨a, L, rfl, hka⟩ := ty
  have R : Set0 X.prog X.w s1.heap a L := (I1.hok a _ hka).1
  cases r1
  refine ⟨"set", "set.add", F.plainAttrs_set, F.slot_set_add, F.type_set_add, R.type.1, R.type.2, ?_⟩
  have hA := ha.run cpos pins s1 σ H1 _ I1 q1
  rw [hs] at hA ⊢
  refine Calls.callWith_builtin (by show (false || (backTo cpos (starEach es X.env)).any (·.1)) = false; rw [hplain]; rfl) (Calls.evalArgs_plain ?_)
  exact thn hA fun us s2 ⟨vs, H2, I2, r2, q2⟩ => mt_add hu pins s2 σ H2 (.ref a) vs (.ref a) us Q I2 rfl r2 q2
/-- sorted(s), its members pairs -/
def ltK (q r : Addr × List Int) : Bool := SrtO.lexB (q.2.headD 0, q.2.getD 1 0) (r.2.headD 0, r.2.getD 1 0)
def rSorted (K : PySem.W.Frag) (P : Program) (w : World) : List V → Hp → VK → Prop := fun vs H Q => ∃ (a : Addr) (L : List (Addr × List Int)), vs = [V.ref a] ∧ H a = some (SO P w a L) ∧ Tups K H L ∧ (∀ p ∈ L, ∃ i j, p.2 = [i, j]) ∧
  ∀ (L' : List (Addr × List Int)) (p : Addr), L'.Perm L → (L'.map (·.2)).Nodup → L'.Pairwise (fun q r => ltK r q = false) → H p = none → Q (.ref p) (upd H p (.lst (L'.map fun q => V.ref q.1)))
theorem cr_sorted (hc : X.calm = true) : CallR X (.builtin "sorted") (rSorted X.K X.prog X.w) := by
  intro pins s σ H vs us Q I r h
  obtain ⟨a, L, rfl, ha, hL, h2, q⟩ := h
  obtain ⟨es, ep, t, R⟩ := Set0.at (I.hok a _ ha).1 (isTs I hL)
  rw [Vals.ref1 r]
  refine sorted_pairs R (I.ok.hd hc) h2 fun s' p out c L' k g o hp hg hout pm pw => ?_
  have hlen : (L'.map fun q => V.ref q.1).length ≤ sizeLine := by
    have := R.fw
    rw [List.length_map, sizeLine_eq, pm.length_eq]; omega
  have hn : H p = none := I.hok.fresh hp
  have hv : Vals (L'.map fun q => V.ref q.1) out.toList := by rw [hout]; exact vals_of_refs L'
  have J : Inv X pins σ (upd H p (.lst (L'.map fun q => V.ref q.1))) { s with heap := s'.heap, gens := s'.gens, drawn := s'.drawn, toks := s'.toks } :=
    I.call (ch := []) (Un.laid k hp hn) (I.hok.laid k hp ⟨hlen, out.toList, c, hv, hg⟩) (by rw [g]; exact I.bare) (fun _ z => nomatch z)
  have e : s' = { s with heap := s'.heap, gens := s'.gens, drawn := s'.drawn, toks := s'.toks } := by
    cases s'; cases s; cases o; rfl
  rw [e]
  exact ⟨.ref p, _, J, rfl, q L' p pm ((pm.map (·.2)).nodup_iff.mpr R.nd) pw hn⟩
end
end Bs

/-! Short words over the layer: defs by name, calls by name, errors asked in a callee. -/
namespace Fd
open PySem PySem.Spec PyProof.Rows L2

/-- a def of the top -/
def Def (K : PySem.W.Frag) (mg : Str → Option Value) (x : Str) (st : Stmt) (ps : List Str) : Prop := ∃ f fd, mg x = some (.ref f) ∧ Fun K x x st f fd ∧ Binds K fd ps []
/-- it keeps its promise -/
def Has (P : Program) (w : World) (K : PySem.W.Frag) (mg : Str → Option Value) (base : Heap) (CX : CXT) (k : Nat) (x : Str) (ps : List Str) (sp : Sp) : Prop :=
  ∃ f fd, mg x = some (.ref f) ∧ PySem.W.keepIn K (.ref f) = true ∧ Binds K fd ps [] ∧ FnOk P w K mg base CX k f fd ps sp
/-- a method of the class at C -/
def MDef (K : PySem.W.Frag) (C : Addr) (m qual : Str) (st : Stmt) (ps : List Str) : Prop := ∃ f fd, Meth K C m f ∧ Fun K m qual st f fd ∧ Binds K fd ps []
def MHas (P : Program) (w : World) (K : PySem.W.Frag) (mg : Str → Option Value) (base : Heap) (CX : CXT) (k : Nat) (C : Addr) (m : Str) (ps : List Str) (sp : Sp) : Prop :=
  ∃ f fd, Meth K C m f ∧ Binds K fd ps [] ∧ FnOk P w K mg base CX k f fd ps sp
/-- a class made by its __init__ -/
def IDef (K : PySem.W.Frag) (C : Addr) (qual : Str) (st : Stmt) (ps : List Str) : Prop := ∃ f fd, Mk K C f ∧ Fun K "__init__" qual st f fd ∧ Binds K fd ps []
def IHas (P : Program) (w : World) (K : PySem.W.Frag) (mg : Str → Option Value) (base : Heap) (CX : CXT) (k : Nat) (C : Addr) (ps : List Str) (sp : Sp) : Prop :=
  ∃ f fd, Mk K C f ∧ Binds K fd ps [] ∧ FnOk P w K mg base CX k f fd ps sp
/-- a def for calls within an except suite -/
def HHas (P : Program) (w : World) (K : PySem.W.Frag) (mg : Str → Option Value) (base : Heap) (CX : CXT) (k : Nat) (x : Str) (ps : List Str) (sp : Sp) : Prop :=
  ∃ f fd, mg x = some (.ref f) ∧ PySem.W.keepIn K (.ref f) = true ∧ Binds K fd ps [] ∧ L2H.FnH P w K mg base CX k f fd ps sp
section
variable {P : Program} {w : World} {K : PySem.W.Frag} {mg : Str → Option Value} {base : Heap} {CX : CXT} {j k : Nat} {x m qual : Str} {st : Stmt} {ps N : List Str} {sp : Sp} {C : Addr}
theorem Has.mono (h : Has P w K mg base CX j x ps sp) (q : j ≤ k) : Has P w K mg base CX k x ps sp := by
  obtain ⟨f, fd, a, b, c, d⟩ := h
  exact ⟨f, fd, a, b, c, d.mono q⟩
/-- a def that lets nothing out -/
theorem Def.ok (D : Def K mg x st ps) (S : FnScope N ps (defScope st)) (len : ∀ vs H Q E, sp vs H Q E → vs.length = ps.length)
    (body : ∀ (f : Addr) (cdv : Value) (A : Around) (outer : List Env) (s : Shared) (H : Hp) (vs : List V) (Q : VK) (E : XK), Room k (A.deeper (envOfC x (defScope st) s.heap.objs.size f cdv)) → sp vs H Q E →
      ∃ t, PSs (cxOf CX0 P w K mg base N x (defScope st) f cdv A outer s H E).nox (defBody st) t ∧ t { nx := fun _ H' => Q .non H', rt := Q } (start N vs) H) : Has P w K mg base CX0 (k + 1) x ps sp := by
  obtain ⟨f, fd, a, F, b⟩ := D
  exact ⟨f, fd, a, F.kp, b, F.ok S len (body f)⟩
/-- a def that may raise -/
theorem Def.okN (D : Def K mg x st ps) (S : FnScope N ps (defScope st)) (len : ∀ vs H Q E, sp vs H Q E → vs.length = ps.length)
    (body : ∀ (f : Addr) (cdv : Value) (A : Around) (outer : List Env) (s : Shared) (H : Hp) (vs : List V) (Q : VK) (E : XK), Room k (A.deeper (envOfC x (defScope st) s.heap.objs.size f cdv)) → sp vs H Q E →
      ∃ t, PSs (cxOf (L2N.CX P w) P w K mg base N x (defScope st) f cdv A outer s H E) (defBody st) t ∧ t { nx := fun _ H' => Q .non H', rt := Q } (start N vs) H) : Has P w K mg base (L2N.CX P w) (k + 1) x ps sp := by
  obtain ⟨f, fd, a, F, b⟩ := D
  refine ⟨f, fd, a, F.kp, b, ?_⟩
  obtain ⟨oc, od, kV, doc, pm, an, cdv, ct, osl, rfl, lk, hcd⟩ := F.ex
  exact fn_of lk hcd S len fun A outer s H vs Q E hr hsp => body f cdv A outer s H vs Q E hr hsp
theorem Def.okH (D : Def K mg x st ps) (S : FnScope N ps (defScope st)) (len : ∀ vs H Q E, sp vs H Q E → vs.length = ps.length)
    (body : ∀ (f : Addr) (cdv : Value) (A : Around) (outer : List Env) (s : Shared) (H : Hp) (vs : List V) (Q : VK) (E : XK) (p : Addr × Obj), L2H.Hot1 A p → L2H.RoomH k (A.deeper (envOfC x (defScope st) s.heap.objs.size f cdv)) → sp vs H Q E →
      ∃ t, PSs (L2H.cxH CX P w K mg base N x (defScope st) f cdv A outer s H E p) (defBody st) t ∧ t { nx := fun _ H' => Q .non H', rt := Q } (start N vs) H) : HHas P w K mg base CX (k + 1) x ps sp := by
  obtain ⟨f, fd, a, F, b⟩ := D
  refine ⟨f, fd, a, F.kp, b, ?_⟩
  obtain ⟨oc, od, kV, doc, pm, an, cdv, ct, osl, rfl, lk, hcd⟩ := F.ex
  exact L2H.fn_ofH lk hcd S len fun A outer s H vs Q E p hot hr hsp => body f cdv A outer s H vs Q E p hot hr hsp
theorem MDef.ok (D : MDef K C m qual st ps) (S : FnScope N ps (defScope st)) (len : ∀ vs H Q E, sp vs H Q E → vs.length = ps.length)
    (body : ∀ (f : Addr) (cdv : Value) (A : Around) (outer : List Env) (s : Shared) (H : Hp) (vs : List V) (Q : VK) (E : XK), Room k (A.deeper (envOfC qual (defScope st) s.heap.objs.size f cdv)) → sp vs H Q E →
      ∃ t, PSs (cxOf CX0 P w K mg base N qual (defScope st) f cdv A outer s H E).nox (defBody st) t ∧ t { nx := fun _ H' => Q .non H', rt := Q } (start N vs) H) : MHas P w K mg base CX0 (k + 1) C m ps sp := by
  obtain ⟨f, fd, M, F, b⟩ := D
  exact ⟨f, fd, M, b, F.ok S len (body f)⟩
theorem MDef.okN (D : MDef K C m qual st ps) (S : FnScope N ps (defScope st)) (len : ∀ vs H Q E, sp vs H Q E → vs.length = ps.length)
    (body : ∀ (f : Addr) (cdv : Value) (A : Around) (outer : List Env) (s : Shared) (H : Hp) (vs : List V) (Q : VK) (E : XK), Room k (A.deeper (envOfC qual (defScope st) s.heap.objs.size f cdv)) → sp vs H Q E →
      ∃ t, PSs (cxOf (L2N.CX P w) P w K mg base N qual (defScope st) f cdv A outer s H E) (defBody st) t ∧ t { nx := fun _ H' => Q .non H', rt := Q } (start N vs) H) : MHas P w K mg base (L2N.CX P w) (k + 1) C m ps sp := by
  obtain ⟨f, fd, M, F, b⟩ := D
  refine ⟨f, fd, M, b, ?_⟩
  obtain ⟨oc, od, kV, doc, pm, an, cdv, ct, osl, rfl, lk, hcd⟩ := F.ex
  exact fn_of lk hcd S len fun A outer s H vs Q E hr hsp => body f cdv A outer s H vs Q E hr hsp
theorem IDef.okN (D : IDef K C qual st ps) (S : FnScope N ps (defScope st)) (len : ∀ vs H Q E, sp vs H Q E → vs.length = ps.length)
    (body : ∀ (f : Addr) (cdv : Value) (A : Around) (outer : List Env) (s : Shared) (H : Hp) (vs : List V) (Q : VK) (E : XK), Room k (A.deeper (envOfC qual (defScope st) s.heap.objs.size f cdv)) → sp vs H Q E →
      ∃ t, PSs (cxOf (L2N.CX P w) P w K mg base N qual (defScope st) f cdv A outer s H E) (defBody st) t ∧ t { nx := fun _ H' => Q .non H', rt := Q } (start N vs) H) : IHas P w K mg base (L2N.CX P w) (k + 1) C ps sp := by
  obtain ⟨f, fd, M, F, b⟩ := D
  refine ⟨f, fd, M, b, ?_⟩
  obtain ⟨oc, od, kV, doc, pm, an, cdv, ct, osl, rfl, lk, hcd⟩ := F.ex
  exact fn_of lk hcd S len fun A outer s H vs Q E hr hsp => body f cdv A outer s H vs Q E hr hsp
end

/-! ### calls -/
section
variable {X : Cx} {CX : CXT} {k : Nat} {C : Addr} {ps : List Str} {sp : Sp} {E : XK} {ES : L2.St → XK} {x m : Str} {p q pos apos : Pos} {e o : Expr} {es : List Expr} {ta : TE} {t : TA}
/-- f(e, ..) of a def that lets nothing out, from anywhere calm -/
theorem pe_f (G : Has X.prog X.w X.K X.mg X.base CX0 k x ps sp) (hr : Room k X.A) (hg : Gl X x) (ha : PA X (e :: es) t) (hdb : (x == ("__debug__" : Str)) = false := by decide)
    (he : starEach (e :: es) X.env = (false, eval e X.env) :: starEach es X.env := by rfl) (hpl : (backTo pos (starEach es X.env)).any (·.1) = false := by rfl) : PE X (.Call (.Name x q) (e :: es) [] pos) (tCall sp [] E0 t) := by
  obtain ⟨f, fd, hm, hk, hb, F⟩ := G
  exact pe_call F hr hg hm hk hb .nil pass0 ha hdb he hpl
/-- f(e, ..) of a def that may raise, from one that lets it out -/
theorem pe_fN (G : Has X.prog X.w X.K X.mg X.base (L2N.CX X.prog X.w) k x ps sp) (hr : Room k X.A) (hg : Gl X x) (hx : Passes (L2N.CX X.prog X.w) X E) (ha : PA X (e :: es) t) (hdb : (x == ("__debug__" : Str)) = false := by decide)
    (he : starEach (e :: es) X.env = (false, eval e X.env) :: starEach es X.env := by rfl) (hpl : (backTo pos (starEach es X.env)).any (·.1) = false := by rfl) : PE X (.Call (.Name x q) (e :: es) [] pos) (tCall sp [] E t) := by
  obtain ⟨f, fd, hm, hk, hb, F⟩ := G
  exact pe_call F hr hg hm hk hb .nil hx ha hdb he hpl
/-- .. within a try -/
theorem pe_fS {W : WX} (G : Has X.prog X.w X.K X.mg X.base (L2N.CX X.prog X.w) k x ps sp) (hr : Room k X.A) (hg : Gl X x) (tk : L2N.Takes X W) (ha : PA X (e :: es) t) (hdb : (x == ("__debug__" : Str)) = false := by decide)
    (he : starEach (e :: es) X.env = (false, eval e X.env) :: starEach es X.env := by rfl) (hpl : (backTo pos (starEach es X.env)).any (·.1) = false := by rfl) : PE X (.Call (.Name x q) (e :: es) [] pos) (tCallS sp (WE W) t) := by
  obtain ⟨f, fd, hm, hk, hb, F⟩ := G
  exact pe_callS F hr hg hm hk hb (fun σ => L2N.passAt tk σ) ha hdb he hpl
/-- nothing leaves a call that raises nothing -/
theorem pass00 {X : Cx} : Passes (L2N.CX X.prog X.w) X E0 := fun _ _ _ _ _ _ _ h => by
  obtain ⟨_, _, _, _, _, _, _, _, _, _, _, _, z⟩ := h
  exact z.elim
theorem takesF {X : Cx} : L2N.Takes X (fun _ _ _ _ => False) := fun _ _ x => by
  obtain ⟨_, _, _, _, _, _, _, _, _, _, _, _, _, _, _, _, z⟩ := x
  exact z.elim
/-- within an except suite -/
theorem pe_fH (G : HHas X.prog X.w X.K X.mg X.base CX0 k x ps sp) (hr : L2H.RoomH k X.A) (hc : L2H.HotC X) (hg : Gl X x) (ha : PA X (e :: es) t) (hdb : (x == ("__debug__" : Str)) = false := by decide)
    (he : starEach (e :: es) X.env = (false, eval e X.env) :: starEach es X.env := by rfl) (hpl : (backTo pos (starEach es X.env)).any (·.1) = false := by rfl) : PE X (.Call (.Name x q) (e :: es) [] pos) (tCallS sp (fun _ => E0) t) := by
  obtain ⟨f, fd, hm, hk, hb, F⟩ := G
  exact L2H.pe_callH F hr hc hg hm hk hb (fun σ _ _ _ _ _ _ h => h.elim) ha hdb he hpl
/-- o.m(e, ..) -/
theorem pe_m {pl : Sem Bool} (G : MHas X.prog X.w X.K X.mg X.base CX0 k C m ps sp) (he : PE X o ta) (c : Cls X.K C) (hr : Room k X.A) (ha : PA X (e :: es) t)
    (hst : starEach (e :: es) X.env = (false, eval e X.env) :: starEach es X.env := by rfl) (hpl : (backTo pos (starEach es X.env)).any (·.1) = false := by rfl)
    (ht : eval (.Call (.Attribute o m apos) (e :: es) [] pos) X.env = (do
      let ov ← eval o X.env
      standAt apos.atName
      let (f, first) ← holding [ov] (getMethod ov m pl)
      callWith pos f first (backTo pos (starEach (e :: es) X.env)) (backToKw pos (keywordEach [] X.env))) := by rfl) : PE X (.Call (.Attribute o m apos) (e :: es) [] pos) (tMeth C m sp [] E0 ta t) := by
  obtain ⟨f, fd, hm, hb, F⟩ := G
  exact pe_meth he c hm F hr hb .nil pass0 ha hst hpl ht
theorem pe_mN {pl : Sem Bool} (G : MHas X.prog X.w X.K X.mg X.base (L2N.CX X.prog X.w) k C m ps sp) (he : PE X o ta) (c : Cls X.K C) (hr : Room k X.A) (hx : Passes (L2N.CX X.prog X.w) X E) (ha : PA X (e :: es) t)
    (hst : starEach (e :: es) X.env = (false, eval e X.env) :: starEach es X.env := by rfl) (hpl : (backTo pos (starEach es X.env)).any (·.1) = false := by rfl)
    (ht : eval (.Call (.Attribute o m apos) (e :: es) [] pos) X.env = (do
      let ov ← eval o X.env
      standAt apos.atName
      let (f, first) ← holding [ov] (getMethod ov m pl)
      callWith pos f first (backTo pos (starEach (e :: es) X.env)) (backToKw pos (keywordEach [] X.env))) := by rfl) : PE X (.Call (.Attribute o m apos) (e :: es) [] pos) (tMeth C m sp [] E ta t) := by
  obtain ⟨f, fd, hm, hb, F⟩ := G
  exact pe_meth he c hm F hr hb .nil hx ha hst hpl ht
theorem pe_m0 {pl : Sem Bool} (G : MHas X.prog X.w X.K X.mg X.base CX0 k C m ps sp) (he : PE X o ta) (c : Cls X.K C) (hr : Room k X.A)
    (ht : eval (.Call (.Attribute o m apos) [] [] pos) X.env = (do
      let ov ← eval o X.env
      standAt apos.atName
      let (f, first) ← holding [ov] (getMethod ov m pl)
      callWith pos f first (backTo pos (starEach [] X.env)) (backToKw pos (keywordEach [] X.env))) := by rfl) : PE X (.Call (.Attribute o m apos) [] [] pos) (tMeth C m sp [] E0 ta tNil) := by
  obtain ⟨f, fd, hm, hb, F⟩ := G
  exact pe_meth0 he c hm F hr hb .nil pass0 ht
/-- .. of a method that may raise, within a try -/
def tMethS (C : Addr) (m : Str) (sp : Sp) (E : L2.St → XK) (ta : TE) (t : TA) : TE := fun σ H Q => ta σ H fun x H1 => ∃ a dx fs, x = .ref a ∧ H1 a = some (.ins C dx fs) ∧ fs.lookup m = none ∧ t σ H1 fun vs H2 => sp (x :: vs) H2 Q (E σ)
theorem pe_mS {W : WX} {pl : Sem Bool} (G : MHas X.prog X.w X.K X.mg X.base (L2N.CX X.prog X.w) k C m ps sp) (he : PE X o ta) (c : Cls X.K C) (hr : Room k X.A) (tk : L2N.Takes X W) (ha : PA X (e :: es) t)
    (hst : starEach (e :: es) X.env = (false, eval e X.env) :: starEach es X.env := by rfl) (hpl : (backTo pos (starEach es X.env)).any (·.1) = false := by rfl)
    (ht : eval (.Call (.Attribute o m apos) (e :: es) [] pos) X.env = (do
      let ov ← eval o X.env
      standAt apos.atName
      let (f, first) ← holding [ov] (getMethod ov m pl)
      callWith pos f first (backTo pos (starEach (e :: es) X.env)) (backToKw pos (keywordEach [] X.env))) := by rfl) : PE X (.Call (.Attribute o m apos) (e :: es) [] pos) (tMethS C m sp (WE W) ta t) := by
  obtain ⟨f, fd, hm, hb, F⟩ := G
  refine ⟨fun pins s σ H Q I h => ?_⟩
  refine PySem.W.methodCall_KW (pl := pl) (thn (he.run pins s σ H _ I h) fun u s1 ⟨x, H1, I1, rx, a, dx, fs, ex, ea, l, q⟩ => ?_) ht
  subst ex
  obtain rfl : u = Value.ref a := rx
  refine getmeth_ok I1 ea c hm l ?_
  refine PySem.W.callWith_K (first := [.ref a]) (h₀ := X.base) I.ok.mod.kin hm.kp (thn (ha.run pos pins s1 σ H1 _ I1 q) fun us s2 ⟨vs, H2, I2, r, q2⟩ => ⟨I2.kIn, ?_⟩) hst hpl
  exact run_fnS (us := .ref a :: us) (vs := .ref a :: vs) F hr hb (L2N.passAt tk σ) I2 (.cons rfl r) q2
/-- C(e, ..) -/
theorem pe_mk (G : IHas X.prog X.w X.K X.mg X.base (L2N.CX X.prog X.w) k C ps sp) (hr : Room (k + 1) X.A) (hg : Gl X x) (hm : X.mg x = some (.ref C)) (hx : Passes (L2N.CX X.prog X.w) X E) (ha : PA X (e :: es) t) (hdb : (x == ("__debug__" : Str)) = false := by decide)
    (he : starEach (e :: es) X.env = (false, eval e X.env) :: starEach es X.env := by rfl) (hpl : (backTo pos (starEach es X.env)).any (·.1) = false := by rfl) : PE X (.Call (.Name x q) (e :: es) [] pos) (tMake C sp [] E t) := by
  obtain ⟨f, fd, M, hb, F⟩ := G
  exact pe_make M F hr hg hm hb .nil hx ha hdb he hpl
def tMakeS (C : Addr) (sp : Sp) (E : L2.St → XK) (t : TA) : TE := fun σ H Q => t σ H fun vs H1 => ∀ x dx, H1 x = none → H1 dx = none → dx ≠ x →
  sp (.ref x :: vs) (upd (upd H1 dx (.own x)) x (.ins C dx [])) (fun v H2 => v = .non ∧ Q (.ref x) H2) (E σ)
/-- within a try: what is raised is wished for at the slots -/
theorem pe_mkS {W : WX} (G : IHas X.prog X.w X.K X.mg X.base (L2N.CX X.prog X.w) k C ps sp) (hr : Room (k + 1) X.A) (hg : Gl X x) (hm : X.mg x = some (.ref C)) (tk : L2N.Takes X W) (ha : PA X (e :: es) t) (hdb : (x == ("__debug__" : Str)) = false := by decide)
    (he : starEach (e :: es) X.env = (false, eval e X.env) :: starEach es X.env := by rfl) (hpl : (backTo pos (starEach es X.env)).any (·.1) = false := by rfl) : PE X (.Call (.Name x q) (e :: es) [] pos) (tMakeS C sp (WE W) t) := by
  obtain ⟨f, fd, M, hb, F⟩ := G
  refine ⟨fun pins s σ H Q I h => ?_⟩
  refine wpAny_Call_Name_kw (ld_glob I hg hm ?_ hdb)
  refine PySem.W.callWith_K (h₀ := X.base) I.ok.mod.kin M.kp (thn (ha.run pos pins s σ H _ I h) fun us s1 ⟨vs, H1, I1, r, q⟩ => ⟨I1.kIn, ?_⟩) he hpl
  have hq := q (s1.heap.objs.size + 1) s1.heap.objs.size (I1.hok.fresh (Nat.le_succ _)) (I1.hok.fresh (Nat.le_refl _)) (Nat.ne_of_lt (Nat.lt_succ_self _))
  have I2 := Inv.made (C := C) I1
  have r2 : Vals (V.ref (s1.heap.objs.size + 1) :: vs) (Value.ref (s1.heap.objs.size + 1) :: us) := .cons rfl r
  have hl : (Value.ref (s1.heap.objs.size + 1) :: us ++ []).length = ps.length := by
    have e := r2.length
    rw [F.len _ _ _ _ hq] at e
    rw [List.append_nil]
    exact e.symm
  have hbb := hb _ (Value.ref (s1.heap.objs.size + 1) :: us) I2.kIn hl
  rw [List.append_nil] at hbb
  refine wpAny_call (make_map (f := f) I1.kIn M.makes M.init (beq_iff_eq.mp M.fn) (codeAny_mono (F.run _ X.stack _ _ ⟨Value.ref (s1.heap.objs.size + 1) :: us, []⟩ (Value.ref (s1.heap.objs.size + 1) :: us) _ _ (WE W σ) (hr.make C us [])
    (I2.env0.make C us []) hbb r2 hq) fun r s' hq' => ?_))
  cases r with
  | error e => exact L2N.passAt tk σ pins _ _ e s' I2 hq'
  | ok fl =>
    cases fl with
    | ret u =>
      obtain ⟨v, H', I3, rv, ev, q3⟩ := I2.after hq'
      subst ev
      exact ⟨rv, ⟨V.ref (s1.heap.objs.size + 1), H', I3, rfl, q3⟩⟩
    | next => exact False.elim hq'
    | brk => exact False.elim hq'
    | cont => exact False.elim hq'
end

/-! ### isinstance of the error that is handled, in a callee -/
/-- the pinned object is an error of the class at D -/
def rIsP (K : PySem.W.Frag) (D a : Addr) : List V → Hp → VK → Prop := fun xs H Q => ∃ (c : V) (cv : Value) (b : Bool), xs = [.ref a, c] ∧ (∀ u, RelV c u → u = cv) ∧ PySem.W.kitOne K (.ref D) cv = some b ∧ Q (.bl b) H
theorem call_isP {X : Cx} {p : Addr × Obj} {D : Addr} (hp : p ∈ X.pn) (C : ExcC X.K D) (hz : p.2.cls = .ref D) (hd : p.2.dict = none) (hf : ∃ vs, p.2.data = .fields vs) : CallR X (.builtin "isinstance") (rIsP X.K D p.1) := by
  intro pins s σ H xs us Q I r h
  obtain ⟨c, cv, b, rfl, hcv, e, q⟩ := h
  cases r with
  | cons rx rr =>
    cases rr with
    | cons rt rr =>
      cases rr
      cases rx
      have ec := hcv _ rt
      subst ec
      obtain ⟨hget, _⟩ := I.pin p (List.mem_append_left _ hp)
      obtain ⟨vs, hv⟩ := hf
      have J : PySem.W.InstAt s.heap p.1 p.2 D none := by
        obtain ⟨pa, oc, od, oda, osl⟩ := p
        dsimp only at hz hd hv
        subst hz hd hv
        exact ⟨hget, rfl, rfl, trivial⟩
      exact PySem.W.kia_one (PySem.W.handS_kitx_exc C.hg C.hk C.hs C.hd C.ha C.hn C.ht C.hm) I.kIn J e (fun z => nomatch z) fun tk => ⟨.bl b, H, I.kept (t' := tk) fun _ _ z => z, rfl, q⟩
end Fd

/-! Defs that are called within an except suite and are handed the very error that is handled: the promise is given for that error, told by its pin p. -/
namespace Fh
open PySem PySem.Spec PyProof.Rows L2 L2H
abbrev St := L2.St
structure FnP (P : Program) (w : World) (K : PySem.W.Frag) (mg : Str → Option Value) (base : Heap) (k : Nat) (f : Addr) (fd : FuncData) (ps : List Str) (sp : Sp) (p : Addr × Obj) : Prop where
  len : ∀ vs H Q E, sp vs H Q E → vs.length = ps.length
  go : ∀ (A : Around) (outer : List Env) (s : Shared) (H : Hp) (args : Args) (us : List Value) (vs : List V) (Q : VK) (E : XK),
    RoomH k A → Hot1 A p → PinOk outer H s p → Env0 P w K mg base A outer s H → BindsTo s fd args (ps.zip us) → Vals vs us → sp vs H Q E → codeAny (model P w) A (.call (.ref f) args) (CR CX0 outer P w H s Q E) s
section
variable {P : Program} {w : World} {K : PySem.W.Frag} {mg : Str → Option Value} {base : Heap} {k : Nat} {f : Addr} {x : Str} {st : Stmt} {fd : FuncData} {N ps : List Str} {sp : Sp} {p : Addr × Obj}
theorem made (F : Fun K x x st f fd) (S : FnScope N ps (defScope st)) (len : ∀ vs H Q E, sp vs H Q E → vs.length = ps.length)
    (body : ∀ (cdv : Value) (A : Around) (outer : List Env) (s : Shared) (H : Hp) (vs : List V) (Q : VK) (E : XK), Hot1 A p → RoomH k (A.deeper (envOfC x (defScope st) s.heap.objs.size f cdv)) → sp vs H Q E →
      ∃ t, PSs (cxH CX0 P w K mg base N x (defScope st) f cdv A outer s H E p) (defBody st) t ∧ t { nx := fun _ H' => Q .non H', rt := Q } (L2.start N vs) H) : FnP P w K mg base (k + 1) f fd ps sp p := by
  obtain ⟨oc, od, kV, doc, pm, an, cdv, ct, osl, rfl, lk, hcd⟩ := F.ex
  constructor
  · exact len
  · intro A outer s H args us vs Q E hr hot pin e0 hb r hsp
    have KX : K.In s.heap := e0.mod.kin.keeps fun b o e => (e0.bs b o e).1
    have cellsOk : ∀ y ∈ ps.zip us, (defScope st).names.lookup y.1 = some .local ∨ ((defScope st).names.lookup y.1 = some .cell ∧ ((cellsFrom (s.heap.objs.size + 1) (defScope st).names []).lookup y.1).isSome = true) := by
      rintro ⟨n, v⟩ hy
      exact (S.par n (List.of_mem_zip hy).1).imp id fun q => ⟨q, PySem.W.cellsFrom_some _ _ _ (.inl q)⟩
    refine codeAny_call_function hr.depth (KX _ _ lk) rfl S.co S.gen rfl (PySem.W.codeRec_of KX hcd) (hb _ _ _ _ (wpAny_newFunctionEnv_cells S.kind cellsOk fun env he s1 xc => ?_))
    subst he
    refine ⟨(e0.mod.nolimit.keeps fun b o e => (e0.bs b o e).1).keeps xc.toInCall.keep, codeAny_func ?_⟩
    obtain ⟨t, ht, hq⟩ := body cdv A outer s H vs Q E hot (hr.deeper _) hsp
    have I : Inv (cxH CX0 P w K mg base N x (defScope st) f cdv A outer s H E p) [] (L2.start N vs) H s1 := inv_startH S pin e0 (len _ _ _ _ hsp) r xc
    have out : ∀ {σ' : St} {H' : Hp} {v : V} {u : Value} {s' : Shared}, Inv (cxH CX0 P w K mg base N x (defScope st) f cdv A outer s H E p) [] σ' H' s' → RelV v u → Q v H' → CE outer P w H s Q u s' :=
      fun J rv q => ⟨_, _, J.os, J.bare, J.base, J.hok, rv, q⟩
    refine wpAny_mono (ht.run [] s1 _ H _ I hq) (fun fl s' hs => ?_) fun e s' hs => hs
    match fl, hs with
    | .ret u, ⟨v, σ', H', J, rv, q⟩ => exact out J rv q
    | .next, ⟨σ', H', J, q⟩ => exact out (v := V.non) (u := Value.none) J rfl q
    | .brk, ⟨_, _, _, q⟩ => exact q.elim
    | .cont, ⟨_, _, _, q⟩ => exact q.elim
end
def HasP (P : Program) (w : World) (K : PySem.W.Frag) (mg : Str → Option Value) (base : Heap) (k : Nat) (x : Str) (ps : List Str) (sp : Sp) (p : Addr × Obj) : Prop :=
  ∃ f fd, mg x = some (.ref f) ∧ PySem.W.keepIn K (.ref f) = true ∧ Binds K fd ps [] ∧ FnP P w K mg base k f fd ps sp p
theorem okP {P : Program} {w : World} {K : PySem.W.Frag} {mg : Str → Option Value} {base : Heap} {k : Nat} {x : Str} {st : Stmt} {N ps : List Str} {sp : Sp} {p : Addr × Obj} (D : Fd.Def K mg x st ps) (S : FnScope N ps (defScope st)) (len : ∀ vs H Q E, sp vs H Q E → vs.length = ps.length)
    (body : ∀ (f : Addr) (cdv : Value) (A : Around) (outer : List Env) (s : Shared) (H : Hp) (vs : List V) (Q : VK) (E : XK), Hot1 A p → RoomH k (A.deeper (envOfC x (defScope st) s.heap.objs.size f cdv)) → sp vs H Q E →
      ∃ t, PSs (cxH CX0 P w K mg base N x (defScope st) f cdv A outer s H E p) (defBody st) t ∧ t { nx := fun _ H' => Q .non H', rt := Q } (L2.start N vs) H) : HasP P w K mg base (k + 1) x ps sp p := by
  obtain ⟨f, fd, a, F, b⟩ := D
  exact ⟨f, fd, a, F.kp, b, made F S len (body f)⟩
section
variable {X : Cx} {k : Nat} {ps : List Str} {sp : Sp} {x : Str} {q pos : Pos} {e : Expr} {es : List Expr} {t : TA} {p : Addr × Obj}
theorem pe_p (G : HasP X.prog X.w X.K X.mg X.base k x ps sp p) (hr : RoomH k X.A) (hot : Hot1 X.A p) (hp : p ∈ X.pn) (hg : Gl X x) (ha : PA X (e :: es) t) (hdb : (x == ("__debug__" : Str)) = false := by decide)
    (he : starEach (e :: es) X.env = (false, eval e X.env) :: starEach es X.env := by rfl) (hpl : (backTo pos (starEach es X.env)).any (·.1) = false := by rfl) : PE X (.Call (.Name x q) (e :: es) [] pos) (tCall sp [] E0 t) := by
  obtain ⟨f, fd, hm, hk, hb, F⟩ := G
  refine ⟨fun pins s σ H Q I h => wpAny_Call_Name_kw (ld_glob I hg hm ?_ hdb)⟩
  refine PySem.W.callWith_K (h₀ := X.base) I.ok.mod.kin hk (thn (ha.run pos pins s σ H _ I h) fun us s1 ⟨vs, H1, J, r, h1⟩ => ⟨J.kIn, ?_⟩) he hpl
  replace h1 : sp (vs ++ []) H1 Q E0 := h1
  rw [List.append_nil] at h1
  have b := hb s1 us J.kIn (by rw [List.append_nil, ← r.length]; exact F.len _ _ _ _ h1)
  rw [List.append_nil] at b
  have P1 := J.pin p (List.mem_append_left _ hp)
  have pin : PinOk X.stack H1 s1 p := ⟨P1.1, P1.2.1, fun hm => (List.mem_cons.mp (J.stkSub p.1 hm)).elim P1.2.2.1 P1.2.2.2.1, P1.2.2.2.2⟩
  refine wpAny_call (codeAny_mono (F.go X.A X.stack s1 H1 ⟨us, []⟩ us vs Q E0 hr hot pin J.env0 b r h1) fun r s' hq => ?_)
  match r, hq with
  | .ok (.ret u), hq => exact J.after hq
  | .ok .next, hq => exact hq.elim
  | .ok .brk, hq => exact hq.elim
  | .ok .cont, hq => exact hq.elim
  | .error e, hq => exact hq.elim
end
theorem roomM {k : Nat} {A : Around} {v : Option Value} (r : Room k A) : RoomH k (A.mark v) := ⟨r.dp, r.un⟩
theorem hotM {A : Around} {a : Addr} {oe : Obj} {cls : Value} {d : Option Addr} (hz : L2N.Zn cls d oe) (hf : ∃ vs, oe.data = .fields vs) : Hot1 (A.mark (some (.ref a))) (a, oe) := by
  obtain ⟨vs, e⟩ := hf
  exact ⟨rfl, vs, e, hz.2.2 vs e⟩
end Fh

/-! A display of one whole number: a set of it. -/
namespace Sd
open PySem PySem.Spec PyProof.Rows L2
section
variable {P : Program} {w : World} {A : Around} {E : Value → Shared → Prop} {s : Shared}
theorem newSet_led {Q : Value → Shared → Prop}
    (h : Q (.ref s.heap.objs.size) { s with heap := s.heap.push { cls := .type "set", dict := none, data := .set #[] 0 (.fresh 0 0 (!w.params.followText "set-order")) } }) :
    wpAny (model P w) A (newSet (.type "set")) Q E s := by
  unfold newSet setsByText
  refine wpAny_bind (wpAny_bind (wpAny_askSetting (wpAny_pure ?_)))
  dsimp only
  simp only [newObj]
  exact wpAny_bind (wpAny_alloc (wpAny_pure h))
theorem display1 {b : Bool} {t : Sem Value} {Q : Value → Shared → Prop}
    (h : wpAny (model P w) A t (fun v s' => wpAny (model P w) A (setAdd s.heap.objs.size v) (fun _ s2 => Q (.ref s.heap.objs.size) s2) E s') E { s with heap := s.heap.push { cls := .type "set", dict := none, data := .set #[] 0 (.fresh 0 0 (!w.params.followText "set-order")) } }) :
    wpAny (model P w) A (setDisplay .oneByOne b [(false, t)]) Q E s := by
  unfold setDisplay
  try dsimp only
  rw [if_neg (by decide)]
  refine wpAny_bind (newSet_led ?_)
  dsimp only
  have e1 : (if ([(false, t)] : List (Bool × Sem Value)).length > 30 then 0 else (List.findIdx? (fun x => x.fst) [(false, t)]).getD ([(false, t)] : List (Bool × Sem Value)).length) = 1 := rfl
  rw [e1]
  refine wpAny_bind (wpAny_holding ?_)
  refine wpAny_bind (m := evalAll [t]) ?_
  refine wpAny_bind (wpAny_mono h (fun v s' h' => ?_) fun _ _ x => x)
  refine wpAny_bind (wpAny_holding (wpAny_pure ?_))
  refine wpAny_pure ?_
  refine wpAny_bind (wpAny_holding ?_)
  rw [List.forIn_cons]
  refine wpAny_bind (wpAny_bind (wpAny_bind (wpAny_mono h' (fun _ s2 h2 => ?_) fun _ _ x => x)))
  refine wpAny_pure ?_
  dsimp only
  rw [List.forIn_nil]
  refine wpAny_pure ?_
  rw [if_neg (by decide)]
  refine wpAny_pure ?_
  rw [show ([(false, t)] : List (Bool × Sem Value)).drop 1 = [] from rfl, List.forIn_nil]
  exact wpAny_pure (wpAny_pure h2)
theorem setAdd1 {a : Addr} {S : Int → Bool} {n : Nat} {k : Int} {tk : Tok} {Q : Bool → Shared → Prop} (R : SetR w s.heap a S n) (room : n + 1 < scanBound)
    (hQ : ∀ h', Heap.SameBut a s.heap h' → SetR w h' a (fun j => S j || decide (j = k)) (if S k = true then n else n + 1) → Q (!S k) { s with heap := h', toks := s.toks + 1 }) :
    wpAny (model P w) A (setAdd a (.int k tk)) Q E s := by
  unfold setAdd
  refine wpAny_holding ?_
  refine wpAny_bind ((intKind P w).pyHash (intKind_is P w k tk) ?_)
  exact setR_add_hashed (s := { s with toks := s.toks + 1 }) R room fun h' sb r => hQ h' sb r
end
def tSet1 (w : World) (t : TE) : TE := fun σ H Q => ∀ p, H p = none → t σ (upd H p (SetO w p (fun _ => false) 0)) fun x H1 => ∃ k : Int, x = .int k ∧ H1 p = some (SetO w p (fun _ => false) 0) ∧ Q (.ref p) (upd H1 p (SetO w p (fun j => decide (j = k)) 1))
variable {X : Cx} {e : Expr} {t : TE} {pos : Pos}
/-- {e}, one whole number -/
theorem pe_set1 (he : PE X e t) (hcd : PySem.W.kdsCode X.K X.env.code = true) (hst : starEach [e] X.env = [(false, eval e X.env)] := by rfl) : PE X (.Set [e] 0 pos) (tSet1 X.w t) := by
  refine ⟨fun pins s σ H Q I h => ?_⟩
  rw [arm_eval_Set]
  refine wpAny_bind (wpAny_standAt ?_)
  refine wpAny_bind (PySem.W.kds_main I.kIn hcd fun b => ?_)
  rw [hst]
  refine display1 ?_
  have new := setR_fresh (h := s.heap) X.w
  have I1 : Inv X pins σ (upd H s.heap.objs.size (SetO X.w s.heap.objs.size (fun _ => false) 0)) { s with heap := s.heap.push { cls := .type "set", dict := none, data := .set #[] 0 (.fresh 0 0 (!X.w.params.followText "set-order")) } } :=
    I.laid (t' := s.toks) (fun b u e => Heap.get?_push_of_some _ e) (Nat.le_refl _) (setO_new new)
  refine wpAny_bind (thn (he.run pins _ σ _ _ I1 (h s.heap.objs.size (I.hok.fresh (Nat.le_refl _)))) fun u s1 ⟨x, H1, I2, r1, k, ex, hp, q⟩ => ?_)
  subst ex
  obtain ⟨tk, rfl⟩ := r1
  refine wpAny_bind (wpAny_standAt (wpAny_pure ?_))
  have R := setO_get I2 hp
  refine setAdd1 R (by decide) fun h' sb r => ?_
  have r' : SetR X.w h' s.heap.objs.size (fun j => decide (j = k)) 1 := by
    have e1 : (fun j => (fun _ => false) j || decide (j = k)) = fun j => decide (j = k) := by funext j; exact Bool.false_or _
    rw [e1, if_neg Bool.false_ne_true] at r
    exact r
  have he' : ∃ u, h'.get? s.heap.objs.size = some u := by
    have ⟨o, _, _, _, ho, _⟩ := r'
    exact ⟨o, ho⟩
  exact ⟨.ref s.heap.objs.size, upd H1 s.heap.objs.size (SetO X.w s.heap.objs.size (fun j => decide (j = k)) 1), I2.write (e := s.heap.objs.size) (t' := s1.toks + 1) (by rw [hp]; trivial) (.inl rfl) (fun b u hb hu => (sb.2 b hb).trans hu) he' (setO_new r'), rfl, q⟩

def rLen (K : PySem.W.Frag) : List V → Hp → VK → Prop := fun xs H Q => ∃ p ys, xs = [V.ref p] ∧ (SqL K H p ys ∨ SqT K H p ys) ∧ Q (.int (ys.length : Nat)) H
theorem u65 {k : Nat} {A : Around} (r : Room k A) : A.units + 65 < cLine := by have := r.un; omega
/-- a statement's reading, held together -/
def hold (t : TS) : TS := fun D σ H => t D σ H
theorem keep {X : Cx} {st : Stmt} {t : TS} (h : PS X st t) : PS X st (hold t) := h
/-- what is never come to -/
theorem pss_void {X : Cx} {l : List Stmt} : PSs X l (fun _ _ _ => False) := ⟨fun _ _ _ _ _ _ h => h.elim⟩
/-! ### defs whose code object is asked -/
section
variable {P : Program} {w : World} {K : PySem.W.Frag} {mg : Str → Option Value} {base : Heap} {CX : CXT} {j k : Nat} {x m qual : Str} {st : Stmt} {ps N : List Str} {sp : Sp} {C : Addr}
theorem okC (D : Fd.Def K mg x st ps) (S : FnScope N ps (defScope st)) (len : ∀ vs H Q E, sp vs H Q E → vs.length = ps.length)
    (body : ∀ (f : Addr) (cdv : Value) (A : Around) (outer : List Env) (s : Shared) (H : Hp) (vs : List V) (Q : VK) (E : XK), PySem.W.kdsCode K cdv = true → Room k (A.deeper (envOfC x (defScope st) s.heap.objs.size f cdv)) → sp vs H Q E →
      ∃ t, PSs (cxOf CX0 P w K mg base N x (defScope st) f cdv A outer s H E).nox (defBody st) t ∧ t { nx := fun _ H' => Q .non H', rt := Q } (start N vs) H) : Fd.Has P w K mg base CX0 (k + 1) x ps sp := by
  obtain ⟨f, fd, a, F, b⟩ := D
  refine ⟨f, fd, a, F.kp, b, ?_⟩
  obtain ⟨oc, od, kV, doc, pm, an, cdv, ct, osl, rfl, lk, hcd⟩ := F.ex
  refine fn_of lk hcd S len fun A outer s H vs Q E hr hsp => ?_
  obtain ⟨t, h, q⟩ := body f cdv A outer s H vs Q E (kdsCode_of hcd) hr hsp
  exact ⟨t, h.nox, q⟩
theorem okNC (D : Fd.Def K mg x st ps) (S : FnScope N ps (defScope st)) (len : ∀ vs H Q E, sp vs H Q E → vs.length = ps.length)
    (body : ∀ (f : Addr) (cdv : Value) (A : Around) (outer : List Env) (s : Shared) (H : Hp) (vs : List V) (Q : VK) (E : XK), PySem.W.kdsCode K cdv = true → Room k (A.deeper (envOfC x (defScope st) s.heap.objs.size f cdv)) → sp vs H Q E →
      ∃ t, PSs (cxOf (L2N.CX P w) P w K mg base N x (defScope st) f cdv A outer s H E) (defBody st) t ∧ t { nx := fun _ H' => Q .non H', rt := Q } (start N vs) H) : Fd.Has P w K mg base (L2N.CX P w) (k + 1) x ps sp := by
  obtain ⟨f, fd, a, F, b⟩ := D
  refine ⟨f, fd, a, F.kp, b, ?_⟩
  obtain ⟨oc, od, kV, doc, pm, an, cdv, ct, osl, rfl, lk, hcd⟩ := F.ex
  exact fn_of lk hcd S len fun A outer s H vs Q E hr hsp => body f cdv A outer s H vs Q E (kdsCode_of hcd) hr hsp
end
end Sd

/-! xs[::2] of a list. -/
namespace St2
open PySem PySem.Spec PyProof.Rows L2
/-- each second item, from the first on -/
def ev {α : Type} : List α → List α
  | [] => []
  | [x] => [x]
  | x :: _ :: r => x :: ev r
theorem ev_pick {α : Type} : ∀ xs : List α, (List.range ((xs.length + 1) / 2)).filterMap (fun k => xs[2 * k]?) = ev xs
  | [] => by simp [ev]
  | [x] => by simp [ev, List.range_succ]
  | x :: y :: r => by
    have e : ((x :: y :: r).length + 1) / 2 = (r.length + 1) / 2 + 1 := by
      rw [List.length_cons, List.length_cons]; omega
    rw [e, List.range_succ_eq_map, List.filterMap_cons_some (b := x) (by rfl), List.filterMap_map]
    show x :: _ = x :: ev r
    rw [← ev_pick r]
    refine congrArg (x :: ·) ?_
    refine congrArg (fun f => (List.range ((r.length + 1) / 2)).filterMap f) ?_
    funext k
    show (x :: y :: r)[2 * (k + 1)]? = r[2 * k]?
    rw [show 2 * (k + 1) = 2 * k + 1 + 1 by omega, List.getElem?_cons_succ, List.getElem?_cons_succ]
theorem ev_len {α : Type} : ∀ xs : List α, (ev xs).length = (xs.length + 1) / 2
  | [] => by simp [ev]
  | [x] => by simp [ev]
  | x :: y :: r => by
    show (ev r).length + 1 = _
    rw [ev_len r, List.length_cons, List.length_cons]; omega
theorem range2 (n : Nat) : sliceRange 0 (n : Int) 2 = (List.range ((n + 1) / 2)).map fun k => 2 * k := by
  unfold sliceRange
  have h1 : (2 : Int) > 0 := by decide
  by_cases h : (0 : Int) < (n : Int)
  · have e : (((n : Int) - 0 + 2 - 1) / 2).toNat = (n + 1) / 2 := by omega
    simp only [h1, if_true, h, e]
    refine List.map_congr_left fun k hk => ?_
    omega
  · have e : n = 0 := by omega
    subst e
    simp
theorem pick2 (items : Array Value) : slicePick items none none (some 2) = (ev items.toList).toArray := by
  unfold slicePick
  have eb : sliceBounds none none (some 2) items.size = (0, (items.size : Int), 2) := by
    first
    | rfl
    | simp [sliceBounds]
  rw [eb]
  show ((sliceRange 0 (items.size : Int) 2).filterMap (items[·]?)).toArray = _
  rw [range2, List.filterMap_map, ← ev_pick items.toList, Array.length_toList]
  refine congrArg List.toArray ?_
  refine congrArg (fun f => (List.range ((items.size + 1) / 2)).filterMap f) ?_
  funext k
  show items[2 * k]? = items.toList[2 * k]?
  rw [Array.getElem?_toList]
theorem ev_vals : ∀ {xs : List V} {us : List Value}, Vals xs us → Vals (ev xs) (ev us)
  | _, _, .nil => .nil
  | _, _, .cons h .nil => .cons h .nil
  | _, _, .cons h (.cons _ t) => .cons h (ev_vals t)
def tEvL (K : PySem.W.Frag) (te : TE) : TE := fun σ H Q => te σ H fun x H1 => ∃ a xs, x = .ref a ∧ SqL K H1 a xs ∧ ∀ p, H1 p = none → Q (.ref p) (upd H1 p (.lst (ev xs)))
variable {X : Cx}
theorem pe_evL {e : Expr} {te : TE} {k : Nat} {p1 p3 pos : Pos} (he : PE X e te) : PE X (.Subscript e (.Slice none none (some (.Constant (.int 2) k p1)) p3) pos) (tEvL X.K te) := by
  refine ⟨fun pins s σ H Q I h => ?_⟩
  refine Subscript_ (thn (he.run pins s σ H _ I h) fun v s1 ⟨x, H1, I1, r1, q1⟩ => ?_)
  obtain ⟨a, xs, ex, hx, q⟩ := q1
  subst ex
  cases r1
  have hst : PO X (some (.Constant (.int 2) k p1)) (tPart (tC (.int 2))) := po_some pe_int
  refine wpAny_Slice (thn (po_none.run pins s1 σ H1 (fun o H2 => o = none ∧ H2 = H1) I1 ⟨rfl, rfl⟩) fun vl s2 ⟨l, H2, I2, pl, el, e2⟩ => ?_)
  subst el e2
  refine thn (po_none.run pins s2 σ H2 (fun o H3 => o = none ∧ H3 = H2) I2 ⟨rfl, rfl⟩) fun vu s3 ⟨u, H3, I3, pu, eu, e3⟩ => ?_
  subst eu e3
  refine thn (hst.run pins s3 σ H3 (fun o H4 => o = some 2 ∧ H4 = H3) I3 ⟨2, rfl, rfl, rfl⟩) fun vs s4 ⟨o, H4, I4, ps, eo, e4⟩ => ?_
  subst eo e4
  have I5 : Inv X pins σ H4 { s4 with heap := s4.heap.push { cls := .type "slice", data := .fields #[vl, vu, vs] } } := I4.kept (t' := s4.toks) fun b ob q => Heap.get?_push_of_some _ q
  obtain ⟨its, r, ht, hz⟩ := I5.list hx
  have hlen := r.length
  show wpAny (model X.prog X.w) X.A (subscriptTail e (.Slice none none (some (.Constant (.int 2) k p1)) p3) (.ref a) (.ref s4.heap.objs.size)) (EP X pins σ Q) X.xe { s4 with heap := s4.heap.push { cls := .type "slice", data := .fields #[vl, vu, vs] } }
  refine tail_any (ops := [.ref a, .ref s4.heap.objs.size]) ht.isList.typeIs (PySem.slot_list_getitem.lookup) ?_ (by with_unfolding_all rfl)
  refine wpAny_getItem_list_slice ht.isList (Heap.IsSliceOf.new _ vl vu vs) pl pu ps (by decide) ?_ (by rw [List.size_toArray]; omega)
  rw [pick2]
  refine ⟨.ref _, _, I5.laid (t' := s4.toks) (o := .lst (ev xs)) (fun b ob q => Heap.get?_push_of_some _ q) (Nat.le_refl _) ?_, rfl, q _ (I5.hok.fresh (Nat.le_refl _))⟩
  exact ⟨by rw [ev_len]; omega, _, 0, ev_vals r, Heap.get?_push_size _ rfl⟩
end St2

/-! len(set(xs)) of whole numbers, some of them twice. -/
namespace St2
open PySem PySem.Spec PyProof.Rows L2
/-- how many different numbers there are -/
def dist (ns : List Int) : Nat := (PyProof.Rows.firstMet (fun i => ns.getD i 0) ns.length).length
theorem dist_nd {ns : List Int} (h : ns.Nodup) : dist ns = ns.length := by
  unfold dist
  rw [RZ.firstMet_nodup h ns.length (Nat.le_refl _), List.take_length]
theorem fm_le (f : Nat → Int) : ∀ i, (PyProof.Rows.firstMet f i).length ≤ i
  | 0 => Nat.le_refl _
  | i + 1 => by
    have ih := fm_le f i
    rw [PyProof.Rows.firstMet_succ]
    unfold PyProof.Rows.step_dedup
    split
    · omega
    · rw [List.length_append, List.length_singleton]; omega
theorem fm_eq (f : Nat → Int) : ∀ i, (PyProof.Rows.firstMet f i).length = i → PyProof.Rows.firstMet f i = (List.range i).map f ∧ ((List.range i).map f).Nodup
  | 0, _ => ⟨rfl, List.nodup_nil⟩
  | i + 1, h => by
    have le := fm_le f i
    rw [PyProof.Rows.firstMet_succ] at h ⊢
    unfold PyProof.Rows.step_dedup at h ⊢
    by_cases c : (PyProof.Rows.firstMet f i).any (· == f i) = true
    · rw [if_pos c] at h; omega
    · rw [if_neg c] at h ⊢
      rw [List.length_append, List.length_singleton] at h
      obtain ⟨e, nd⟩ := fm_eq f i (by omega)
      rw [e] at c
      have nm : f i ∉ (List.range i).map f := fun z => c (List.any_eq_true.mpr ⟨f i, z, by simp⟩)
      rw [List.range_succ, List.map_append, e]
      exact ⟨rfl, List.nodup_append.mpr ⟨nd, List.pairwise_singleton _ _, fun a ha b hb e2 => nm (by rw [← List.mem_singleton.mp hb, ← e2]; exact ha)⟩⟩
theorem dist_iff {ns : List Int} : dist ns = ns.length ↔ ns.Nodup := by
  refine ⟨fun h => ?_, dist_nd⟩
  have e : (List.range ns.length).map (fun i => ns.getD i 0) = ns := by
    refine List.ext_getElem? fun i => ?_
    by_cases hi : i < ns.length
    · rw [List.getElem?_map, List.getElem?_range hi, List.getElem?_eq_getElem hi]
      show some (ns.getD i 0) = _
      rw [List.getD_eq_getElem?_getD, List.getElem?_eq_getElem hi]; rfl
    · rw [List.getElem?_eq_none (by rw [List.length_map, List.length_range]; omega), List.getElem?_eq_none (by omega)]
  have h2 := (fm_eq (fun i => ns.getD i 0) ns.length h).2
  rw [e] at h2; exact h2
def tLenD (K : PySem.W.Frag) (ta : TE) : TE := fun σ H Q => ta σ H fun x H1 => ∃ (l : Addr) (ns : List Int), x = .ref l ∧ SqL K H1 l (ns.map V.int) ∧ ns.length ≤ 4000 ∧ Q (.int (dist ns : Nat)) H1
theorem pe_lenD {X : Cx} {a : Expr} {ta : TE} {p p2 q pos : Pos} (hg : Gl X "len") (hm : X.mg "len" = none) (hg2 : Gl X "set") (hm2 : X.mg "set" = none) (ha : PE X a ta) (hc : X.calm = true := by rfl)
    (na : starEach [a] X.env = (false, eval a X.env) :: starEach [] X.env := by rfl) : PE X (.Call (.Name "len" p) [.Call (.Name "set" p2) [a] [] q] [] pos) (tLenD X.K ta) := by
  refine ⟨fun pins s σ H Q I h => ?_⟩
  refine Call_ (ld_blt I hg hm boot_len ?_)
  refine PyProof.Rows.callWith_builtin1 (PyProof.Rows.args_cons ?_ rfl) rfl rfl
  refine Call_ (ld_blt I hg2 hm2 boot_set ?_)
  refine PyProof.Rows.callWith_type1 (PyProof.Rows.args_cons (thn (ha.run pins s σ H _ I h) fun v s1 ⟨x, H1, I1, r1, q1⟩ => PyProof.Rows.args_nil ?_) na) na rfl
  obtain ⟨l, ns, rfl, hq, hl, q1⟩ := q1
  cases r1
  obtain ⟨its, r, pl, hz⟩ := I1.list hq
  have hlen : its.toArray.size = ns.length := by rw [List.size_toArray, ← r.length, List.length_map]
  refine call_set_list (I1.ok.hd hc) pl.isList (by simpa using RZ.intsAre_vals r) (by rw [hlen]; unfold scanBound; omega) fun h' tk hS hk => ?_
  refine PyProof.Rows.args_nil ?_
  rw [hlen] at hS
  obtain ⟨o, es, ep, t, ho, hex, hd, _, _, _, hf, hn⟩ := hS
  have I2 : Inv X pins σ H1 { s1 with heap := h', toks := tk } := I1.kept fun b o e => hk b o (Heap.lt_size e) e
  have hdl : dist ns ≤ ns.length := fm_le _ _
  have hn' : es.size = dist ns := hn
  exact call_len_set ho hex hd hf (by rw [hn'] <;> omega) ⟨.int (dist ns : Nat), H1, I2.tok _, ⟨_, by rw [hn']⟩, q1⟩
end St2

namespace Ge
/-- ties: who lies beside whom -/
structure Gr (nb : Int → List Int) : Prop where
  sym : ∀ {p q}, q ∈ nb p → p ∈ nb q
  irr : ∀ {p}, p ∉ nb p
/-- a pairing: for each place its mate -/
structure Mt (nb : Int → List Int) (m : Int → Option Int) : Prop where
  sym : ∀ {p q}, m p = some q → m q = some p
  tie : ∀ {p q}, m p = some q → q ∈ nb p
/-- l is a road from r to x -/
structure Rd (nb : Int → List Int) (m : Int → Option Int) (r x : Int) (l : List Int) : Prop where
  odd : l.length % 2 = 1
  fst : l[0]? = some r
  lst : l[l.length - 1]? = some x
  nd : l.Nodup
  adj : ∀ (i : Nat) (a b : Int), l[i]? = some a → l[i+1]? = some b → b ∈ nb a
  alt : ∀ (i : Nat) (a b : Int), i % 2 = 1 → l[i]? = some a → l[i+1]? = some b → m a = some b
theorem nodup_at {l : List Int} (h : l.Nodup) {i j : Nat} {a : Int} (hi : l[i]? = some a) (hj : l[j]? = some a) : i = j := by
  obtain ⟨h1, e1⟩ := List.getElem?_eq_some_iff.mp hi
  obtain ⟨h2, e2⟩ := List.getElem?_eq_some_iff.mp hj
  have k := List.pairwise_iff_getElem.mp h
  rcases Nat.lt_trichotomy i j with c | c | c
  · exact absurd (e1.trans e2.symm) (k i j h1 h2 c)
  · exact c
  · exact absurd (e2.trans e1.symm) (k j i h2 h1 c)
theorem mem_take {l : List Int} {k : Nat} {a : Int} : a ∈ l.take k ↔ ∃ j, j < k ∧ l[j]? = some a := by
  constructor
  · intro h
    obtain ⟨j, hj⟩ := List.getElem?_of_mem h
    rw [List.getElem?_take] at hj
    by_cases c : j < k
    · rw [if_pos c] at hj; exact ⟨j, c, hj⟩
    · rw [if_neg c] at hj; cases hj
  · rintro ⟨j, h1, h2⟩
    exact List.mem_of_getElem? (i := j) (by rw [List.getElem?_take, if_pos h1]; exact h2)
theorem mem_drop {l : List Int} {k : Nat} {a : Int} : a ∈ l.drop k ↔ ∃ j, k ≤ j ∧ l[j]? = some a := by
  constructor
  · intro h
    obtain ⟨j, hj⟩ := List.getElem?_of_mem h
    rw [List.getElem?_drop] at hj
    exact ⟨k + j, Nat.le_add_right _ _, hj⟩
  · rintro ⟨j, h1, h2⟩
    exact List.mem_of_getElem? (i := j - k) (by rw [List.getElem?_drop, show k + (j - k) = j by omega]; exact h2)
section
variable {nb : Int → List Int} {m : Int → Option Int} {r x : Int} {l : List Int}
theorem Rd.pos (R : Rd nb m r x l) : 0 < l.length := by have := R.odd; omega
theorem Rd.mem (R : Rd nb m r x l) : x ∈ l := List.mem_of_getElem? R.lst
/-- what stands at an odd place has its mate behind it -/
theorem Rd.next (R : Rd nb m r x l) {i : Nat} {a : Int} (h : l[i]? = some a) (o : i % 2 = 1) : ∃ b, l[i+1]? = some b ∧ m a = some b := by
  have hl := (List.getElem?_eq_some_iff.mp h).1
  have := R.odd
  have h2 : i + 1 < l.length := by omega
  exact ⟨l[i+1], List.getElem?_eq_getElem h2, R.alt i a _ o h (List.getElem?_eq_getElem h2)⟩
/-- what stands at an even place, but the first, has its mate ahead of it -/
theorem Rd.prev (M : Mt nb m) (R : Rd nb m r x l) {i : Nat} {a : Int} (h : l[i+1]? = some a) (o : i % 2 = 1) : ∃ b, l[i]? = some b ∧ m a = some b := by
  have hl := (List.getElem?_eq_some_iff.mp h).1
  have h2 : i < l.length := by omega
  exact ⟨l[i], List.getElem?_eq_getElem h2, M.sym (R.alt i _ a o (List.getElem?_eq_getElem h2) h)⟩
end
/-- the state of a search from r: E are the places that have roads, rd the roads -/
structure Sv (nb : Int → List Int) (m : Int → Option Int) (r : Int) (E : List Int) (rd : Int → List Int) : Prop where
  alone : m r = none
  ini : r ∈ E
  ini1 : rd r = [r]
  road : ∀ x ∈ E, Rd nb m r x (rd x)
  ev : ∀ x ∈ E, ∀ (i : Nat) (w : Int), i % 2 = 0 → (rd x)[i]? = some w → w ∈ E
  sig : ∀ x ∈ E, ∀ (i : Nat) (w : Int), (rd x)[i]? = some w → w ∈ E → ∀ p, p ∉ E → (p ∈ rd w ↔ p ∈ (rd x).take i)
section
variable {nb : Int → List Int} {m : Int → Option Int} {r : Int} {E : List Int} {rd : Int → List Int}
theorem Sv.start (h : m r = none) : Sv nb m r [r] (fun _ => [r]) := by
  refine ⟨h, List.mem_singleton.mpr rfl, rfl, fun x hx => ?_, fun x hx i w _ hw => ?_, fun x hx i w hw hwE p hp => ?_⟩
  · rw [List.mem_singleton.mp hx]
    refine ⟨rfl, rfl, rfl, by simp, fun i a b _ h2 => ?_, fun i a b _ _ h2 => ?_⟩
    · have := (List.getElem?_eq_some_iff.mp h2).1; simp at this
    · have := (List.getElem?_eq_some_iff.mp h2).1; simp at this
  · have := List.mem_of_getElem? hw; exact this
  · have := (List.getElem?_eq_some_iff.mp hw).1
    simp at this; subst this
    constructor
    · intro z; exact absurd z hp
    · intro z; simp at z
/-- a place without a road stands at an odd place of a road -/
theorem Sv.at_odd (S : Sv nb m r E rd) {x : Int} (hx : x ∈ E) {i : Nat} {w : Int} (h : (rd x)[i]? = some w) (hw : w ∉ E) : i % 2 = 1 := by
  by_cases c : i % 2 = 1
  · exact c
  · exact absurd (S.ev x hx i w (by omega) h) hw
/-- .. and its mate has a road -/
theorem Sv.mate_in (S : Sv nb m r E rd) {x : Int} (hx : x ∈ E) {i : Nat} {w : Int} (h : (rd x)[i]? = some w) (hw : w ∉ E) : ∃ v, (rd x)[i+1]? = some v ∧ m w = some v ∧ v ∈ E := by
  have o := S.at_odd hx h hw
  obtain ⟨v, h1, h2⟩ := (S.road x hx).next h o
  exact ⟨v, h1, h2, S.ev x hx (i+1) v (by omega) h1⟩
/-- a place whose mate has no road, too, is on no road -/
theorem Sv.off (M : Mt nb m) (S : Sv nb m r E rd) {y z : Int} (h : m y = some z) (hy : y ∉ E) (hz : z ∉ E) : ∀ x ∈ E, y ∉ rd x := fun x hx hm => by
  obtain ⟨i, hi⟩ := List.getElem?_of_mem hm
  obtain ⟨v, _, h2, h3⟩ := S.mate_in hx hi hy
  rw [h] at h2; cases h2
  exact hz h3
theorem getElem?_app2 {l : List Int} {a b : Int} {i : Nat} {w : Int} (h : (l ++ [a, b])[i]? = some w) : (i < l.length ∧ l[i]? = some w) ∨ (i = l.length ∧ w = a) ∨ (i = l.length + 1 ∧ w = b) := by
  by_cases c : i < l.length
  · rw [List.getElem?_append_left c] at h; exact .inl ⟨c, h⟩
  · rw [List.getElem?_append_right (by omega)] at h
    have hl := (List.getElem?_eq_some_iff.mp h).1
    simp at hl
    by_cases c1 : i = l.length
    · subst c1; simp at h; exact .inr (.inl ⟨rfl, h.symm⟩)
    · have e : i - l.length = 1 := by omega
      rw [e] at h; simp at h
      exact .inr (.inr ⟨by omega, h.symm⟩)
/-- the search goes over a tie and a pair -/
theorem Sv.grow (G : Gr nb) (M : Mt nb m) (S : Sv nb m r E rd) {x y z : Int} (hx : x ∈ E) (hy : y ∈ nb x) (hyE : y ∉ E) (hz : m y = some z) (hzE : z ∉ E) :
    Sv nb m r (E ++ [z]) (fun p => if p = z then rd x ++ [y, z] else rd p) := by
  have offy := S.off M hz hyE hzE
  have offz := S.off M (M.sym hz) hzE hyE
  have yz : y ≠ z := fun e => by
    have := M.tie hz; rw [e] at this; exact G.irr this
  have nz : ∀ p ∈ E, (if p = z then rd x ++ [y, z] else rd p) = rd p := fun p hp => if_neg fun e => hzE (by rw [← e]; exact hp)
  have mE : ∀ p, p ∈ E ++ [z] → p ∈ E ∨ p = z := fun p hp => by
    rcases List.mem_append.mp hp with h | h
    · exact .inl h
    · exact .inr (List.mem_singleton.mp h)
  have R := S.road x hx
  have lo := R.odd
  have l9 := R.lst
  refine ⟨S.alone, List.mem_append_left _ S.ini, ?_, fun p hp => ?_, fun p hp i w hi hw => ?_, fun p hp i w hw hwE q hq => ?_⟩
  · show (if r = z then _ else _) = _
    rw [nz r S.ini]; exact S.ini1
  · rcases mE p hp with h | rfl
    · show Rd nb m r p (if p = z then _ else _)
      rw [nz p h]; exact S.road p h
    · show Rd nb m r p (if p = p then _ else _)
      rw [if_pos rfl]
      refine ⟨?_, ?_, ?_, ?_, fun i a b h1 h2 => ?_, fun i a b hi h1 h2 => ?_⟩
      · rw [List.length_append]; simp; omega
      · rw [List.getElem?_append_left R.pos]; exact R.fst
      · rw [List.length_append]
        show (rd x ++ [y, p])[(rd x).length + 2 - 1]? = _
        rw [List.getElem?_append_right (by omega), show (rd x).length + 2 - 1 - (rd x).length = 1 by omega]; rfl
      · refine List.nodup_append.mpr ⟨R.nd, ?_, fun a ha b hb e => ?_⟩
        · simp [yz]
        · subst e
          simp at hb
          rcases hb with rfl | rfl
          · exact offy x hx ha
          · exact offz x hx ha
      · rcases getElem?_app2 h1 with ⟨c1, e1⟩ | ⟨c1, e1⟩ | ⟨c1, e1⟩
        · rcases getElem?_app2 h2 with ⟨c2, e2⟩ | ⟨c2, e2⟩ | ⟨c2, e2⟩
          · exact R.adj i a b e1 e2
          · have : i = (rd x).length - 1 := by omega
            rw [this, l9] at e1; cases e1; subst e2; exact hy
          · omega
        · rcases getElem?_app2 h2 with ⟨c2, e2⟩ | ⟨c2, e2⟩ | ⟨c2, e2⟩
          · omega
          · omega
          · subst e1; subst e2; exact M.tie hz
        · rcases getElem?_app2 h2 with ⟨c2, e2⟩ | ⟨c2, e2⟩ | ⟨c2, e2⟩ <;> omega
      · rcases getElem?_app2 h1 with ⟨c1, e1⟩ | ⟨c1, e1⟩ | ⟨c1, e1⟩
        · rcases getElem?_app2 h2 with ⟨c2, e2⟩ | ⟨c2, e2⟩ | ⟨c2, e2⟩
          · exact R.alt i a b hi e1 e2
          · omega
          · omega
        · rcases getElem?_app2 h2 with ⟨c2, e2⟩ | ⟨c2, e2⟩ | ⟨c2, e2⟩
          · omega
          · omega
          · subst e1; subst e2; exact hz
        · rcases getElem?_app2 h2 with ⟨c2, e2⟩ | ⟨c2, e2⟩ | ⟨c2, e2⟩ <;> omega
  · rcases mE p hp with h | rfl
    · simp only [nz p h] at hw
      exact List.mem_append_left _ (S.ev p h i w hi hw)
    · simp only [if_pos] at hw
      rcases getElem?_app2 hw with ⟨c1, e1⟩ | ⟨c1, e1⟩ | ⟨c1, e1⟩
      · exact List.mem_append_left _ (S.ev x hx i w hi e1)
      · omega
      · subst e1; exact List.mem_append_right _ (List.mem_singleton.mpr rfl)
  · have hqE : q ∉ E := fun h => hq (List.mem_append_left _ h)
    have hqz : q ≠ z := fun h => hq (List.mem_append_right _ (List.mem_singleton.mpr h))
    rcases mE p hp with h | rfl
    · simp only [nz p h] at hw ⊢
      rcases mE w hwE with hw' | rfl
      · simp only [nz w hw']; exact S.sig p h i w hw hw' q hqE
      · exact absurd (List.mem_of_getElem? hw) (offz p h)
    · simp only [if_pos] at hw ⊢
      rcases getElem?_app2 hw with ⟨c1, e1⟩ | ⟨c1, e1⟩ | ⟨c1, e1⟩
      · have hw' : w ∈ E := by
          rcases mE w hwE with h | rfl
          · exact h
          · exact absurd (List.mem_of_getElem? e1) (offz x hx)
        simp only [nz w hw']
        rw [List.take_append_of_le_length (by omega)]
        exact S.sig x hx i w e1 hw' q hqE
      · subst e1
        rcases mE w hwE with h | h
        · exact absurd h hyE
        · exact absurd h yz
      · subst e1 c1
        simp only [if_pos]
        rw [List.take_append, List.take_of_length_le (by omega), show (rd x).length + 1 - (rd x).length = 1 by omega]
        simp [hqz]
end
end Ge

namespace Ge
section
variable {nb : Int → List Int} {m : Int → Option Int} {r : Int} {E : List Int} {rd : Int → List Int}
/-- behind a place of the road of a that has no road and is not on the road of b, nothing is on the road of b -/
theorem Sv.apart (S : Sv nb m r E rd) {a b : Int} (ha : a ∈ E) (hb : b ∈ E) {k : Nat} {p : Int} (hk : (rd a)[k]? = some p) (hp : p ∉ E) (hpb : p ∉ rd b) {j : Nat} {w : Int} (hj : (rd a)[j]? = some w) (kj : k ≤ j) : w ∉ rd b := fun hw => by
  by_cases e : k = j
  · subst e
    rw [hk] at hj; cases hj
    exact hpb hw
  obtain ⟨i, hi⟩ := List.getElem?_of_mem hw
  by_cases hwE : w ∈ E
  · have h1 := (S.sig a ha j w hj hwE p hp).mpr (mem_take.mpr ⟨k, by omega, hk⟩)
    have h2 := (S.sig b hb i w hi hwE p hp).mp h1
    exact hpb (List.mem_of_mem_take h2)
  · obtain ⟨v, h1, h2, h3⟩ := S.mate_in ha hj hwE
    obtain ⟨v', h1', h2', h3'⟩ := S.mate_in hb hi hwE
    rw [h2] at h2'; cases h2'
    have q1 := (S.sig a ha (j+1) v h1 h3 p hp).mpr (mem_take.mpr ⟨k, by omega, hk⟩)
    have q2 := (S.sig b hb (i+1) v h1' h3 p hp).mp q1
    exact hpb (List.mem_of_mem_take q2)
/-- the road round the ring -/
theorem Sv.round (G : Gr nb) (M : Mt nb m) (S : Sv nb m r E rd) {a b : Int} (ha : a ∈ E) (hb : b ∈ E) (hab : b ∈ nb a) {k : Nat} {p : Int} (hk : (rd a)[k]? = some p) (hp : p ∉ E) (hpb : p ∉ rd b) :
    Rd nb m r p (rd b ++ ((rd a).drop k).reverse) := by
  have Ra := S.road a ha
  have Rb := S.road b hb
  have la := Ra.odd
  have lb := Rb.odd
  have ok := S.at_odd ha hk hp
  have hkl := (List.getElem?_eq_some_iff.mp hk).1
  have at2 : ∀ (i : Nat) (w : Int), (rd b).length ≤ i → (rd b ++ ((rd a).drop k).reverse)[i]? = some w → i < (rd b).length + (rd a).length - k ∧ (rd a)[(rd a).length - 1 - (i - (rd b).length)]? = some w := by
    intro i w c h
    have hl := (List.getElem?_eq_some_iff.mp h).1
    rw [List.length_append, List.length_reverse, List.length_drop] at hl
    rw [List.getElem?_append_right c, List.getElem?_reverse (by rw [List.length_drop]; omega), List.getElem?_drop, List.length_drop] at h
    refine ⟨by omega, ?_⟩
    rw [show k + ((rd a).length - k - 1 - (i - (rd b).length)) = (rd a).length - 1 - (i - (rd b).length) by omega] at h
    exact h
  refine ⟨?_, ?_, ?_, ?_, fun i u v h1 h2 => ?_, fun i u v hi h1 h2 => ?_⟩
  · rw [List.length_append, List.length_reverse, List.length_drop]; omega
  · rw [List.getElem?_append_left Rb.pos]; exact Rb.fst
  · have e : (rd b ++ ((rd a).drop k).reverse).length = (rd b).length + ((rd a).length - k) := by rw [List.length_append, List.length_reverse, List.length_drop]
    rw [e, List.getElem?_append_right (by omega), List.getElem?_reverse (by rw [List.length_drop]; omega), List.getElem?_drop, List.length_drop]
    rw [show k + ((rd a).length - k - 1 - ((rd b).length + ((rd a).length - k) - 1 - (rd b).length)) = k by omega]
    exact hk
  · refine List.nodup_append.mpr ⟨Rb.nd, List.pairwise_reverse.mpr ((Ra.nd.sublist (List.drop_sublist k (rd a))).imp fun h => Ne.symm h), fun u hu v hv e => ?_⟩
    subst e
    rw [List.mem_reverse] at hv
    obtain ⟨j, h1, h2⟩ := mem_drop.mp hv
    exact S.apart ha hb hk hp hpb h2 h1 hu
  · by_cases c : i < (rd b).length
    · rw [List.getElem?_append_left c] at h1
      by_cases c2 : i + 1 < (rd b).length
      · rw [List.getElem?_append_left c2] at h2
        exact Rb.adj i u v h1 h2
      · obtain ⟨_, q⟩ := at2 (i+1) v (by omega) h2
        have e1 : i = (rd b).length - 1 := by omega
        rw [e1, Rb.lst] at h1; cases h1
        rw [show (rd a).length - 1 - (i + 1 - (rd b).length) = (rd a).length - 1 by omega, Ra.lst] at q
        cases q
        exact G.sym hab
    · obtain ⟨c1, q1⟩ := at2 i u (by omega) h1
      obtain ⟨c2, q2⟩ := at2 (i+1) v (by omega) h2
      refine G.sym (Ra.adj ((rd a).length - 1 - (i + 1 - (rd b).length)) v u q2 ?_)
      rw [show (rd a).length - 1 - (i + 1 - (rd b).length) + 1 = (rd a).length - 1 - (i - (rd b).length) by omega]
      exact q1
  · by_cases c : i < (rd b).length
    · rw [List.getElem?_append_left c] at h1
      have c2 : i + 1 < (rd b).length := by omega
      rw [List.getElem?_append_left c2] at h2
      exact Rb.alt i u v hi h1 h2
    · obtain ⟨c1, q1⟩ := at2 i u (by omega) h1
      obtain ⟨c2, q2⟩ := at2 (i+1) v (by omega) h2
      refine M.sym (Ra.alt ((rd a).length - 1 - (i + 1 - (rd b).length)) v u (by omega) q2 ?_)
      rw [show (rd a).length - 1 - (i + 1 - (rd b).length) + 1 = (rd a).length - 1 - (i - (rd b).length) by omega]
      exact q1
/-- what a ring makes of a state -/
structure Rg (E : List Int) (rd : Int → List Int) (a b : Int) (E' : List Int) (rd' : Int → List Int) : Prop where
  sub : ∀ p ∈ E, p ∈ E'
  new : ∀ p ∈ E', p ∉ E → (p ∈ rd a ∧ p ∉ rd b) ∨ (p ∈ rd b ∧ p ∉ rd a)
  all : ∀ p, p ∉ E → (p ∈ rd a ∧ p ∉ rd b) ∨ (p ∈ rd b ∧ p ∉ rd a) → p ∈ E'
  old : ∀ p ∈ E, rd' p = rd p
  nwa : ∀ p, p ∉ E → ∀ i : Nat, (rd a)[i]? = some p → p ∉ rd b → rd' p = rd b ++ ((rd a).drop i).reverse
  nwb : ∀ p, p ∉ E → ∀ i : Nat, (rd b)[i]? = some p → p ∉ rd a → rd' p = rd a ++ ((rd b).drop i).reverse
theorem Rg.flip {a b : Int} {E' : List Int} {rd' : Int → List Int} (h : Rg E rd a b E' rd') : Rg E rd b a E' rd' :=
  ⟨h.sub, fun p h1 h2 => (h.new p h1 h2).symm, fun p h1 h2 => h.all p h1 h2.symm, h.old, h.nwb, h.nwa⟩
section
variable {a b : Int} {E' : List Int} {rd' : Int → List Int}
/-- behind such a place all get roads -/
theorem Rg.behind (S : Sv nb m r E rd) (h : Rg E rd a b E' rd') (ha : a ∈ E) (hb : b ∈ E) {k : Nat} {p : Int} (hk : (rd a)[k]? = some p) (hp : p ∉ E) (hpb : p ∉ rd b) {j : Nat} {w : Int} (hj : (rd a)[j]? = some w) (kj : k ≤ j) : w ∈ E' := by
  have n := S.apart ha hb hk hp hpb hj kj
  by_cases c : w ∈ E
  · exact h.sub w c
  · exact h.all w c (.inl ⟨List.mem_of_getElem? hj, n⟩)
theorem Rg.key (S : Sv nb m r E rd) (h : Rg E rd a b E' rd') (ha : a ∈ E) (hb : b ∈ E) {k : Nat} {p : Int} (hk : (rd a)[k]? = some p) (hp : p ∉ E) (hpb : p ∉ rd b) {q : Int} (hq : q ∉ E') : q ∈ rd b ↔ q ∈ (rd a).take k := by
  have qE : q ∉ E := fun z => hq (h.sub q z)
  constructor
  · intro z
    by_cases c : q ∈ rd a
    · obtain ⟨j, hj⟩ := List.getElem?_of_mem c
      by_cases kj : k ≤ j
      · exact absurd z (S.apart ha hb hk hp hpb hj kj)
      · exact mem_take.mpr ⟨j, by omega, hj⟩
    · exact absurd (h.all q qE (.inr ⟨z, c⟩)) hq
  · intro z
    by_cases c : q ∈ rd b
    · exact c
    · exact absurd (h.all q qE (.inl ⟨List.mem_of_mem_take z, c⟩)) hq
/-- a new road, but for those that have roads now -/
theorem Rg.new_sig (S : Sv nb m r E rd) (h : Rg E rd a b E' rd') (ha : a ∈ E) (hb : b ∈ E) {k : Nat} {p : Int} (hk : (rd a)[k]? = some p) (hp : p ∉ E) (hpb : p ∉ rd b) {q : Int} (hq : q ∉ E') : q ∈ rd' p ↔ q ∈ rd b := by
  rw [h.nwa p hp k hk hpb, List.mem_append, List.mem_reverse]
  constructor
  · rintro (z | z)
    · exact z
    · obtain ⟨j, h1, h2⟩ := mem_drop.mp z
      exact absurd (h.behind S ha hb hk hp hpb h2 h1) hq
  · exact .inl
/-- the signs of an old road -/
theorem Rg.old_sig (S : Sv nb m r E rd) (h : Rg E rd a b E' rd') (ha : a ∈ E) (hb : b ∈ E) {x : Int} (hx : x ∈ E) {i : Nat} {w : Int} (hw : (rd x)[i]? = some w) (hwa : w ∈ rd a) (hwb : w ∉ rd b) (hwE : w ∉ E) {q : Int} (hq : q ∉ E') : q ∈ rd' w ↔ q ∈ (rd x).take i := by
  have qE : q ∉ E := fun z => hq (h.sub q z)
  have wE' := h.all w hwE (.inl ⟨hwa, hwb⟩)
  have qw : q ≠ w := fun e => hq (e ▸ wE')
  obtain ⟨k, hk⟩ := List.getElem?_of_mem hwa
  obtain ⟨v, h1, h2, h3⟩ := S.mate_in hx hw hwE
  obtain ⟨v', h1', h2', h3'⟩ := S.mate_in ha hk hwE
  rw [h2] at h2'; cases h2'
  have up : ∀ {l : List Int} {j : Nat}, l[j]? = some w → (q ∈ l.take (j+1) ↔ q ∈ l.take j) := fun {l j} hj => by
    rw [List.take_succ, hj, List.mem_append]
    constructor
    · rintro (z | z)
      · exact z
      · simp at z; exact absurd z qw
    · exact .inl
  rw [h.new_sig S ha hb hk hwE hwb hq, h.key S ha hb hk hwE hwb hq, ← up hk, ← S.sig a ha (k+1) v h1' h3 q qE, S.sig x hx (i+1) v h1 h3 q qE, up hw]
theorem Rg.sig_x (S : Sv nb m r E rd) (h : Rg E rd a b E' rd') (ha : a ∈ E) (hb : b ∈ E) {x : Int} (hx : x ∈ E) {i : Nat} {w : Int} (hw : (rd x)[i]? = some w) (hwE : w ∈ E') {q : Int} (hq : q ∉ E') : q ∈ rd' w ↔ q ∈ (rd x).take i := by
  by_cases c : w ∈ E
  · rw [h.old w c]; exact S.sig x hx i w hw c q fun z => hq (h.sub q z)
  · rcases h.new w hwE c with ⟨z1, z2⟩ | ⟨z1, z2⟩
    · exact h.old_sig S ha hb hx hw z1 z2 c hq
    · exact h.flip.old_sig S hb ha hx hw z1 z2 c hq
theorem Rg.sig_new (S : Sv nb m r E rd) (h : Rg E rd a b E' rd') (ha : a ∈ E) (hb : b ∈ E) {x : Int} (hx : x ∉ E) (hxa : x ∈ rd a) (hxb : x ∉ rd b) {i : Nat} {w : Int} (hw : (rd' x)[i]? = some w) (hwE : w ∈ E') {q : Int} (hq : q ∉ E') : q ∈ rd' w ↔ q ∈ (rd' x).take i := by
  obtain ⟨k, hk⟩ := List.getElem?_of_mem hxa
  have e := h.nwa x hx k hk hxb
  have hkl := (List.getElem?_eq_some_iff.mp hk).1
  rw [e] at hw ⊢
  by_cases c : i < (rd b).length
  · rw [List.getElem?_append_left c] at hw
    rw [List.take_append_of_le_length (by omega)]
    exact h.sig_x S ha hb hb hw hwE hq
  · have hl := (List.getElem?_eq_some_iff.mp hw).1
    rw [List.length_append, List.length_reverse, List.length_drop] at hl
    rw [List.getElem?_append_right (by omega), List.getElem?_reverse (by rw [List.length_drop]; omega), List.getElem?_drop, List.length_drop] at hw
    generalize hj : k + ((rd a).length - k - 1 - (i - (rd b).length)) = j at hw
    have kj : k ≤ j := by omega
    have e2 : q ∈ (rd b ++ ((rd a).drop k).reverse).take i ↔ q ∈ rd b := by
      rw [List.take_append, List.mem_append, List.take_of_length_le (by omega)]
      constructor
      · rintro (z | z)
        · exact z
        · have z2 := List.mem_of_mem_take z
          rw [List.mem_reverse] at z2
          obtain ⟨j', h1, h2⟩ := mem_drop.mp z2
          exact absurd (h.behind S ha hb hk hx hxb h2 h1) hq
      · exact .inl
    rw [e2]
    have nw := S.apart ha hb hk hx hxb hw kj
    by_cases cE : w ∈ E
    · rw [h.old w cE, S.sig a ha j w hw cE q fun z => hq (h.sub q z), h.key S ha hb hk hx hxb hq]
      constructor
      · intro z
        obtain ⟨t, t1, t2⟩ := mem_take.mp z
        by_cases tk : k ≤ t
        · exact absurd (h.behind S ha hb hk hx hxb t2 tk) hq
        · exact mem_take.mpr ⟨t, by omega, t2⟩
      · intro z
        obtain ⟨t, t1, t2⟩ := mem_take.mp z
        exact mem_take.mpr ⟨t, by omega, t2⟩
    · exact h.new_sig S ha hb hw cE nw hq
theorem Rg.ev_new (S : Sv nb m r E rd) (h : Rg E rd a b E' rd') (ha : a ∈ E) (hb : b ∈ E) {x : Int} (hx : x ∉ E) (hxa : x ∈ rd a) (hxb : x ∉ rd b) {i : Nat} {w : Int} (hi : i % 2 = 0) (hw : (rd' x)[i]? = some w) : w ∈ E' := by
  obtain ⟨k, hk⟩ := List.getElem?_of_mem hxa
  rw [h.nwa x hx k hk hxb] at hw
  by_cases c : i < (rd b).length
  · rw [List.getElem?_append_left c] at hw
    exact h.sub w (S.ev b hb i w hi hw)
  · rw [List.getElem?_append_right (by omega)] at hw
    have z := List.mem_of_getElem? hw
    rw [List.mem_reverse] at z
    obtain ⟨j, h1, h2⟩ := mem_drop.mp z
    exact h.behind S ha hb hk hx hxb h2 h1
/-- the search goes round a ring -/
theorem Sv.ring (G : Gr nb) (M : Mt nb m) (S : Sv nb m r E rd) (ha : a ∈ E) (hb : b ∈ E) (hab : b ∈ nb a) (h : Rg E rd a b E' rd') : Sv nb m r E' rd' := by
  refine ⟨S.alone, h.sub r S.ini, (h.old r S.ini).trans S.ini1, fun x hx => ?_, fun x hx i w hi hw => ?_, fun x hx i w hw hwE q hq => ?_⟩
  · by_cases c : x ∈ E
    · rw [h.old x c]; exact S.road x c
    · rcases h.new x hx c with ⟨z1, z2⟩ | ⟨z1, z2⟩
      · obtain ⟨k, hk⟩ := List.getElem?_of_mem z1
        rw [h.nwa x c k hk z2]
        exact S.round G M ha hb hab hk c z2
      · obtain ⟨k, hk⟩ := List.getElem?_of_mem z1
        rw [h.nwb x c k hk z2]
        exact S.round G M hb ha (G.sym hab) hk c z2
  · by_cases c : x ∈ E
    · rw [h.old x c] at hw; exact h.sub w (S.ev x c i w hi hw)
    · rcases h.new x hx c with ⟨z1, z2⟩ | ⟨z1, z2⟩
      · exact h.ev_new S ha hb c z1 z2 hi hw
      · exact h.flip.ev_new S hb ha c z1 z2 hi hw
  · by_cases c : x ∈ E
    · rw [h.old x c] at hw ⊢
      exact h.sig_x S ha hb c hw hwE hq
    · rcases h.new x hx c with ⟨z1, z2⟩ | ⟨z1, z2⟩
      · exact h.sig_new S ha hb c z1 z2 hw hwE hq
      · exact h.flip.sig_new S hb ha c z1 z2 hw hwE hq
/-- behind it the two roads have the same places without roads -/
theorem Rg.same (h : Rg E rd a b E' rd') (ha : a ∈ E) (hb : b ∈ E) {q : Int} (hq : q ∉ E') : q ∈ rd' a ↔ q ∈ rd' b := by
  have qE : q ∉ E := fun z => hq (h.sub q z)
  rw [h.old a ha, h.old b hb]
  constructor
  · intro z
    by_cases c : q ∈ rd b
    · exact c
    · exact absurd (h.all q qE (.inl ⟨z, c⟩)) hq
  · intro z
    by_cases c : q ∈ rd a
    · exact c
    · exact absurd (h.all q qE (.inr ⟨z, c⟩)) hq
end
end
end Ge

namespace Ge
/-- what one comes to from a by places that are ok -/
inductive Rc (nb : Int → List Int) (ok : Int → Prop) (a : Int) : Int → Prop
  | base : Rc nb ok a a
  | step {p q : Int} (h : Rc nb ok a p) (m : q ∈ nb p) (o : ok q) : Rc nb ok a q
section
variable {nb : Int → List Int} {ok ok' : Int → Prop} {a b c : Int}
theorem Rc.mono (h : Rc nb ok a b) (f : ∀ q, ok q → ok' q) : Rc nb ok' a b := by
  induction h with
  | base => exact .base
  | step _ m o ih => exact .step ih m (f _ o)
theorem Rc.trans (h : Rc nb ok a b) (g : Rc nb ok b c) : Rc nb ok a c := by
  induction g with
  | base => exact h
  | step _ m o ih => exact .step ih m o
theorem Rc.one (m : b ∈ nb a) (o : ok b) : Rc nb ok a b := .step .base m o
theorem Rc.back (G : Gr nb) (h : Rc nb ok a b) (ha : ok a) : Rc nb ok b a := by
  induction h with
  | base => exact .base
  | @step p q h m o ih =>
    have hp : ok p := by
      cases h with
      | base => exact ha
      | step _ _ o => exact o
    exact (Rc.one (G.sym m) hp).trans ih
theorem Rc.ok_of (h : Rc nb ok a b) (ha : ok a) : ok b := by
  cases h with
  | base => exact ha
  | step _ _ o => exact o
end
/-- a place of E whose mate is not of E -/
def InB (m : Int → Option Int) (E : Int → Prop) (b : Int) : Prop := E b ∧ ∀ y, m b = some y → ¬ E y
structure Cert (n : Nat) (nb : Int → List Int) (m : Int → Option Int) (E : Int → Prop) : Prop where
  rg : ∀ {x}, E x → 0 ≤ x ∧ x < (n : Int)
  out : ∀ {x y}, E x → y ∈ nb x → ¬ E y → ∃ z, m y = some z ∧ E z
  ex : ∀ {x}, E x → ∃ b, InB m E b ∧ Rc nb E b x
  uni : ∀ {b b'}, InB m E b → InB m E b' → Rc nb E b b' → b = b'
section
variable {nb : Int → List Int} {m : Int → Option Int} {r : Int} {E : List Int} {rd : Int → List Int}
/-- the search has come to its end -/
structure Done (nb : Int → List Int) (m : Int → Option Int) (E : List Int) (rd : Int → List Int) : Prop where
  out : ∀ x ∈ E, ∀ y ∈ nb x, y ∉ E → ∃ z, m y = some z ∧ z ∈ E
  cl : ∀ x ∈ E, ∀ y ∈ E, y ∈ nb x → ∀ p, p ∉ E → (p ∈ rd x ↔ p ∈ rd y)
theorem Done.along (D : Done nb m E rd) {x y : Int} (hx : x ∈ E) (h : Rc nb (· ∈ E) x y) : ∀ p, p ∉ E → (p ∈ rd x ↔ p ∈ rd y) := by
  induction h with
  | base => exact fun p _ => Iff.rfl
  | @step p q h m o ih => exact fun z hz => (ih z hz).trans (D.cl p (h.ok_of hx) q o m z hz)
theorem Sv.ne_root (M : Mt nb m) (S : Sv nb m r E rd) {x : Int} (hx : x ∈ E) (h : x ≠ r) : ∃ (i : Nat) (y : Int), i % 2 = 1 ∧ i + 1 = (rd x).length - 1 ∧ (rd x)[i]? = some y ∧ m x = some y := by
  have R := S.road x hx
  have lo := R.odd
  have l2 : (rd x).length ≠ 1 := fun e => by
    have := R.lst
    rw [e] at this
    have f := R.fst
    rw [show 1 - 1 = 0 by rfl, f] at this
    cases this; exact h rfl
  have hl := R.lst
  rw [show (rd x).length - 1 = (rd x).length - 2 + 1 by omega] at hl
  obtain ⟨y, h1, h2⟩ := R.prev M hl (by omega)
  exact ⟨(rd x).length - 2, y, by omega, by omega, h1, h2⟩
theorem Sv.only (M : Mt nb m) (S : Sv nb m r E rd) {x : Int} (hx : x ∈ E) (h : m x = none) : x = r := by
  apply Classical.byContradiction
  intro c
  obtain ⟨_, y, _, _, _, e⟩ := S.ne_root M hx c
  rw [h] at e; cases e
theorem Sv.cert {n : Nat} (G : Gr nb) (M : Mt nb m) (S : Sv nb m r E rd) (D : Done nb m E rd) (hr : ∀ x ∈ E, 0 ≤ x ∧ x < (n : Int)) : Cert n nb m (· ∈ E) := by
  refine ⟨fun {x} h => hr x h, fun {x y} hx hy he => D.out x hx y hy he, fun {x} hx => ?_, fun {b b'} hb hb' h => ?_⟩
  · have R := S.road x hx
    -- each place at an even place of the road
    have key : ∀ (k : Nat) (w : Int), k % 2 = 0 → (rd x)[k]? = some w → ∃ b, InB m (· ∈ E) b ∧ Rc nb (· ∈ E) b w := by
      intro k
      induction k using Nat.strongRecOn with
      | ind k ih =>
        intro w hk hw
        by_cases k0 : k = 0
        · subst k0
          rw [R.fst] at hw; cases hw
          exact ⟨r, ⟨S.ini, fun y hy => by rw [S.alone] at hy; cases hy⟩, .base⟩
        · obtain ⟨k, rfl⟩ : ∃ j, k = j + 2 := ⟨k - 2, by omega⟩
          have hl := (List.getElem?_eq_some_iff.mp hw).1
          obtain ⟨y, h1, h2⟩ := R.prev M hw (by omega)
          have wE := S.ev x hx (k+2) w hk hw
          by_cases yE : y ∈ E
          · obtain ⟨u, hu⟩ : ∃ u, (rd x)[k]? = some u := ⟨_, List.getElem?_eq_getElem (by omega)⟩
            obtain ⟨b, hb, hc⟩ := ih k (by omega) u (by omega) hu
            exact ⟨b, hb, .step (.step hc (R.adj k u y hu h1) yE) (R.adj (k+1) y w h1 hw) wE⟩
          · exact ⟨w, ⟨wE, fun z hz => by rw [h2] at hz; cases hz; exact yE⟩, .base⟩
    exact key _ x (by have := R.odd; omega) R.lst
  · have al := D.along hb.1 h
    have h1 := S.ini1
    by_cases c : b = r
    · by_cases c' : b' = r
      · rw [c, c']
      · obtain ⟨i, y, o, e, h2, h3⟩ := S.ne_root M hb'.1 c'
        have q := (al y (hb'.2 y h3)).mpr (List.mem_of_getElem? h2)
        rw [c, h1, List.mem_singleton] at q
        exact absurd S.ini (q ▸ hb'.2 y h3)
    · obtain ⟨i, y, o, e, h2, h3⟩ := S.ne_root M hb.1 c
      have ny := hb.2 y h3
      by_cases c' : b' = r
      · have q := (al y ny).mp (List.mem_of_getElem? h2)
        rw [c', h1, List.mem_singleton] at q
        exact absurd S.ini (q ▸ ny)
      · obtain ⟨i', y', o', e', h2', h3'⟩ := S.ne_root M hb'.1 c'
        have ny' := hb'.2 y' h3'
        by_cases yy : y' = y
        · rw [yy] at h3'
          have := M.sym h3
          rw [M.sym h3'] at this; cases this; rfl
        · have q := (al y' ny').mpr (List.mem_of_getElem? h2')
          obtain ⟨j, hj⟩ := List.getElem?_of_mem q
          have Rb := S.road b hb.1
          have ji : j ≠ i := fun z => by rw [z, h2] at hj; cases hj; exact yy rfl
          obtain ⟨v, k1, k2, k3⟩ := S.mate_in hb.1 hj ny'
          rw [M.sym h3'] at k2
          obtain rfl : b' = v := Option.some.inj k2
          have hv := (List.getElem?_eq_some_iff.mp k1).1
          have s1 := (S.sig b hb.1 (j+1) b' k1 k3 y ny).mp ((al y ny).mp (List.mem_of_getElem? h2))
          obtain ⟨t, t1, t2⟩ := mem_take.mp s1
          have := nodup_at Rb.nd t2 h2
          have jo := S.at_odd hb.1 hj ny'
          omega
end
/-! ### a road turned -/
open Classical in
noncomputable def trn (m : Int → Option Int) (l : List Int) (p : Int) : Option Int :=
  if p ∈ l then (if l.idxOf p % 2 = 0 then l[l.idxOf p + 1]? else l[l.idxOf p - 1]?) else m p
section
variable {nb : Int → List Int} {m : Int → Option Int} {r x : Int} {l : List Int}
theorem idx_at (R : Rd nb m r x l) {i : Nat} {p : Int} (h : l[i]? = some p) : l.idxOf p = i := by
  have hm := List.mem_of_getElem? h
  have h2 : l.idxOf p < l.length := List.idxOf_lt_length_of_mem hm
  refine nodup_at R.nd (a := p) ?_ h
  rw [List.getElem?_eq_getElem h2]
  exact congrArg some (List.getElem_idxOf h2)
theorem trn_even (R : Rd nb m r x l) {i : Nat} {p : Int} (h : l[i]? = some p) (e : i % 2 = 0) : trn m l p = l[i+1]? := by
  unfold trn
  rw [if_pos (List.mem_of_getElem? h), idx_at R h, if_pos e]
theorem trn_odd (R : Rd nb m r x l) {i : Nat} {p : Int} (h : l[i+1]? = some p) (e : i % 2 = 0) : trn m l p = l[i]? := by
  unfold trn
  rw [if_pos (List.mem_of_getElem? h), idx_at R h, if_neg (by omega), show i + 1 - 1 = i by omega]
theorem trn_off {p : Int} (h : p ∉ l) : trn m l p = m p := by unfold trn; rw [if_neg h]
theorem Rd.matched (M : Mt nb m) (R : Rd nb m r x l) {p : Int} (h : p ∈ l) (hr : p ≠ r) : ∃ q, m p = some q ∧ q ∈ l := by
  obtain ⟨i, hi⟩ := List.getElem?_of_mem h
  by_cases o : i % 2 = 1
  · obtain ⟨b, h1, h2⟩ := R.next hi o
    exact ⟨b, h2, List.mem_of_getElem? h1⟩
  · cases i with
    | zero => rw [R.fst] at hi; cases hi; exact absurd rfl hr
    | succ i =>
      obtain ⟨b, h1, h2⟩ := R.prev M hi (by omega)
      exact ⟨b, h2, List.mem_of_getElem? h1⟩
theorem trn_mt (G : Gr nb) (M : Mt nb m) (hr : m r = none) (R : Rd nb m r x l) : Mt nb (trn m l) := by
  have lo := R.odd
  have both : ∀ {p q}, trn m l p = some q → trn m l q = some p ∧ q ∈ nb p := by
    intro p q h
    by_cases c : p ∈ l
    · obtain ⟨i, hi⟩ := List.getElem?_of_mem c
      by_cases e : i % 2 = 0
      · rw [trn_even R hi e] at h
        exact ⟨(trn_odd R h e).trans hi, R.adj i p q hi h⟩
      · obtain ⟨j, rfl⟩ : ∃ j, i = j + 1 := ⟨i - 1, by omega⟩
        rw [trn_odd R hi (by omega)] at h
        exact ⟨(trn_even R h (by omega)).trans hi, G.sym (R.adj j q p h hi)⟩
    · rw [trn_off c] at h
      have d : q ∉ l := fun z => by
        by_cases qr : q = r
        · have := M.sym h; rw [qr, hr] at this; cases this
        · obtain ⟨p', h1, h2⟩ := R.matched M z qr
          rw [M.sym h] at h1; cases h1
          exact c h2
      rw [trn_off d]
      exact ⟨M.sym h, M.tie h⟩
  exact ⟨fun h => (both h).1, fun h => (both h).2⟩
theorem trn_none (M : Mt nb m) (hr : m r = none) (R : Rd nb m r x l) {p : Int} : trn m l p = none ↔ p = x ∨ (m p = none ∧ p ≠ r) := by
  have lo := R.odd
  by_cases c : p ∈ l
  · obtain ⟨i, hi⟩ := List.getElem?_of_mem c
    have hil := (List.getElem?_eq_some_iff.mp hi).1
    have rhs : ¬ (m p = none ∧ p ≠ r) := fun ⟨z1, z2⟩ => by
      obtain ⟨q, h, _⟩ := R.matched M c z2
      rw [z1] at h; cases h
    by_cases e : i % 2 = 0
    · rw [trn_even R hi e]
      constructor
      · intro z
        have : i = l.length - 1 := by
          have := List.getElem?_eq_none_iff.mp z; omega
        rw [this, R.lst] at hi; cases hi; exact .inl rfl
      · rintro (z | z)
        · rw [z] at hi
          have := nodup_at R.nd hi R.lst
          exact List.getElem?_eq_none (by omega)
        · exact absurd z rhs
    · obtain ⟨j, rfl⟩ : ∃ j, i = j + 1 := ⟨i - 1, by omega⟩
      rw [trn_odd R hi (by omega)]
      constructor
      · intro z
        have := List.getElem?_eq_none_iff.mp z; omega
      · rintro (z | z)
        · rw [z] at hi
          have := nodup_at R.nd hi R.lst
          omega
        · exact absurd z rhs
  · rw [trn_off c]
    constructor
    · intro z
      exact .inr ⟨z, fun e => c (e ▸ List.mem_of_getElem? R.fst)⟩
    · rintro (z | z)
      · exact absurd (z ▸ R.mem) c
      · exact z.1
end
end Ge

namespace Ge
open Classical in
/-- the places with a property -/
noncomputable def pl (n : Nat) (P : Int → Prop) : List Int := ((List.range n).map fun i : Nat => (i : Int)).filter fun x => decide (P x)
open Classical in
theorem pl_mem {n : Nat} {P : Int → Prop} {x : Int} : x ∈ pl n P ↔ (0 ≤ x ∧ x < (n : Int)) ∧ P x := by
  unfold pl
  rw [List.mem_filter, List.mem_map]
  constructor
  · rintro ⟨⟨i, hi, rfl⟩, h⟩
    have := List.mem_range.mp hi
    exact ⟨by omega, of_decide_eq_true h⟩
  · rintro ⟨⟨a, b⟩, h⟩
    exact ⟨⟨x.toNat, List.mem_range.mpr (by omega), by omega⟩, decide_eq_true h⟩
open Classical in
theorem pl_nd {n : Nat} {P : Int → Prop} : (pl n P).Nodup := by
  unfold pl
  refine List.Nodup.sublist List.filter_sublist ?_
  refine List.pairwise_map.mpr (List.nodup_range.imp fun h e => h (by omega))
open Classical in
theorem pl_len {n : Nat} {P : Int → Prop} : (pl n P).length ≤ n := by
  unfold pl
  refine Nat.le_trans (List.length_filter_le _ _) ?_
  rw [List.length_map, List.length_range]; exact Nat.le_refl _
/-- as many at most, by a relation that goes apart -/
theorem rel_len {α β : Type} [DecidableEq β] (R : α → β → Prop) : ∀ (l : List α) (l2 : List β), l.Nodup → (∀ a ∈ l, ∃ b ∈ l2, R a b) → (∀ a ∈ l, ∀ a' ∈ l, ∀ b, R a b → R a' b → a = a') → l.length ≤ l2.length
  | [], _, _, _, _ => Nat.zero_le _
  | a :: t, l2, nd, h, inj => by
    obtain ⟨b, hb, rb⟩ := h a List.mem_cons_self
    have na := (List.nodup_cons.mp nd).1
    have key := rel_len R t (l2.erase b) (List.nodup_cons.mp nd).2 (fun a' ha' => ?_) (fun a1 h1 a2 h2 => inj a1 (List.mem_cons_of_mem _ h1) a2 (List.mem_cons_of_mem _ h2))
    · rw [List.length_erase_of_mem hb] at key
      have : 0 < l2.length := List.length_pos_of_mem hb
      rw [List.length_cons]; omega
    · obtain ⟨b', hb', rb'⟩ := h a' (List.mem_cons_of_mem _ ha')
      refine ⟨b', (List.mem_erase_of_ne fun e => ?_).mpr hb', rb'⟩
      rw [e] at rb'
      have := inj a' (List.mem_cons_of_mem _ ha') a List.mem_cons_self b rb' rb
      exact na (this ▸ ha')
theorem sub_len {l l2 : List Int} (h : l.Nodup) (s : ∀ a ∈ l, a ∈ l2) : l.length ≤ l2.length :=
  rel_len (· = ·) l l2 h (fun a ha => ⟨a, s a ha, rfl⟩) fun _ _ _ _ _ h1 h2 => h1.trans h2.symm
/-- what is paired off is even -/
theorem even_len {f : Int → Option Int} (sym : ∀ {p q}, f p = some q → f q = some p) (irr : ∀ {p}, f p ≠ some p) : ∀ (k : Nat) (l : List Int), l.length ≤ k → l.Nodup → (∀ x ∈ l, ∃ y ∈ l, f x = some y) → l.length % 2 = 0
  | _, [], _, _, _ => rfl
  | 0, a :: t, hk, _, _ => by rw [List.length_cons] at hk; omega
  | k + 1, a :: t, hk, nd, h => by
    obtain ⟨y, hy, e⟩ := h a List.mem_cons_self
    obtain ⟨na, nt⟩ := List.nodup_cons.mp nd
    have ya : y ≠ a := fun z => irr (z ▸ e)
    have yt : y ∈ t := (List.mem_cons.mp hy).resolve_left ya
    have le := List.length_erase_of_mem yt
    have lp : 0 < t.length := List.length_pos_of_mem yt
    rw [List.length_cons] at hk ⊢
    have key := even_len sym irr k (t.erase y) (by omega) (nt.erase y) fun x hx => ?_
    · omega
    · have hxt := List.mem_of_mem_erase hx
      have xy : x ≠ y := fun z => by
        rw [z] at hx
        exact (List.Nodup.mem_erase_iff nt).mp hx |>.1 rfl
      have xa : x ≠ a := fun z => na (z ▸ hxt)
      obtain ⟨z, hz, ez⟩ := h x (List.mem_cons_of_mem _ hxt)
      have za : z ≠ a := fun q => by
        rw [q] at ez
        have := sym ez
        rw [e] at this
        exact xy (Option.some.inj this).symm
      have zy : z ≠ y := fun q => by
        rw [q] at ez
        have := sym ez
        rw [sym e] at this
        exact xa (Option.some.inj this).symm
      exact ⟨z, (List.mem_erase_of_ne zy).mpr ((List.mem_cons.mp hz).resolve_left za), ez⟩
section
variable {n : Nat} {nb : Int → List Int} {m N : Int → Option Int} {E : Int → Prop}
theorem Mt.irr (G : Gr nb) (M : Mt nb m) {p : Int} : m p ≠ some p := fun h => G.irr (M.tie h)
/-- the places of E that b comes to -/
noncomputable def cls (n : Nat) (nb : Int → List Int) (E : Int → Prop) (b : Int) : List Int := pl n fun x => E x ∧ Rc nb E b x
theorem Cert.cls_mem (C : Cert n nb m E) {b x : Int} : x ∈ cls n nb E b ↔ E x ∧ Rc nb E b x := by
  unfold cls
  rw [pl_mem]
  exact ⟨fun h => h.2, fun h => ⟨C.rg h.1, h⟩⟩
/-- a class has an odd number of places -/
theorem Cert.cls_odd (G : Gr nb) (M : Mt nb m) (C : Cert n nb m E) {b : Int} (hb : InB m E b) : (cls n nb E b).length % 2 = 1 := by
  have bm : b ∈ cls n nb E b := C.cls_mem.mpr ⟨hb.1, .base⟩
  have nd : (cls n nb E b).Nodup := pl_nd
  have le := List.length_erase_of_mem bm
  have lp : 0 < (cls n nb E b).length := List.length_pos_of_mem bm
  have key := even_len M.sym (M.irr G) _ ((cls n nb E b).erase b) (Nat.le_refl _) (nd.erase b) fun x hx => ?_
  · omega
  · obtain ⟨xb, hx⟩ := (List.Nodup.mem_erase_iff nd).mp hx
    obtain ⟨hE, hR⟩ := C.cls_mem.mp hx
    have nB : ¬ InB m E x := fun z => xb (C.uni hb z hR).symm
    have : ∃ y, m x = some y ∧ E y := by
      apply Classical.byContradiction
      intro z
      exact nB ⟨hE, fun y hy hEy => z ⟨y, hy, hEy⟩⟩
    obtain ⟨y, hy, hEy⟩ := this
    have yb : y ≠ b := fun z => by
      have := M.sym hy
      rw [z] at this
      exact hb.2 x this hE
    exact ⟨y, (List.mem_erase_of_ne yb).mpr (C.cls_mem.mpr ⟨hEy, .step hR (M.tie hy) hEy⟩), hy⟩
noncomputable def Bl (n : Nat) (m : Int → Option Int) (E : Int → Prop) : List Int := pl n (InB m E)
/-- the places of E that N leaves alone -/
noncomputable def Ul (n : Nat) (E : Int → Prop) (N : Int → Option Int) : List Int := pl n fun x => E x ∧ N x = none
/-- the places beside E that N pairs with places of E -/
noncomputable def Oc (n : Nat) (E : Int → Prop) (N : Int → Option Int) : List Int := pl n fun y => ¬ E y ∧ ∃ x, E x ∧ N x = some y
/-- the places beside E -/
noncomputable def Ol (n : Nat) (nb : Int → List Int) (E : Int → Prop) : List Int := pl n fun y => ¬ E y ∧ ∃ x, E x ∧ y ∈ nb x
theorem Cert.weak (G : Gr nb) (M : Mt nb m) (C : Cert n nb m E) (hn : ∀ {p q}, q ∈ nb p → 0 ≤ q ∧ q < (n : Int)) (MN : Mt nb N) : (Bl n m E).length ≤ (Ul n E N).length + (Oc n E N).length := by
  rw [← List.length_append]
  refine rel_len (fun b t => (E t ∧ N t = none ∧ Rc nb E b t) ∨ (¬ E t ∧ ∃ x, E x ∧ Rc nb E b x ∧ N x = some t)) _ _ pl_nd (fun b hb => ?_) (fun b hb b' hb' t h1 h2 => ?_)
  · have hB := (pl_mem.mp hb).2
    apply Classical.byContradiction
    intro no
    have odd := C.cls_odd G M hB
    have ev := even_len MN.sym (MN.irr G) _ (cls n nb E b) (Nat.le_refl _) pl_nd fun x hx => ?_
    · omega
    · obtain ⟨hE, hR⟩ := C.cls_mem.mp hx
      cases e : N x with
      | none => exact absurd ⟨x, List.mem_append_left _ (pl_mem.mpr ⟨C.rg hE, hE, e⟩), .inl ⟨hE, e, hR⟩⟩ no
      | some y =>
        by_cases hy : E y
        · exact ⟨y, C.cls_mem.mpr ⟨hy, .step hR (MN.tie e) hy⟩, rfl⟩
        · exact absurd ⟨y, List.mem_append_right _ (pl_mem.mpr ⟨hn (MN.tie e), hy, x, hE, e⟩), .inr ⟨hy, x, hE, hR, e⟩⟩ no
  · have hB := (pl_mem.mp hb).2
    have hB' := (pl_mem.mp hb').2
    have fin : ∀ {x : Int}, Rc nb E b x → Rc nb E b' x → b = b' := fun h h' => C.uni hB hB' (h.trans (h'.back G hB'.1))
    rcases h1 with ⟨e1, n1, r1⟩ | ⟨e1, x, ex, r1, n1⟩
    · rcases h2 with ⟨e2, n2, r2⟩ | ⟨e2, _⟩
      · exact fin r1 r2
      · exact absurd e1 e2
    · rcases h2 with ⟨e2, _⟩ | ⟨e2, x', ex', r2, n2⟩
      · exact absurd e2 e1
      · have := MN.sym n1
        rw [MN.sym n2] at this
        cases this
        exact fin r1 r2
theorem Cert.strong (M : Mt nb m) (C : Cert n nb m E) : (Ul n E m).length + (Ol n nb E).length ≤ (Bl n m E).length := by
  rw [← List.length_append]
  refine rel_len (fun a b => (E a ∧ m a = none ∧ a = b) ∨ (¬ E a ∧ m a = some b)) _ _ ?_ (fun a ha => ?_) (fun a ha a' ha' t h1 h2 => ?_)
  · refine List.nodup_append.mpr ⟨pl_nd, pl_nd, fun x hx y hy e => ?_⟩
    subst e
    exact (pl_mem.mp hy).2.1 (pl_mem.mp hx).2.1
  · rcases List.mem_append.mp ha with h | h
    · obtain ⟨r, hE, e⟩ := pl_mem.mp h
      exact ⟨a, pl_mem.mpr ⟨r, hE, fun y hy => by rw [e] at hy; cases hy⟩, .inl ⟨hE, e, rfl⟩⟩
    · obtain ⟨r, hE, x, hx, hn⟩ := pl_mem.mp h
      obtain ⟨z, h1, h2⟩ := C.out hx hn hE
      exact ⟨z, pl_mem.mpr ⟨C.rg h2, h2, fun y hy hy2 => by rw [M.sym h1] at hy; cases hy; exact hE hy2⟩, .inr ⟨hE, h1⟩⟩
  · rcases h1 with ⟨e1, n1, r1⟩ | ⟨e1, n1⟩
    · rcases h2 with ⟨e2, n2, r2⟩ | ⟨e2, n2⟩
      · exact r1.trans r2.symm
      · have := M.sym n2
        rw [← r1, n1] at this; cases this
    · rcases h2 with ⟨e2, n2, r2⟩ | ⟨e2, n2⟩
      · have := M.sym n1
        rw [← r2, n2] at this; cases this
      · have := M.sym n1
        rw [M.sym n2] at this; cases this; rfl
theorem oc_sub (hn : ∀ {p q}, q ∈ nb p → 0 ≤ q ∧ q < (n : Int)) (MN : Mt nb N) : (Oc n E N).length ≤ (Ol n nb E).length :=
  sub_len pl_nd fun y hy => by
    obtain ⟨r, h1, x, h2, h3⟩ := pl_mem.mp hy
    exact pl_mem.mpr ⟨r, h1, x, h2, MN.tie h3⟩
/-- those alone -/
noncomputable def un (n : Nat) (m : Int → Option Int) : List Int := pl n fun x => m x = none
/-- m is greatest, and E shows it -/
structure Big (n : Nat) (nb : Int → List Int) (m : Int → Option Int) (E : Int → Prop) : Prop where
  cert : Cert n nb m E
  cov : ∀ {x}, 0 ≤ x → x < (n : Int) → m x = none → E x
  rch : ∀ {x}, E x → ∃ N, Mt nb N ∧ N x = none ∧ (un n N).length ≤ (un n m).length
theorem Big.un_ul (B : Big n nb m E) : (un n m).length ≤ (Ul n E m).length := sub_len pl_nd fun x hx => by
  obtain ⟨r, h⟩ := pl_mem.mp hx
  exact pl_mem.mpr ⟨r, B.cov r.1 r.2 h, h⟩
theorem ul_un : (Ul n E N).length ≤ (un n N).length := sub_len pl_nd fun x hx => by
  obtain ⟨r, _, h⟩ := pl_mem.mp hx
  exact pl_mem.mpr ⟨r, h⟩
theorem Big.least (G : Gr nb) (M : Mt nb m) (hn : ∀ {p q}, q ∈ nb p → 0 ≤ q ∧ q < (n : Int)) (B : Big n nb m E) (MN : Mt nb N) : (un n m).length ≤ (un n N).length := by
  have h1 := B.cert.weak G M hn MN
  have h2 := B.cert.strong M
  have h3 := oc_sub (nb := nb) (E := E) hn MN
  have h4 := B.un_ul
  have h5 := ul_un (n := n) (E := E) (N := N)
  omega
/-- what a greatest pairing leaves alone is of E -/
theorem Big.alone (G : Gr nb) (M : Mt nb m) (hn : ∀ {p q}, q ∈ nb p → 0 ≤ q ∧ q < (n : Int)) (B : Big n nb m E) (MN : Mt nb N) (h : (un n N).length ≤ (un n m).length) {x : Int} (h0 : 0 ≤ x) (h1 : x < (n : Int)) (hx : N x = none) : E x := by
  apply Classical.byContradiction
  intro c
  have a1 := B.cert.weak G M hn MN
  have a2 := B.cert.strong M
  have a3 := oc_sub (nb := nb) (E := E) hn MN
  have a4 := B.un_ul
  have a5 : (x :: Ul n E N).length ≤ (un n N).length := sub_len (List.nodup_cons.mpr ⟨fun z => c (pl_mem.mp z).2.1, pl_nd⟩) fun y hy => by
    rcases List.mem_cons.mp hy with rfl | hy
    · exact pl_mem.mpr ⟨⟨h0, h1⟩, hx⟩
    · obtain ⟨r, _, h⟩ := pl_mem.mp hy
      exact pl_mem.mpr ⟨r, h⟩
  rw [List.length_cons] at a5
  omega
/-- .. and E is what some greatest pairing leaves alone -/
theorem Big.iff (G : Gr nb) (M : Mt nb m) (hn : ∀ {p q}, q ∈ nb p → 0 ≤ q ∧ q < (n : Int)) (B : Big n nb m E) {x : Int} (h0 : 0 ≤ x) (h1 : x < (n : Int)) : E x ↔ ∃ N, Mt nb N ∧ N x = none ∧ (un n N).length ≤ (un n m).length :=
  ⟨B.rch, fun ⟨_, a, b, c⟩ => B.alone G M hn a c h0 h1 b⟩
theorem Big.count (G : Gr nb) (M : Mt nb m) (hn : ∀ {p q}, q ∈ nb p → 0 ≤ q ∧ q < (n : Int)) (B : Big n nb m E) : (Bl n m E).length = (un n m).length + (Ol n nb E).length := by
  have h1 := B.cert.weak G M hn M
  have h2 := B.cert.strong M
  have h3 := oc_sub (nb := nb) (E := E) hn M
  have h4 := B.un_ul
  have h5 := ul_un (n := n) (E := E) (N := m)
  omega
end
/-! ### the searches from all lone places -/
section
variable {n : Nat} {nb : Int → List Int} {m : Int → Option Int}
/-- a search from r that has come to its end -/
structure Srch (n : Nat) (nb : Int → List Int) (m : Int → Option Int) (r : Int) (F : Int → Prop) : Prop where
  cert : Cert n nb m F
  ini : F r
  only : ∀ {x}, F x → m x = none → x = r
  turn : ∀ {x}, F x → ∃ N, Mt nb N ∧ ∀ p, N p = none ↔ p = x ∨ (m p = none ∧ p ≠ r)
theorem Sv.srch {r : Int} {E : List Int} {rd : Int → List Int} (G : Gr nb) (M : Mt nb m) (S : Sv nb m r E rd) (D : Done nb m E rd) (hr : ∀ x ∈ E, 0 ≤ x ∧ x < (n : Int)) : Srch n nb m r (· ∈ E) :=
  ⟨S.cert G M D hr, S.ini, fun hx h => S.only M hx h, fun {x} hx => ⟨trn m (rd x), trn_mt G M S.alone (S.road x hx), fun p => trn_none M S.alone (S.road x hx)⟩⟩
theorem un_turn {N : Int → Option Int} {x r : Int} (hr0 : 0 ≤ r) (hr1 : r < (n : Int)) (hr : m r = none) (h : ∀ p, N p = none ↔ p = x ∨ (m p = none ∧ p ≠ r)) : (un n N).length ≤ (un n m).length := by
  refine rel_len (fun a b => (a = x ∧ b = r) ∨ (a ≠ x ∧ a = b)) _ _ pl_nd (fun a ha => ?_) (fun a ha a' ha' t h1 h2 => ?_)
  · obtain ⟨ra, e⟩ := pl_mem.mp ha
    by_cases c : a = x
    · exact ⟨r, pl_mem.mpr ⟨⟨hr0, hr1⟩, hr⟩, .inl ⟨c, rfl⟩⟩
    · rcases (h a).mp e with z | z
      · exact absurd z c
      · exact ⟨a, pl_mem.mpr ⟨ra, z.1⟩, .inr ⟨c, rfl⟩⟩
  · have e := (pl_mem.mp ha).2
    have e' := (pl_mem.mp ha').2
    rcases h1 with ⟨a1, b1⟩ | ⟨a1, b1⟩
    · rcases h2 with ⟨a2, b2⟩ | ⟨a2, b2⟩
      · exact a1.trans a2.symm
      · rcases (h a').mp e' with z | z
        · exact absurd z a2
        · exact absurd (b2.trans b1) z.2
    · rcases h2 with ⟨a2, b2⟩ | ⟨a2, b2⟩
      · rcases (h a).mp e with z | z
        · exact absurd z a1
        · exact absurd (b1.trans b2) z.2
      · exact b1.trans b2.symm
/-- what one search reaches lies not beside another -/
theorem Srch.apart (G : Gr nb) (M : Mt nb m) (hn : ∀ {p q}, q ∈ nb p → 0 ≤ q ∧ q < (n : Int)) {r s : Int} {F F' : Int → Prop} (S : Srch n nb m r F) (S' : Srch n nb m s F') (hr : m r = none) {x y : Int} (hx : F x) (hy : y ∈ nb x) (hyF : ¬ F y) : ¬ F' y := fun hy' => by
  obtain ⟨N, MN, hN⟩ := S'.turn hy'
  have a1 := S.cert.weak G M hn MN
  have a2 := S.cert.strong M
  have u1 : 1 ≤ (Ul n F m).length := by
    have := sub_len (l := [r]) (l2 := Ul n F m) (by simp) fun a ha => by
      rw [List.mem_singleton.mp ha]; exact pl_mem.mpr ⟨S.cert.rg S.ini, S.ini, hr⟩
    exact this
  have u2 : (Ul n F N).length ≤ 1 := by
    have := sub_len (l := Ul n F N) (l2 := [r]) pl_nd fun a ha => by
      obtain ⟨_, h1, h2⟩ := pl_mem.mp ha
      rcases (hN a).mp h2 with z | z
      · exact absurd (z ▸ h1) hyF
      · exact List.mem_singleton.mpr (S.only h1 z.1)
    exact this
  have u3 : (y :: Oc n F N).length ≤ (Ol n nb F).length := by
    refine sub_len (List.nodup_cons.mpr ⟨fun z => ?_, pl_nd⟩) fun a ha => ?_
    · obtain ⟨_, _, x', _, e⟩ := pl_mem.mp z
      have := MN.sym e
      rw [(hN y).mpr (.inl rfl)] at this; cases this
    · rcases List.mem_cons.mp ha with rfl | ha
      · exact pl_mem.mpr ⟨hn hy, hyF, x, hx, hy⟩
      · obtain ⟨ra, h1, x', h2, h3⟩ := pl_mem.mp ha
        exact pl_mem.mpr ⟨ra, h1, x', h2, MN.tie h3⟩
  rw [List.length_cons] at u3
  omega
/-- all searches have come to their ends: the pairing is greatest -/
theorem big_of (G : Gr nb) (M : Mt nb m) (hn : ∀ {p q}, q ∈ nb p → 0 ≤ q ∧ q < (n : Int)) (F : Int → Int → Prop) (S : ∀ r, 0 ≤ r → r < (n : Int) → m r = none → Srch n nb m r (F r)) :
    Big n nb m (fun x => ∃ r, 0 ≤ r ∧ r < (n : Int) ∧ m r = none ∧ F r x) := by
  have stay : ∀ {r x y : Int}, 0 ≤ r → r < (n : Int) → m r = none → F r x → y ∈ nb x → (∃ r, 0 ≤ r ∧ r < (n : Int) ∧ m r = none ∧ F r y) → F r y := fun {r x y} h0 h1 h2 hx hy ⟨s, k0, k1, k2, hs⟩ => by
    apply Classical.byContradiction
    intro c
    exact (S r h0 h1 h2).apart G M hn (S s k0 k1 k2) h2 hx hy c hs
  refine ⟨⟨fun {x} ⟨r, h0, h1, h2, hx⟩ => (S r h0 h1 h2).cert.rg hx, fun {x y} ⟨r, h0, h1, h2, hx⟩ hy hE => ?_, fun {x} ⟨r, h0, h1, h2, hx⟩ => ?_, fun {b b'} hb hb' h => ?_⟩, fun {x} h0 h1 h2 => ⟨x, h0, h1, h2, (S x h0 h1 h2).ini⟩, fun {x} ⟨r, h0, h1, h2, hx⟩ => ?_⟩
  · obtain ⟨z, e, hz⟩ := (S r h0 h1 h2).cert.out hx hy fun c => hE ⟨r, h0, h1, h2, c⟩
    exact ⟨z, e, r, h0, h1, h2, hz⟩
  · obtain ⟨b, hb, hR⟩ := (S r h0 h1 h2).cert.ex hx
    refine ⟨b, ⟨⟨r, h0, h1, h2, hb.1⟩, fun y hy hE => ?_⟩, hR.mono fun q hq => ⟨r, h0, h1, h2, hq⟩⟩
    exact hb.2 y hy (stay h0 h1 h2 hb.1 (M.tie hy) hE)
  · obtain ⟨r, h0, h1, h2, hbr⟩ := hb.1
    have go : ∀ {y : Int}, Rc nb (fun x => ∃ r, 0 ≤ r ∧ r < (n : Int) ∧ m r = none ∧ F r x) b y → Rc nb (F r) b y ∧ F r y := fun h => by
      induction h with
      | base => exact ⟨.base, hbr⟩
      | step _ hm ho ih =>
        have := stay h0 h1 h2 ih.2 hm ho
        exact ⟨.step ih.1 hm this, this⟩
    obtain ⟨g1, g2⟩ := go h
    exact (S r h0 h1 h2).cert.uni ⟨hbr, fun y hy hF => hb.2 y hy ⟨r, h0, h1, h2, hF⟩⟩ ⟨g2, fun y hy hF => hb'.2 y hy ⟨r, h0, h1, h2, hF⟩⟩ g1
  · obtain ⟨N, MN, hN⟩ := (S r h0 h1 h2).turn hx
    exact ⟨N, MN, (hN x).mpr (.inl rfl), un_turn h0 h1 h2 hN⟩
end
end Ge

namespace Ge
/-- P are the parts of the places that are ok -/
structure Pts (n : Nat) (nb : Int → List Int) (ok : Int → Prop) (P : List (List Int)) : Prop where
  is_ : ∀ L ∈ P, L.Nodup ∧ ∃ a, a ∈ L ∧ (0 ≤ a ∧ a < (n : Int)) ∧ ok a ∧ ∀ p, p ∈ L ↔ Rc nb ok a p
  all : ∀ p, 0 ≤ p → p < (n : Int) → ok p → ∃ L ∈ P, p ∈ L
  nd : P.Nodup
theorem Rc.rng {n : Nat} {nb : Int → List Int} {ok : Int → Prop} (hn : ∀ {p q}, q ∈ nb p → 0 ≤ q ∧ q < (n : Int)) {a b : Int} (h : Rc nb ok a b) (ha : 0 ≤ a ∧ a < (n : Int)) : 0 ≤ b ∧ b < (n : Int) := by
  cases h with
  | base => exact ha
  | step _ m _ => exact hn m
theorem Pts.one {n : Nat} {nb : Int → List Int} {ok : Int → Prop} {P : List (List Int)} (G : Gr nb) (Q : Pts n nb ok P) {L L' : List Int} (hL : L ∈ P) (hL' : L' ∈ P) {p : Int} (h : p ∈ L) (h' : p ∈ L') : ∀ q, q ∈ L → q ∈ L' := by
  obtain ⟨_, a, _, _, oa, ea⟩ := Q.is_ L hL
  obtain ⟨_, b, _, _, ob, eb⟩ := Q.is_ L' hL'
  intro q hq
  have h1 := (ea p).mp h
  have h2 := (eb p).mp h'
  exact (eb q).mpr (h2.trans ((h1.back G oa).trans ((ea q).mp hq)))
section
variable {n : Nat} {nb : Int → List Int} {m : Int → Option Int} {E : Int → Prop} {P : List (List Int)}
/-- beside E -/
def Bes (nb : Int → List Int) (E : Int → Prop) (y : Int) : Prop := ¬ E y ∧ ∃ x, E x ∧ y ∈ nb x
theorem ok_E {x : Int} (h : E x) : ¬ Bes nb E x := fun z => z.1 h
theorem rc_E {a p : Int} (h : Rc nb (fun y => ¬ Bes nb E y) a p) (ha : E a) : E p ∧ Rc nb E a p := by
  induction h with
  | base => exact ⟨ha, .base⟩
  | step _ hm o ih =>
    have : E _ := Classical.byContradiction fun c => o ⟨c, _, ih.1, hm⟩
    exact ⟨this, .step ih.2 hm this⟩
theorem E_rc {a p : Int} (h : Rc nb E a p) : Rc nb (fun y => ¬ Bes nb E y) a p := h.mono fun q hq => ok_E hq
theorem Big.odd_parts (G : Gr nb) (M : Mt nb m) (hn : ∀ {p q}, q ∈ nb p → 0 ≤ q ∧ q < (n : Int)) (B : Big n nb m E) (Q : Pts n nb (fun y => ¬ Bes nb E y) P)
    (eq : ∀ L ∈ P, ∀ L' ∈ P, (∀ q, q ∈ L ↔ q ∈ L') → L = L') : (P.filter fun L => decide (L.length % 2 = 1)).length = (Bl n m E).length := by
  have same : ∀ {L b}, L ∈ P → b ∈ L → InB m E b → L.length = (cls n nb E b).length := fun {L b} hL hb hB => by
    obtain ⟨nd, a, _, _, oa, ea⟩ := Q.is_ L hL
    have h1 := (ea b).mp hb
    have h2 := h1.back G oa
    have m1 : ∀ p, p ∈ L → p ∈ cls n nb E b := fun p hp => by
      have := rc_E (h2.trans ((ea p).mp hp)) hB.1
      exact B.cert.cls_mem.mpr ⟨this.1, this.2⟩
    have m2 : ∀ p, p ∈ cls n nb E b → p ∈ L := fun p hp => by
      have := (B.cert.cls_mem.mp hp).2
      exact (ea p).mpr (h1.trans (E_rc this))
    exact Nat.le_antisymm (sub_len nd m1) (sub_len pl_nd m2)
  have odd_b : ∀ {L}, L ∈ P → L.length % 2 = 1 → ∃ b, b ∈ L ∧ InB m E b := fun {L} hL ho => by
    obtain ⟨nd, a, _, ra, oa, ea⟩ := Q.is_ L hL
    by_cases c : E a
    · obtain ⟨b, hb, hR⟩ := B.cert.ex c
      exact ⟨b, (ea b).mpr ((E_rc hR).back G (ok_E hb.1)), hb⟩
    · exfalso
      have none : ∀ p, p ∈ L → ¬ E p := fun p hp hE => c (rc_E (((ea p).mp hp).back G oa) hE).1
      have key := even_len M.sym (M.irr G) _ L (Nat.le_refl _) nd fun x hx => ?_
      · omega
      · have hR := (ea x).mp hx
        have rx := hR.rng hn ra
        cases e : m x with
        | none => exact absurd (B.cov rx.1 rx.2 e) (none x hx)
        | some y =>
          refine ⟨y, (ea y).mpr (.step hR (M.tie e) fun z => ?_), rfl⟩
          obtain ⟨z1, u, hu, hyu⟩ := z
          obtain ⟨w, e2, hw⟩ := B.cert.out hu hyu z1
          rw [M.sym e] at e2; cases e2
          exact none x hx hw
  refine Nat.le_antisymm ?_ ?_
  · refine rel_len (fun L b => b ∈ L) _ _ (Q.nd.sublist List.filter_sublist) (fun L hL => ?_) (fun L hL L' hL' b h1 h2 => ?_)
    · obtain ⟨h1, h2⟩ := List.mem_filter.mp hL
      obtain ⟨b, hb, hB⟩ := odd_b h1 (of_decide_eq_true h2)
      exact ⟨b, pl_mem.mpr ⟨B.cert.rg hB.1, hB⟩, hb⟩
    · have k1 := (List.mem_filter.mp hL).1
      have k2 := (List.mem_filter.mp hL').1
      exact eq L k1 L' k2 fun q => ⟨Q.one G k1 k2 h1 h2 q, Q.one G k2 k1 h2 h1 q⟩
  · refine rel_len (fun b L => L ∈ P ∧ b ∈ L) _ _ pl_nd (fun b hb => ?_) (fun b hb b' hb' L h1 h2 => ?_)
    · obtain ⟨r, hB⟩ := pl_mem.mp hb
      obtain ⟨L, hL, hbL⟩ := Q.all b r.1 r.2 (ok_E hB.1)
      refine ⟨L, List.mem_filter.mpr ⟨hL, decide_eq_true ?_⟩, hL, hbL⟩
      rw [same hL hbL hB]; exact B.cert.cls_odd G M hB
    · obtain ⟨r, hB⟩ := pl_mem.mp hb
      obtain ⟨r', hB'⟩ := pl_mem.mp hb'
      obtain ⟨hL2, k1⟩ := h1
      have k2 := h2.2
      obtain ⟨nd, a, _, _, oa, ea⟩ := Q.is_ L hL2
      have := rc_E ((((ea b).mp k1).back G oa).trans ((ea b').mp k2)) hB.1
      exact B.cert.uni hB hB' this.2
end
end Ge

namespace Up
open PySem PySem.Spec PyProof.Rows L2
/-- d.update(e), e another dict -/
def rUpdD : V → List V → Hp → VK → Prop := fun x vs H Q => ∃ a b kvs more, x = .ref a ∧ vs = [.ref b] ∧ a ≠ b ∧ H a = some (.dK kvs) ∧ H b = some (.dK more) ∧ kvs.length + more.length ≤ sizeLine ∧ Q .non (upd H a (.dK (mergeK kvs more)))
theorem mt_updD {X : Cx} : MtR X "dict.update" rUpdD := by
  intro pins s σ H x vs v us Q I rx rv h
  obtain ⟨a, b, kvs, more, rfl, rfl, hne, ea, eb, hz, q⟩ := h
  cases rx
  obtain ⟨u, rfl, ru⟩ := rv.one
  cases ru
  obtain ⟨z1, hd1, vs1, rel1, dd1⟩ := dk_of I.hok ea
  obtain ⟨z2, hd2, vs2, rel2, dd2⟩ := dk_of I.hok eb
  refine call_meetsIn PySem.F.slot_dict_update dd1.typeIs PySem.F.entry_dict_update (PySem.F.args_dict_update_2 _ _) (meets_dict_update (mixKind X.prog X.w) a b hne hd2) ⟨vs1, vs2, dd1, dd2, by rw [← rel1.length, ← rel2.length]; exact hz, fun h' dd' _ hs => ?_⟩
  have he : ∃ q, h'.get? a = some q := let ⟨q, _, _, hq, _⟩ := dd'; ⟨q, hq⟩
  have hl : (mergeK kvs more).length ≤ sizeLine := Nat.le_trans (length_mergeK more kvs) hz
  exact ⟨.non, _, d_write I (by rw [ea]; exact True.intro) hs he (dk_new hl hd1 (KV.merge rel2 rel1) dd'), rfl, q⟩
/-- range(n) as a value -/
theorem cr_range1 {X : Cx} : CallR X (.type "range") (fun vs H Q => ∃ i, vs = [V.int i] ∧ ∀ p, H p = none → Q (.ref p) (upd H p (.rng 0 i))) := by
  intro pins s σ H vs us Q I r h
  obtain ⟨i, rfl, q⟩ := h
  obtain ⟨u1, rfl, ri⟩ := vals1 r
  obtain ⟨t, rfl⟩ := ri
  refine call_range_1 ⟨.ref s.heap.objs.size, upd H s.heap.objs.size (.rng 0 i), I.laid (t' := s.toks + 2) (fun b o e => Heap.get?_push_of_some _ e) (Nat.le_refl _) ?_, rfl, q _ (I.hok.fresh (Nat.le_refl _))⟩
  exact ⟨_, _, _, Heap.get?_push_size _ rfl⟩
theorem small1 {n : Nat} (hn : n ≤ 1000) : Builtin.Range.small 0 (n : Int) 1 = true := PySem.small_one (by decide) (by decide) (by omega) (by omega)
/-- list(range(n)) -/
theorem cl_rng {X : Cx} (hc : X.calm = true) : CallR X (.type "list") (fun vs H Q => ∃ r n, vs = [V.ref r] ∧ H r = some (.rng 0 ((n : Nat) : Int)) ∧ n ≤ 1000 ∧ ∀ l, H l = none → Q (.ref l) (upd H l (.lst ((List.range n).map fun i : Nat => V.int (i : Int))))) := by
  intro pins s σ H vs us Q I r h
  obtain ⟨a, n, rfl, ha, hn, q⟩ := h
  obtain ⟨u1, rfl, ri⟩ := vals1 r
  cases ri
  obtain ⟨t1, t2, t3, ho⟩ := I.hok a _ ha
  refine call_list_range (n := n) (I.ok.hd hc) ho (small1 hn) (by rw [rangeSize_one]; split <;> omega) (by omega) fun h' tk acc' c' k hS hi => ?_
  have hv : Vals ((List.range n).map fun i : Nat => V.int (i : Int)) acc'.toList := by
    have key : ∀ (l : List Value) (m : Nat), (∀ j v, l[j]? = some v → ∃ t, v = Value.int (0 + ((m + j : Nat) : Int) * 1) t) → Vals ((List.range' m l.length).map fun i : Nat => V.int (i : Int)) l := by
      intro l
      induction l with
      | nil => intro m _; exact .nil
      | cons v l ih =>
        intro m h
        rw [List.length_cons, List.range'_succ, List.map_cons]
        refine .cons ?_ (ih (m + 1) fun j v' hj => ?_)
        · obtain ⟨t, e⟩ := h 0 v rfl
          refine ⟨t, ?_⟩
          rw [e]
          congr 1
          omega
        · obtain ⟨t, e⟩ := h (j + 1) v' (by simpa using hj)
          refine ⟨t, ?_⟩
          rw [e, show m + 1 + j = m + (j + 1) by omega]
    have h1 := key acc'.toList 0 fun j v hj => by
      obtain ⟨t, e⟩ := hi.2 j v (by rw [← Array.getElem?_toList]; exact hj)
      exact ⟨t, by rw [e, Nat.zero_add]⟩
    rw [Array.length_toList, hi.1] at h1
    rw [List.range_eq_range']
    exact h1
  exact ⟨.ref s.heap.objs.size, _, I.laid (t' := tk) (a := s.heap.objs.size) (o := .lst ((List.range n).map fun i : Nat => V.int (i : Int))) k (Nat.le_refl _) ⟨by rw [List.length_map, List.length_range, sizeLine_eq]; omega, acc'.toList, c', hv, by simpa using hS⟩, rfl, q _ (I.hok.fresh (Nat.le_refl _))⟩
end Up

namespace Sl
open PySem L2
/-! slices, by take and drop -/
theorem six_nat (n d k : Nat) : HT.sIx n d (some (k : Int)) = min k n := HT.sIx_nat n d k
theorem six_neg {n d k : Nat} (h : 0 < k) : HT.sIx n d (some (-(k : Int))) = n - k := by
  show (if -(k : Int) < 0 then (-(k : Int) + (n : Int)).toNat else min (-(k : Int)).toNat n) = n - k
  rw [if_pos (by omega)]; omega
theorem cut_to (xs : List V) (k : Nat) : cutV xs none (some (k : Int)) = xs.take k := by
  unfold cutV
  rw [six_nat, show HT.sIx xs.length 0 none = 0 from rfl, List.drop_zero, Nat.sub_zero]
  by_cases c : k ≤ xs.length
  · rw [Nat.min_eq_left c]
  · rw [Nat.min_eq_right (by omega), List.take_of_length_le (Nat.le_refl _), List.take_of_length_le (by omega)]
theorem cut_from (xs : List V) (k : Nat) : cutV xs (some (k : Int)) none = xs.drop k := by
  unfold cutV
  rw [six_nat, show HT.sIx xs.length xs.length none = xs.length from rfl]
  by_cases c : k ≤ xs.length
  · rw [Nat.min_eq_left c, List.take_of_length_le (by rw [List.length_drop]; omega)]
  · rw [Nat.min_eq_right (by omega), List.drop_eq_nil_of_le (Nat.le_refl _), List.drop_eq_nil_of_le (by omega), List.take_nil]
theorem cut_toN (xs : List V) {k : Nat} (h : 0 < k) : cutV xs none (some (-(k : Int))) = xs.take (xs.length - k) := by
  unfold cutV
  rw [six_neg h, show HT.sIx xs.length 0 none = 0 from rfl, List.drop_zero, Nat.sub_zero]
theorem cut_fromN (xs : List V) {k : Nat} (h : 0 < k) : cutV xs (some (-(k : Int))) none = xs.drop (xs.length - k) := by
  unfold cutV
  rw [six_neg h, show HT.sIx xs.length xs.length none = xs.length from rfl, List.take_of_length_le (by rw [List.length_drop]; omega)]
theorem cut_mid (xs : List V) (j k : Nat) : cutV xs (some (j : Int)) (some (k : Int)) = (xs.take k).drop j := by
  unfold cutV
  rw [six_nat, six_nat, List.drop_take]
  by_cases c : k ≤ xs.length
  · rw [Nat.min_eq_left c]
    by_cases d : j ≤ xs.length
    · rw [Nat.min_eq_left d]
    · rw [Nat.min_eq_right (by omega), List.drop_eq_nil_of_le (Nat.le_refl _), List.drop_eq_nil_of_le (by omega)]; simp
  · rw [Nat.min_eq_right (by omega)]
    by_cases d : j ≤ xs.length
    · rw [Nat.min_eq_left d, List.take_of_length_le (by rw [List.length_drop]; omega), List.take_of_length_le (by rw [List.length_drop]; omega)]
    · rw [Nat.min_eq_right (by omega), List.drop_eq_nil_of_le (Nat.le_refl _), List.drop_eq_nil_of_le (by omega)]; simp
end Sl

namespace Ge
/-- what is done, where W are the places that wait, and Pend the ties that are still to be looked at -/
structure Cl (nb : Int → List Int) (m : Int → Option Int) (E : List Int) (rd : Int → List Int) (W : List Int) (Pend : Int → Int → Prop) : Prop where
  out : ∀ x ∈ E, ∀ y ∈ nb x, y ∉ E → (∃ z, m y = some z ∧ z ∈ E) ∨ x ∈ W ∨ Pend x y
  cl : ∀ x ∈ E, ∀ y ∈ E, y ∈ nb x → (∀ p, p ∉ E → (p ∈ rd x ↔ p ∈ rd y)) ∨ x ∈ W ∨ y ∈ W ∨ Pend x y ∨ Pend y x
/-- with the places F, and their roads, put to it -/
def put (rd : Int → List Int) (F : List Int) (nr : Int → List Int) (x : Int) : List Int := if x ∈ F then nr x else rd x
theorem put_in {rd nr : Int → List Int} {F : List Int} {x : Int} (h : x ∈ F) : put rd F nr x = nr x := if_pos h
theorem put_out {rd nr : Int → List Int} {F : List Int} {x : Int} (h : x ∉ F) : put rd F nr x = rd x := if_neg h
section
variable {nb : Int → List Int} {m : Int → Option Int} {r : Int} {E W F : List Int} {rd nr : Int → List Int} {P : Int → Int → Prop}
theorem Cl.start : Cl nb m [r] (fun _ => [r]) [r] (fun _ _ => False) :=
  ⟨fun x hx _ _ _ => .inr (.inl hx), fun x hx _ _ _ => .inr (.inl hx)⟩
theorem Cl.pop (G : Gr nb) {h : Int} (C : Cl nb m E rd (W ++ [h]) (fun _ _ => False)) : Cl nb m E rd W (fun x y => x = h ∧ y ∈ (nb h).drop 0) := by
  have sp : ∀ {x : Int}, x ∈ W ++ [h] → x ∈ W ∨ x = h := fun hx => (List.mem_append.mp hx).imp id List.mem_singleton.mp
  refine ⟨fun x hx y hy he => ?_, fun x hx y hy hn => ?_⟩
  · rcases C.out x hx y hy he with z | z | z
    · exact .inl z
    · rcases sp z with z | rfl
      · exact .inr (.inl z)
      · exact .inr (.inr ⟨rfl, by rw [List.drop_zero]; exact hy⟩)
    · exact z.elim
  · rcases C.cl x hx y hy hn with z | z | z | z | z
    · exact .inl z
    · rcases sp z with z | rfl
      · exact .inr (.inl z)
      · exact .inr (.inr (.inr (.inl ⟨rfl, by rw [List.drop_zero]; exact hn⟩)))
    · rcases sp z with z | rfl
      · exact .inr (.inr (.inl z))
      · exact .inr (.inr (.inr (.inr ⟨rfl, by rw [List.drop_zero]; exact G.sym hn⟩)))
    · exact z.elim
    · exact z.elim
theorem drop_at {l : List Int} {i : Nat} {t : Int} (h : l[i]? = some t) : l.drop i = t :: l.drop (i + 1) := by
  obtain ⟨hi, e⟩ := List.getElem?_eq_some_iff.mp h
  rw [List.drop_eq_getElem_cons hi, e]
/-- the tie from h to t is done -/
theorem Cl.go {h t : Int} {i : Nat} (C : Cl nb m E rd W (fun x y => x = h ∧ y ∈ (nb h).drop i)) (ht : (nb h)[i]? = some t)
    (hF : ∀ x ∈ F, x ∉ E) (done : (t ∉ E ++ F ∧ ∃ z, m t = some z ∧ z ∈ E ++ F) ∨ (t ∈ E ∧ h ∈ E ∧ ∀ p, p ∉ E ++ F → (p ∈ rd h ↔ p ∈ rd t))) :
    Cl nb m (E ++ F) (put rd F nr) (W ++ F) (fun x y => x = h ∧ y ∈ (nb h).drop (i + 1)) := by
  have sp : ∀ {x : Int}, x ∈ E ++ F → x ∈ E ∨ x ∈ F := fun hx => List.mem_append.mp hx
  have old : ∀ {x : Int}, x ∈ E → put rd F nr x = rd x := fun hx => put_out fun z => hF _ z hx
  have ed := drop_at ht
  refine ⟨fun x hx y hy he => ?_, fun x hx y hy hn => ?_⟩
  · rcases sp hx with hx | hx
    · rcases C.out x hx y hy (fun z => he (List.mem_append_left _ z)) with ⟨z, z1, z2⟩ | z | ⟨rfl, z⟩
      · exact .inl ⟨z, z1, List.mem_append_left _ z2⟩
      · exact .inr (.inl (List.mem_append_left _ z))
      · rw [ed] at z
        rcases List.mem_cons.mp z with rfl | z
        · rcases done with ⟨_, z⟩ | ⟨z, _⟩
          · exact .inl z
          · exact absurd (List.mem_append_left _ z) he
        · exact .inr (.inr ⟨rfl, z⟩)
    · exact .inr (.inl (List.mem_append_right _ hx))
  · rcases sp hx with hx | hx
    · rcases sp hy with hy | hy
      · rw [old hx, old hy]
        rcases C.cl x hx y hy hn with z | z | z | ⟨rfl, z⟩ | ⟨rfl, z⟩
        · exact .inl fun p hp => z p fun q => hp (List.mem_append_left _ q)
        · exact .inr (.inl (List.mem_append_left _ z))
        · exact .inr (.inr (.inl (List.mem_append_left _ z)))
        · rw [ed] at z
          rcases List.mem_cons.mp z with rfl | z
          · rcases done with ⟨z, _⟩ | ⟨_, _, z⟩
            · exact absurd (List.mem_append_left _ hy) z
            · exact .inl z
          · exact .inr (.inr (.inr (.inl ⟨rfl, z⟩)))
        · rw [ed] at z
          rcases List.mem_cons.mp z with rfl | z
          · rcases done with ⟨z, _⟩ | ⟨_, _, z⟩
            · exact absurd (List.mem_append_left _ hx) z
            · exact .inl fun p hp => (z p hp).symm
          · exact .inr (.inr (.inr (.inr ⟨rfl, z⟩)))
      · exact .inr (.inr (.inl (List.mem_append_right _ hy)))
    · exact .inr (.inl (List.mem_append_right _ hx))
theorem Cl.round {h : Int} (C : Cl nb m E rd W (fun x y => x = h ∧ y ∈ (nb h).drop (nb h).length)) : Cl nb m E rd W (fun _ _ => False) := by
  have no : ∀ {y : Int}, y ∈ (nb h).drop (nb h).length → False := fun hy => by rw [List.drop_length] at hy; cases hy
  refine ⟨fun x hx y hy he => ?_, fun x hx y hy hn => ?_⟩
  · exact (C.out x hx y hy he).imp id fun z => z.imp id fun z => no z.2
  · exact (C.cl x hx y hy hn).imp id fun z => z.imp id fun z => z.imp id fun z => z.elim (fun z => (no z.2).elim) fun z => (no z.2).elim
theorem Cl.fin (C : Cl nb m E rd [] (fun _ _ => False)) : Done nb m E rd := by
  refine ⟨fun x hx y hy he => ?_, fun x hx y hy hn => ?_⟩
  · rcases C.out x hx y hy he with z | z | z
    · exact z
    · cases z
    · exact z.elim
  · rcases C.cl x hx y hy hn with z | z | z | z | z
    · exact z
    · cases z
    · cases z
    · exact z.elim
    · exact z.elim
/-- the new roads of a tie from h to t, both with roads -/
structure Ring (E : List Int) (rd : Int → List Int) (h t : Int) (F : List Int) (nr : Int → List Int) : Prop where
  nd : F.Nodup
  mem : ∀ p, p ∈ F ↔ p ∉ E ∧ ((p ∈ rd h ∧ p ∉ rd t) ∨ (p ∈ rd t ∧ p ∉ rd h))
  ha : ∀ p, p ∉ E → ∀ i : Nat, (rd h)[i]? = some p → p ∉ rd t → nr p = rd t ++ ((rd h).drop i).reverse
  hb : ∀ p, p ∉ E → ∀ i : Nat, (rd t)[i]? = some p → p ∉ rd h → nr p = rd h ++ ((rd t).drop i).reverse
theorem Ring.rg {h t : Int} (R : Ring E rd h t F nr) : Rg E rd h t (E ++ F) (put rd F nr) := by
  have inF : ∀ p, p ∉ E → (p ∈ rd h ∧ p ∉ rd t) ∨ (p ∈ rd t ∧ p ∉ rd h) → p ∈ F := fun p h1 h2 => (R.mem p).mpr ⟨h1, h2⟩
  refine ⟨fun p hp => List.mem_append_left _ hp, fun p hp hn => ?_, fun p h1 h2 => List.mem_append_right _ (inF p h1 h2), fun p hp => put_out fun z => ((R.mem p).mp z).1 hp, fun p hp i hi hn => ?_, fun p hp i hi hn => ?_⟩
  · rcases List.mem_append.mp hp with z | z
    · exact absurd z hn
    · exact ((R.mem p).mp z).2
  · rw [put_in (inF p hp (.inl ⟨List.mem_of_getElem? hi, hn⟩))]; exact R.ha p hp i hi hn
  · rw [put_in (inF p hp (.inr ⟨List.mem_of_getElem? hi, hn⟩))]; exact R.hb p hp i hi hn
/-- one tie looked at: three ways -/
inductive Step (m : Int → Option Int) (E : List Int) (rd : Int → List Int) (h t : Int) : List Int → (Int → List Int) → Prop
  | ring {F : List Int} {nr : Int → List Int} (ht : t ∈ E) (R : Ring E rd h t F nr) : Step m E rd h t F nr
  | skip {nr : Int → List Int} {z : Int} (ht : t ∉ E) (hz : m t = some z) (hE : z ∈ E) : Step m E rd h t [] nr
  | grow {nr : Int → List Int} {z : Int} (ht : t ∉ E) (hz : m t = some z) (hE : z ∉ E) (e : nr z = rd h ++ [t, z]) : Step m E rd h t [z] nr
theorem Step.off {h t : Int} (S : Step m E rd h t F nr) : F.Nodup ∧ ∀ x ∈ F, x ∉ E := by
  cases S with
  | ring _ R => exact ⟨R.nd, fun x hx => ((R.mem x).mp hx).1⟩
  | skip => exact ⟨List.nodup_nil, fun x hx => by cases hx⟩
  | grow _ _ hE => exact ⟨List.pairwise_singleton _ _, fun x hx => by rw [List.mem_singleton.mp hx]; exact hE⟩
theorem Step.sv (G : Gr nb) (M : Mt nb m) {h t : Int} (V : Sv nb m r E rd) (hh : h ∈ E) (hn : t ∈ nb h) (S : Step m E rd h t F nr) : Sv nb m r (E ++ F) (put rd F nr) := by
  cases S with
  | ring ht R => exact V.ring G M hh ht hn R.rg
  | skip =>
    rw [List.append_nil]
    have : put rd [] nr = rd := funext fun x => put_out (by intro z; cases z)
    rw [this]; exact V
  | @grow _ z ht hz hE e =>
    have := V.grow G M hh hn ht hz hE
    have e2 : put rd [z] nr = fun p => if p = z then rd h ++ [t, z] else rd p := funext fun p => by
      unfold put
      by_cases c : p = z
      · subst c; rw [if_pos (List.mem_singleton.mpr rfl), if_pos rfl, e]
      · rw [if_neg fun q => c (List.mem_singleton.mp q), if_neg c]
    rw [e2]; exact this
theorem Step.cl (G : Gr nb) (M : Mt nb m) (V : Sv nb m r E rd) {h t : Int} {i : Nat} (C : Cl nb m E rd W (fun x y => x = h ∧ y ∈ (nb h).drop i)) (ht : (nb h)[i]? = some t) (hh : h ∈ E) (S : Step m E rd h t F nr) :
    Cl nb m (E ++ F) (put rd F nr) (W ++ F) (fun x y => x = h ∧ y ∈ (nb h).drop (i + 1)) := by
  refine C.go ht S.off.2 ?_
  cases S with
  | ring hE R =>
    refine .inr ⟨hE, hh, fun p hp => ?_⟩
    have := R.rg.same hh hE hp
    rw [R.rg.old h hh, R.rg.old t hE] at this
    exact this
  | @skip _ z hE hz zE => exact .inl ⟨by rw [List.append_nil]; exact hE, z, hz, by rw [List.append_nil]; exact zE⟩
  | @grow _ z hE hz zE e =>
    refine .inl ⟨fun q => ?_, z, hz, List.mem_append_right _ (List.mem_singleton.mpr rfl)⟩
    rcases List.mem_append.mp q with q | q
    · exact hE q
    · have := List.mem_singleton.mp q
      subst this
      exact (M.irr G) hz
/-- what has roads lies in the net -/
theorem Rd.rng {n : Nat} (hn : ∀ {p q}, q ∈ nb p → 0 ≤ q ∧ q < (n : Int)) {x : Int} {l : List Int} (R : Rd nb m r x l) (hr : 0 ≤ r ∧ r < (n : Int)) : ∀ p ∈ l, 0 ≤ p ∧ p < (n : Int) := fun p hp => by
  obtain ⟨i, hi⟩ := List.getElem?_of_mem hp
  cases i with
  | zero => rw [R.fst] at hi; cases hi; exact hr
  | succ i =>
    have hl := (List.getElem?_eq_some_iff.mp hi).1
    exact hn (R.adj i l[i] p (List.getElem?_eq_getElem (by omega)) hi)
theorem Sv.rng {n : Nat} (hn : ∀ {p q}, q ∈ nb p → 0 ≤ q ∧ q < (n : Int)) (V : Sv nb m r E rd) (hr : 0 ≤ r ∧ r < (n : Int)) : ∀ x ∈ E, 0 ≤ x ∧ x < (n : Int) := fun x hx =>
  (V.road x hx).rng hn hr x (V.road x hx).mem
theorem Sv.len {n : Nat} (hn : ∀ {p q}, q ∈ nb p → 0 ≤ q ∧ q < (n : Int)) (V : Sv nb m r E rd) (hr : 0 ≤ r ∧ r < (n : Int)) {x : Int} (hx : x ∈ E) : (rd x).length ≤ n := by
  have key : ∀ {l : List Int}, l.Nodup → (∀ p ∈ l, 0 ≤ p ∧ p < (n : Int)) → l.length ≤ n := fun {l} nd h => by
    have := sub_len nd (l2 := (List.range n).map fun i : Nat => (i : Int)) fun a ha => by
      have := h a ha
      exact List.mem_map.mpr ⟨a.toNat, List.mem_range.mpr (by omega), by omega⟩
    rwa [List.length_map, List.length_range] at this
  exact key (V.road x hx).nd ((V.road x hx).rng hn hr)
end
end Ge

/-! text * truth value; xs.remove(x) over data; several clauses 'except C as n'. -/
namespace Mu
open PySem PySem.Spec PyProof.Rows L2
section
variable {X : Cx}
theorem mul_bit (x : Str) (b : Bool) : Txt.mul x (if b = true then 1 else 0) = if b = true then x else Str.empty := by
  cases b <;> rfl
theorem ok_bit (x : Str) (b : Bool) : MulOk x (if b = true then 1 else 0) := by
  cases b
  · exact ⟨by decide, fun q => absurd (by decide) q, fun q => absurd (by decide) q⟩
  · exact ⟨by decide, fun _ q => (by cases q), fun _ q => (by cases q)⟩
/-- 'text' * int(b) -/
def rMulB : R2 := fun x y H Q => ∃ (i : Str) (b : Bool), x = .str i ∧ y = .int (if b = true then 1 else 0) ∧ Q (.str (if b = true then i else Str.empty)) H
theorem op_mulB : OpR X (binaryOp .Mult) rMulB := by
  rintro pins s σ H x y v u Q I rx ry ⟨i, b, rfl, rfl, q⟩
  obtain ⟨t, rfl⟩ := rx
  obtain ⟨t2, rfl⟩ := ry
  exact SB.mul (ok_bit i b) fun t3 k => ⟨.str (if b = true then i else Str.empty), H, I.tok _, ⟨t3, by rw [mul_bit]⟩, q⟩
/-- xs.remove(y): the first that is == y is gone -/
def rRemD (K : PySem.W.Frag) : V → List V → Hp → VK → Prop := fun x xs H Q => ∃ (a : Addr) (vs : List V) (y : V) (d : PyData) (ds : List PyData) (j : Nat), x = V.ref a ∧ xs = [y] ∧ H a = some (.lst vs) ∧ DpAll K H vs ds ∧ Dp K H y d ∧
  PyData.plainAll ds = true ∧ d.plain = true ∧ d.depth ≤ 64 ∧ SeqAt.dataPlace ds d = some j ∧ Q .non (upd H a (.lst (vs.eraseIdx j)))
theorem mt_remD (hu : X.A.units + 65 < cLine) : MtM X "list.remove" (rRemD X.K) := by
  rintro pins s σ H x xs v us Q I rx rxs ⟨a, vs, y, d, ds, j, rfl, rfl, hH, hvs, hy, pds, pd, dd, hj, q⟩
  cases rx
  obtain ⟨u, rfl, ru⟩ := rxs.one
  obtain ⟨bs, r1⟩ := Dp.reads I d y u hy ru
  obtain ⟨z, its, n, r, hl, e⟩ := I.lstM hH
  obtain ⟨as, r2⟩ := Dp.readsAll I ds vs its hvs r
  refine SeqAt.remove_list_data (vs := its.toArray) ⟨_, e, rfl, n, rfl⟩ r2 r1 pds pd ?_ hj (by rw [List.size_toArray]; omega) ?_
  · have := Nat.min_le_right (PyData.depthAll ds) d.depth
    omega
  · refine ⟨.non, _, I.lset (its' := its.eraseIdx j) (t' := s.toks) hH e ?_ (r.eraseIdx j) ?_, rfl, q⟩
    · show its.toArray.eraseIdxIfInBounds j = (its.eraseIdx j).toArray
      rw [List.eraseIdxIfInBounds_toArray]
    · have := List.length_eraseIdx_le vs j
      omega
end
/-! ### several clauses -/
/-- what the clauses wish, one behind the other: slot i is the name's -/
def wAll (K : PySem.W.Frag) (i : Nat) (Wo : WX) (D : Ends) : List (Value × (Addr → Value → Option Addr → TS)) → WX
  | [] => Wo
  | (c, ts) :: r => wAs K c i ts (wAll K i Wo D r) D
inductive Cl (X : Cx) (n : Str) : List ExceptHandler → List (Value × (Addr → Value → Option Addr → TS)) → Prop
  | nil : Cl X n [] []
  | cons {x : Str} {c : Value} {ts : Addr → Value → Option Addr → TS} {b : Stmt} {bs : List Stmt} {p1 p2 : Pos} {hs : List ExceptHandler} {l : List (Value × (Addr → Value → Option Addr → TS))} (nm : Names X x c)
      (su : ∀ (a : Addr) (oe : Obj) (cls : Value) (d : Option Addr) (pn : List (Addr × Obj)), L2N.Zn cls d oe → (∃ vs, oe.data = .fields vs) → PSs (X.suite a ((a, oe) :: pn)) (b :: bs) (ts a cls d)) (r : Cl X n hs l) :
      Cl X n (.ExceptHandler (some (.Name x p1)) (some n) (b :: bs) p2 :: hs) ((c, ts) :: l)
section
variable {X : Cx} {n : Str} {i : Nat} {Wo : WX}
/-- the name that a clause tests -/
theorem nm_ld {x : Str} {c : Value} {a : Addr} {oe : Obj} {pn : List (Addr × Obj)} {p : Pos} {s : Shared} {σ : L2.St} {H : Hp} {Q : Value → Shared → Prop} {E : Value → Shared → Prop} (nm : Names X x c) (S : Inv (X.suite a ((a, oe) :: pn)) [] σ H s) (q : Q c s) :
    wpAny (model X.prog X.w) (X.A.mark (some (.ref a))) (eval (.Name x p) X.env) Q E s := by
  rcases nm with ⟨g, db, m | ⟨m, bt, ne⟩⟩
  · exact ld_glob (X := X.suite a ((a, oe) :: pn)) S g m q db
  · exact ld_blt (X := X.suite a ((a, oe) :: pn)) S g m bt q ne db
/-- behind a body: in the state of the try -/
theorem sp_out {pn : List (Addr × Obj)} {xe : Value → Shared → Prop} {pins : List (Addr × Obj)} {D : Ends} (ok : X.Ok) : ∀ {f : Flow} {z : Shared}, SP (X.tr (X.pn ++ pins) xe) pn D f z → SP X pins D f z
  | .next, _, ⟨σ, H, J, q⟩ => ⟨σ, H, J.ofTry ok, q⟩
  | .brk, _, ⟨σ, H, J, q⟩ => ⟨σ, H, J.ofTry ok, q⟩
  | .cont, _, ⟨σ, H, J, q⟩ => ⟨σ, H, J.ofTry ok, q⟩
  | .ret _, _, ⟨v, σ, H, J, r, q⟩ => ⟨v, σ, H, J.ofTry ok, r, q⟩
/-- a is in the air at the heap g, over the state sI -/
structure Air (X : Cx) (pins : List (Addr × Obj)) (a : Addr) (B : Heap) (sI z : Shared) (σ : L2.St) (H : Hp) (cls : Value) (d : Option Addr) (g : Heap) : Prop where
  fl : HandSPX.FlyingZ B (X.env :: X.outer) a (L2N.Zn cls d) g
  up : sI.heap.UpToSlots g
  J : Inv X pins σ H sI
  nb : ∀ b o, sI.heap.get? b = some o → b ∉ frs X.stack → B.get? b = some o
  na : H a = none
  os : z.os = sI.os
  ag : AllBare z.gens
theorem Air.state {pins : List (Addr × Obj)} {a : Addr} {B : Heap} {sI z : Shared} {σ : L2.St} {H : Hp} {cls : Value} {d : Option Addr} {g : Heap} (F : Air X pins a B sI z σ H cls d g) (hf : X.env.frame = some X.env.locals) :
    ∃ oe, g.get? a = some oe ∧ L2N.Zn cls d oe ∧ (∃ vs, oe.data = .fields vs) ∧ Inv (X.suite a ((a, oe) :: (X.pn ++ pins))) [] σ H { z with heap := g } := by
  obtain ⟨oe, vs, e, hz, hd⟩ := F.fl.there
  have bare : a ∉ frs (X.env :: X.outer) := fun w => by
    obtain ⟨_, o, e2, no⟩ := F.fl.2.2.1.mem w
    rw [e] at e2; cases e2
    exact no _ hd
  refine ⟨oe, e, hz, ⟨vs, hd⟩, (F.J.landed (s' := { z with heap := g }) F.nb F.fl.1 F.up F.os F.ag).suite e hd F.na (fun w => bare ?_) fun w => bare ?_⟩
  · rw [w]; exact List.mem_filterMap.mpr ⟨_, List.mem_cons_self, hf⟩
  · obtain ⟨v, m, q⟩ := List.mem_filterMap.mp w
    exact List.mem_filterMap.mpr ⟨v, List.mem_cons_of_mem _ m, q⟩
theorem run_cl (st : X.stack = X.env :: X.outer) (hf : X.env.frame = some X.env.locals) (hN : X.N.Nodup) (hi : X.N[i]? = some n) (hln : X.env.kindOf n = some .local) (tk : L2N.Takes X Wo) {D : Ends} {pins : List (Addr × Obj)} {a : Addr} {B : Heap}
    {sI z : Shared} {σ : L2.St} {H : Hp} {cls : Value} {d : Option Addr} {g : Heap} (F : Air X pins a B sI z σ H cls d g) : ∀ {hs : List ExceptHandler} {l : List (Value × (Addr → Value → Option Addr → TS))}, Cl X n hs l →
      wAll X.K i Wo D l cls d σ H → wpAny (model X.prog X.w) X.A (handleBy (.ref a) X.env hs) (SP X pins D) X.xe { z with heap := g } := by
  intro hs l cl
  have ok := F.J.ok
  induction cl with
  | nil =>
    intro w
    refine wpAny_handleBy_nil ?_
    obtain ⟨f1, f2, f3, oe, vs, T, oT, tr, e, hz, hd, h1, hr⟩ := id F.fl
    have last : wpAny (model X.prog X.w) X.A (setFlight (.ref a) X.env.frame) (fun _ z4 => wpAny (model X.prog X.w) X.A (throw (.ref a) : Sem Flow) (SP X pins D) X.xe z4) X.xe { z with heap := g } := by
      rw [hf]
      exact HandSPX.setFlight_upZ F.fl fun g2 hh up2 => wpAny_throw (tk _ _ ⟨a, B, sI, pins, σ, H, cls, d, rfl, F.J, F.nb, F.up.trans up2, .inr (.inr (by rw [st]; exact hh)), F.na, F.os, F.ag, w⟩)
    unfold PySem.passOn
    refine wpAny_bind (wpAny_field e hd h1 ?_)
    rw [if_neg (by simp)]
    first
      | exact wpAny_bind last
      | exact wpAny_bind (wpAny_pure (wpAny_bind last))
  | @cons x c ts b bs p1 p2 hs2 l2 nm su r ih =>
    rintro ⟨yes, hb, hy, hn⟩
    obtain ⟨oe, e, hz, hd, S⟩ := F.state hf
    refine wpAny_handleBy_cons (codeAny_handlers_test ?_) nofun
    have lk : PySem.W.Looks (model X.prog X.w) g (typeOf (.ref a)) cls := fun A Q E s k q => wpAny_typeOf_ref (k _ _ e) (by rw [hz.1]; exact q)
    refine nm_ld nm S ((PySem.W.exm_one (M := model X.prog X.w) S.kIn lk hb).here ?_)
    cases yes with
    | false => exact ih (hn rfl)
    | true =>
      refine codeAny_handlers_suite_as (HandSPX.lands_againZ F.fl fun g2 fl2 up2 => ?_)
      have F2 : Air X pins a B sI z σ H cls d g2 := ⟨fl2, F.up.trans up2, F.J, F.nb, F.na, F.os, F.ag⟩
      obtain ⟨o2, e2, hz2, hd2, S2⟩ := F2.state hf
      refine store_ok (X := X.suite a ((a, o2) :: (X.pn ++ pins))) (v := .ref a) S2 hN hi (.inl hln) rfl (fun z5 S5 => ?_) (.inr hln)
      refine wpAny_mono ((su a o2 cls d (X.pn ++ pins) hz2 hd2).run [] z5 _ H _ S5 (hy rfl a F.na)) (fun f z6 sp => ?_) fun _ _ w => w.elim
      have bye : ∀ {σ6 : L2.St} {H6 : Hp} {Q : Shared → Prop}, Inv (X.suite a ((a, o2) :: (X.pn ++ pins))) [] σ6 H6 z6 → (∀ z7, Inv X pins (σ6.set i none) H6 z7 → Q z7) →
          wpAny (model X.prog X.w) X.A (do bindName X.env n .none; unbindBehindTheSuite X.env n p2) (fun _ z7 => Q z7) X.xe z6 := fun S6 k => gone_ok (S6.unsuite ok) hN hi hln k
      match f, sp with
      | .next, ⟨_, _, S6, q⟩ => exact bye S6 fun _ J => ⟨_, _, J, q⟩
      | .brk, ⟨_, _, S6, q⟩ => exact bye S6 fun _ J => ⟨_, _, J, q⟩
      | .cont, ⟨_, _, S6, q⟩ => exact bye S6 fun _ J => ⟨_, _, J, q⟩
      | .ret _, ⟨_, _, _, S6, rv, q⟩ => exact bye S6 fun _ J => ⟨_, _, _, J, rv, q⟩
variable {body : List Stmt} {h0 : ExceptHandler} {hs : List ExceptHandler} {l : List (Value × (Addr → Value → Option Addr → TS))} {pos : Pos} {tb : WX → TS}
theorem ps_try_all (st : X.stack = X.env :: X.outer) (hf : X.env.frame = some X.env.locals) (hN : X.N.Nodup) (hi : X.N[i]? = some n) (hln : X.env.kindOf n = some .local) (tk : L2N.Takes X Wo)
    (hb : ∀ (W : WX) (pn : List (Addr × Obj)) (xe : Value → Shared → Prop), L2N.Takes (X.tr pn xe) W → PassesOwn (model X.prog X.w) X.A X.env xe → PSs (X.tr pn xe) body (tb W))
    (cl : Cl X n (h0 :: hs) l) : PS X (.Try body (h0 :: hs) [] [] pos) (fun D σ H => tb (wAll X.K i Wo D l) D σ H) := by
  refine ⟨fun pins s σ H D I h => wpAny_Try_except ?_⟩
  have ok := I.ok
  have fr : X.A.frames = some (X.env :: X.outer) := by rw [ok.frames, st]
  refine wpAny_mono ((hb (wAll X.K i Wo D l) (X.pn ++ pins) (fun u z1 => wpAny (model X.prog X.w) X.A (noteFrame u X.env) (fun _ z2 => wpAny (model X.prog X.w) X.A (setFlight u none) (fun _ z3 =>
    wpAny (model X.prog X.w) X.A (handleBy u X.env (h0 :: hs)) (SP X pins D) X.xe z3) X.xe z2) X.xe z1) ?_ PassesOwn.looking).run [] s σ H D (I.toTry _) h) (fun f z sp => ?_) fun _ _ w => w
  · rintro u z ⟨a, B, sI, pn2, σ2, H2, cls, d, rfl, J, nb, up, sky, na, os, ag, w⟩
    refine L2N.Sky.land L2N.Zn.steady fr hf (by rw [← st]; exact sky) fun g fl up2 => ?_
    exact run_cl (z := z) st hf hN hi hln tk ⟨fl, up.trans up2, J.ofTry ok, nb, na, os, ag⟩ cl w
  · have sp2 := sp_out ok sp
    match f, sp2 with
    | .next, q => exact wpAny_execs_nil q
    | .brk, q => exact q
    | .cont, q => exact q
    | .ret _, q => exact q
end
end Mu

/-! set(xs) of a list of whole numbers, some of them twice. -/
namespace Ls
open PySem PySem.Spec PyProof.Rows L2
/-- an empty set's object -/
abbrev mt (w : World) : Obj := { cls := .type "set", dict := none, data := .set #[] 0 (.fresh 0 0 (!w.params.followText "set-order")) }
/-- the state with it -/
abbrev st0 (w : World) (s : Shared) : Shared := { s with heap := s.heap.push (mt w) }
section
variable {P : Program} {w : World} {A : Around} {E : Value → Shared → Prop} {s : Shared}
theorem val_at {items : Array Value} {ns : List Int} (hit : IntsAre items.toList ns) (i : Nat) (v : Value) (hv : items[i]? = some v) : ∃ k t, ns[i]? = some k ∧ v = .int k t := by
  have sz := IntsAre.length hit
  rw [Array.length_toList] at sz
  have hi : i < ns.length := sz ▸ (Array.getElem?_eq_some_iff.mp hv).1
  obtain ⟨t, e⟩ := PyProof.Rows.IntsAre.int_at hit i v (by rw [Array.getElem?_toList]; exact hv)
  refine ⟨_, t, List.getElem?_eq_getElem hi, e.trans ?_⟩
  rw [List.getD_eq_getElem?_getD, List.getElem?_eq_getElem hi]; rfl
/-- what is left of the init, behind its walk -/
def Made (w : World) (s : Shared) (ns : List Int) (s2 : Shared) : Prop := ∃ h' tk c, s2 = { s with heap := h', toks := tk } ∧ SetR w h' s.heap.objs.size (fun j => decide (j ∈ ns)) c ∧ c ≤ ns.length ∧ ∀ b o, s.heap.get? b = some o → h'.get? b = some o
theorem init_list {l : Addr} {items : Array Value} (ns : List Int) (hh : A.handled = none) (hl : s.heap.IsList l items) (hit : IntsAre items.toList ns) (hb : ns.length + 1 < scanBound) :
    wpAny (model P w) A.in1.in1 (Builtin.«set.__init__» ⟨[.ref s.heap.objs.size, .ref l], []⟩)
      (fun fin s' => match fin with | .done f => wants (fun r s2 => r = .none ∧ Made w s ns s2) E (.ok f) s' | .again c' => c'.quiet = true ∧ codeAny (model P w) A.in1 c' (wants (fun r s2 => r = .none ∧ Made w s ns s2) E) s')
      (fun e s' => wants (fun r s2 => r = .none ∧ Made w s ns s2) E (.error e) s') (st0 w s) := by
  have sz : items.size = ns.length := by
    have q := IntsAre.length hit
    rwa [Array.length_toList] at q
  have atS : (s.heap.push (mt w)).get? s.heap.objs.size = some (mt w) := Heap.get?_push_size _ rfl
  have tyS : Shared.TypeIs (st0 w s) (.ref s.heap.objs.size) "set" := ⟨_, atS, rfl⟩
  obtain ⟨ob, atl, cl, nl, dl⟩ := hl
  obtain ⟨oc, od, oa, os⟩ := ob
  simp only at cl dl
  subst cl; subst dl
  have atl2 := Heap.get?_push_of_some (mt w) atl
  have is1 := F.sub_list_set
  have is2 := F.sub_list_frozenset
  have is3 : (Value.type "list" == Value.type "dict") = false := by decide
  have hl1 : (s.heap.push (mt w)).IsList l items := ⟨_, atl2, rfl, nl, rfl⟩
  unfold Builtin.«set.__init__» noKeywords Builtin.Frozenset.updateFrom
  generalize hgo : pyIter = go
  wp_walk
  subst hgo
  refine wpAny_pyIter_list hl1 (wpAny_bind (wpAny_runValue ?_))
  have lt : l < s.heap.objs.size := Heap.lt_size atl
  have neI : l ≠ (s.heap.push (mt w)).objs.size := by
    rw [Heap.size_push]
    exact Nat.ne_of_lt (Nat.lt_succ_of_lt lt)
  have off : s.heap.objs.size ∉ [(s.heap.push (mt w)).objs.size, l] := by
    rw [Heap.size_push]
    intro z
    rcases List.mem_cons.mp z with z | z
    · exact absurd z (Nat.ne_of_lt (Nat.lt_succ_self _))
    · exact absurd (List.mem_singleton.mp z) (Nat.ne_of_gt lt)
  have cold : A.in1.in1.in1.handled = none := by simp [hh]
  refine set_update_ints ((Walks.list cold _ l neI items).toS) s.heap.objs.size off ns sz hb (val_at hit) (items.size - 0) 0 _ (by omega) (Nat.zero_le _) ⟨⟨_, Heap.get?_push_size _ rfl, rfl, rfl⟩, hl1.push _⟩ ?zz1 ?zz2
  case zz1 =>
    refine ⟨0, Nat.le_refl 0, setR_new_at ?_⟩
    exact Heap.get?_push_of_some _ atS
  case zz2 =>
    intro s' c' mv hc hS
    obtain ⟨h', g2, d', tk', o2⟩ := s'
    obtain rfl : g2 = s.gens := mv.gens
    obtain rfl : d' = s.drawn := mv.drawn
    obtain rfl : o2 = s.os := mv.os
    show wpAny _ _ _ _ _ _
    refine wpAny_pure ?_
    show wpAny _ _ (ret Value.none) _ _ _
    refine wpAny_pure ⟨rfl, h', tk', c', rfl, hS, by rw [← sz]; exact hc, fun b o e => mv.heap b o (fun z => ?_) (Heap.get?_push_of_some _ (Heap.get?_push_of_some _ e))⟩
    have hb0 := Heap.lt_size e
    rw [Heap.size_push] at z
    rcases List.mem_cons.mp z with z | z
    · exact absurd z (Nat.ne_of_lt hb0)
    · exact absurd (List.mem_singleton.mp z) (Nat.ne_of_lt (Nat.lt_succ_of_lt hb0))
theorem set_list {l : Addr} {items : Array Value} (ns : List Int) {Q : Value → Shared → Prop} (hh : A.handled = none) (hl : s.heap.IsList l items) (hit : IntsAre items.toList ns) (hb : ns.length + 1 < scanBound)
    (h : ∀ s2, Made w s ns s2 → Q (.ref s.heap.objs.size) s2) : wpAny (model P w) A (call (.type "set") [.ref l]) Q E s := by
  obtain ⟨mc, mt', mro⟩ := F.called_set.mro
  have f1 := F.called_set.made
  have f2 := F.called_set.sub
  have f3 := F.called_set.notType
  have f4 := F.called_set.canCreate
  have f5 := F.typeCall_set_1 (.ref l)
  refine wpAny_call (codeAny_of_tree (show wpAny _ _ (callAny (.type "set") _) _ _ _ from ?_))
  refine wpAny_pure ⟨Code.quiet_builtin _ (by decide +kernel), codeAny_builtin F.entry_type_call ?_⟩
  rw [Around.under_plain (weight_type_call_type "set" [.ref l] []) rfl]
  repeat (any_goals (first | assumption | wp_step))
  refine codeAny_mono (code_set_led1 (.ref l) (E := E) (Q₁ := fun ob s1 => ob = .ref s.heap.objs.size ∧ s1 = st0 w s) ⟨rfl, rfl⟩) fun r s1 hr => ?_
  cases r with
  | error e => exact hr
  | ok fl =>
    cases fl with
    | ret ob =>
      obtain ⟨rfl, rfl⟩ := hr
      have atS : (s.heap.push (mt w)).get? s.heap.objs.size = some (mt w) := Heap.get?_push_size _ rfl
      have tyS : Shared.TypeIs (st0 w s) (.ref s.heap.objs.size) "set" := ⟨_, atS, rfl⟩
      have g1 := F.called_set.init.lookup
      have g2 := F.called_set.init.bind (.ref s.heap.objs.size)
      repeat (any_goals (first | assumption | wp_step))
      refine codeAny_mono (codeAny_call_builtin (R := wants (fun r s2 => r = .none ∧ Made w s ns s2) E) F.called_set.init.plain F.entry_set_init (check_set_init_1 tyS (init_list ns hh hl hit hb))) fun r2 s2 hr2 => ?_
      cases r2 with
      | error e => exact hr2
      | ok f2 =>
        cases f2 with
        | ret r =>
          obtain ⟨rfl, md⟩ := hr2
          have md' := md
          obtain ⟨h', tk, c', rfl, _⟩ := md
          repeat (any_goals (first | assumption | wp_step))
          exact h _ md'
        | _ => exact hr2.elim
    | _ => exact hr.elim
end
/-- set(xs) -/
def rSetL (K : PySem.W.Frag) (w : World) : List V → Hp → VK → Prop := fun xs H Q => ∃ (l : Addr) (ns : List Int), xs = [.ref l] ∧ SqL K H l (ns.map V.int) ∧ ns.length ≤ 1000 ∧ ∀ p c, H p = none → c ≤ ns.length → Q (.ref p) (upd H p (SetO w p (fun j => decide (j ∈ ns)) c))
theorem cr_setL {X : Cx} (hc : X.calm = true) : CallR X (.type "set") (rSetL X.K X.w) := by
  intro pins s σ H vs us Q I r h
  obtain ⟨l, ns, rfl, hq, hn, q⟩ := h
  obtain ⟨u, rfl, rx⟩ := vals1 r
  cases rx
  obtain ⟨its, rv, pl, hz⟩ := I.list hq
  refine set_list ns (I.ok.hd hc) pl.isList (by simpa using RZ.intsAre_vals rv) (by unfold scanBound; omega) fun s2 md => ?_
  obtain ⟨h', tk, c, rfl, hS, hl, k⟩ := md
  exact ⟨.ref s.heap.objs.size, _, I.laid (t' := tk) k (Nat.le_refl _) (setO_new hS), rfl, q _ c (I.hok.fresh (Nat.le_refl _)) hl⟩
end Ls

namespace Od
open PySem PySem.Spec PyProof.Rows L2
abbrev St := L2.St
def top (i : Nat) : Stmt := PySem.Challenge.pw_oddpairs_k11_whole_kept.main.body.getD i (.Pass ⟨0, 0, 0, 0⟩)
abbrev S_is_number : Stmt := top 11
abbrev N_is_number : List Str := ["thing"]
theorem sc_is_number : FnScope N_is_number ["thing"] (defScope S_is_number) := ⟨rfl, rfl, rfl, by decide +kernel, rfl, by decide +kernel, by decide +kernel⟩
abbrev S_is_place : Stmt := top 12
abbrev N_is_place : List Str := ["thing", "size"]
theorem sc_is_place : FnScope N_is_place ["thing", "size"] (defScope S_is_place) := ⟨rfl, rfl, rfl, by decide +kernel, rfl, by decide +kernel, by decide +kernel⟩
abbrev S_is_tie : Stmt := top 13
abbrev N_is_tie : List Str := ["thing", "size", "one", "other"]
theorem sc_is_tie : FnScope N_is_tie ["thing", "size"] (defScope S_is_tie) := ⟨rfl, rfl, rfl, by decide +kernel, rfl, by decide +kernel, by decide +kernel⟩
abbrev S_rising_ties : Stmt := top 14
abbrev N_rising_ties : List Str := ["size", "ties", "seen", "tie", "one", "other"]
theorem sc_rising_ties : FnScope N_rising_ties ["size", "ties"] (defScope S_rising_ties) := ⟨rfl, rfl, rfl, by decide +kernel, rfl, by decide +kernel, by decide +kernel⟩
abbrev S_neighbours : Stmt := top 15
abbrev N_neighbours : List Str := ["size", "ties", "near", "one", "other", "_"]
theorem sc_neighbours : FnScope N_neighbours ["size", "ties"] (defScope S_neighbours) := ⟨rfl, rfl, rfl, by decide +kernel, rfl, by decide +kernel, by decide +kernel⟩
abbrev S_Net___init__ : Stmt := inClass (top 16) 0
abbrev N_Net___init__ : List Str := ["self", "size", "ties"]
theorem sc_Net___init__ : FnScope N_Net___init__ ["self", "size", "ties"] (defScope S_Net___init__) := ⟨rfl, rfl, rfl, by decide +kernel, rfl, by decide +kernel, by decide +kernel⟩
abbrev S_Net_ties : Stmt := inClass (top 16) 1
abbrev N_Net_ties : List Str := ["self"]
theorem sc_Net_ties : FnScope N_Net_ties ["self"] (defScope S_Net_ties) := ⟨rfl, rfl, rfl, by decide +kernel, rfl, by decide +kernel, by decide +kernel⟩
abbrev S_Net_beside : Stmt := inClass (top 16) 2
abbrev N_Net_beside : List Str := ["self", "place"]
theorem sc_Net_beside : FnScope N_Net_beside ["self", "place"] (defScope S_Net_beside) := ⟨rfl, rfl, rfl, by decide +kernel, rfl, by decide +kernel, by decide +kernel⟩
abbrev S_checked : Stmt := top 18
abbrev N_checked : List Str := ["net", "pairs", "paired", "kept", "pair", "one", "other"]
theorem sc_checked : FnScope N_checked ["net", "pairs"] (defScope S_checked) := ⟨rfl, rfl, rfl, by decide +kernel, rfl, by decide +kernel, by decide +kernel⟩
abbrev S_mates_in : Stmt := top 19
abbrev N_mates_in : List Str := ["net", "pairs", "mates", "one", "other"]
theorem sc_mates_in : FnScope N_mates_in ["net", "pairs"] (defScope S_mates_in) := ⟨rfl, rfl, rfl, by decide +kernel, rfl, by decide +kernel, by decide +kernel⟩
abbrev S_are_places : Stmt := top 20
abbrev N_are_places : List Str := ["net", "way", "place"]
theorem sc_are_places : FnScope N_are_places ["net", "way"] (defScope S_are_places) := ⟨rfl, rfl, rfl, by decide +kernel, rfl, by decide +kernel, by decide +kernel⟩
abbrev S_is_way : Stmt := top 21
abbrev N_is_way : List Str := ["net", "mates", "way", "at", "here", "there"]
theorem sc_is_way : FnScope N_is_way ["net", "mates", "way"] (defScope S_is_way) := ⟨rfl, rfl, rfl, by decide +kernel, rfl, by decide +kernel, by decide +kernel⟩
abbrev S_turned : Stmt := top 22
abbrev N_turned : List Str := ["net", "pairs", "way", "kept", "steps", "untouched", "one", "other", "pair"]
theorem sc_turned : FnScope N_turned ["net", "pairs", "way"] (defScope S_turned) := ⟨rfl, rfl, rfl, by decide +kernel, rfl, by decide +kernel, by decide +kernel⟩
abbrev S_roads_round : Stmt := top 24
abbrev N_roads_round : List Str := ["roads", "one", "other", "found", "at", "place", "back"]
theorem sc_roads_round : FnScope N_roads_round ["roads", "one", "other"] (defScope S_roads_round) := ⟨rfl, rfl, rfl, by decide +kernel, rfl, by decide +kernel, by decide +kernel⟩
abbrev S_roads_by : Stmt := top 25
abbrev N_roads_by : List Str := ["roads", "mates", "here", "there", "found", "mate"]
theorem sc_roads_by : FnScope N_roads_by ["roads", "mates", "here", "there"] (defScope S_roads_by) := ⟨rfl, rfl, rfl, by decide +kernel, rfl, by decide +kernel, by decide +kernel⟩
abbrev S_way_from : Stmt := top 26
abbrev N_way_from : List Str := ["net", "mates", "root", "roads", "waiting", "here", "there", "found", "place"]
theorem sc_way_from : FnScope N_way_from ["net", "mates", "root"] (defScope S_way_from) := ⟨rfl, rfl, rfl, by decide +kernel, rfl, by decide +kernel, by decide +kernel⟩
abbrev S_better : Stmt := top 27
abbrev N_better : List Str := ["net", "pairs", "mates", "root", "way"]
theorem sc_better : FnScope N_better ["net", "pairs"] (defScope S_better) := ⟨rfl, rfl, rfl, by decide +kernel, rfl, by decide +kernel, by decide +kernel⟩
abbrev S_most : Stmt := top 28
abbrev N_most : List Str := ["net", "pairs", "way"]
theorem sc_most : FnScope N_most ["net"] (defScope S_most) := ⟨rfl, rfl, rfl, by decide +kernel, rfl, by decide +kernel, by decide +kernel⟩
abbrev S_tie_between : Stmt := top 30
abbrev N_tie_between : List Str := ["size", "one", "other"]
theorem sc_tie_between : FnScope N_tie_between ["size", "one", "other"] (defScope S_tie_between) := ⟨rfl, rfl, rfl, by decide +kernel, rfl, by decide +kernel, by decide +kernel⟩
abbrev S_Kept___init__ : Stmt := inClass (top 31) 0
abbrev N_Kept___init__ : List Str := ["self", "size"]
theorem sc_Kept___init__ : FnScope N_Kept___init__ ["self", "size"] (defScope S_Kept___init__) := ⟨rfl, rfl, rfl, by decide +kernel, rfl, by decide +kernel, by decide +kernel⟩
abbrev S_Kept_put : Stmt := inClass (top 31) 1
abbrev N_Kept_put : List Str := ["self", "one", "other", "tie", "ties"]
theorem sc_Kept_put : FnScope N_Kept_put ["self", "one", "other"] (defScope S_Kept_put) := ⟨rfl, rfl, rfl, by decide +kernel, rfl, by decide +kernel, by decide +kernel⟩
abbrev S_Kept_cut : Stmt := inClass (top 31) 2
abbrev N_Kept_cut : List Str := ["self", "one", "other", "tie", "ties", "left", "pair", "row"]
theorem sc_Kept_cut : FnScope N_Kept_cut ["self", "one", "other"] (defScope S_Kept_cut) := ⟨rfl, rfl, rfl, by decide +kernel, rfl, by decide +kernel, by decide +kernel⟩
abbrev S_Kept_net : Stmt := inClass (top 31) 3
abbrev N_Kept_net : List Str := ["self"]
theorem sc_Kept_net : FnScope N_Kept_net ["self"] (defScope S_Kept_net) := ⟨rfl, rfl, rfl, by decide +kernel, rfl, by decide +kernel, by decide +kernel⟩
abbrev S_Kept_pairs : Stmt := inClass (top 31) 4
abbrev N_Kept_pairs : List Str := ["self"]
theorem sc_Kept_pairs : FnScope N_Kept_pairs ["self"] (defScope S_Kept_pairs) := ⟨rfl, rfl, rfl, by decide +kernel, rfl, by decide +kernel, by decide +kernel⟩
abbrev S_Kept__turn_to : Stmt := inClass (top 31) 5
abbrev N_Kept__turn_to : List Str := ["self", "ties", "pairs", "before", "way"]
theorem sc_Kept__turn_to : FnScope N_Kept__turn_to ["self", "ties", "pairs"] (defScope S_Kept__turn_to) := ⟨rfl, rfl, rfl, by decide +kernel, rfl, by decide +kernel, by decide +kernel⟩
abbrev S_without : Stmt := top 33
abbrev N_without : List Str := ["rows", "place", "row"]
theorem sc_without : FnScope N_without ["rows", "place"] (defScope S_without) := ⟨rfl, rfl, rfl, by decide +kernel, rfl, by decide +kernel, by decide +kernel⟩
abbrev S_freed : Stmt := top 34
abbrev N_freed : List Str := ["net", "pairs", "place", "others", "rest", "way"]
theorem sc_freed : FnScope N_freed ["net", "pairs", "place"] (defScope S_freed) := ⟨rfl, rfl, rfl, by decide +kernel, rfl, by decide +kernel, by decide +kernel⟩
abbrev S_is_beside_one : Stmt := top 35
abbrev N_is_beside_one : List Str := ["net", "place", "marked", "other"]
theorem sc_is_beside_one : FnScope N_is_beside_one ["net", "place", "marked"] (defScope S_is_beside_one) := ⟨rfl, rfl, rfl, by decide +kernel, rfl, by decide +kernel, by decide +kernel⟩
abbrev S_fence : Stmt := top 36
abbrev N_fence : List Str := ["net", "pairs", "places", "left", "place"]
theorem sc_fence : FnScope N_fence ["net"] (defScope S_fence) := ⟨rfl, rfl, rfl, by decide +kernel, rfl, by decide +kernel, by decide +kernel⟩
abbrev S__law_sole : Stmt := top 38
abbrev N__law_sole : List Str := ["_law_error", "_law_many"]
theorem sc__law_sole : FnScope N__law_sole ["_law_error"] (defScope S__law_sole) := ⟨rfl, rfl, rfl, by decide +kernel, rfl, by decide +kernel, by decide +kernel⟩
abbrev S__law_whole : Stmt := top 39
abbrev N__law_whole : List Str := ["_law_found"]
theorem sc__law_whole : FnScope N__law_whole ["_law_found"] (defScope S__law_whole) := ⟨rfl, rfl, rfl, by decide +kernel, rfl, by decide +kernel, by decide +kernel⟩
abbrev S__law_cell_at : Stmt := top 40
abbrev N__law_cell_at : List Str := ["_law_script", "_law_k"]
theorem sc__law_cell_at : FnScope N__law_cell_at ["_law_script", "_law_k"] (defScope S__law_cell_at) := ⟨rfl, rfl, rfl, by decide +kernel, rfl, by decide +kernel, by decide +kernel⟩
abbrev S__law_near : Stmt := top 41
abbrev N__law_near : List Str := ["_law_size", "_law_ties", "_law_found", "_law_one", "_law_other", "_law_place", "_law_row"]
theorem sc__law_near : FnScope N__law_near ["_law_size", "_law_ties"] (defScope S__law_near) := ⟨rfl, rfl, rfl, by decide +kernel, rfl, by decide +kernel, by decide +kernel⟩
abbrev S__law_part : Stmt := top 42
abbrev N__law_part : List Str := ["_law_near_here", "_law_place", "_law_there", "_law_met", "_law_waiting", "_law_here", "_law_other"]
theorem sc__law_part : FnScope N__law_part ["_law_near_here", "_law_place", "_law_there"] (defScope S__law_part) := ⟨rfl, rfl, rfl, by decide +kernel, rfl, by decide +kernel, by decide +kernel⟩
abbrev S__law_parts : Stmt := top 43
abbrev N__law_parts : List Str := ["_law_size", "_law_ties", "_law_taken", "_law_near_here", "_law_place", "_law_there", "_law_found", "_law_met", "_law_other"]
theorem sc__law_parts : FnScope N__law_parts ["_law_size", "_law_ties", "_law_taken"] (defScope S__law_parts) := ⟨rfl, rfl, rfl, by decide +kernel, rfl, by decide +kernel, by decide +kernel⟩
abbrev S__law_fenced : Stmt := top 44
abbrev N__law_fenced : List Str := ["_law_size", "_law_ties", "_law_row", "_law_many", "_law_odd", "_law_part_here", "_law_place"]
theorem sc__law_fenced : FnScope N__law_fenced ["_law_size", "_law_ties", "_law_row", "_law_many"] (defScope S__law_fenced) := ⟨rfl, rfl, rfl, by decide +kernel, rfl, by decide +kernel, by decide +kernel⟩
abbrev S__law_alone : Stmt := top 45
abbrev N__law_alone : List Str := ["_law_size", "_law_ties", "_law_pairs", "_law_taken", "_law_last", "_law_pair", "_law_place"]
theorem sc__law_alone : FnScope N__law_alone ["_law_size", "_law_ties", "_law_pairs"] (defScope S__law_alone) := ⟨rfl, rfl, rfl, by decide +kernel, rfl, by decide +kernel, by decide +kernel⟩
abbrev S__law_told : Stmt := top 46
abbrev N__law_told : List Str := ["_law_kept", "_law_is_cut", "_law_one", "_law_other", "_law_error"]
theorem sc__law_told : FnScope N__law_told ["_law_kept", "_law_is_cut", "_law_one", "_law_other"] (defScope S__law_told) := ⟨rfl, rfl, rfl, by decide +kernel, rfl, by decide +kernel, by decide +kernel⟩
abbrev S__law_stands : Stmt := top 47
abbrev N__law_stands : List Str := ["_law_kept", "_law_size", "_law_ties", "_law_net", "_law_pairs", "_law_place", "_law_left", "_law_many", "_law_tie"]
theorem sc__law_stands : FnScope N__law_stands ["_law_kept", "_law_size", "_law_ties"] (defScope S__law_stands) := ⟨rfl, rfl, rfl, by decide +kernel, rfl, by decide +kernel, by decide +kernel⟩
abbrev S__law_due : Stmt := top 48
abbrev N__law_due : List Str := ["_law_size", "_law_ties", "_law_is_cut", "_law_one", "_law_other", "_law_place", "_law_tie"]
theorem sc__law_due : FnScope N__law_due ["_law_size", "_law_ties", "_law_is_cut", "_law_one", "_law_other"] (defScope S__law_due) := ⟨rfl, rfl, rfl, by decide +kernel, rfl, by decide +kernel, by decide +kernel⟩
abbrev S__law_done : Stmt := top 49
abbrev N__law_done : List Str := ["_law_kept", "_law_state", "_law_is_cut", "_law_one", "_law_other", "_law_row", "_law_held", "_law_net", "_law_ties"]
theorem sc__law_done : FnScope N__law_done ["_law_kept", "_law_state", "_law_is_cut", "_law_one", "_law_other"] (defScope S__law_done) := ⟨rfl, rfl, rfl, by decide +kernel, rfl, by decide +kernel, by decide +kernel⟩
abbrev S__law_goes : Stmt := top 50
abbrev N__law_goes : List Str := ["_law_kept", "_law_state", "_law_is_cut", "_law_one", "_law_other", "_law_due_here", "_law_told_here", "_law_tie", "_law_many"]
theorem sc__law_goes : FnScope N__law_goes ["_law_kept", "_law_state", "_law_is_cut", "_law_one", "_law_other"] (defScope S__law_goes) := ⟨rfl, rfl, rfl, by decide +kernel, rfl, by decide +kernel, by decide +kernel⟩
abbrev S__law_places : Stmt := top 51
abbrev N__law_places : List Str := ["_law_cell", "_law_more", "_law_size", "_law_one", "_law_other"]
theorem sc__law_places : FnScope N__law_places ["_law_cell", "_law_more", "_law_size"] (defScope S__law_places) := ⟨rfl, rfl, rfl, by decide +kernel, rfl, by decide +kernel, by decide +kernel⟩
abbrev S__law_no_size : Stmt := top 52
abbrev N__law_no_size : List Str := ["_law_size", "_law_error"]
theorem sc__law_no_size : FnScope N__law_no_size ["_law_size"] (defScope S__law_no_size) := ⟨rfl, rfl, rfl, by decide +kernel, rfl, by decide +kernel, by decide +kernel⟩
abbrev S_law : Stmt := top 53
abbrev N_law : List Str := ["_law_script", "_law_size", "_law_great", "_law_kept", "_law_states", "_law_early", "_law_place", "_law_at", "_law_who", "_law_one", "_law_other"]
theorem sc_law : FnScope N_law ["_law_script"] (defScope S_law) := ⟨rfl, rfl, rfl, by decide +kernel, rfl, by decide +kernel, by decide +kernel⟩

/-! ### kinds of values -/
inductive Ty | non | bool | int | str | list | tuple | dict
  deriving DecidableEq
def Ty.nm : Ty → String
  | .non => "NoneType" | .bool => "bool" | .int => "int" | .str => "str" | .list => "list" | .tuple => "tuple" | .dict => "dict"
inductive Kd (H : Hp) : V → Ty → Prop
  | non : Kd H .non .non
  | bl (b : Bool) : Kd H (.bl b) .bool
  | int (i : Int) : Kd H (.int i) .int
  | str (x : Str) : Kd H (.str x) .str
  | lst {a : Addr} {xs : List V} (e : H a = some (.lst xs)) : Kd H (.ref a) .list
  | tup {a : Addr} {xs : List V} (e : H a = some (.tup xs)) : Kd H (.ref a) .tuple
  | dct {a : Addr} {kvs : List (Key × V)} (e : H a = some (.dK kvs)) : Kd H (.ref a) .dict
theorem Kd.tyx {K : PySem.W.Frag} {H : Hp} {x : V} {t : Ty} (k : Kd H x t) : TyX K H x (.type t.nm) := by
  cases k with
  | non => exact .base .non
  | bl b => exact .base (.bl b)
  | int i => exact .base (.int i)
  | str x => exact .base (.str x)
  | lst e => exact .base (.lst e)
  | tup e => exact .base (.tup e)
  | dct e => exact .base (.dK e)
theorem Kd.ex {H H' : Hp} {x : V} {t : Ty} (k : Kd H x t) (e : Same H H') : Kd H' x t := by
  cases k with
  | non => exact .non
  | bl b => exact .bl b
  | int i => exact .int i
  | str x => exact .str x
  | lst h => exact .lst (e _ _ h)
  | tup h => exact .tup (e _ _ h)
  | dct h => exact .dct (e _ _ h)
theorem kit_int (t : Ty) : kitB t.nm "int" = some (t = .int || t = .bool) := by cases t <;> decide +kernel
theorem kit_bool (t : Ty) : kitB t.nm "bool" = some (decide (t = .bool)) := by cases t <;> decide +kernel
theorem kit_tuple (t : Ty) : kitB t.nm "tuple" = some (decide (t = .tuple)) := by cases t <;> decide +kernel
theorem kit_list (t : Ty) : kitB t.nm "list" = some (decide (t = .list)) := by cases t <;> decide +kernel
/-- isinstance(x, c), the reading -/
theorem isi {K : PySem.W.Frag} {H : Hp} {x : V} {t : Ty} {c : String} {b : Bool} {Q : VK} (k : Kd H x t) (h : kitB t.nm c = some b) (q : Q (.bl b) H) : rIsi K [x, .ty c] H Q :=
  ⟨x, .ty c, .type t.nm, .type c, b, rfl, ClsV.ty c, k.tyx, kit_ty h, q⟩

/-! ### what the top has left -/
/-- what a class of errors must have, to be raised -/
structure Er (K : PySem.W.Frag) (mg : Str → Option Value) (x : Str) (C : Addr) : Prop where
  c : mg x = some (.ref C)
  x : PySem.W.excIn K C [.type "ValueError", .type "Exception", .type "BaseException", .type "object"] "ValueError.__new__" = true
  p : PySem.W.keepIn K (.ref C) = true
  b : PySem.W.subIn K (.ref C) (.type "BaseException") = some true
  t : PySem.W.typeIn K (.ref C) = some (.type "type")
  m : PySem.W.exmOne K (.ref C) (.ref C) = some true
structure Cs where
  (NetError BadNet NoPlace BadPairs BadWay TieThere NoTie OddRing Net Kept : Addr)
/-- D is a class of errors right under NetError, and under no other name -/
structure Leaf (K : PySem.W.Frag) (c : Cs) (D : Addr) : Prop where
  x : ExcC K D
  v : PySem.W.kitOne K (.ref D) (.type "ValueError") = some true
  n : PySem.W.kitOne K (.ref D) (.ref c.NetError) = some true
  l : ∃ b0 b1 b2 b3 b4 b5 b6 : Bool, PySem.W.kitOne K (.ref D) (.ref c.BadNet) = some b0 ∧ PySem.W.kitOne K (.ref D) (.ref c.NoPlace) = some b1 ∧ PySem.W.kitOne K (.ref D) (.ref c.BadPairs) = some b2 ∧ PySem.W.kitOne K (.ref D) (.ref c.BadWay) = some b3 ∧ PySem.W.kitOne K (.ref D) (.ref c.TieThere) = some b4 ∧ PySem.W.kitOne K (.ref D) (.ref c.NoTie) = some b5 ∧ PySem.W.kitOne K (.ref D) (.ref c.OddRing) = some b6 ∧ [b0, b1, b2, b3, b4, b5, b6].count true = 1
structure Top (K : PySem.W.Frag) (mg : Str → Option Value) (c : Cs) : Prop where
  n_isinstance : mg "isinstance" = none
  n_int : mg "int" = none
  n_bool : mg "bool" = none
  n_tuple : mg "tuple" = none
  n_list : mg "list" = none
  n_str : mg "str" = none
  n_len : mg "len" = none
  n_set : mg "set" = none
  n_dict : mg "dict" = none
  n_sorted : mg "sorted" = none
  n_range : mg "range" = none
  n_enumerate : mg "enumerate" = none
  n_zip : mg "zip" = none
  n_all : mg "all" = none
  n_any : mg "any" = none
  n_min : mg "min" = none
  n_max : mg "max" = none
  n_ValueError : mg "ValueError" = none
  e_NetError : Er K mg "NetError" c.NetError
  e_BadNet : Er K mg "BadNet" c.BadNet
  e_NoPlace : Er K mg "NoPlace" c.NoPlace
  e_BadPairs : Er K mg "BadPairs" c.BadPairs
  e_BadWay : Er K mg "BadWay" c.BadWay
  e_TieThere : Er K mg "TieThere" c.TieThere
  e_NoTie : Er K mg "NoTie" c.NoTie
  e_OddRing : Er K mg "OddRing" c.OddRing
  c_Net : mg "Net" = some (.ref c.Net)
  cl_Net : Cls K c.Net
  a_Net_size : NoAttr K c.Net "size"
  a_Net__ties : NoAttr K c.Net "_ties"
  a_Net__near : NoAttr K c.Net "_near"
  c_Kept : mg "Kept" = some (.ref c.Kept)
  cl_Kept : Cls K c.Kept
  a_Kept__net : NoAttr K c.Kept "_net"
  a_Kept__pairs : NoAttr K c.Kept "_pairs"
  l_BadNet : Leaf K c c.BadNet
  l_NoPlace : Leaf K c c.NoPlace
  l_BadPairs : Leaf K c c.BadPairs
  l_BadWay : Leaf K c c.BadWay
  l_TieThere : Leaf K c c.TieThere
  l_NoTie : Leaf K c c.NoTie
  m_NoTie_NoPlace : PySem.W.exmOne K (.ref c.NoTie) (.ref c.NoPlace) = some false
  m_NoTie_TieThere : PySem.W.exmOne K (.ref c.NoTie) (.ref c.TieThere) = some false
  m_TieThere_NoPlace : PySem.W.exmOne K (.ref c.TieThere) (.ref c.NoPlace) = some false
  k_MOST_PLACES : ∃ t, mg "MOST_PLACES" = some (.int 40 t)
  d_is_number : Fd.Def K mg "is_number" S_is_number ["thing"]
  d_is_place : Fd.Def K mg "is_place" S_is_place ["thing", "size"]
  d_is_tie : Fd.Def K mg "is_tie" S_is_tie ["thing", "size"]
  d_rising_ties : Fd.Def K mg "rising_ties" S_rising_ties ["size", "ties"]
  d_neighbours : Fd.Def K mg "neighbours" S_neighbours ["size", "ties"]
  d_Net___init__ : Fd.IDef K c.Net "Net.__init__" S_Net___init__ ["self", "size", "ties"]
  d_Net_ties : Fd.MDef K c.Net "ties" "Net.ties" S_Net_ties ["self"]
  d_Net_beside : Fd.MDef K c.Net "beside" "Net.beside" S_Net_beside ["self", "place"]
  d_checked : Fd.Def K mg "checked" S_checked ["net", "pairs"]
  d_mates_in : Fd.Def K mg "mates_in" S_mates_in ["net", "pairs"]
  d_are_places : Fd.Def K mg "are_places" S_are_places ["net", "way"]
  d_is_way : Fd.Def K mg "is_way" S_is_way ["net", "mates", "way"]
  d_turned : Fd.Def K mg "turned" S_turned ["net", "pairs", "way"]
  d_roads_round : Fd.Def K mg "roads_round" S_roads_round ["roads", "one", "other"]
  d_roads_by : Fd.Def K mg "roads_by" S_roads_by ["roads", "mates", "here", "there"]
  d_way_from : Fd.Def K mg "way_from" S_way_from ["net", "mates", "root"]
  d_better : Fd.Def K mg "better" S_better ["net", "pairs"]
  d_most : Fd.Def K mg "most" S_most ["net"]
  d_tie_between : Fd.Def K mg "tie_between" S_tie_between ["size", "one", "other"]
  d_Kept___init__ : Fd.IDef K c.Kept "Kept.__init__" S_Kept___init__ ["self", "size"]
  d_Kept_put : Fd.MDef K c.Kept "put" "Kept.put" S_Kept_put ["self", "one", "other"]
  d_Kept_cut : Fd.MDef K c.Kept "cut" "Kept.cut" S_Kept_cut ["self", "one", "other"]
  d_Kept_net : Fd.MDef K c.Kept "net" "Kept.net" S_Kept_net ["self"]
  d_Kept_pairs : Fd.MDef K c.Kept "pairs" "Kept.pairs" S_Kept_pairs ["self"]
  d_Kept__turn_to : Fd.MDef K c.Kept "_turn_to" "Kept._turn_to" S_Kept__turn_to ["self", "ties", "pairs"]
  d_without : Fd.Def K mg "without" S_without ["rows", "place"]
  d_freed : Fd.Def K mg "freed" S_freed ["net", "pairs", "place"]
  d_is_beside_one : Fd.Def K mg "is_beside_one" S_is_beside_one ["net", "place", "marked"]
  d_fence : Fd.Def K mg "fence" S_fence ["net"]
  d__law_sole : Fd.Def K mg "_law_sole" S__law_sole ["_law_error"]
  d__law_whole : Fd.Def K mg "_law_whole" S__law_whole ["_law_found"]
  d__law_cell_at : Fd.Def K mg "_law_cell_at" S__law_cell_at ["_law_script", "_law_k"]
  d__law_near : Fd.Def K mg "_law_near" S__law_near ["_law_size", "_law_ties"]
  d__law_part : Fd.Def K mg "_law_part" S__law_part ["_law_near_here", "_law_place", "_law_there"]
  d__law_parts : Fd.Def K mg "_law_parts" S__law_parts ["_law_size", "_law_ties", "_law_taken"]
  d__law_fenced : Fd.Def K mg "_law_fenced" S__law_fenced ["_law_size", "_law_ties", "_law_row", "_law_many"]
  d__law_alone : Fd.Def K mg "_law_alone" S__law_alone ["_law_size", "_law_ties", "_law_pairs"]
  d__law_told : Fd.Def K mg "_law_told" S__law_told ["_law_kept", "_law_is_cut", "_law_one", "_law_other"]
  d__law_stands : Fd.Def K mg "_law_stands" S__law_stands ["_law_kept", "_law_size", "_law_ties"]
  d__law_due : Fd.Def K mg "_law_due" S__law_due ["_law_size", "_law_ties", "_law_is_cut", "_law_one", "_law_other"]
  d__law_done : Fd.Def K mg "_law_done" S__law_done ["_law_kept", "_law_state", "_law_is_cut", "_law_one", "_law_other"]
  d__law_goes : Fd.Def K mg "_law_goes" S__law_goes ["_law_kept", "_law_state", "_law_is_cut", "_law_one", "_law_other"]
  d__law_places : Fd.Def K mg "_law_places" S__law_places ["_law_cell", "_law_more", "_law_size"]
  d__law_no_size : Fd.Def K mg "_law_no_size" S__law_no_size ["_law_size"]
  d_law : Fd.Def K mg "law" S_law ["_law_script"]
section
variable {P : Program} {w : World} {K : PySem.W.Frag} {mg : Str → Option Value} {c : Cs} {base : Heap}
def isInt : V → Bool
  | .int _ => true
  | _ => false
theorem Kd.int_iff {H : Hp} {x : V} {t : Ty} (k : Kd H x t) : decide (t = .int) = isInt x := by cases k <;> rfl
def spNumber : Sp := fun vs H Q _ => ∃ x t, vs = [x] ∧ Kd H x t ∧ Q (.bl (isInt x)) H
theorem ok_is_number (T : Top K mg c) : Fd.Has P w K mg base CX0 1 "is_number" ["thing"] spNumber := by
  refine T.d_is_number.ok sc_is_number (fun vs H Q E h => ?_) (fun f cdv A outer s H vs Q E hr h => ?_)
  · obtain ⟨x, t, rfl, _⟩ := h; rfl
  · obtain ⟨x, t, rfl, k, q⟩ := h
    refine ⟨_, (pss_one (ps_ret (pe_and (pe_callB (r := rIsi K) call_isi (by rfl) T.n_isinstance boot_isinstance (pa_cons (pv 0) (pa_cons (pe_bltn (v := .ty "int") (by rfl) T.n_int boot_int rfl) pa_nil))) (pe_one (pe_not (pe_callB (r := rIsi K) call_isi (by rfl) T.n_isinstance boot_isinstance (pa_cons (pv 0) (pa_cons (pe_bltn (v := .ty "bool") (by rfl) T.n_bool boot_bool rfl) pa_nil)))))))), ?_⟩
    refine ⟨x, rfl, _, _, _, _, _, rfl, ClsV.ty _, k.tyx, kit_ty (kit_int t), _, rfl, ?_⟩
    have hv := k.int_iff
    by_cases c : (t = .int || t = .bool) = true
    · rw [if_pos c]
      refine ⟨x, rfl, _, _, _, _, _, rfl, ClsV.ty _, k.tyx, kit_ty (kit_bool t), _, rfl, ?_⟩
      show Q (.bl (!decide (t = .bool))) H
      have e : (!decide (t = .bool)) = isInt x := by
        rw [← hv]; revert c; cases t <;> simp
      rw [e]; exact q
    · rw [if_neg c]
      show Q (.bl false) H
      have e : false = isInt x := by
        rw [← hv]; revert c; cases t <;> simp
      rw [e]; exact q
def isPl (x : V) (n : Int) : Bool := match x with
  | .int i => decide (0 ≤ i ∧ i < n)
  | _ => false
def spPlace : Sp := fun vs H Q _ => ∃ x t n, vs = [x, .int n] ∧ Kd H x t ∧ Q (.bl (isPl x n)) H
theorem ok_is_place (T : Top K mg c) : Fd.Has P w K mg base CX0 2 "is_place" ["thing", "size"] spPlace := by
  have G_is_number : Fd.Has P w K mg base CX0 1 "is_number" ["thing"] spNumber := ok_is_number T
  refine T.d_is_place.ok sc_is_place (fun vs H Q E h => ?_) (fun f cdv A outer s H vs Q E hr h => ?_)
  · obtain ⟨x, t, n, rfl, _⟩ := h; rfl
  · obtain ⟨x, t, n, rfl, k, q⟩ := h
    have hr_is_number := hr
    refine ⟨_, (pss_one (ps_ret (pe_and (Fd.pe_f G_is_number hr_is_number (by rfl) (pa_cons (pv 0) pa_nil)) (pe_one (pe_chain op_le op_lt pe_int (pv 0) (pv 1)))))), ?_⟩
    refine ⟨x, rfl, x, t, rfl, k, _, rfl, ?_⟩
    cases x with
    | int i =>
      refine iteT ⟨_, rfl, 0, i, rfl, rfl, _, rfl, ?_⟩
      by_cases c : (0 : Int) ≤ i
      · rw [decide_eq_true c]
        refine iteT ⟨_, rfl, i, n, rfl, rfl, ?_⟩
        have e : isPl (.int i) n = decide (i < n) := by
          show decide (0 ≤ i ∧ i < n) = _
          by_cases d : i < n
          · rw [decide_eq_true d, decide_eq_true ⟨c, d⟩]
          · rw [decide_eq_false d, decide_eq_false fun z => d z.2]
        rw [e] at q; exact q
      · rw [decide_eq_false c]
        refine iteF ?_
        have e : isPl (.int i) n = false := decide_eq_false fun z => c z.1
        rw [e] at q; exact q
    | _ => exact iteF q

/-- the items of a tuple -/
def tupOf (H : Hp) : V → Option (List V)
  | .ref a => match H a with
    | some (.tup xs) => some xs
    | _ => none
  | _ => none
theorem tupOf_tup {H : Hp} {a : Addr} {xs : List V} (e : H a = some (.tup xs)) : tupOf H (.ref a) = some xs := by
  show (match H a with
    | some (.tup xs) => some xs
    | _ => none) = some xs
  rw [e]
theorem tupOf_no {H : Hp} {x : V} {t : Ty} (k : Kd H x t) (h : t ≠ .tuple) : tupOf H x = none := by
  cases k with
  | tup e => exact absurd rfl h
  | lst e => unfold tupOf; simp only [e]
  | dct e => unfold tupOf; simp only [e]
  | _ => rfl
/-- its kind, and the kinds of a tuple's items -/
structure Kt (H : Hp) (x : V) (t : Ty) : Prop where
  kd : Kd H x t
  its : ∀ xs, tupOf H x = some xs → ∀ y ∈ xs, ∃ u, Kd H y u
def ltV : V → V → Bool
  | .int i, .int j => decide (i < j)
  | _, _ => false
def tieOf (n : Int) : List V → Bool
  | [u, v] => isPl u n && (isPl v n && ltV u v)
  | _ => false
def isTie (H : Hp) (x : V) (n : Int) : Bool := match tupOf H x with
  | some xs => tieOf n xs
  | none => false
theorem tieOf_len {n : Int} {xs : List V} (h : xs.length ≠ 2) : tieOf n xs = false := by
  match xs, h with
  | [], _ => rfl
  | [_], _ => rfl
  | [_, _], h => exact absurd rfl h
  | _ :: _ :: _ :: _, _ => rfl
theorem isPl_int {x : V} {n : Int} (h : isPl x n = true) : ∃ i, x = .int i ∧ 0 ≤ i ∧ i < n := by
  cases x with
  | int i => exact ⟨i, rfl, of_decide_eq_true h⟩
  | _ => cases h
def spTie : Sp := fun vs H Q _ => ∃ x t n, vs = [x, .int n] ∧ Kt H x t ∧ Q (.bl (isTie H x n)) H
theorem ok_is_tie (T : Top K mg c) : Fd.Has P w K mg base CX0 3 "is_tie" ["thing", "size"] spTie := by
  have G_is_place : Fd.Has P w K mg base CX0 2 "is_place" ["thing", "size"] spPlace := ok_is_place T
  refine T.d_is_tie.ok sc_is_tie (fun vs H Q E h => ?_) (fun f cdv A outer s H vs Q E hr h => ?_)
  · obtain ⟨x, t, n, rfl, _⟩ := h; rfl
  · obtain ⟨x, t, n, rfl, k, q⟩ := h
    have hr_is_place := hr
    refine ⟨_, (pss_cons (ps_if (PW.pt (pw_or (pt_not (pt_val (pe_callB (r := rIsi K) call_isi (by rfl) T.n_isinstance boot_isinstance (pa_cons (pv 0) (pa_cons (pe_bltn (v := .ty "tuple") (by rfl) T.n_tuple boot_tuple rfl) pa_nil))))) (pw_or1 (pt_cmpR op_ne (pe_callB call_len_seq (by rfl) T.n_len boot_len (pa_cons (pv 0) pa_nil)) pe_int (nomark _)))))
      (pss_one (ps_ret pe_bl))
      pss_nil)
      (pss_cons (ps_asg (pv 0) (pg_tup rfl (pgs_cons (pg_name (i := 2) sc_is_tie.nd rfl (Or.inl rfl)) (pgs_cons (pg_name (i := 3) sc_is_tie.nd rfl (Or.inl rfl)) pgs_nil))))
      (pss_one (ps_ret (pe_and (Fd.pe_f G_is_place hr_is_place (by rfl) (pa_cons (pv 2) (pa_cons (pv 1) pa_nil))) (pe_and (Fd.pe_f G_is_place hr_is_place (by rfl) (pa_cons (pv 3) (pa_cons (pv 1) pa_nil))) (pe_one (pe_cmpR op_lt (pv 2) (pv 3) (nomark _))))))))), ?_⟩
    refine ⟨x, rfl, _, _, _, _, _, rfl, ClsV.ty _, k.kd.tyx, kit_ty (kit_tuple t), _, rfl, ?_⟩
    by_cases c : t = .tuple
    · subst c
      rw [decide_eq_true rfl]
      refine iteF ?_
      have kd := k.kd
      cases kd with
      | @tup a xs e =>
      have eT := tupOf_tup e
      refine ⟨_, rfl, a, xs, rfl, .inr (SqT.of e), rfl, _, rfl, ?_⟩
      by_cases d : xs.length = 2
      · obtain ⟨u, v, rfl⟩ : ∃ u v, xs = [u, v] := by
          match xs, d with
          | [u, v], _ => exact ⟨u, v, rfl⟩
        refine iteF ?_
        obtain ⟨tu, ku⟩ := k.its _ eT u (by simp)
        obtain ⟨tv, kv⟩ := k.its _ eT v (by simp)
        have qe : isTie H (.ref a) n = (isPl u n && (isPl v n && ltV u v)) := by unfold isTie; rw [eT]; rfl
        rw [qe] at q
        refine ⟨_, rfl, a, _, rfl, SqT.of e, rfl, _, _, rfl, _, _, rfl, rfl, _, rfl, _, rfl, u, tu, n, rfl, ku, _, rfl, ?_⟩
        cases hu : isPl u n with
        | false => rw [hu] at q; exact iteF q
        | true =>
          refine iteT ⟨_, rfl, _, rfl, v, tv, n, rfl, kv, _, rfl, ?_⟩
          rw [hu] at q
          cases hv : isPl v n with
          | false => rw [hv] at q; exact iteF q
          | true =>
            obtain ⟨i, rfl, _⟩ := isPl_int hu
            obtain ⟨j, rfl, _⟩ := isPl_int hv
            rw [hv] at q
            exact iteT ⟨_, rfl, _, rfl, i, j, rfl, rfl, q⟩
      · have e1 : decide (V.int (xs.length : Nat) = V.int 2) = false := decide_eq_false fun z => by
          injection z with z; omega
        rw [e1]
        refine iteT ?_
        have qe : isTie H (.ref a) n = false := by unfold isTie; rw [eT]; exact tieOf_len d
        rw [qe] at q
        exact q
    · rw [decide_eq_false c]
      refine iteT ?_
      have qe : isTie H x n = false := by unfold isTie; rw [tupOf_no k.kd c]
      rw [qe] at q
      exact q
end
end Od

namespace Od
open PySem PySem.Spec PyProof.Rows L2
/-! ### ties handed in -/
def listOf (H : Hp) : V → Option (List V)
  | .ref a => match H a with
    | some (.lst xs) => some xs
    | _ => none
  | _ => none
theorem listOf_lst {H : Hp} {a : Addr} {xs : List V} (e : H a = some (.lst xs)) : listOf H (.ref a) = some xs := by
  unfold listOf; simp only [e]
theorem Kd.list_of {H : Hp} {x : V} (k : Kd H x .list) : ∃ a xs, x = .ref a ∧ H a = some (.lst xs) := by
  cases k with
  | lst e => exact ⟨_, _, rfl, e⟩
theorem Kd.tup_of {H : Hp} {x : V} (k : Kd H x .tuple) : ∃ a xs, x = .ref a ∧ H a = some (.tup xs) := by
  cases k with
  | tup e => exact ⟨_, _, rfl, e⟩
theorem listOf_no {H : Hp} {x : V} {t : Ty} (k : Kd H x t) (h : t ≠ .list) : listOf H x = none := by
  cases k with
  | lst e => exact absurd rfl h
  | tup e => unfold listOf; simp only [e]
  | dct e => unfold listOf; simp only [e]
  | _ => rfl
theorem tupOf_ex {H H' : Hp} {x : V} {t : Ty} (k : Kd H x t) (e : Same H H') : tupOf H' x = tupOf H x := by
  cases k with
  | tup h => rw [tupOf_tup h, tupOf_tup (e _ _ h)]
  | lst h => rw [tupOf_no (.lst h) (by decide), tupOf_no (.lst (e _ _ h)) (by decide)]
  | dct h => rw [tupOf_no (.dct h) (by decide), tupOf_no (.dct (e _ _ h)) (by decide)]
  | _ => rfl
theorem Kt.ex {H H' : Hp} {x : V} {t : Ty} (k : Kt H x t) (e : Same H H') : Kt H' x t := by
  refine ⟨k.kd.ex e, fun xs h y hy => ?_⟩
  rw [tupOf_ex k.kd e] at h
  obtain ⟨u, q⟩ := k.its xs h y hy
  exact ⟨u, q.ex e⟩
theorem isTie_ex {H H' : Hp} {x : V} {t : Ty} {n : Int} (k : Kt H x t) (e : Same H H') : isTie H' x n = isTie H x n := by
  unfold isTie; rw [tupOf_ex k.kd e]
abbrev Pr := Int × Int
def plt (p q : Pr) : Prop := p.1 < q.1 ∨ (p.1 = q.1 ∧ p.2 < q.2)
def prl (p : Pr) : List Int := [p.1, p.2]
theorem prl_inj {p q : Pr} (h : prl p = prl q) : p = q := by
  obtain ⟨a, b⟩ := p; obtain ⟨c, d⟩ := q
  injection h with h1 h2; injection h2 with h2 _
  cases h1; cases h2; rfl
def prOf (H : Hp) (x : V) : Pr := match tupOf H x with
  | some [.int i, .int j] => (i, j)
  | _ => (0, 0)
/-- a pair that is a tie in a net of size n -/
def Tie (n : Int) (p : Pr) : Prop := 0 ≤ p.1 ∧ p.1 < p.2 ∧ p.2 < n
theorem isTie_iff {H : Hp} {x : V} {n : Int} (h : isTie H x n = true) : tupOf H x = some [.int (prOf H x).1, .int (prOf H x).2] ∧ Tie n (prOf H x) := by
  unfold isTie at h
  cases e : tupOf H x with
  | none => rw [e] at h; cases h
  | some xs =>
    rw [e] at h
    match xs, h with
    | [u, v], h =>
      have h' : (isPl u n && (isPl v n && ltV u v)) = true := h
      rw [Bool.and_eq_true, Bool.and_eq_true] at h'
      obtain ⟨h1, h2, h3⟩ := h'
      obtain ⟨i, rfl, a, b⟩ := isPl_int h1
      obtain ⟨j, rfl, c, d⟩ := isPl_int h2
      have f : prOf H x = (i, j) := by unfold prOf; rw [e]
      rw [f]
      exact ⟨rfl, a, of_decide_eq_true h3, d⟩
theorem isTie_of {H : Hp} {x : V} {n : Int} {i j : Int} (e : tupOf H x = some [.int i, .int j]) (h : Tie n (i, j)) : isTie H x n = true ∧ prOf H x = (i, j) := by
  obtain ⟨a, b, c⟩ := h
  simp only at a b c
  constructor
  · unfold isTie; rw [e]
    show (decide (0 ≤ i ∧ i < n) && (decide (0 ≤ j ∧ j < n) && decide (i < j))) = true
    rw [decide_eq_true ⟨a, by omega⟩, decide_eq_true ⟨by omega, c⟩, decide_eq_true b]; rfl
  · unfold prOf; rw [e]
structure Kl (H : Hp) (x : V) (t : Ty) : Prop where
  kd : Kd H x t
  its : ∀ xs, listOf H x = some xs → ∀ y ∈ xs, ∃ u, Kt H y u
structure OkTies (H : Hp) (n : Int) (xs : List V) : Prop where
  all : ∀ y ∈ xs, isTie H y n = true
  one : (xs.map (prOf H)).Nodup
/-- us are new tuples, the pairs ts -/
def NewPrs (H H' : Hp) (us : List V) (ts : List Pr) : Prop := Paired (fun u (p : Pr) => ∃ a, u = V.ref a ∧ H a = none ∧ H' a = some (.tup [.int p.1, .int p.2])) us ts
def spRising (C : Addr) : Sp := fun vs H Q E => ∃ n x t, vs = [.int n, x] ∧ n ≤ 40 ∧ Kl H x t ∧
  ((∃ xs, listOf H x = some xs ∧ OkTies H n xs ∧ ∀ (ts : List Pr) p us H', ts.Perm (xs.map (prOf H)) → ts.Pairwise plt → H p = none → Same H H' → H' p = some (.lst us) → NewPrs H H' us ts → Q (.ref p) H') ∨
  ((∀ xs, listOf H x = some xs → ¬ OkTies H n xs) ∧ ∀ H', Same H H' → E (.ref C) none H'))

/-- pairs below forty, each once, are fewer than a thousand -/
theorem few_ties {n : Int} (hn : n ≤ 40) {ps : List Pr} (h : ∀ p ∈ ps, Tie n p) (nd : ps.Nodup) : ps.length ≤ 800 := by
  let c1 : Pr → Nat := fun p => p.1.toNat * 40 + p.2.toNat
  let c2 : Pr → Nat := fun p => p.2.toNat * 40 + p.1.toNat
  have key := nat_nodup_len (ps.map c1 ++ ps.map c2) (List.range 1600) ?_ ?_
  · rw [List.length_append, List.length_map, List.length_map, List.length_range] at key
    omega
  · refine List.nodup_append.mpr ⟨List.pairwise_map.mpr (List.Pairwise.imp_of_mem (fun {p q} hp hq ne e => ?_) nd), List.pairwise_map.mpr (List.Pairwise.imp_of_mem (fun {p q} hp hq ne e => ?_) nd), fun x hx y hy e => ?_⟩
    · obtain ⟨a, b, c⟩ := h p hp
      obtain ⟨a', b', c'⟩ := h q hq
      have e' : p.1.toNat * 40 + p.2.toNat = q.1.toNat * 40 + q.2.toNat := e
      exact ne (Prod.ext (by omega) (by omega))
    · obtain ⟨a, b, c⟩ := h p hp
      obtain ⟨a', b', c'⟩ := h q hq
      have e' : p.2.toNat * 40 + p.1.toNat = q.2.toNat * 40 + q.1.toNat := e
      exact ne (Prod.ext (by omega) (by omega))
    · obtain ⟨p, hp, rfl⟩ := List.mem_map.mp hx
      obtain ⟨q, hq, rfl⟩ := List.mem_map.mp hy
      obtain ⟨a, b, c⟩ := h p hp
      obtain ⟨a', b', c'⟩ := h q hq
      have e' : p.1.toNat * 40 + p.2.toNat = q.2.toNat * 40 + q.1.toNat := e
      omega
  · intro x hx
    rw [List.mem_range]
    rcases List.mem_append.mp hx with z | z
    · obtain ⟨p, hp, rfl⟩ := List.mem_map.mp z
      obtain ⟨a, b, c⟩ := h p hp
      show p.1.toNat * 40 + p.2.toNat < 1600
      omega
    · obtain ⟨p, hp, rfl⟩ := List.mem_map.mp z
      obtain ⟨a, b, c⟩ := h p hp
      show p.2.toNat * 40 + p.1.toNat < 1600
      omega
theorem Same.new {H : Hp} {p : Addr} {o : HO} (h : H p = none) : Same H (upd H p o) := fun a u e => by
  rw [upd_ne (ne_of_none e h)]; exact e
theorem Same.mut {H H' : Hp} {p : Addr} {o : HO} (e : Same H H') (h : H p = none) : Same H (upd H' p o) := fun a u ha => by
  rw [upd_ne (ne_of_none ha h)]; exact e a u ha

section
variable {P : Program} {w : World} {K : PySem.W.Frag} {mg : Str → Option Value} {c : Cs} {base : Heap}
theorem ok_rising_ties (T : Top K mg c) : Fd.Has P w K mg base (L2N.CX P w) 4 "rising_ties" ["size", "ties"] (spRising c.BadNet) := by
  have G_is_tie : Fd.Has P w K mg base CX0 3 "is_tie" ["thing", "size"] spTie   := ok_is_tie T
  refine T.d_rising_ties.okN sc_rising_ties (fun vs H Q E h => ?_) (fun f cdv A outer s H vs Q E hr h => ?_)
  · obtain ⟨n, x, t, rfl, _⟩ := h; rfl
  · obtain ⟨n, x, t, rfl, hn, k, hres⟩ := h
    have hr_is_tie := hr
    refine ⟨_, (pss_cons (ps_if (pt_not (pt_val (pe_callB (r := rIsi K) call_isi (by rfl) T.n_isinstance boot_isinstance (pa_cons (pv 1) (pa_cons (pe_bltn (v := .ty "list") (by rfl) T.n_list boot_list rfl) pa_nil)))))
      (pss_one (L2N.ps_raise rfl (L2N.takes_of rfl rfl rfl rfl) (L2N.pmk_own PySem.F.excBase_ValueError T.e_BadNet.x T.e_BadNet.c T.e_BadNet.p (raises_own T.e_BadNet.b T.e_BadNet.t) (by rfl))))
      pss_nil)
      (pss_cons (ps_set (i := 2) sc_rising_ties.nd rfl (Or.inl rfl) (pe_callTy0 Bs.cr_new (by rfl) T.n_set boot_set))
      (pss_cons (ps_for (L2.passes_of rfl) rfl (pi_list (pv 1)) (pg_name (i := 3) sc_rising_ties.nd rfl (Or.inl rfl))
      (pss_cons (ps_if (pt_not (pt_val (Fd.pe_f G_is_tie hr_is_tie (by rfl) (pa_cons (pv 3) (pa_cons (pv 0) pa_nil)))))
        (pss_one (L2N.ps_raise rfl (L2N.takes_of rfl rfl rfl rfl) (L2N.pmk_own PySem.F.excBase_ValueError T.e_BadNet.x T.e_BadNet.c T.e_BadNet.p (raises_own T.e_BadNet.b T.e_BadNet.t) (by rfl))))
        pss_nil)
        (pss_cons (ps_asg (pv 3) (pg_tup rfl (pgs_cons (pg_name (i := 4) sc_rising_ties.nd rfl (Or.inl rfl)) (pgs_cons (pg_name (i := 5) sc_rising_ties.nd rfl (Or.inl rfl)) pgs_nil))))
        (pss_cons (ps_if (pt_cmpR (Bs.or_in hr.units) (pe_tup (pa_cons (pv 4) (pa_cons (pv 5) pa_nil))) (pv 2) (by rfl))
        (pss_one (L2N.ps_raise rfl (L2N.takes_of rfl rfl rfl rfl) (L2N.pmk_own PySem.F.excBase_ValueError T.e_BadNet.x T.e_BadNet.c T.e_BadNet.p (raises_own T.e_BadNet.b T.e_BadNet.t) (by rfl))))
        pss_nil)
        (pss_one (ps_expr (Bs.pe_add hr.units (pv 2) (pa_cons (pe_tup (pa_cons (pv 4) (pa_cons (pv 5) pa_nil))) pa_nil))))))))
      (pss_one (ps_ret (pe_callB (Bs.cr_sorted rfl) (by rfl) T.n_sorted boot_sorted (pa_cons (pv 2) pa_nil))))))), ?_⟩
    have bad : ∀ H', Same H H' → (∀ xs, listOf H x = some xs → ¬ OkTies H n xs) → E (.ref c.BadNet) none H' := fun H' s5 z => by
      rcases hres with ⟨xs, e, ok, _⟩ | ⟨_, q⟩
      · exact absurd ok (z xs e)
      · exact q H' s5
    refine ⟨x, rfl, _, _, _, _, _, rfl, ClsV.ty _, k.kd.tyx, kit_ty (kit_list t), _, rfl, ?_⟩
    by_cases ct : t = .list
    · subst ct
      rw [decide_eq_true rfl]
      refine iteF ?_
      obtain ⟨a, xs, rfl, ea⟩ := k.kd.list_of
      have eL := listOf_lst ea
      refine ⟨rfl, fun p hp => ?_⟩
      refine ⟨_, rfl, a, rfl, ⟨xs, SqL.of ((Same.new hp) _ _ ea)⟩, for_list (K := K) (a := a) (xs := xs) (fun i σ Hc => ∃ v3 v4 v5 L, σ = [some (.int n), some (.ref a), some (.ref p), v3, v4, v5] ∧ Same H Hc ∧ Hc p = some (Bs.SO P w p L) ∧ Bs.Tups K Hc L ∧ (∀ q ∈ L, H q.1 = none ∧ Hc q.1 = some (.tup (q.2.map V.int))) ∧
          (L.map (·.2)).Perm ((xs.take i).map fun y => prl (prOf H y)) ∧ OkTies H n (xs.take i))
        ⟨none, none, none, [], rfl, Same.new hp, upd_same, fun q z => (by cases z), fun q z => (by cases z), List.Perm.refl _, ⟨fun y z => (by cases z), List.nodup_nil⟩⟩ (fun i σ Hc _ ⟨_, _, _, _, _, s5, _⟩ => s5.seq (SqL.of ea)) ?_ ?_⟩
      · rintro i y σ Hc hi ⟨v3, v4, v5, L, rfl, s5, hp5, tp, fr, pm, ok⟩
        have hm : y ∈ xs := List.mem_of_getElem? hi
        obtain ⟨u, ky⟩ := k.its xs eL y hm
        have tk : xs.take (i + 1) = xs.take i ++ [y] := by rw [List.take_succ, hi]; rfl
        refine ⟨_, rfl, _, rfl, y, u, n, rfl, ky.ex s5, _, rfl, ?_⟩
        rw [isTie_ex ky s5]
        cases ht : isTie H y n with
        | false =>
          refine iteT ?_
          exact bad Hc s5 fun xs' e o => by
            rw [eL] at e; cases e
            rw [o.all y hm] at ht; cases ht
        | true =>
          refine iteF ?_
          obtain ⟨ey, hty⟩ := isTie_iff ht
          obtain ⟨b, bs, rfl, eb⟩ : ∃ b bs, y = .ref b ∧ H b = some (.tup bs) := by
            cases ky.kd with
            | @tup b bs e => exact ⟨b, bs, rfl, e⟩
            | lst e => rw [tupOf_no (.lst e) (by decide)] at ey; cases ey
            | dct e => rw [tupOf_no (.dct e) (by decide)] at ey; cases ey
            | _ => cases ey
          rw [tupOf_tup eb] at ey
          cases ey
          generalize hpr : prOf H (.ref b) = pr at eb hty
          refine ⟨_, rfl, b, _, rfl, SqT.of (s5 _ _ eb), rfl, _, _, rfl, _, _, rfl, rfl, ?_⟩
          refine ⟨_, rfl, _, rfl, (by show 2 ≤ sizeLine; decide), fun q hq => ?_⟩
          have npq : p ≠ q := ne_of_none hp5 hq
          have keep : ∀ {q' : Addr} {o : HO}, Hc q' = none → Bs.Tups K (upd Hc q' o) L := fun {q' o} hq' z hz => by
            have h1 := tp z hz
            obtain ⟨_, h2⟩ := fr z hz
            rcases h1 with (h1 | ⟨o', h1⟩) | h1
            · exact .inl (.inl (by rw [upd_ne (ne_of_none h1 hq')]; exact h1))
            · exact .inl (.inr ⟨o', by rw [upd_ne (ne_of_none h1 hq')]; exact h1⟩)
            · exact .inr h1
          refine ⟨_, rfl, q, prl pr, p, L, rfl, rfl, SqT.of upd_same, by rw [upd_ne npq]; exact hp5, keep hq, _, rfl, ?_⟩
          rw [Bool.false_xor]
          have inL : prl pr ∈ L.map (·.2) ↔ pr ∈ (xs.take i).map (prOf H) := by
            rw [pm.mem_iff]
            constructor
            · intro z
              obtain ⟨z1, h1, h2⟩ := List.mem_map.mp z
              exact List.mem_map.mpr ⟨z1, h1, prl_inj h2⟩
            · intro z
              obtain ⟨z1, h1, h2⟩ := List.mem_map.mp z
              exact List.mem_map.mpr ⟨z1, h1, congrArg prl h2⟩
          by_cases hin : prl pr ∈ L.map (·.2)
          · rw [decide_eq_true hin]
            refine iteT ?_
            refine bad _ (Same.trans s5 (Same.new hq)) fun xs' e o => ?_
            rw [eL] at e; cases e
            have h1 := inL.mp hin
            have h2 := o.one
            rw [← List.take_append_drop i xs, List.map_append] at h2
            have h3 := (List.nodup_append.mp h2).2.2 pr h1 pr (by
              have : (xs.drop i) = (.ref b) :: xs.drop (i + 1) := by
                have hl := (List.getElem?_eq_some_iff.mp hi)
                rw [List.drop_eq_getElem_cons hl.1, hl.2]
              rw [this, List.map_cons, hpr]
              exact List.mem_cons_self)
            exact h3 rfl
          · rw [decide_eq_false hin]
            refine iteF ?_
            have ok' : OkTies H n (xs.take (i + 1)) := by
              rw [tk]
              refine ⟨fun z hz => ?_, ?_⟩
              · rcases List.mem_append.mp hz with z1 | z1
                · exact ok.all z z1
                · rw [List.mem_singleton.mp z1]; exact ht
              · rw [List.map_append]
                refine List.nodup_append.mpr ⟨ok.one, List.pairwise_singleton _ _, fun a' ha' b' hb' e => ?_⟩
                rw [List.map_singleton, List.mem_singleton] at hb'
                rw [hb', hpr] at e
                rw [e] at ha'
                exact hin (inL.mpr ha')
            have pm' : ∀ (q2 : Addr), ((q2, prl pr) :: L).map (·.2) |>.Perm ((xs.take (i + 1)).map fun y => prl (prOf H y)) := fun q2 => by
              rw [tk, List.map_append, List.map_cons]
              refine List.Perm.trans (List.Perm.cons _ pm) ?_
              rw [List.map_singleton, hpr]
              exact (List.perm_append_singleton _ _).symm
            have len : L.length + 1 < 1200 := by
              have h1 := (pm' 0).length_eq
              rw [List.length_map, List.length_map, List.length_cons] at h1
              have h2 := few_ties hn (ps := (xs.take (i + 1)).map (prOf H)) (fun p hp => by
                obtain ⟨z, hz, rfl⟩ := List.mem_map.mp hp
                exact (isTie_iff (ok'.all z hz)).2) ok'.one
              rw [List.length_map] at h2
              omega
            refine ⟨_, rfl, ⟨p, L, rfl, by rw [upd_ne npq]; exact hp5⟩, ?_⟩
            refine ⟨_, rfl, _, rfl, (by show 2 ≤ sizeLine; decide), fun r hr' => ?_⟩
            have hrc : Hc r = none := by
              by_cases z : r = q
              · rw [z, upd_same] at hr'; cases hr'
              · rw [upd_ne z] at hr'; exact hr'
            have npr : p ≠ r := ne_of_none hp5 hrc
            have nqr : q ≠ r := fun z => by rw [← z, upd_same] at hr'; cases hr'
            have tp2 : Bs.Tups K (upd (upd Hc q (.tup [V.int pr.1, V.int pr.2])) r (.tup [V.int pr.1, V.int pr.2])) L := fun z hz => by
              have h1 := tp z hz
              rcases h1 with (h1 | ⟨o', h1⟩) | h1
              · exact .inl (.inl (by rw [upd_ne (ne_of_none h1 hrc), upd_ne (ne_of_none h1 hq)]; exact h1))
              · exact .inl (.inr ⟨o', by rw [upd_ne (ne_of_none h1 hrc), upd_ne (ne_of_none h1 hq)]; exact h1⟩)
              · exact .inr h1
            refine ⟨p, r, prl pr, L, rfl, rfl, by rw [upd_ne npr, upd_ne npq]; exact hp5, SqT.of upd_same, tp2, len, fun L' _ hL' => ?_⟩
            have pL := hL' hin
            refine ⟨_, _, _, L', rfl, Same.mut (Same.trans (Same.trans s5 (Same.new hq)) (Same.new hr')) hp, upd_same, fun z hz => ?_, fun z hz => ?_, (pL.map (·.2)).trans (pm' r), ok'⟩
            · rcases List.mem_cons.mp (pL.mem_iff.mp hz) with rfl | hz
              · exact SqT.of (by rw [upd_ne npr.symm]; exact upd_same)
              · have np : z.1 ≠ p := fun e => by
                  obtain ⟨_, h2⟩ := fr z hz
                  rw [e, hp5] at h2; cases h2
                rcases tp2 z hz with (h1 | ⟨o', h1⟩) | h1
                · exact .inl (.inl (by rw [upd_ne np]; exact h1))
                · exact .inl (.inr ⟨o', by rw [upd_ne np]; exact h1⟩)
                · exact .inr h1
            · rcases List.mem_cons.mp (pL.mem_iff.mp hz) with rfl | hz
              · exact ⟨s5.free hrc, by rw [upd_ne npr.symm]; exact upd_same⟩
              · obtain ⟨h0, h2⟩ := fr z hz
                have np : z.1 ≠ p := fun e => by rw [e, hp5] at h2; cases h2
                exact ⟨h0, by rw [upd_ne np, upd_ne (ne_of_none h2 hrc), upd_ne (ne_of_none h2 hq)]; exact h2⟩
      · rintro σ Hc ⟨v3, v4, v5, L, rfl, s5, hp5, tp, fr, pm, ok⟩
        rw [List.take_length] at pm ok
        rcases hres with ⟨xs', e, _, q⟩ | ⟨z, _⟩
        · rw [eL] at e; cases e
          have two : ∀ z ∈ L, ∃ pr : Pr, z.2 = prl pr := fun z hz => by
            obtain ⟨y, _, e⟩ := List.mem_map.mp (pm.mem_iff.mp (List.mem_map.mpr ⟨z, hz, rfl⟩))
            exact ⟨_, e.symm⟩
          refine ⟨_, rfl, p, L, rfl, hp5, tp, fun z hz => ?_, fun L' r pL nd pw hr' => ?_⟩
          · obtain ⟨pr, e⟩ := two z hz
            exact ⟨pr.1, pr.2, e⟩
          · have hrH : H r = none := s5.free hr'
            have two' : ∀ z ∈ L', z.2 = prl (z.2.headD 0, z.2.getD 1 0) := fun z hz => by
              obtain ⟨pr, e⟩ := two z (pL.mem_iff.mp hz)
              rw [e]; rfl
            refine q (L'.map fun z => (z.2.headD 0, z.2.getD 1 0)) r _ _ ?_ ?_ hrH (Same.trans s5 (Same.new hr')) upd_same ?_
            · -- the pairs are those
              have h1 : (L'.map (·.2)).Perm (xs.map fun y => prl (prOf H y)) := (pL.map (·.2)).trans pm
              have h2 := h1.map fun l : List Int => (l.headD 0, l.getD 1 0)
              rw [List.map_map, List.map_map] at h2
              exact h2
            · refine List.pairwise_map.mpr ?_
              have nd' : L'.Pairwise fun a b => a.2 ≠ b.2 := List.pairwise_map.mp nd
              refine List.Pairwise.imp_of_mem (fun {a b} ha hb hab => ?_) (pw.and nd')
              obtain ⟨h1, h2⟩ := hab
              have h3 : ¬ plt (b.2.headD 0, b.2.getD 1 0) (a.2.headD 0, a.2.getD 1 0) := SrtO.lexB_no.mp h1
              have h4 : (a.2.headD 0, a.2.getD 1 0) ≠ (b.2.headD 0, b.2.getD 1 0) := fun z => h2 (by rw [two' a ha, two' b hb, z])
              generalize (a.2.headD 0, a.2.getD 1 0) = u at h3 h4 ⊢
              generalize (b.2.headD 0, b.2.getD 1 0) = v at h3 h4 ⊢
              obtain ⟨u1, u2⟩ := u
              obtain ⟨v1, v2⟩ := v
              unfold plt at h3 ⊢
              simp only at h3 ⊢
              have h5 : ¬ (u1 = v1 ∧ u2 = v2) := fun z => h4 (by rw [z.1, z.2])
              omega
            · -- new tuples
              have key : ∀ M : List (Addr × List Int), (∀ z ∈ M, z ∈ L') → NewPrs H (upd Hc r (.lst (L'.map fun z => V.ref z.1))) (M.map fun z => V.ref z.1) (M.map fun z => (z.2.headD 0, z.2.getD 1 0)) := by
                intro M
                induction M with
                | nil => intro _; exact .nil
                | cons z M ih =>
                  intro hM
                  have hz := hM z List.mem_cons_self
                  have hzL := pL.mem_iff.mp hz
                  obtain ⟨h0, h2⟩ := fr z hzL
                  refine .cons ⟨z.1, rfl, h0, ?_⟩ (ih fun y hy => hM y (List.mem_cons_of_mem _ hy))
                  rw [upd_ne (ne_of_none h2 hr')]
                  rw [two' z hz] at h2
                  exact h2
              exact key L' fun z hz => hz
        · exact absurd ok (z xs eL)
    · rw [decide_eq_false ct]
      refine iteT ?_
      exact bad H (Same.refl H) fun xs e => by rw [listOf_no k.kd ct] at e; cases e
end
end Od

namespace Od
open PySem PySem.Spec PyProof.Rows L2
theorem tyes {σ : St} {H : Hp} {Q : Bool → Hp → Prop} (h : Q true H) : tYes σ H Q := h
/-! ### neighbours -/
def nbs (i : Int) (acc : List Int) (p : Pr) : List Int := if p.1 = i then acc ++ [p.2] else if p.2 = i then acc ++ [p.1] else acc
/-- the places beside i, in the order of the ties -/
def nbr (ts : List Pr) (i : Int) : List Int := ts.foldl (nbs i) []
theorem nbr_snoc (ts : List Pr) (p : Pr) (i : Int) : nbr (ts ++ [p]) i = nbs i (nbr ts i) p := by
  unfold nbr; rw [List.foldl_append]; rfl
theorem nbs_len (i : Int) (acc : List Int) (p : Pr) : (nbs i acc p).length ≤ acc.length + 1 := by
  unfold nbs
  by_cases a : p.1 = i
  · rw [if_pos a, List.length_append]; exact Nat.le_refl _
  · rw [if_neg a]
    by_cases b : p.2 = i
    · rw [if_pos b, List.length_append]; exact Nat.le_refl _
    · rw [if_neg b]; exact Nat.le_succ _
theorem nbr_len (i : Int) : ∀ (ts : List Pr) (acc : List Int), (ts.foldl (nbs i) acc).length ≤ acc.length + ts.length
  | [], acc => Nat.le_refl _
  | p :: ts, acc => by
    have h1 := nbr_len i ts (nbs i acc p)
    have h2 := nbs_len i acc p
    rw [List.foldl_cons, List.length_cons]
    omega
/-- us are tuples that stand, the pairs ts -/
def Prs (H : Hp) (us : List V) (ts : List Pr) : Prop := Paired (fun u (p : Pr) => ∃ a, u = V.ref a ∧ H a = some (.tup [.int p.1, .int p.2])) us ts
theorem Prs.ex {H H' : Hp} (e : Same H H') : ∀ {us : List V} {ts : List Pr}, Prs H us ts → Prs H' us ts
  | _, _, .nil => .nil
  | _, _, .cons ⟨a, h1, h2⟩ t => .cons ⟨a, h1, e _ _ h2⟩ (Prs.ex e t)
theorem NewPrs.prs {H H' : Hp} : ∀ {us : List V} {ts : List Pr}, NewPrs H H' us ts → Prs H' us ts
  | _, _, .nil => .nil
  | _, _, .cons ⟨a, h1, _, h2⟩ t => .cons ⟨a, h1, h2⟩ (NewPrs.prs t)
theorem Prs.get {H : Hp} : ∀ {us : List V} {ts : List Pr} {i : Nat} {u : V}, Prs H us ts → us[i]? = some u → ∃ p a, ts[i]? = some p ∧ u = .ref a ∧ H a = some (.tup [.int p.1, .int p.2])
  | _, _, _, _, .nil, e => by simp at e
  | _, _, 0, _, .cons ⟨a, h1, h2⟩ _, e => by
    simp at e; subst e; exact ⟨_, a, rfl, h1, h2⟩
  | _, _, i + 1, u, .cons _ t, e => by
    obtain ⟨p, a, h1, h2, h3⟩ := Prs.get (i := i) t (by simpa using e)
    exact ⟨p, a, by simpa using h1, h2, h3⟩
theorem Prs.len {H : Hp} {us : List V} {ts : List Pr} (h : Prs H us ts) : us.length = ts.length := Paired.length h
/-- at p a list of n lists of ints, all of them new -/
structure RowsAt (H H' : Hp) (p : Addr) (n : Nat) (f : Nat → List Int) (rs : List Addr) : Prop where
  len : rs.length = n
  nd : rs.Nodup
  at_ : H' p = some (.lst (rs.map V.ref))
  new : H p = none
  rnew : ∀ a ∈ rs, H a = none
  row : ∀ i a, rs[i]? = some a → H' a = some (.lst ((f i).map V.int))
theorem RowsAt.ne {H H' : Hp} {p : Addr} {n : Nat} {f : Nat → List Int} {rs : List Addr} (R : RowsAt H H' p n f rs) {a : Addr} (ha : a ∈ rs) : a ≠ p := by
  obtain ⟨i, hi, e⟩ := List.getElem_of_mem ha
  have h1 := R.row i a (by rw [List.getElem?_eq_getElem hi, e])
  intro z
  rw [z, R.at_] at h1
  have h2 := Option.some.inj h1
  injection h2 with h2
  cases rs with
  | nil => cases ha
  | cons b rs =>
    cases hf : f i with
    | nil => rw [hf] at h2; cases h2
    | cons c l => rw [hf] at h2; injection h2 with h3 _; cases h3
/-- one row is made longer -/
theorem RowsAt.set {H H' : Hp} {p : Addr} {n : Nat} {f : Nat → List Int} {rs : List Addr} (R : RowsAt H H' p n f rs) {i : Nat} {a : Addr} (ha : rs[i]? = some a) (x : Int) :
    RowsAt H (upd H' a (.lst ((f i).map V.int ++ [V.int x]))) p n (fun j => if j = i then f i ++ [x] else f j) rs := by
  have hm := List.mem_of_getElem? ha
  refine ⟨R.len, R.nd, by rw [upd_ne (R.ne hm).symm]; exact R.at_, R.new, R.rnew, fun j b hb => ?_⟩
  by_cases c : j = i
  · subst c
    rw [ha] at hb; cases hb
    rw [upd_same, if_pos rfl, List.map_append]; rfl
  · have nab : b ≠ a := fun z => by
      subst z
      have hi := (List.getElem?_eq_some_iff.mp ha)
      have hj := (List.getElem?_eq_some_iff.mp hb)
      have pw := List.pairwise_iff_getElem.mp R.nd
      rcases Nat.lt_trichotomy j i with z | z | z
      · exact pw j i hj.1 hi.1 z (by rw [hj.2, hi.2])
      · exact c z
      · exact pw i j hi.1 hj.1 z (by rw [hj.2, hi.2])
    rw [upd_ne nab, if_neg c]
    exact R.row j b hb
theorem RowsAt.keep {H H' H2 : Hp} {p : Addr} {n : Nat} {f : Nat → List Int} {rs : List Addr} (R : RowsAt H H' p n f rs) (e : Same H' H2) : RowsAt H H2 p n f rs :=
  ⟨R.len, R.nd, e _ _ R.at_, R.new, R.rnew, fun i a h => e _ _ (R.row i a h)⟩
def spNeighbours : Sp := fun vs H Q _ => ∃ (n : Nat) (l : Addr) (us : List V) (ts : List Pr), vs = [.int n, .ref l] ∧ n ≤ 40 ∧ H l = some (.lst us) ∧ Prs H us ts ∧ (∀ p ∈ ts, Tie n p) ∧ ts.length ≤ 1000 ∧
  ∀ p rs H', Same H H' → RowsAt H H' p n (fun i => nbr ts (i : Int)) rs → Q (.ref p) H'
section
variable {P : Program} {w : World} {K : PySem.W.Frag} {mg : Str → Option Value} {c : Cs} {base : Heap}
theorem ok_neighbours (T : Top K mg c) : Fd.Has P w K mg base CX0 1 "neighbours" ["size", "ties"] spNeighbours := by
  refine T.d_neighbours.ok sc_neighbours (fun vs H Q E h => ?_) (fun f cdv A outer s H vs Q E hr h => ?_)
  · obtain ⟨n, l, us, ts, rfl, _⟩ := h; rfl
  · obtain ⟨n, l, us, ts, rfl, hn, hl, hp, ht, hz, q⟩ := h
    refine ⟨_, (pss_cons (ps_setLc (i := 2) (own := [("_", 5)]) (g := gName 5) rfl sc_neighbours.nd rfl rfl (sw_true rfl rfl rfl (by decide +kernel)) (pi_range1 (by rfl) T.n_range (pa_cons (pv 0) pa_nil)) (blkOk_by (own := [("_", 5)]) (N := N_neighbours) (sc := defScope S_neighbours) (by decide +kernel)) (fun _ _ _ _ _ => pg_name (i := 5) sc_neighbours.nd rfl (Or.inl rfl)) (fun _ _ _ _ _ => pts_nil) (fun _ _ _ _ _ => (pe_lst pa_nil)))
      (pss_cons (ps_for PassesOwn.never rfl (pi_list (pv 1)) (pg_tup rfl (pgs_cons (pg_name (i := 3) sc_neighbours.nd rfl (Or.inl rfl)) (pgs_cons (pg_name (i := 4) sc_neighbours.nd rfl (Or.inl rfl)) pgs_nil)))
      (pss_cons (ps_expr (pe_bm PySem.F.plainAttrs_list PySem.F.slot_list_append PySem.F.type_list_append mt_append (pe_ix ix_list (pv 2) (pv 3) (fun _ _ => rfl)) (pa_cons (pv 4) pa_nil)))
        (pss_one (ps_expr (pe_bm PySem.F.plainAttrs_list PySem.F.slot_list_append PySem.F.type_list_append mt_append (pe_ix ix_list (pv 2) (pv 4) (fun _ _ => rfl)) (pa_cons (pv 3) pa_nil))))))
      (pss_one (ps_ret (pv 2))))), ?_⟩
    refine ⟨_, rfl, (n : Int), rfl, by omega, by omega, fun D hD => ?_⟩
    have e0 : ((n : Int)).toNat = n := by simp
    refine lc_range (lo := 0) (n := ((n : Int)).toNat) (fun i Hc => ∃ rs, Same H Hc ∧ RowsAt H Hc D i (fun _ => []) rs) ⟨[], Same.new hD, rfl, List.nodup_nil, upd_same, hD, fun a z => (by cases z), fun i a z => (by simp at z)⟩ ?_ ?_
    · rintro i Hc hi ⟨rs, s5, R⟩
      refine ⟨rfl, tyes (iteT ?_)⟩
      refine ⟨Nat.zero_le _, fun r hr' => ?_⟩
      have nDr : D ≠ r := ne_of_none R.at_ hr'
      refine ⟨_, by rw [upd_ne nDr]; exact R.at_, by rw [List.length_map, R.len, sizeLine_eq]; omega, rs ++ [r], Same.mut (Same.trans s5 (Same.new hr')) hD, by rw [List.length_append, R.len]; rfl, ?_, by rw [upd_same, List.map_append]; rfl, hD, fun a ha => ?_, fun j a ha => ?_⟩
      · refine List.nodup_append.mpr ⟨R.nd, List.pairwise_singleton _ _, fun a ha b hb z => ?_⟩
        rw [List.mem_singleton] at hb
        obtain ⟨j, hj, e⟩ := List.getElem_of_mem ha
        have h1 := R.row j a (by rw [List.getElem?_eq_getElem hj, e])
        rw [z, hb, hr'] at h1; cases h1
      · rcases List.mem_append.mp ha with z | z
        · exact R.rnew a z
        · rw [List.mem_singleton.mp z]; exact s5.free hr'
      · by_cases cj : j < rs.length
        · rw [List.getElem?_append_left cj] at ha
          have h1 := R.row j a ha
          rw [upd_ne (R.ne (List.mem_of_getElem? ha)), upd_ne (ne_of_none h1 hr')]
          exact h1
        · rw [List.getElem?_append_right (by omega)] at ha
          have : a = r := by
            cases hk : j - rs.length with
            | zero => rw [hk] at ha; simp at ha; exact ha.symm
            | succ k => rw [hk] at ha; simp at ha
          rw [this, upd_ne nDr.symm, upd_same]; rfl
    · rintro Hc ⟨rs, s5, R⟩
      rw [e0] at R
      refine ⟨_, rfl, l, rfl, ⟨us, SqL.of (s5 _ _ hl)⟩, for_list (K := K) (a := l) (xs := us) (fun i σ H' => ∃ v3 v4, σ = [some (.int n), some (.ref l), some (.ref D), v3, v4, none] ∧ Same H H' ∧ RowsAt H H' D n (fun j => nbr (ts.take i) (j : Int)) rs)
        ⟨none, none, rfl, s5, R⟩ (fun i σ H' _ ⟨_, _, _, s6, _⟩ => s6.seq (SqL.of hl)) ?_ ?_⟩
      · rintro i y σ H' hi ⟨v3, v4, rfl, s6, R6⟩
        obtain ⟨p, t, hti, rfl, htt⟩ := hp.get hi
        have hmem := List.mem_of_getElem? hti
        obtain ⟨b1, b2, b3⟩ := ht p hmem
        obtain ⟨p1, p2⟩ := p
        simp only at b1 b2 b3 htt
        obtain ⟨x1, rfl⟩ : ∃ x1 : Nat, p1 = (x1 : Int) := ⟨p1.toNat, by omega⟩
        obtain ⟨x2, rfl⟩ : ∃ x2 : Nat, p2 = (x2 : Int) := ⟨p2.toNat, by omega⟩
        have tk : ts.take (i + 1) = ts.take i ++ [((x1 : Int), (x2 : Int))] := by rw [List.take_succ, hti]; rfl
        obtain ⟨a1, ha1⟩ : ∃ a, rs[x1]? = some a := ⟨_, List.getElem?_eq_getElem (by rw [R6.len]; omega)⟩
        obtain ⟨a2, ha2⟩ : ∃ a, rs[x2]? = some a := ⟨_, List.getElem?_eq_getElem (by rw [R6.len]; omega)⟩
        have g1 : (rs.map V.ref)[x1]? = some (V.ref a1) := by rw [List.getElem?_map, ha1]; rfl
        have g2 : (rs.map V.ref)[x2]? = some (V.ref a2) := by rw [List.getElem?_map, ha2]; rfl
        have r1 := R6.row x1 a1 ha1
        have small : ∀ k (l' : List Pr), l'.length ≤ 1000 → ((nbr l' k).map V.int).length < sizeLine := fun k l' hl' => by
          have := nbr_len k l' []
          rw [List.length_map, sizeLine_eq]
          unfold nbr
          simp only [List.length_nil] at this
          omega
        have lt : (ts.take i).length ≤ 1000 := by rw [List.length_take]; omega
        refine ⟨t, _, rfl, SqT.of (s6 _ _ htt), rfl, _, _, rfl, _, _, rfl, rfl, ?_⟩
        refine ⟨_, rfl, _, rfl, D, _, _, _, rfl, rfl, SqL.of R6.at_, atI_nat g1, .inl ⟨rfl, _, SqL.of r1⟩, _, rfl, a1, _, _, rfl, rfl, r1, small _ _ lt, ?_⟩
        have R7 := R6.set ha1 (x2 : Int)
        have r2 := R7.row x2 a2 ha2
        have ne12 : x2 ≠ x1 := by omega
        simp only [if_neg ne12] at r2
        refine ⟨_, rfl, _, rfl, D, _, _, _, rfl, rfl, SqL.of R7.at_, atI_nat g2, .inl ⟨rfl, _, SqL.of r2⟩, _, rfl, a2, _, _, rfl, rfl, r2, small _ _ lt, ?_⟩
        have R8 := R7.set ha2 (x1 : Int)
        simp only [if_neg ne12] at R8
        have n1 := R6.rnew a1 (List.mem_of_getElem? ha1)
        have n2 := R6.rnew a2 (List.mem_of_getElem? ha2)
        refine ⟨_, _, rfl, Same.mut (Same.mut s6 n1) n2, ?_⟩
        have ef : (fun j : Nat => nbr (ts.take (i + 1)) (j : Int)) = (fun j : Nat => if j = x2 then nbr (ts.take i) (x2 : Int) ++ [(x1 : Int)] else if j = x1 then nbr (ts.take i) (x1 : Int) ++ [(x2 : Int)] else nbr (ts.take i) (j : Int)) := by
          funext j
          rw [tk, nbr_snoc]
          unfold nbs
          simp only
          by_cases c2 : j = x2
          · subst c2
            rw [if_neg (by omega), if_pos rfl, if_pos rfl]
          · rw [if_neg c2]
            by_cases c1 : j = x1
            · subst c1; rw [if_pos rfl, if_pos rfl]
            · rw [if_neg (by omega), if_neg (by omega), if_neg c1]
        rw [ef]
        exact R8
      · rintro σ H' ⟨v3, v4, rfl, s6, R6⟩
        rw [hp.len, List.take_length] at R6
        exact ⟨_, rfl, q D rs H' s6 R6⟩
end
end Od

namespace Od
open PySem PySem.Spec PyProof.Rows L2
/-! ### nets -/
theorem f1 : ¬ (("_ties" : Str) = "size") := by decide +kernel
theorem f2 : ¬ (("_near" : Str) = "size") := by decide +kernel
theorem f3 : ¬ (("_near" : Str) = "_ties") := by decide +kernel
theorem f1' : ¬ (("size" : Str) = "_ties") := by decide +kernel
theorem f2' : ¬ (("size" : Str) = "_near") := by decide +kernel
theorem f3' : ¬ (("_ties" : Str) = "_near") := by decide +kernel
abbrev nf1 (n : Int) : List (Str × V) := putF "size" (.int n) []
abbrev nf2 (n : Int) (lt : Addr) : List (Str × V) := putF "_ties" (.ref lt) (nf1 n)
def nf (n : Int) (lt ln : Addr) : List (Str × V) := putF "_near" (.ref ln) (nf2 n lt)
theorem nf1_len (n : Int) : (nf1 n).length < 1000 := by show 1 < 1000; decide
theorem nf2_len (n : Int) (lt : Addr) : (nf2 n lt).length < 1000 := by
  show (if ("size" : Str) = "_ties" then [(("size" : Str), V.ref lt)] else (("size" : Str), V.int n) :: putF "_ties" (V.ref lt) []).length < 1000
  rw [if_neg f1']; show 2 < 1000; decide
theorem nf2_ties (n : Int) (lt : Addr) : (nf2 n lt).lookup ("_ties" : Str) = some (.ref lt) := by rw [lookup_putF, if_pos rfl]
theorem nf_size (n : Int) (lt ln : Addr) : (nf n lt ln).lookup ("size" : Str) = some (.int n) := by
  unfold nf; rw [lookup_putF, if_neg f2', lookup_putF, if_neg f1', lookup_putF, if_pos rfl]
theorem nf_ties (n : Int) (lt ln : Addr) : (nf n lt ln).lookup ("_ties" : Str) = some (.ref lt) := by
  unfold nf; rw [lookup_putF, if_neg f3', lookup_putF, if_pos rfl]
theorem nf_near (n : Int) (lt ln : Addr) : (nf n lt ln).lookup ("_near" : Str) = some (.ref ln) := by
  unfold nf; rw [lookup_putF, if_pos rfl]
theorem nf_no (n : Int) (lt ln : Addr) {m : Str} (h1 : ¬ m = "size") (h2 : ¬ m = "_ties") (h3 : ¬ m = "_near") : (nf n lt ln).lookup m = none := by
  unfold nf; rw [lookup_putF, if_neg h3, lookup_putF, if_neg h2, lookup_putF, if_neg h1]; rfl
/-- a net stands at x -/
structure NetAt (C : Addr) (H : Hp) (x : Addr) (n : Nat) (ts : List Pr) : Prop where
  lo : 1 ≤ n
  hi : n ≤ 40
  tie : ∀ p ∈ ts, Tie n p
  up : ts.Pairwise plt
  at_ : ∃ (dx lt ln : Addr) (us : List V) (rs : List Addr), H x = some (.ins C dx (nf n lt ln)) ∧ H lt = some (.lst us) ∧ Prs H us ts ∧ H ln = some (.lst (rs.map V.ref)) ∧ rs.length = n ∧ ∀ (i : Nat) (a : Addr), rs[i]? = some a → H a = some (.lst ((nbr ts (i : Int)).map V.int))
theorem NetAt.ex {C : Addr} {H H' : Hp} {x : Addr} {n : Nat} {ts : List Pr} (N : NetAt C H x n ts) (e : Same H H') : NetAt C H' x n ts := by
  obtain ⟨dx, lt, ln, us, rs, h1, h2, h3, h4, h5, h6⟩ := N.at_
  exact ⟨N.lo, N.hi, N.tie, N.up, dx, lt, ln, us, rs, e _ _ h1, e _ _ h2, h3.ex e, e _ _ h4, h5, fun i a q => e _ _ (h6 i a q)⟩
theorem plt_irr (p : Pr) : ¬ plt p p := by unfold plt; omega
theorem plt_nodup {ts : List Pr} (h : ts.Pairwise plt) : ts.Nodup := by
  unfold List.Nodup
  exact h.imp fun {a b} h e => by subst e; exact plt_irr a h
theorem NetAt.few {C : Addr} {H : Hp} {x : Addr} {n : Nat} {ts : List Pr} (N : NetAt C H x n ts) : ts.length ≤ 800 :=
  few_ties (n := (n : Int)) (by have := N.hi; omega) N.tie (plt_nodup N.up)
/-- the new part -/
def newp (H0 H' : Hp) : Hp := fun b => if (H0 b).isSome then none else H' b
theorem newp_same {H0 H' : Hp} : Same (newp H0 H') H' := fun b o h => by
  unfold newp at h
  by_cases c : (H0 b).isSome
  · rw [if_pos c] at h; cases h
  · rw [if_neg c] at h; exact h
theorem newp_at {H0 H' : Hp} {b : Addr} {o : HO} (h0 : H0 b = none) (h : H' b = some o) : newp H0 H' b = some o := by
  unfold newp; rw [h0]; exact h
theorem newp_old {H0 H' : Hp} {b : Addr} {o : HO} (h : H0 b = some o) : newp H0 H' b = none := by
  unfold newp; rw [h]; rfl

theorem NewPrs.newp {H H' : Hp} : ∀ {us : List V} {ts : List Pr}, NewPrs H H' us ts → Prs (newp H H') us ts
  | _, _, .nil => .nil
  | _, _, .cons ⟨a, h1, h0, h2⟩ t => .cons ⟨a, h1, newp_at h0 h2⟩ (NewPrs.newp t)
theorem NewPrs.to {H H' H0 H2 : Hp} (e : Same H0 H) (k : ∀ a o, H a = none → H' a = some o → H2 a = some o) : ∀ {us : List V} {ts : List Pr}, NewPrs H H' us ts → NewPrs H0 H2 us ts
  | _, _, .nil => .nil
  | _, _, .cons ⟨a, h1, h0, h2⟩ t => .cons ⟨a, h1, e.free h0, k a _ h0 h2⟩ (NewPrs.to e k t)
theorem listOf_ex {H H' : Hp} {x : V} {t : Ty} (k : Kd H x t) (e : Same H H') : listOf H' x = listOf H x := by
  cases k with
  | lst h => rw [listOf_lst h, listOf_lst (e _ _ h)]
  | tup h => rw [listOf_no (.tup h) (by decide), listOf_no (.tup (e _ _ h)) (by decide)]
  | dct h => rw [listOf_no (.dct h) (by decide), listOf_no (.dct (e _ _ h)) (by decide)]
  | _ => rfl
theorem prOf_ex {H H' : Hp} {x : V} {t : Ty} (k : Kd H x t) (e : Same H H') : prOf H' x = prOf H x := by
  unfold prOf; rw [tupOf_ex k e]
theorem Kl.ex {H H' : Hp} {x : V} {t : Ty} (k : Kl H x t) (e : Same H H') : Kl H' x t := by
  refine ⟨k.kd.ex e, fun xs h y hy => ?_⟩
  rw [listOf_ex k.kd e] at h
  obtain ⟨u, q⟩ := k.its xs h y hy
  exact ⟨u, q.ex e⟩
theorem prs_ex {H H' : Hp} {xs : List V} (k : ∀ y ∈ xs, ∃ u, Kt H y u) (e : Same H H') : xs.map (prOf H') = xs.map (prOf H) :=
  List.map_congr_left fun y hy => by
    obtain ⟨u, q⟩ := k y hy
    exact prOf_ex q.kd e
theorem okTies_ex {H H' : Hp} {n : Int} {xs : List V} (k : ∀ y ∈ xs, ∃ u, Kt H y u) (e : Same H H') : OkTies H' n xs ↔ OkTies H n xs := by
  constructor
  · intro o
    refine ⟨fun y hy => ?_, by rw [← prs_ex k e]; exact o.one⟩
    obtain ⟨u, q⟩ := k y hy
    rw [← isTie_ex q e]; exact o.all y hy
  · intro o
    refine ⟨fun y hy => ?_, by rw [prs_ex k e]; exact o.one⟩
    obtain ⟨u, q⟩ := k y hy
    rw [isTie_ex q e]; exact o.all y hy
/-- a size and ties that make a net -/
def Good (H : Hp) (sz ties : V) (n : Nat) (ps : List Pr) : Prop := sz = .int n ∧ 1 ≤ n ∧ n ≤ 40 ∧ ∃ xs, listOf H ties = some xs ∧ OkTies H n xs ∧ ps = xs.map (prOf H)
def spInit (C B : Addr) : Sp := fun vs H Q E => ∃ (H0 : Hp) (x dx : Addr) (sz ties : V) (tz t : Ty), vs = [.ref x, sz, ties] ∧ Same H0 H ∧ H0 x = none ∧ H x = some (.ins C dx []) ∧ Kd H0 sz tz ∧ Kl H0 ties t ∧
  ((∃ n ps, Good H0 sz ties n ps ∧ ∀ ts H', ts.Perm ps → Same H0 H' → NetAt C (newp H0 H') x n ts → Q .non H') ∨ ((∀ n ps, ¬ Good H0 sz ties n ps) ∧ ∀ H', Same H0 H' → E (.ref B) none H'))
section
variable {P : Program} {w : World} {K : PySem.W.Frag} {mg : Str → Option Value} {c : Cs} {base : Heap}
theorem ok_init (T : Top K mg c) : Fd.IHas P w K mg base (L2N.CX P w) 6 c.Net ["self", "size", "ties"] (spInit c.Net c.BadNet) := by
  have G_is_number : Fd.Has P w K mg base CX0 1 "is_number" ["thing"] spNumber := ok_is_number T
  have G_rising_ties : Fd.Has P w K mg base (L2N.CX P w) 4 "rising_ties" ["size", "ties"] (spRising c.BadNet) := ok_rising_ties T
  have G_neighbours : Fd.Has P w K mg base CX0 1 "neighbours" ["size", "ties"] spNeighbours := ok_neighbours T
  obtain ⟨tk40, hk_MOST_PLACES⟩ := T.k_MOST_PLACES
  refine T.d_Net___init__.okN sc_Net___init__ (fun vs H Q E h => ?_) (fun f cdv A outer s H vs Q E hr h => ?_)
  · obtain ⟨H0, x, dx, sz, ties, tz, t, rfl, _⟩ := h; rfl
  · obtain ⟨H0, x, dx, sz, ties, tz, t, rfl, s0, x0, hx, kz, kt, hres⟩ := h
    have hr_is_number := hr.mono (show 1 ≤ 5 by decide)
    have hr_neighbours := hr.mono (show 1 ≤ 5 by decide)
    have hr_rising_ties := hr.mono (show 4 ≤ 5 by decide)
    refine ⟨_, (pss_cons (ps_if (PW.pt (pw_or (pt_not (pt_val (Fd.pe_f G_is_number hr_is_number (by rfl) (pa_cons (pv 1) pa_nil)))) (pw_or1 (pt_not (pt_chain op_le op_le pe_int (pv 1) (pe_glob (v := .int 40) (by rfl) hk_MOST_PLACES ⟨_, rfl⟩))))))
      (pss_one (L2N.ps_raise rfl (L2N.takes_of rfl rfl rfl rfl) (L2N.pmk_own PySem.F.excBase_ValueError T.e_BadNet.x T.e_BadNet.c T.e_BadNet.p (raises_own T.e_BadNet.b T.e_BadNet.t) (by rfl))))
      pss_nil)
      (pss_cons (ps_fld (pv 0) (pv 1) rfl)
      (pss_cons (ps_fld (pv 0) (Fd.pe_fN G_rising_ties hr_rising_ties (by rfl) (L2N.passes_call (L2N.takes_of rfl rfl rfl rfl) fun _ _ _ _ h => h) (pa_cons (pv 1) (pa_cons (pv 2) pa_nil))) rfl)
      (pss_one (ps_fld (pv 0) (Fd.pe_f G_neighbours hr_neighbours (by rfl) (pa_cons (pv 1) (pa_cons (pe_fld (pv 0) rfl) pa_nil))) rfl))))), ?_⟩
    have bad : ∀ H', Same H0 H' → (∀ n ps, ¬ Good H0 sz ties n ps) → E (.ref c.BadNet) none H' := fun H' s5 z => by
      rcases hres with ⟨n, ps, g, _⟩ | ⟨_, q⟩
      · exact absurd g (z n ps)
      · exact q H' s5
    refine ⟨sz, rfl, sz, tz, rfl, kz.ex s0, _, rfl, ?_⟩
    by_cases ci : ∃ i, sz = .int i
    · obtain ⟨i, rfl⟩ := ci
      refine iteF ⟨_, rfl, 1, i, rfl, rfl, _, rfl, ?_⟩
      by_cases c1 : (1 : Int) ≤ i
      · rw [decide_eq_true c1]
        refine iteT ⟨i, 40, rfl, rfl, _, rfl, ?_⟩
        by_cases c2 : i ≤ 40
        · rw [decide_eq_true c2]
          refine iteF ?_
          obtain ⟨n, rfl⟩ : ∃ n : Nat, i = (n : Int) := ⟨i.toNat, by omega⟩
          have s1 : Same H0 (upd H x (.ins c.Net dx (putF "size" (.int (n : Int)) []))) := Same.mut s0 x0
          refine ⟨_, rfl, _, rfl, x, c.Net, dx, [], rfl, hx, T.cl_Net, T.a_Net_size, (by show 0 < 1000; decide), ?_⟩
          refine ⟨_, rfl, _, rfl, (n : Int), ties, t, rfl, c2, kt.ex s1, ?_⟩
          have ek := fun (xs : List V) (e : listOf H0 ties = some xs) => okTies_ex (n := (n : Int)) (kt.its xs e) s1
          have el : listOf (upd H x (.ins c.Net dx (putF "size" (.int (n : Int)) []))) ties = listOf H0 ties := listOf_ex kt.kd s1
          by_cases cg : ∃ xs, listOf H0 ties = some xs ∧ OkTies H0 n xs
          · obtain ⟨xs, e, ok⟩ := cg
            refine .inl ⟨xs, by rw [el]; exact e, (ek xs e).mpr ok, fun ts lt us H2 pm up hl0 s2 hlt np => ?_⟩
            rw [prs_ex (kt.its xs e) s1] at pm
            have hxlt : x ≠ lt := fun z => by rw [← z, upd_same] at hl0; cases hl0
            have hx2 := s2 x _ upd_same
            have tie : ∀ p ∈ ts, Tie n p := fun p hp => by
              obtain ⟨y, hy, rfl⟩ := List.mem_map.mp (pm.mem_iff.mp hp)
              exact (isTie_iff (ok.all y hy)).2
            have few : ts.length ≤ 800 := few_ties (n := (n : Int)) c2 tie (plt_nodup up)
            refine ⟨_, rfl, x, c.Net, dx, _, rfl, hx2, T.cl_Net, T.a_Net__ties, nf1_len _, ?_⟩
            have s3 : Same (newp (upd H x (.ins c.Net dx (putF "size" (.int (n : Int)) []))) H2) (upd H2 x (.ins c.Net dx (nf2 n lt))) := Same.mut newp_same (newp_old upd_same)
            have hus := np.newp.ex s3
            refine ⟨_, rfl, ⟨_, rfl, x, c.Net, dx, _, _, rfl, upd_same, T.cl_Net, T.a_Net__ties, nf2_ties _ _, n, lt, us, ts, rfl, by omega, by rw [upd_ne hxlt.symm]; exact hlt, hus, tie, by omega, fun p rs H4 s4 R => ?_⟩⟩
            have hx4 := s4 x _ upd_same
            refine ⟨_, rfl, x, c.Net, dx, _, rfl, hx4, T.cl_Net, T.a_Net__near, nf2_len _ _, ?_⟩
            have s03 : Same H0 (upd H2 x (.ins c.Net dx (nf2 n lt))) := Same.mut (Same.trans s1 s2) x0
            have s05 : Same H0 (upd H4 x (.ins c.Net dx (nf n lt p))) := Same.mut (Same.trans s03 s4) x0
            have far : ∀ {b : Addr} {o : HO}, b ≠ x → H2 b = some o → (upd H4 x (.ins c.Net dx (nf n lt p))) b = some o := fun {b o} hb e => by
              rw [upd_ne hb]
              exact s4 b o (by rw [upd_ne hb]; exact e)
            rcases hres with ⟨n', ps, g, q⟩ | ⟨z, _⟩
            · obtain ⟨e1, _, _, xs', e2, _, rfl⟩ := g
              injection e1 with e1
              obtain rfl : n = n' := by omega
              rw [e] at e2; cases e2
              have px : p ≠ x := fun z => by
                have h1 := R.new
                rw [z, upd_same] at h1; cases h1
              refine q ts _ pm s05 ⟨by omega, by omega, tie, up, dx, lt, p, us, rs, newp_at x0 upd_same, newp_at (s1.free hl0) (far hxlt.symm hlt), ?_, newp_at (s03.free R.new) (by rw [upd_ne px]; exact R.at_), R.len, fun i a hi => ?_⟩
              · exact (np.to (H0 := H0) (H2 := upd H4 x (.ins c.Net dx (nf n lt p))) s1 fun a o h0 h2 => far (fun z => by rw [z, upd_same] at h0; cases h0) h2).newp
              · have hn := R.rnew a (List.mem_of_getElem? hi)
                have ax : a ≠ x := fun z => by rw [z, upd_same] at hn; cases hn
                exact newp_at (s03.free hn) (by rw [upd_ne ax]; exact R.row i a hi)
            · exact absurd ⟨rfl, by omega, by omega, xs, e, ok, rfl⟩ (z n _)
          · refine .inr ⟨fun xs e o => cg ?_, fun H' s2 => bad H' (Same.trans s1 s2) fun n' ps g => ?_⟩
            · rw [el] at e
              exact ⟨xs, e, (ek xs e).mp o⟩
            · obtain ⟨e, _, _, xs, e1, o, _⟩ := g
              injection e with e
              obtain rfl : n = n' := by omega
              exact cg ⟨xs, e1, o⟩
        · rw [decide_eq_false c2]
          refine iteT ?_
          exact bad H s0 fun n ps g => by
            obtain ⟨e, _, g2, _⟩ := g
            injection e with e; omega
      · rw [decide_eq_false c1]
        refine iteF ⟨_, rfl, ?_⟩
        refine iteT ?_
        exact bad H s0 fun n ps g => by
          obtain ⟨e, g1, _, _⟩ := g
          injection e with e; omega
    · have e : isInt sz = false := by
        cases sz with
        | int i => exact absurd ⟨i, rfl⟩ ci
        | _ => rfl
      rw [e]
      refine iteT ?_
      exact bad H s0 fun n ps g => ci ⟨n, g.1⟩
end
end Od

namespace Od
open PySem PySem.Spec PyProof.Rows L2
theorem len40 {n : Nat} (h : n ≤ 1000) : n ≤ sizeLine := Nat.le_of_lt (small1000 h)
def spTies (C : Addr) : Sp := fun vs H Q _ => ∃ (x : Addr) (n : Nat) (ts : List Pr), vs = [.ref x] ∧ NetAt C H x n ts ∧ ∀ p us, H p = none → Prs H us ts → Q (.ref p) (upd H p (.lst us))
def spBeside (C B : Addr) : Sp := fun vs H Q E => ∃ (x : Addr) (n : Nat) (ts : List Pr) (y : V) (t : Ty), vs = [.ref x, y] ∧ NetAt C H x n ts ∧ Kd H y t ∧
  (∀ i : Nat, y = .int i → i < n → ∀ p, H p = none → Q (.ref p) (upd H p (.lst ((nbr ts (i : Int)).map V.int)))) ∧ (isPl y n = false → E (.ref B) none H)
section
variable {P : Program} {w : World} {K : PySem.W.Frag} {mg : Str → Option Value} {c : Cs} {base : Heap}
theorem ok_ties (T : Top K mg c) : Fd.MHas P w K mg base CX0 1 c.Net "ties" ["self"] (spTies c.Net) := by
  refine T.d_Net_ties.ok sc_Net_ties (fun vs H Q E h => ?_) (fun f cdv A outer s H vs Q E hr h => ?_)
  · obtain ⟨x, n, ts, rfl, _⟩ := h; rfl
  · obtain ⟨x, n, ts, rfl, N, q⟩ := h
    obtain ⟨dx, lt, ln, us, rs, h1, h2, h3, h4, h5, h6⟩ := N.at_
    refine ⟨_, (pss_one (ps_ret (pe_callTy call_list_of (by rfl) T.n_list boot_list (pa_cons (pe_fld (pv 0) rfl) pa_nil)))), ?_⟩
    exact ⟨_, rfl, x, c.Net, dx, _, _, rfl, h1, T.cl_Net, T.a_Net__ties, nf_ties _ _ _, lt, us, rfl, .inl (SqL.of h2), fun p hp => q p us hp h3⟩
theorem ok_beside (T : Top K mg c) : Fd.MHas P w K mg base (L2N.CX P w) 3 c.Net "beside" ["self", "place"] (spBeside c.Net c.NoPlace) := by
  have G_is_place : Fd.Has P w K mg base CX0 2 "is_place" ["thing", "size"] spPlace := ok_is_place T
  refine T.d_Net_beside.okN sc_Net_beside (fun vs H Q E h => ?_) (fun f cdv A outer s H vs Q E hr h => ?_)
  · obtain ⟨x, n, ts, y, t, rfl, _⟩ := h; rfl
  · obtain ⟨x, n, ts, y, t, rfl, N, ky, q1, q2⟩ := h
    obtain ⟨dx, lt, ln, us, rs, h1, h2, h3, h4, h5, h6⟩ := N.at_
    have hr_is_place := hr
    refine ⟨_, (pss_cons (ps_if (pt_not (pt_val (Fd.pe_f G_is_place hr_is_place (by rfl) (pa_cons (pv 1) (pa_cons (pe_fld (pv 0) rfl) pa_nil)))))
      (pss_one (L2N.ps_raise rfl (L2N.takes_of rfl rfl rfl rfl) (L2N.pmk_own PySem.F.excBase_ValueError T.e_NoPlace.x T.e_NoPlace.c T.e_NoPlace.p (raises_own T.e_NoPlace.b T.e_NoPlace.t) (by rfl))))
      pss_nil)
      (pss_one (ps_ret (pe_callTy call_list_of (by rfl) T.n_list boot_list (pa_cons (pe_ix ix_list (pe_fld (pv 0) rfl) (pv 1) (fun _ _ => rfl)) pa_nil))))), ?_⟩
    refine ⟨_, rfl, _, rfl, x, c.Net, dx, _, _, rfl, h1, T.cl_Net, T.a_Net_size, nf_size _ _ _, y, t, (n : Int), rfl, ky, _, rfl, ?_⟩
    cases hp : isPl y n with
    | false => exact iteT (q2 hp)
    | true =>
      refine iteF ?_
      obtain ⟨i, rfl, a, b⟩ := isPl_int hp
      obtain ⟨j, rfl⟩ : ∃ j : Nat, i = (j : Int) := ⟨i.toNat, by omega⟩
      obtain ⟨r, hri⟩ : ∃ r, rs[j]? = some r := ⟨_, List.getElem?_eq_getElem (by rw [h5]; omega)⟩
      have g : (rs.map V.ref)[j]? = some (V.ref r) := by rw [List.getElem?_map, hri]; rfl
      exact ⟨_, rfl, x, c.Net, dx, _, _, rfl, h1, T.cl_Net, T.a_Net__near, nf_near _ _ _, _, rfl, ln, _, _, _, rfl, rfl, SqL.of h4, atI_nat g, r, _, rfl, .inl (SqL.of (h6 j r hri)), fun p hp' => q1 j rfl (by omega) p hp'⟩
end

/-! ### the law's own words -/
/-- a cell of the script -/
def cell (ns : List Int) (k : Int) : Int := ns.getD k.toNat 0
def spCell (K : PySem.W.Frag) : Sp := fun vs H Q _ => ∃ (a : Addr) (ns : List Int) (k : Int), vs = [.ref a, .int k] ∧ SqL K H a (ns.map V.int) ∧ 0 ≤ k ∧ Q (.int (cell ns k)) H
section
variable {P : Program} {w : World} {K : PySem.W.Frag} {mg : Str → Option Value} {c : Cs} {base : Heap}
theorem ok_cell (T : Top K mg c) : Fd.Has P w K mg base CX0 1 "_law_cell_at" ["_law_script", "_law_k"] (spCell K) := by
  refine T.d__law_cell_at.ok sc__law_cell_at (fun vs H Q E h => ?_) (fun f cdv A outer s H vs Q E hr h => ?_)
  · obtain ⟨a, ns, k, rfl, _⟩ := h; rfl
  · obtain ⟨a, ns, k, rfl, hs, h0, q⟩ := h
    refine ⟨_, (pss_cons (ps_if (pt_cmpR op_lt (pv 1) (pe_callB call_len_seq (by rfl) T.n_len boot_len (pa_cons (pv 0) pa_nil)) (nomark _))
      (pss_one (ps_ret (pe_ix ix_list (pv 0) (pv 1) (fun _ _ => rfl))))
      pss_nil)
      (pss_one (ps_ret pe_int))), ?_⟩
    refine ⟨_, rfl, _, rfl, a, _, rfl, .inl hs, k, _, rfl, rfl, _, rfl, ?_⟩
    rw [List.length_map]
    by_cases hk : k < (ns.length : Int)
    · rw [decide_eq_true hk]
      refine iteT ?_
      have hl : k.toNat < ns.length := by omega
      have g : (ns.map V.int)[k.toNat]? = some (V.int (cell ns k)) := by
        rw [List.getElem?_map, List.getElem?_eq_getElem hl]
        unfold cell
        rw [List.getD_eq_getElem?_getD, List.getElem?_eq_getElem hl]; rfl
      have e : ((k.toNat : Nat) : Int) = k := by omega
      have g2 := atI_nat g
      rw [e] at g2
      exact ⟨_, rfl, _, rfl, a, _, _, _, rfl, rfl, hs, g2, q⟩
    · rw [decide_eq_false hk]
      refine iteF ?_
      have e : cell ns k = 0 := by
        unfold cell
        rw [List.getD_eq_getElem?_getD, List.getElem?_eq_none (by omega)]; rfl
      rw [e] at q
      exact q
theorem vint {a b : Int} : decide (V.int a = V.int b) = decide (a = b) := by
  by_cases h : a = b
  · subst h; rw [decide_eq_true rfl, decide_eq_true rfl]
  · rw [decide_eq_false h, decide_eq_false fun z => h (by injection z)]
end
end Od

namespace Od
open PySem PySem.Spec PyProof.Rows L2
/-! ### the drawn net -/
section
variable {P : Program} {w : World} {K : PySem.W.Frag} {mg : Str → Option Value} {c : Cs} {base : Heap}
end
end Od

namespace Od
open PySem PySem.Spec PyProof.Rows L2
def spMixed : Sp := fun vs H Q _ => ∃ (l : Addr) (us : List V) (cl : Int), vs = [.ref l, .int cl] ∧ H l = some (.lst us) ∧ us.length ≤ 1000 ∧ ∀ p ws H', H p = none → Same H H' → H' p = some (.lst ws) → ws.Perm us → Q (.ref p) H'
def spWhole : Sp := fun vs H Q _ => ∃ x t, vs = [x] ∧ Kd H x t ∧ Q (.bl (isInt x)) H
section
variable {P : Program} {w : World} {K : PySem.W.Frag} {mg : Str → Option Value} {c : Cs} {base : Heap}
theorem ok_whole (T : Top K mg c) : Fd.Has P w K mg base CX0 1 "_law_whole" ["_law_found"] spWhole := by
  refine T.d__law_whole.ok sc__law_whole (fun vs H Q E h => ?_) (fun f cdv A outer s H vs Q E hr h => ?_)
  · obtain ⟨x, t, rfl, _⟩ := h; rfl
  · obtain ⟨x, t, rfl, k, q⟩ := h
    refine ⟨_, (pss_one (ps_ret (pe_and (pe_callB (r := rIsi K) call_isi (by rfl) T.n_isinstance boot_isinstance (pa_cons (pv 0) (pa_cons (pe_bltn (v := .ty "int") (by rfl) T.n_int boot_int rfl) pa_nil))) (pe_one (pe_not (pe_callB (r := rIsi K) call_isi (by rfl) T.n_isinstance boot_isinstance (pa_cons (pv 0) (pa_cons (pe_bltn (v := .ty "bool") (by rfl) T.n_bool boot_bool rfl) pa_nil)))))))), ?_⟩
    refine ⟨x, rfl, _, _, _, _, _, rfl, ClsV.ty _, k.tyx, kit_ty (kit_int t), _, rfl, ?_⟩
    have hv := k.int_iff
    by_cases c : (t = .int || t = .bool) = true
    · rw [if_pos c]
      refine ⟨x, rfl, _, _, _, _, _, rfl, ClsV.ty _, k.tyx, kit_ty (kit_bool t), _, rfl, ?_⟩
      show Q (.bl (!decide (t = .bool))) H
      have e : (!decide (t = .bool)) = isInt x := by
        rw [← hv]; revert c; cases t <;> simp
      rw [e]; exact q
    · rw [if_neg c]
      show Q (.bl false) H
      have e : false = isInt x := by
        rw [← hv]; revert c; cases t <;> simp
      rw [e]; exact q
end
end Od

namespace Od
open PySem PySem.Spec PyProof.Rows L2
def spSole (K : PySem.W.Frag) (c : Cs) (a : Addr) (cls : Value) (d : Option Addr) : Sp := fun vs H Q _ => vs = [.ref a] ∧ (∃ D, cls = .ref D ∧ d = none ∧ Leaf K c D) ∧ Q (.bl true) H
section
variable {P : Program} {w : World} {K : PySem.W.Frag} {mg : Str → Option Value} {c : Cs} {base : Heap}
theorem cls_ref {C : Addr} : ∀ u, RelV (V.ref C) u → u = Value.ref C := fun _ h => h
theorem b2i (b : Bool) (n : Int) : (V.int (n + (if b then 1 else 0))) = V.int (n + (if b then 1 else 0)) := rfl
theorem ok_sole (T : Top K mg c) (a : Addr) (oe : Obj) (cls : Value) (d : Option Addr) (hz : L2N.Zn cls d oe) (hf : ∃ vs, oe.data = .fields vs) : Fh.HasP P w K mg base 1 "_law_sole" ["_law_error"] (spSole K c a cls d) (a, oe) := by
  by_cases hL : ∃ D, cls = .ref D ∧ d = none ∧ Leaf K c D
  · obtain ⟨D, rfl, rfl, L⟩ := hL
    have hz1 : oe.cls = .ref D := hz.1
    have hz2 : oe.dict = none := hz.2.1
    have hz3 := hf
    generalize hp : (a, oe) = p
    have e1 : p.1 = a := by rw [← hp]
    have e2 : p.2 = oe := by rw [← hp]
    rw [← e2] at hz1 hz2 hz3
    refine Fh.okP T.d__law_sole sc__law_sole (fun vs H Q E h => ?_) (fun f cdv A outer s H vs Q E hot hr h => ?_)
    · obtain ⟨rfl, _⟩ := h; rfl
    · obtain ⟨rfl, _, q⟩ := h
      obtain ⟨b0, b1, b2, b3, b4, b5, b6, k0, k1, k2, k3, k4, k5, k6, hc⟩ := L.l
      rw [← e1]
      refine ⟨_, (pss_cons (ps_set (i := 1) sc__law_sole.nd rfl (Or.inl rfl) pe_int)
      (pss_cons (ps_set (i := 1) sc__law_sole.nd rfl (Or.inl rfl) (pe_op op_add (pv 1) (pe_callTy call_int1 (by rfl) T.n_int boot_int (pa_cons (pe_callB (Fd.call_isP (show p ∈ [p] from List.mem_cons_self) L.x hz1 hz2 hz3) (by rfl) T.n_isinstance boot_isinstance (pa_cons (pv 0) (pa_cons (pe_glob (v := .ref c.BadNet) (by rfl) T.e_BadNet.c rfl) pa_nil))) pa_nil))))
      (pss_cons (ps_set (i := 1) sc__law_sole.nd rfl (Or.inl rfl) (pe_op op_add (pv 1) (pe_callTy call_int1 (by rfl) T.n_int boot_int (pa_cons (pe_callB (Fd.call_isP (show p ∈ [p] from List.mem_cons_self) L.x hz1 hz2 hz3) (by rfl) T.n_isinstance boot_isinstance (pa_cons (pv 0) (pa_cons (pe_glob (v := .ref c.NoPlace) (by rfl) T.e_NoPlace.c rfl) pa_nil))) pa_nil))))
      (pss_cons (ps_set (i := 1) sc__law_sole.nd rfl (Or.inl rfl) (pe_op op_add (pv 1) (pe_callTy call_int1 (by rfl) T.n_int boot_int (pa_cons (pe_callB (Fd.call_isP (show p ∈ [p] from List.mem_cons_self) L.x hz1 hz2 hz3) (by rfl) T.n_isinstance boot_isinstance (pa_cons (pv 0) (pa_cons (pe_glob (v := .ref c.BadPairs) (by rfl) T.e_BadPairs.c rfl) pa_nil))) pa_nil))))
      (pss_cons (ps_set (i := 1) sc__law_sole.nd rfl (Or.inl rfl) (pe_op op_add (pv 1) (pe_callTy call_int1 (by rfl) T.n_int boot_int (pa_cons (pe_callB (Fd.call_isP (show p ∈ [p] from List.mem_cons_self) L.x hz1 hz2 hz3) (by rfl) T.n_isinstance boot_isinstance (pa_cons (pv 0) (pa_cons (pe_glob (v := .ref c.BadWay) (by rfl) T.e_BadWay.c rfl) pa_nil))) pa_nil))))
      (pss_cons (ps_set (i := 1) sc__law_sole.nd rfl (Or.inl rfl) (pe_op op_add (pv 1) (pe_callTy call_int1 (by rfl) T.n_int boot_int (pa_cons (pe_callB (Fd.call_isP (show p ∈ [p] from List.mem_cons_self) L.x hz1 hz2 hz3) (by rfl) T.n_isinstance boot_isinstance (pa_cons (pv 0) (pa_cons (pe_glob (v := .ref c.TieThere) (by rfl) T.e_TieThere.c rfl) pa_nil))) pa_nil))))
      (pss_cons (ps_set (i := 1) sc__law_sole.nd rfl (Or.inl rfl) (pe_op op_add (pv 1) (pe_callTy call_int1 (by rfl) T.n_int boot_int (pa_cons (pe_callB (Fd.call_isP (show p ∈ [p] from List.mem_cons_self) L.x hz1 hz2 hz3) (by rfl) T.n_isinstance boot_isinstance (pa_cons (pv 0) (pa_cons (pe_glob (v := .ref c.NoTie) (by rfl) T.e_NoTie.c rfl) pa_nil))) pa_nil))))
      (pss_cons (ps_set (i := 1) sc__law_sole.nd rfl (Or.inl rfl) (pe_op op_add (pv 1) (pe_callTy call_int1 (by rfl) T.n_int boot_int (pa_cons (pe_callB (Fd.call_isP (show p ∈ [p] from List.mem_cons_self) L.x hz1 hz2 hz3) (by rfl) T.n_isinstance boot_isinstance (pa_cons (pv 0) (pa_cons (pe_glob (v := .ref c.OddRing) (by rfl) T.e_OddRing.c rfl) pa_nil))) pa_nil))))
      (pss_one (ps_ret (pe_and (pe_cmpR op_eq (pv 1) pe_int (nomark _)) (pe_and (pe_callB (Fd.call_isP (show p ∈ [p] from List.mem_cons_self) L.x hz1 hz2 hz3) (by rfl) T.n_isinstance boot_isinstance (pa_cons (pv 0) (pa_cons (pe_glob (v := .ref c.NetError) (by rfl) T.e_NetError.c rfl) pa_nil))) (pe_one (pe_callB (Fd.call_isP (show p ∈ [p] from List.mem_cons_self) L.x hz1 hz2 hz3) (by rfl) T.n_isinstance boot_isinstance (pa_cons (pv 0) (pa_cons (pe_bltn (v := .ty "ValueError") (by rfl) T.n_ValueError (by decide +kernel) rfl) pa_nil)))))))))))))))), ?_⟩
      refine ⟨_, rfl, _, rfl, _, _, _, rfl, cls_ref, k0, .inr ⟨_, rfl, _, _, rfl, rfl, ?_⟩⟩
      refine ⟨_, rfl, _, rfl, _, _, _, rfl, cls_ref, k1, .inr ⟨_, rfl, _, _, rfl, rfl, ?_⟩⟩
      refine ⟨_, rfl, _, rfl, _, _, _, rfl, cls_ref, k2, .inr ⟨_, rfl, _, _, rfl, rfl, ?_⟩⟩
      refine ⟨_, rfl, _, rfl, _, _, _, rfl, cls_ref, k3, .inr ⟨_, rfl, _, _, rfl, rfl, ?_⟩⟩
      refine ⟨_, rfl, _, rfl, _, _, _, rfl, cls_ref, k4, .inr ⟨_, rfl, _, _, rfl, rfl, ?_⟩⟩
      refine ⟨_, rfl, _, rfl, _, _, _, rfl, cls_ref, k5, .inr ⟨_, rfl, _, _, rfl, rfl, ?_⟩⟩
      refine ⟨_, rfl, _, rfl, _, _, _, rfl, cls_ref, k6, .inr ⟨_, rfl, _, _, rfl, rfl, ?_⟩⟩
      refine ⟨_, rfl, rfl, _, rfl, ?_⟩
      have e : decide (V.int (0 + (if b0 = true then 1 else 0) + (if b1 = true then 1 else 0) + (if b2 = true then 1 else 0) + (if b3 = true then 1 else 0) + (if b4 = true then 1 else 0) + (if b5 = true then 1 else 0) + (if b6 = true then 1 else 0)) = V.int 1) = true := by
        rw [vint]
        revert hc
        cases b0 <;> cases b1 <;> cases b2 <;> cases b3 <;> cases b4 <;> cases b5 <;> cases b6 <;> decide
      rw [e]
      refine iteT ⟨_, rfl, _, _, _, rfl, cls_ref, L.n, _, rfl, ?_⟩
      refine iteT ⟨_, rfl, _, _, _, rfl, (fun u h => h), L.v, q⟩
  · refine Fh.okP (N := N__law_sole) T.d__law_sole sc__law_sole (fun vs H Q E h => ?_) (fun f cdv A outer s H vs Q E hot hr h => ?_)
    · obtain ⟨rfl, _⟩ := h; rfl
    · exact absurd h.2.1 hL
end
end Od

namespace Od
open PySem PySem.Spec PyProof.Rows L2
def nbg (k : Int) (p : Pr) : Option Int := if p.1 = k then some p.2 else if p.2 = k then some p.1 else none
theorem nbr_eq (k : Int) : ∀ (ts : List Pr) (acc : List Int), ts.foldl (nbs k) acc = acc ++ ts.filterMap (nbg k)
  | [], acc => by simp
  | p :: ts, acc => by
    rw [List.foldl_cons, nbr_eq k ts]
    unfold nbs nbg
    by_cases a : p.1 = k
    · rw [if_pos a, List.filterMap_cons_some (b := p.2) (by rw [if_pos a]), List.append_assoc]; rfl
    · rw [if_neg a]
      by_cases b : p.2 = k
      · rw [if_pos b, List.filterMap_cons_some (b := p.1) (by rw [if_neg a, if_pos b]), List.append_assoc]; rfl
      · rw [if_neg b, List.filterMap_cons_none (by rw [if_neg a, if_neg b])]
theorem nbr_fm (ts : List Pr) (k : Int) : nbr ts k = ts.filterMap (nbg k) := by unfold nbr; rw [nbr_eq]; rfl
theorem nbr_up {n : Int} {ts : List Pr} (h : ∀ p ∈ ts, Tie n p) (up : ts.Pairwise plt) (k : Int) : (nbr ts k).Pairwise (· < ·) := by
  rw [nbr_fm, List.pairwise_filterMap]
  refine List.Pairwise.imp_of_mem (fun {p q} hp hq hpq x hx y hy => ?_) up
  obtain ⟨a1, a2, a3⟩ := h p hp
  obtain ⟨b1, b2, b3⟩ := h q hq
  unfold plt at hpq
  unfold nbg at hx hy
  by_cases c1 : p.1 = k
  · rw [if_pos c1] at hx; cases hx
    by_cases d1 : q.1 = k
    · rw [if_pos d1] at hy; cases hy; omega
    · rw [if_neg d1] at hy
      by_cases d2 : q.2 = k
      · rw [if_pos d2] at hy; cases hy; omega
      · rw [if_neg d2] at hy; cases hy
  · rw [if_neg c1] at hx
    by_cases c2 : p.2 = k
    · rw [if_pos c2] at hx; cases hx
      by_cases d1 : q.1 = k
      · rw [if_pos d1] at hy; cases hy; omega
      · rw [if_neg d1] at hy
        by_cases d2 : q.2 = k
        · rw [if_pos d2] at hy; cases hy; omega
        · rw [if_neg d2] at hy; cases hy
    · rw [if_neg c2] at hx; cases hx
theorem sorted_one {a b : List Int} (p : a.Perm b) (ha : a.Pairwise (· ≤ ·)) (hb : b.Pairwise (· < ·)) : a = b :=
  List.Perm.eq_of_pairwise (fun x y _ _ h1 h2 => Int.le_antisymm h1 h2) ha (hb.imp fun h => Int.le_of_lt h) p
theorem atMod {xs : List V} {k m : Int} (hm : (xs.length : Int) = m) (h0 : 0 < m) : ∃ v, atI xs (k % m) = some v ∧ v ∈ xs := by
  have a1 := Int.emod_nonneg k (show m ≠ 0 by omega)
  have a2 := Int.emod_lt_of_pos k h0
  have hl : (k % m).toNat < xs.length := by omega
  refine ⟨xs[(k % m).toNat], ?_, List.getElem_mem hl⟩
  have q := atI_nat (List.getElem?_eq_getElem hl)
  rwa [show (((k % m).toNat : Nat) : Int) = k % m by omega] at q
theorem tnx {D : Ends} {σ : St} {H : Hp} (h : D.nx σ H) : tNext D σ H := h
theorem tsq {t u : TS} {D : Ends} {σ : St} {H : Hp} (h : t { D with nx := u D } σ H) : tSeq t u D σ H := h
theorem if_no {t : TT} {u w : TS} {D : Ends} {σ : St} {H : Hp} {R : Hp → Prop} (h : ∀ Q' : Bool → Hp → Prop, (∀ H6, R H6 → Q' false H6) → t σ H Q') (k : ∀ H6, R H6 → w D σ H6) : tIfS t u w D σ H :=
  h _ fun H6 r => by rw [if_neg Bool.false_ne_true]; exact k H6 r

/-! ### parts, as mathematics -/
theorem nbr_mem {n : Int} {ts : List Pr} (h : ∀ p ∈ ts, Tie n p) {k q : Int} : q ∈ nbr ts k ↔ (k, q) ∈ ts ∨ (q, k) ∈ ts := by
  rw [nbr_fm, List.mem_filterMap]
  constructor
  · rintro ⟨⟨a, b⟩, hp, e⟩
    unfold nbg at e
    by_cases c1 : a = k
    · rw [if_pos c1] at e; cases e; subst c1; exact .inl hp
    · rw [if_neg c1] at e
      by_cases c2 : b = k
      · rw [if_pos c2] at e; cases e; subst c2; exact .inr hp
      · rw [if_neg c2] at e; cases e
  · rintro (hp | hp)
    · exact ⟨_, hp, by unfold nbg; rw [if_pos rfl]⟩
    · have t := h _ hp
      have : ¬ q = k := by have := t.2.1; simp only at this; omega
      exact ⟨_, hp, by unfold nbg; rw [if_neg this, if_pos rfl]⟩
theorem nbr_sym {n : Int} {ts : List Pr} (h : ∀ p ∈ ts, Tie n p) {k q : Int} (m : q ∈ nbr ts k) : k ∈ nbr ts q :=
  (nbr_mem h).mpr ((nbr_mem h).mp m).symm
theorem nbr_rng {n : Int} {ts : List Pr} (h : ∀ p ∈ ts, Tie n p) {k q : Int} (m : q ∈ nbr ts k) : 0 ≤ q ∧ q < n := by
  rcases (nbr_mem h).mp m with z | z
  · obtain ⟨a, b, c⟩ := h _ z; simp only at a b c; omega
  · obtain ⟨a, b, c⟩ := h _ z; simp only at a b c; omega
/-- what one comes to from a by open places -/
inductive Rch (nb : Int → List Int) (ok : Int → Prop) (a : Int) : Int → Prop
  | base : Rch nb ok a a
  | step {p q : Int} (h : Rch nb ok a p) (m : q ∈ nb p) (o : ok q) : Rch nb ok a q
theorem Rch.mono {nb : Int → List Int} {ok ok' : Int → Prop} {a p : Int} (h : Rch nb ok a p) (f : ∀ q, ok q → ok' q) : Rch nb ok' a p := by
  induction h with
  | base => exact .base
  | step _ m o ih => exact .step ih m (f _ o)
theorem Rch.ok_of {nb : Int → List Int} {ok : Int → Prop} {a p : Int} (h : Rch nb ok a p) (ha : ok a) : ok p := by
  cases h with
  | base => exact ha
  | step _ _ o => exact o
/-- the state of a search: sl seen, wl waiting, E what is still to be looked at -/
structure DI (nb : Int → List Int) (ok : Int → Prop) (n : Nat) (a : Int) (sl wl : List Int) (E : Int → Int → Prop) : Prop where
  nd : sl.Nodup
  rg : ∀ p ∈ sl, 0 ≤ p ∧ p < (n : Int)
  ini : a ∈ sl
  rch : ∀ p ∈ sl, Rch nb ok a p
  wt : ∀ p ∈ wl, p ∈ sl
  cl : ∀ p ∈ sl, p ∈ wl ∨ ∀ q ∈ nb p, ok q → q ∈ sl ∨ E p q
section
variable {nb : Int → List Int} {ok : Int → Prop} {n : Nat} {a : Int} {sl wl : List Int} {E : Int → Int → Prop}
theorem DI.start (h0 : 0 ≤ a) (h1 : a < (n : Int)) : DI nb ok n a [a] [a] (fun _ _ => False) :=
  ⟨List.pairwise_singleton _ _, fun p hp => by rw [List.mem_singleton.mp hp]; exact ⟨h0, h1⟩, List.mem_singleton.mpr rfl, fun p hp => by rw [List.mem_singleton.mp hp]; exact .base, fun p hp => hp, fun p hp => .inl hp⟩
theorem DI.len (D : DI nb ok n a sl wl E) : sl.length ≤ n := by
  have key := nat_nodup_len (sl.map Int.toNat) (List.range n) ?_ ?_
  · rw [List.length_map, List.length_range] at key; exact key
  · refine List.pairwise_map.mpr (List.Pairwise.imp_of_mem (fun {p q} hp hq ne e => ?_) D.nd)
    have h1 := D.rg p hp
    have h2 := D.rg q hq
    exact ne (by omega)
  · intro x hx
    obtain ⟨p, hp, rfl⟩ := List.mem_map.mp hx
    have h1 := D.rg p hp
    exact List.mem_range.mpr (by omega)
/-- the last one that waits is taken -/
theorem DI.pop (D : DI nb ok n a sl wl (fun _ _ => False)) {y : Int} (hy : wl.getLast? = some y) : DI nb ok n a sl wl.dropLast (fun p q => p = y ∧ q ∈ (nb y).drop 0) := by
  have e : wl = wl.dropLast ++ [y] := by
    cases wl with
    | nil => cases hy
    | cons b l => rw [List.getLast?_eq_some_getLast (by simp)] at hy; cases hy; exact (List.dropLast_concat_getLast (by simp)).symm
  refine ⟨D.nd, D.rg, D.ini, D.rch, fun p hp => D.wt p (List.dropLast_subset _ hp), fun p hp => ?_⟩
  rcases D.cl p hp with h | h
  · rw [e] at h
    rcases List.mem_append.mp h with z | z
    · exact .inl z
    · rw [List.mem_singleton] at z; subst z
      exact .inr fun q hq _ => .inr ⟨rfl, by rw [List.drop_zero]; exact hq⟩
  · exact .inr fun q hq o => (h q hq o).elim .inl False.elim
/-- a neighbour that is open and not seen -/
theorem DI.push {y q : Int} {i : Nat} (D : DI nb ok n a sl wl (fun p z => p = y ∧ z ∈ (nb y).drop i)) (hy : y ∈ sl) (hq : (nb y)[i]? = some q) (hr : 0 ≤ q ∧ q < (n : Int)) (ho : ok q) (hn : q ∉ sl) :
    DI nb ok n a (sl ++ [q]) (wl ++ [q]) (fun p z => p = y ∧ z ∈ (nb y).drop (i + 1)) := by
  have hm := List.mem_of_getElem? hq
  have ed : (nb y).drop i = q :: (nb y).drop (i + 1) := by
    obtain ⟨hi, e⟩ := List.getElem?_eq_some_iff.mp hq
    rw [List.drop_eq_getElem_cons hi, e]
  refine ⟨List.nodup_append.mpr ⟨D.nd, List.pairwise_singleton _ _, fun x hx z hz e => hn (by rw [← List.mem_singleton.mp hz, ← e]; exact hx)⟩, fun p hp => ?_, List.mem_append_left _ D.ini, fun p hp => ?_, fun p hp => ?_, fun p hp => ?_⟩
  · rcases List.mem_append.mp hp with z | z
    · exact D.rg p z
    · rw [List.mem_singleton.mp z]; exact hr
  · rcases List.mem_append.mp hp with z | z
    · exact D.rch p z
    · rw [List.mem_singleton.mp z]; exact .step (D.rch y hy) hm ho
  · rcases List.mem_append.mp hp with z | z
    · exact List.mem_append_left _ (D.wt p z)
    · exact List.mem_append_right _ z
  · rcases List.mem_append.mp hp with z | z
    · rcases D.cl p z with h | h
      · exact .inl (List.mem_append_left _ h)
      · refine .inr fun x hx o => ?_
        rcases h x hx o with h | ⟨e, h⟩
        · exact .inl (List.mem_append_left _ h)
        · rw [ed] at h
          rcases List.mem_cons.mp h with rfl | h
          · exact .inl (List.mem_append_right _ (List.mem_singleton.mpr rfl))
          · exact .inr ⟨e, h⟩
    · exact .inl (List.mem_append_right _ z)
/-- a neighbour that is closed, or seen -/
theorem DI.skip {y q : Int} {i : Nat} (D : DI nb ok n a sl wl (fun p z => p = y ∧ z ∈ (nb y).drop i)) (hq : (nb y)[i]? = some q) (h : ok q → q ∈ sl) :
    DI nb ok n a sl wl (fun p z => p = y ∧ z ∈ (nb y).drop (i + 1)) := by
  have ed : (nb y).drop i = q :: (nb y).drop (i + 1) := by
    obtain ⟨hi, e⟩ := List.getElem?_eq_some_iff.mp hq
    rw [List.drop_eq_getElem_cons hi, e]
  refine ⟨D.nd, D.rg, D.ini, D.rch, D.wt, fun p hp => (D.cl p hp).imp id fun k x hx o => ?_⟩
  rcases k x hx o with z | ⟨e, z⟩
  · exact .inl z
  · rw [ed] at z
    rcases List.mem_cons.mp z with rfl | z
    · exact .inl (h o)
    · exact .inr ⟨e, z⟩
theorem DI.done {y : Int} (D : DI nb ok n a sl wl (fun p z => p = y ∧ z ∈ (nb y).drop (nb y).length)) : DI nb ok n a sl wl (fun _ _ => False) :=
  ⟨D.nd, D.rg, D.ini, D.rch, D.wt, fun p hp => (D.cl p hp).imp id fun k x hx o => (k x hx o).imp id fun z => by
    have z := z.2
    rw [List.drop_length] at z; cases z⟩
theorem DI.fin (D : DI nb ok n a sl [] (fun _ _ => False)) (p : Int) : p ∈ sl ↔ Rch nb ok a p := by
  refine ⟨D.rch p, fun h => ?_⟩
  induction h with
  | base => exact D.ini
  | step _ m o ih =>
    rcases D.cl _ ih with z | z
    · cases z
    · exact (z _ m o).elim id False.elim
end

/-! ### the parts -/
open Classical in
noncomputable def partOf (nb : Int → List Int) (n : Nat) (ok : Int → Prop) (a : Int) : List Int := ((List.range n).map fun i : Nat => (i : Int)).filter fun p => decide (Rch nb ok a p)
open Classical in
/-- the parts by the first i places -/
noncomputable def partsTo (nb : Int → List Int) (n : Nat) (ok : Int → Prop) : Nat → List (List Int)
  | 0 => []
  | i + 1 => if ok (i : Int) ∧ ∀ L ∈ partsTo nb n ok i, (i : Int) ∉ L then partsTo nb n ok i ++ [partOf nb n ok (i : Int)] else partsTo nb n ok i
theorem up_range (n : Nat) : ((List.range n).map fun i : Nat => (i : Int)).Pairwise (· < ·) := by
  refine List.pairwise_map.mpr ?_
  exact List.pairwise_lt_range.imp fun h => by omega
theorem partOf_up (nb : Int → List Int) (n : Nat) (ok : Int → Prop) (a : Int) : (partOf nb n ok a).Pairwise (· < ·) := (up_range n).filter _
section
variable {nb : Int → List Int} {ok ok' : Int → Prop} {n : Nat} {a : Int}
theorem rch_rng (hb : ∀ {k q : Int}, q ∈ nb k → 0 ≤ q ∧ q < (n : Int)) (h0 : 0 ≤ a) (h1 : a < (n : Int)) {p : Int} (h : Rch nb ok a p) : 0 ≤ p ∧ p < (n : Int) := by
  cases h with
  | base => exact ⟨h0, h1⟩
  | step _ m _ => exact hb m
theorem partOf_mem (hb : ∀ {k q : Int}, q ∈ nb k → 0 ≤ q ∧ q < (n : Int)) (h0 : 0 ≤ a) (h1 : a < (n : Int)) {p : Int} : p ∈ partOf nb n ok a ↔ Rch nb ok a p := by
  unfold partOf
  rw [List.mem_filter]
  simp only [decide_eq_true_eq]
  refine ⟨fun h => h.2, fun h => ⟨?_, h⟩⟩
  have r := rch_rng hb h0 h1 h
  exact List.mem_map.mpr ⟨p.toNat, List.mem_range.mpr (by omega), by omega⟩
theorem up_one {A B : List Int} (ha : A.Pairwise (· < ·)) (hb : B.Pairwise (· < ·)) (h : ∀ p, p ∈ A ↔ p ∈ B) : A = B := by
  have na : A.Nodup := ha.imp fun h e => by omega
  have nb : B.Nodup := hb.imp fun h e => by omega
  exact sorted_one ((List.perm_ext_iff_of_nodup na nb).mpr h) (ha.imp fun h => Int.le_of_lt h) hb
theorem partOf_len (nb : Int → List Int) (n : Nat) (ok : Int → Prop) (a : Int) : (partOf nb n ok a).length ≤ n := by
  unfold partOf
  refine Nat.le_trans (List.length_filter_le _ _) ?_
  rw [List.length_map, List.length_range]; exact Nat.le_refl _
theorem partsTo_is {i : Nat} {L : List Int} (h : L ∈ partsTo nb n ok i) : ∃ b : Nat, b < i ∧ ok (b : Int) ∧ L = partOf nb n ok (b : Int) := by
  induction i with
  | zero => cases h
  | succ i ih =>
    unfold partsTo at h
    split at h
    · rename_i c
      rcases List.mem_append.mp h with z | z
      · obtain ⟨b, h1, h2⟩ := ih z; exact ⟨b, by omega, h2⟩
      · rw [List.mem_singleton] at z; exact ⟨i, by omega, c.1, z⟩
    · obtain ⟨b, h1, h2⟩ := ih h; exact ⟨b, by omega, h2⟩
theorem partsTo_len (i : Nat) : (partsTo nb n ok i).length ≤ i := by
  induction i with
  | zero => exact Nat.le_refl _
  | succ i ih =>
    unfold partsTo
    split
    · rw [List.length_append, List.length_singleton]; omega
    · omega
/-- open, and in no earlier part -/
def left (nb : Int → List Int) (n : Nat) (ok : Int → Prop) (i : Nat) (p : Int) : Prop := ok p ∧ ∀ L ∈ partsTo nb n ok i, p ∉ L
theorem rch_left (hb : ∀ {k q : Int}, q ∈ nb k → 0 ≤ q ∧ q < (n : Int)) (hs : ∀ {k q : Int}, q ∈ nb k → k ∈ nb q) {i : Nat} (hi : i ≤ n) (h0 : 0 ≤ a) (h1 : a < (n : Int)) (ha : left nb n ok i a) {p : Int} :
    Rch nb (left nb n ok i) a p ↔ Rch nb ok a p := by
  refine ⟨fun h => h.mono fun q o => o.1, fun h => ?_⟩
  induction h with
  | base => exact .base
  | step h m o ih =>
    rename_i p q
    refine .step ih m ⟨o, fun L hL hq => ?_⟩
    obtain ⟨b, hbi, ob, rfl⟩ := partsTo_is hL
    have b0 : (0 : Int) ≤ (b : Int) := by omega
    have b1 : (b : Int) < (n : Int) := by omega
    have r1 := (partOf_mem hb b0 b1).mp hq
    have lp := ih.ok_of ha
    exact lp.2 _ hL ((partOf_mem hb b0 b1).mpr (.step r1 (hs m) lp.1))
theorem partsTo_pos {i : Nat} {L : List Int} (hi : i ≤ n) (hb : ∀ {k q : Int}, q ∈ nb k → 0 ≤ q ∧ q < (n : Int)) (h : L ∈ partsTo nb n ok i) : 0 < L.length ∧ L.length ≤ n := by
  obtain ⟨b, hbi, ob, rfl⟩ := partsTo_is h
  refine ⟨List.length_pos_of_mem ((partOf_mem (a := (b : Int)) hb (by omega) (by omega)).mpr .base), partOf_len _ _ _ _⟩
end
end Od

namespace Od
open PySem PySem.Spec PyProof.Rows L2
/-! ### lists as data, compared -/
theorem eqvAll_map {α : Type} [DecidableEq α] (f : α → PyData) (h : ∀ x y, PyData.eqv (f x) (f y) = decide (x = y)) : ∀ a b : List α, PyData.eqvAll (a.map f) (b.map f) = decide (a = b)
  | [], [] => by simp [PyData.eqvAll]
  | [], _ :: _ => by simp [PyData.eqvAll]
  | _ :: _, [] => by simp [PyData.eqvAll]
  | x :: a, y :: b => by
    rw [List.map_cons, List.map_cons, PyData.eqvAll, h, eqvAll_map f h a b]
    by_cases c : x = y
    · by_cases d : a = b
      · subst c d; simp
      · rw [decide_eq_false d, decide_eq_false (fun z => d (List.cons.inj z).2), Bool.and_false]
    · rw [decide_eq_false c, decide_eq_false (fun z => c (List.cons.inj z).1), Bool.false_and]
theorem eqv_map {α : Type} [DecidableEq α] (f : α → PyData) (h : ∀ x y, PyData.eqv (f x) (f y) = decide (x = y)) (a b : List α) : PyData.eqv (.list (a.map f)) (.list (b.map f)) = decide (a = b) := by
  rw [PyData.eqv]; exact eqvAll_map f h a b
theorem shapedAll {α : Type} (f : α → PyData) (n : Nat) (h : ∀ x, (f x).canLay0 = true ∧ (f x).depth ≤ n) : ∀ a : List α, PyData.canLayAll0 (a.map f) = true ∧ PyData.depthAll (a.map f) ≤ n
  | [] => ⟨by simp [PyData.canLayAll0], by simp [PyData.depthAll]⟩
  | x :: a => by
    obtain ⟨h1, h2⟩ := shapedAll f n h a
    obtain ⟨h3, h4⟩ := h x
    rw [List.map_cons, PyData.canLayAll0, PyData.depthAll, h1, h3]
    exact ⟨rfl, Nat.max_le.mpr ⟨h4, h2⟩⟩
theorem shaped_map {α : Type} (f : α → PyData) (h : ∀ x, (f x).canLay0 = true ∧ (f x).depth ≤ 60) (a : List α) : SeqAt.shaped (.list (a.map f)) = true := by
  obtain ⟨h1, h2⟩ := shapedAll f 60 h a
  unfold SeqAt.shaped
  rw [PyData.canLay0, h1, PyData.depth, Bool.true_and, decide_eq_true_eq]
  omega
def dP (p : Pr) : PyData := .tuple [.int p.1, .int p.2]
def dPs (ts : List Pr) : PyData := .list (ts.map dP)
def dIs (ns : List Int) : PyData := .list (ns.map PyData.int)
theorem eqv_int (x y : Int) : PyData.eqv (.int x) (.int y) = decide (x = y) := by
  rw [PyData.eqv]; by_cases h : x = y
  · subst h; simp
  · rw [decide_eq_false h]; exact beq_eq_false_iff_ne.mpr h
theorem eqv_dP (p q : Pr) : PyData.eqv (dP p) (dP q) = decide (p = q) := by
  unfold dP
  rw [PyData.eqv, PyData.eqvAll, PyData.eqvAll, PyData.eqvAll, eqv_int, eqv_int, Bool.and_true]
  by_cases h : p = q
  · subst h; simp
  · rw [decide_eq_false h]
    by_cases c : p.1 = q.1
    · rw [decide_eq_false (fun z => h (Prod.ext c z)), Bool.and_false]
    · rw [decide_eq_false c, Bool.false_and]
theorem eqv_dPs (a b : List Pr) : PyData.eqv (dPs a) (dPs b) = decide (a = b) := eqv_map dP eqv_dP a b
theorem eqv_dIs (a b : List Int) : PyData.eqv (dIs a) (dIs b) = decide (a = b) := eqv_map PyData.int eqv_int a b
theorem shaped_dPs (a : List Pr) : SeqAt.shaped (dPs a) = true := shaped_map dP (fun x => ⟨by unfold dP; simp [PyData.canLay0, PyData.canLayAll0], by unfold dP; simp [PyData.depth, PyData.depthAll]⟩) a
theorem shaped_dIs (a : List Int) : SeqAt.shaped (dIs a) = true := shaped_map PyData.int (fun x => ⟨by simp [PyData.canLay0], by simp [PyData.depth]⟩) a
section
variable {K : PySem.W.Frag} {H : Hp}
theorem dpAll_ints : ∀ ns : List Int, DpAll K H (ns.map V.int) (ns.map PyData.int)
  | [] => .nil
  | n :: ns => .cons (.int n) (dpAll_ints ns)
theorem dp_ints {a : Addr} {ns : List Int} (h : SqL K H a (ns.map V.int)) : Dp K H (.ref a) (dIs ns) := .lst h (dpAll_ints ns)
theorem dpAll_prs : ∀ {us : List V} {ts : List Pr}, Prs H us ts → DpAll K H us (ts.map dP)
  | _, _, .nil => .nil
  | _, _, .cons ⟨a, h1, h2⟩ t => by
    subst h1
    exact .cons (.tup (SqT.of h2) (.cons (.int _) (.cons (.int _) .nil))) (dpAll_prs t)
theorem dp_prs {a : Addr} {us : List V} {ts : List Pr} (h : SqL K H a us) (p : Prs H us ts) : Dp K H (.ref a) (dPs ts) := .lst h (dpAll_prs p)
end
end Od

namespace Od
open PySem PySem.Spec PyProof.Rows L2
theorem NewPrs.snoc {H H' : Hp} {us : List V} {ts : List Pr} {u : V} {p : Pr} (h : NewPrs H H' us ts) (hu : ∃ a, u = V.ref a ∧ H a = none ∧ H' a = some (.tup [.int p.1, .int p.2])) : NewPrs H H' (us ++ [u]) (ts ++ [p]) := by
  induction h with
  | nil => exact .cons hu .nil
  | cons r _ ih => exact .cons r ih
theorem NewPrs.tups {H H' H2 : Hp} (k : ∀ a xs, H' a = some (.tup xs) → H2 a = some (.tup xs)) : ∀ {us : List V} {ts : List Pr}, NewPrs H H' us ts → NewPrs H H2 us ts
  | _, _, .nil => .nil
  | _, _, .cons ⟨a, h1, h0, h2⟩ t => .cons ⟨a, h1, h0, k a _ h2⟩ (NewPrs.tups k t)
theorem Prs.tups {H H2 : Hp} (k : ∀ a xs, H a = some (.tup xs) → H2 a = some (.tup xs)) : ∀ {us : List V} {ts : List Pr}, Prs H us ts → Prs H2 us ts
  | _, _, .nil => .nil
  | _, _, .cons ⟨a, h1, h2⟩ t => .cons ⟨a, h1, k a _ h2⟩ (Prs.tups k t)
theorem NewPrs.len {H H' : Hp} {us : List V} {ts : List Pr} (h : NewPrs H H' us ts) : us.length = ts.length := Paired.length h
theorem pairSnoc {α β : Type} {F : α → β → Prop} {xs : List α} {ys : List β} {x : α} {y : β} (h : Paired F xs ys) (r : F x y) : Paired F (xs ++ [x]) (ys ++ [y]) := by
  induction h with
  | nil => exact .cons r .nil
  | cons q _ ih => exact .cons q ih
theorem nf_beside (n : Int) (lt ln : Addr) : (nf n lt ln).lookup ("beside" : Str) = none := nf_no _ _ _ (by decide +kernel) (by decide +kernel) (by decide +kernel)
theorem nf_m_ties (n : Int) (lt ln : Addr) : (nf n lt ln).lookup ("ties" : Str) = none := nf_no _ _ _ (by decide +kernel) (by decide +kernel) (by decide +kernel)
theorem setO_eq {w : World} {p : Addr} {S S' : Int → Bool} {n n' : Nat} (h1 : ∀ j, S j = S' j) (h2 : n = n') : SetO w p S n = SetO w p S' n' := by
  rw [show S = S' from funext h1, h2]
theorem inV_ints (p : Int) : ∀ ms : List Int, inV (.int p) (ms.map V.int) = decide (p ∈ ms)
  | [] => rfl
  | m :: ms => by
    have ih := inV_ints p ms
    unfold inV at ih ⊢
    rw [List.map_cons, List.any_cons, ih]
    have e : eqV (.int m) (.int p) = decide (m = p) := by
      by_cases h : m = p
      · subst h; simp [eqV]
      · simp [eqV, h]
    rw [e]
    by_cases h : m = p
    · subst h; rw [decide_eq_true rfl, decide_eq_true List.mem_cons_self]; rfl
    · rw [decide_eq_false h, Bool.false_or]
      by_cases h2 : p ∈ ms
      · rw [decide_eq_true h2, decide_eq_true (List.mem_cons_of_mem _ h2)]
      · rw [decide_eq_false h2, decide_eq_false]
        intro z
        rcases List.mem_cons.mp z with z | z
        · exact h z.symm
        · exact h2 z
theorem flat_ints (ms : List Int) : (ms.map V.int).all flatV = true := by
  rw [List.all_eq_true]
  intro v hv
  obtain ⟨m, _, rfl⟩ := List.mem_map.mp hv
  rfl
theorem kd_ints {H : Hp} {ms : List Int} : ∀ v ∈ ms.map V.int, ∃ t, Kd H v t := fun v hv => by
  obtain ⟨m, _, rfl⟩ := List.mem_map.mp hv
  exact ⟨_, .int m⟩
theorem all_rep (k : Nat) : (List.replicate k true).all id = true := by
  rw [List.all_eq_true]; intro b hb; exact (List.mem_replicate.mp hb).2
theorem plt_one {a b : List Pr} (p : a.Perm b) (ha : a.Pairwise plt) (hb : b.Pairwise plt) : a = b :=
  List.Perm.eq_of_pairwise (fun x y _ _ h1 h2 => by unfold plt at h1 h2; exact Prod.ext (by omega) (by omega)) ha hb p
theorem kd2 {H : Hp} {a b : V} (ha : ∃ u, Kd H a u) (hb : ∃ u, Kd H b u) : ∀ y ∈ [a, b], ∃ u, Kd H y u := fun y hy => by
  rcases List.mem_cons.mp hy with rfl | hy
  · exact ha
  · rw [List.mem_singleton] at hy; subst hy; exact hb
theorem kt_pr {H : Hp} {a : Addr} {p : Pr} (e : H a = some (.tup [.int p.1, .int p.2])) : Kt H (.ref a) .tuple := by
  refine ⟨.tup e, fun ys q => ?_⟩
  rw [tupOf_tup e] at q; cases q
  exact kd2 ⟨_, .int _⟩ ⟨_, .int _⟩
theorem Prs.kt {H : Hp} {us : List V} {ts : List Pr} (p : Prs H us ts) : ∀ y ∈ us, ∃ u, Kt H y u := fun y hy => by
  obtain ⟨i, hi⟩ := List.getElem?_of_mem hy
  obtain ⟨q, a, _, rfl, e⟩ := p.get hi
  exact ⟨_, kt_pr e⟩
theorem Prs.prOf {H : Hp} : ∀ {us : List V} {ts : List Pr}, Prs H us ts → us.map (prOf H) = ts
  | _, _, .nil => rfl
  | _, _, .cons ⟨a, h1, h2⟩ t => by
    subst h1
    rw [List.map_cons, Prs.prOf t]
    unfold Od.prOf
    rw [tupOf_tup h2]
theorem kl_lst {H : Hp} {a : Addr} {xs : List V} (e : H a = some (.lst xs)) (k : ∀ y ∈ xs, ∃ u, Kt H y u) : Kl H (.ref a) .list := by
  refine ⟨.lst e, fun ys q => ?_⟩
  rw [listOf_lst e] at q; cases q; exact k
/-- the places as keys -/
def mk (sl : List Int) : List (L2.Key × V) := sl.map fun p => (Sum.inl p, V.bl true)
theorem mk_val (q : Int) : ∀ sl : List Int, (valV (mk sl) (Sum.inl q : L2.Key)).isSome = decide (q ∈ sl)
  | [] => rfl
  | p :: sl => by
    show (valV ((Sum.inl p, V.bl true) :: mk sl) (Sum.inl q : L2.Key)).isSome = _
    by_cases e : p = q
    · subst e
      rw [valV_pos (by rfl), decide_eq_true List.mem_cons_self]; rfl
    · rw [valV_neg (by intro z; injection z with z; exact e z), mk_val q sl]
      by_cases m : q ∈ sl
      · rw [decide_eq_true m, decide_eq_true (List.mem_cons_of_mem _ m)]
      · rw [decide_eq_false m, decide_eq_false]
        intro z
        rcases List.mem_cons.mp z with z | z
        · exact e z.symm
        · exact m z
theorem mk_put {sl : List Int} {q : Int} (h : q ∉ sl) : putK (mk sl) (Sum.inl q : L2.Key) (V.bl true) = mk (sl ++ [q]) := by
  have hn : valV (mk sl) (Sum.inl q : L2.Key) = none := by
    have := mk_val q sl
    rw [decide_eq_false h] at this
    cases e : valV (mk sl) (Sum.inl q : L2.Key) with
    | none => rfl
    | some v => rw [e] at this; cases this
  rw [putK_new _ hn]
  unfold mk
  rw [List.map_append]; rfl
theorem mk_len (sl : List Int) : (mk sl).length = sl.length := by unfold mk; rw [List.length_map]
theorem mk_keys (sl : List Int) : (mk sl).map (·.1) = sl.map Sum.inl := by unfold mk; rw [List.map_map]; rfl
end Od

namespace Od
open PySem PySem.Spec PyProof.Rows L2
/-! ### pairings -/
def ends (ps : List Pr) : List Int := ps.flatMap fun p => [p.1, p.2]
theorem ends_snoc (ps : List Pr) (p : Pr) : ends (ps ++ [p]) = ends ps ++ [p.1, p.2] := by
  unfold ends; rw [List.flatMap_append]; rfl
theorem ends_len (ps : List Pr) : (ends ps).length = 2 * ps.length := by
  induction ps with
  | nil => rfl
  | cons p ps ih =>
    show (p.1 :: p.2 :: ends ps).length = _
    rw [List.length_cons, List.length_cons, List.length_cons, ih]; omega
theorem ends_perm {a b : List Pr} (h : a.Perm b) : (ends a).Perm (ends b) := h.flatMap_right _
theorem int_few {n : Nat} {l : List Int} (h : ∀ p ∈ l, 0 ≤ p ∧ p < (n : Int)) (nd : l.Nodup) : l.length ≤ n := by
  have key := nat_nodup_len (l.map Int.toNat) (List.range n) ?_ ?_
  · rw [List.length_map, List.length_range] at key; exact key
  · refine List.pairwise_map.mpr (List.Pairwise.imp_of_mem (fun {p q} hp hq ne e => ?_) nd)
    have h1 := h p hp
    have h2 := h q hq
    exact ne (by omega)
  · intro x hx
    obtain ⟨p, hp, rfl⟩ := List.mem_map.mp hx
    have h1 := h p hp
    exact List.mem_range.mpr (by omega)
theorem ends_rng {n : Int} {ps : List Pr} (h : ∀ p ∈ ps, Tie n p) : ∀ q ∈ ends ps, 0 ≤ q ∧ q < n := fun q hq => by
  obtain ⟨p, hp, hm⟩ := List.mem_flatMap.mp hq
  obtain ⟨a, b, c⟩ := h p hp
  simp only [List.mem_cons, List.not_mem_nil, or_false] at hm
  rcases hm with rfl | rfl
  · omega
  · omega
structure OkPairs (H : Hp) (n : Int) (ts : List Pr) (xs : List V) : Prop where
  all : ∀ y ∈ xs, isTie H y n = true
  tied : ∀ y ∈ xs, prOf H y ∈ ts
  one : (ends (xs.map (prOf H))).Nodup
theorem OkPairs.take {H : Hp} {n : Int} {ts : List Pr} {xs : List V} (o : OkPairs H n ts xs) (i : Nat) : OkPairs H n ts (xs.take i) := by
  refine ⟨fun y hy => o.all y (List.mem_of_mem_take hy), fun y hy => o.tied y (List.mem_of_mem_take hy), ?_⟩
  have e : xs = xs.take i ++ xs.drop i := (List.take_append_drop i xs).symm
  have h := o.one
  rw [e, List.map_append] at h
  unfold ends at h ⊢
  rw [List.flatMap_append] at h
  exact (List.nodup_append.mp h).1
theorem OkPairs.tie {H : Hp} {n : Int} {ts : List Pr} {xs : List V} (o : OkPairs H n ts xs) : ∀ p ∈ xs.map (prOf H), Tie n p := fun p hp => by
  obtain ⟨y, hy, rfl⟩ := List.mem_map.mp hp
  exact (isTie_iff (o.all y hy)).2
theorem OkPairs.few {H : Hp} {n : Nat} {ts : List Pr} {xs : List V} (o : OkPairs H n ts xs) : 2 * xs.length ≤ n := by
  have h := int_few (ends_rng o.tie) o.one
  rw [ends_len, List.length_map] at h; exact h
/-- one pair more -/
theorem OkPairs.snoc {H : Hp} {n : Int} {ts : List Pr} {xs : List V} {y : V} (o : OkPairs H n ts xs) (h1 : isTie H y n = true) (h2 : prOf H y ∈ ts) (h3 : (prOf H y).1 ∉ ends (xs.map (prOf H))) (h4 : (prOf H y).2 ∉ ends (xs.map (prOf H))) : OkPairs H n ts (xs ++ [y]) := by
  have t := (isTie_iff h1).2
  refine ⟨fun z hz => ?_, fun z hz => ?_, ?_⟩
  · rcases List.mem_append.mp hz with z' | z'
    · exact o.all z z'
    · rw [List.mem_singleton.mp z']; exact h1
  · rcases List.mem_append.mp hz with z' | z'
    · exact o.tied z z'
    · rw [List.mem_singleton.mp z']; exact h2
  · rw [List.map_append, List.map_cons, List.map_nil, ends_snoc]
    refine List.nodup_append.mpr ⟨o.one, ?_, fun a ha b hb e => ?_⟩
    · refine List.pairwise_cons.mpr ⟨fun b hb e => ?_, List.pairwise_singleton _ _⟩
      rw [List.mem_singleton] at hb
      obtain ⟨_, t2, _⟩ := t
      omega
    · subst e
      simp only [List.mem_cons, List.not_mem_nil, or_false] at hb
      rcases hb with rfl | rfl
      · exact h3 ha
      · exact h4 ha
theorem ltP_plt {H : Hp} {x y : V} (h : ltP (prOf H) y x = false) (ne : prOf H x ≠ prOf H y) : plt (prOf H x) (prOf H y) := by
  have h3 : ¬ plt (prOf H y) (prOf H x) := SrtO.lexB_no.mp h
  generalize prOf H x = u at h3 ne ⊢
  generalize prOf H y = v at h3 ne ⊢
  obtain ⟨u1, u2⟩ := u
  obtain ⟨v1, v2⟩ := v
  unfold plt at h3 ⊢
  simp only at h3 ⊢
  have h5 : ¬ (u1 = v1 ∧ u2 = v2) := fun z => ne (by rw [z.1, z.2])
  omega
/-- each pair of distinct ends stands once -/
theorem ends_nd : ∀ {ps : List Pr}, (ends ps).Nodup → ps.Nodup
  | [], _ => List.nodup_nil
  | p :: ps, h => by
    have h' : (p.1 :: p.2 :: ends ps).Nodup := h
    refine List.nodup_cons.mpr ⟨fun z => ?_, ends_nd (List.nodup_cons.mp (List.nodup_cons.mp h').2).2⟩
    refine (List.nodup_cons.mp h').1 (List.mem_cons_of_mem _ ?_)
    exact List.mem_flatMap.mpr ⟨p, z, List.mem_cons_self⟩
theorem NewPrs.item {H H2 : Hp} {us : List V} {ps : List Pr} (np : NewPrs H H2 us ps) {v : V} : ∀ {j : Nat}, us[j]? = some v → ∃ a, v = .ref a ∧ H a = none ∧ H2 a = some (.tup [.int (prOf H2 v).1, .int (prOf H2 v).2]) := by
  induction np with
  | nil => intro j hj; simp at hj
  | @cons u p us ps h _ ih =>
    intro j hj
    cases j with
    | zero =>
      simp at hj
      obtain ⟨a, rfl, h0, h2⟩ := h
      subst hj
      have e2 : prOf H2 (.ref a) = p := by unfold prOf; rw [tupOf_tup h2]
      exact ⟨a, rfl, h0, by rw [e2]; exact h2⟩
    | succ j => exact ih (j := j) (by simpa using hj)
def spChecked (C B : Addr) : Sp := fun vs H Q E => ∃ (x : Addr) (n : Nat) (ts : List Pr) (y : V) (t : Ty), vs = [.ref x, y] ∧ NetAt C H x n ts ∧ Kl H y t ∧
  ((∃ xs, listOf H y = some xs ∧ OkPairs H n ts xs ∧ ∀ (qs : List Pr) (p : Addr) (us : List V) (H' : Hp), qs.Perm (xs.map (prOf H)) → qs.Pairwise plt → H p = none → Same H H' → H' p = some (.lst us) → NewPrs H H' us qs → Q (.ref p) H') ∨
  ((∀ xs, listOf H y = some xs → ¬ OkPairs H n ts xs) ∧ ∀ H', Same H H' → E (.ref B) none H'))
section
variable {P : Program} {w : World} {K : PySem.W.Frag} {mg : Str → Option Value} {c : Cs} {base : Heap}
theorem ok_checked (T : Top K mg c) : Fd.Has P w K mg base (L2N.CX P w) 4 "checked" ["net", "pairs"] (spChecked c.Net c.BadPairs) := by
  have G_is_tie : Fd.Has P w K mg base CX0 3 "is_tie" ["thing", "size"] spTie := ok_is_tie T
  have G_Net_beside : Fd.MHas P w K mg base (L2N.CX P w) 3 c.Net "beside" ["self", "place"] (spBeside c.Net c.NoPlace) := ok_beside T
  refine T.d_checked.okN sc_checked (fun vs H Q E h => ?_) (fun f cdv A outer s H vs Q E hr h => ?_)
  · obtain ⟨x, n, ts, y, t, rfl, _⟩ := h; rfl
  · obtain ⟨x, n, ts, y, t, rfl, N, kl, hres⟩ := h
    have hr_is_tie := hr
    have hr_Net_beside := hr
    have n40 := N.hi
    refine ⟨_, (pss_cons (ps_if (pt_not (pt_val (pe_callB (r := rIsi K) call_isi (by rfl) T.n_isinstance boot_isinstance (pa_cons (pv 1) (pa_cons (pe_bltn (v := .ty "list") (by rfl) T.n_list boot_list rfl) pa_nil)))))
      (pss_one (L2N.ps_raise rfl (L2N.takes_of rfl rfl rfl rfl) (L2N.pmk_own PySem.F.excBase_ValueError T.e_BadPairs.x T.e_BadPairs.c T.e_BadPairs.p (raises_own T.e_BadPairs.b T.e_BadPairs.t) (by rfl))))
      pss_nil)
      (pss_cons (ps_set (i := 2) sc_checked.nd rfl (Or.inl rfl) (pe_callTy0 cr_set0 (by rfl) T.n_set boot_set))
      (pss_cons (ps_set (i := 3) sc_checked.nd rfl (Or.inl rfl) (pe_lst pa_nil))
      (pss_cons (ps_for (L2.passes_of rfl) rfl (pi_list (pv 1)) (pg_name (i := 4) sc_checked.nd rfl (Or.inl rfl))
      (pss_cons (ps_if (pt_not (pt_val (Fd.pe_f G_is_tie hr_is_tie (by rfl) (pa_cons (pv 4) (pa_cons (pe_fld (pv 0) rfl) pa_nil)))))
        (pss_one (L2N.ps_raise rfl (L2N.takes_of rfl rfl rfl rfl) (L2N.pmk_own PySem.F.excBase_ValueError T.e_BadPairs.x T.e_BadPairs.c T.e_BadPairs.p (raises_own T.e_BadPairs.b T.e_BadPairs.t) (by rfl))))
        pss_nil)
        (pss_cons (ps_asg (pv 4) (pg_tup rfl (pgs_cons (pg_name (i := 5) sc_checked.nd rfl (Or.inl rfl)) (pgs_cons (pg_name (i := 6) sc_checked.nd rfl (Or.inl rfl)) pgs_nil))))
        (pss_cons (ps_if (pt_cmpR (r := rIn K true) op_notIn_seq (pv 6) (Fd.pe_mN G_Net_beside (pv 0) T.cl_Net hr_Net_beside (L2N.passes_call (L2N.takes_of rfl rfl rfl rfl) fun _ _ _ _ h => h) (pa_cons (pv 5) pa_nil)) (by rfl))
        (pss_one (L2N.ps_raise rfl (L2N.takes_of rfl rfl rfl rfl) (L2N.pmk_own PySem.F.excBase_ValueError T.e_BadPairs.x T.e_BadPairs.c T.e_BadPairs.p (raises_own T.e_BadPairs.b T.e_BadPairs.t) (by rfl))))
        pss_nil)
        (pss_cons (ps_if (PW.pt (pw_or (pt_cmpR or_sin (pv 5) (pv 2) (by rfl)) (pw_or1 (pt_cmpR or_sin (pv 6) (pv 2) (by rfl)))))
        (pss_one (L2N.ps_raise rfl (L2N.takes_of rfl rfl rfl rfl) (L2N.pmk_own PySem.F.excBase_ValueError T.e_BadPairs.x T.e_BadPairs.c T.e_BadPairs.p (raises_own T.e_BadPairs.b T.e_BadPairs.t) (by rfl))))
        pss_nil)
        (pss_cons (ps_expr (pe_sadd (pv 2) (pa_cons (pv 5) pa_nil)))
        (pss_cons (ps_expr (pe_sadd (pv 2) (pa_cons (pv 6) pa_nil)))
        (pss_one (ps_expr (pe_bm PySem.F.plainAttrs_list PySem.F.slot_list_append PySem.F.type_list_append mt_append (pv 3) (pa_cons (pe_tup (pa_cons (pv 5) (pa_cons (pv 6) pa_nil))) pa_nil)))))))))))
      (pss_one (ps_ret (pe_callB cr_sortedPO (by rfl) T.n_sorted boot_sorted (pa_cons (pv 3) pa_nil)))))))), ?_⟩
    dsimp only [cxOf, Cx.nox]
    have bad : ∀ H', Same H H' → (∀ xs, listOf H y = some xs → ¬ OkPairs H n ts xs) → E (.ref c.BadPairs) none H' := fun H' e z => by
      rcases hres with ⟨xs, e1, o, _⟩ | ⟨_, q⟩
      · exact absurd o (z xs e1)
      · exact q H' e
    refine ⟨y, rfl, _, _, _, _, _, rfl, ClsV.ty _, kl.kd.tyx, kit_ty (kit_list t), _, rfl, ?_⟩
    by_cases ct : t = .list
    · subst ct
      rw [decide_eq_true rfl]
      refine iteF ?_
      obtain ⟨l, xs, rfl, hl⟩ := kl.kd.list_of
      have eL := listOf_lst hl
      refine ⟨rfl, fun S hS => ?_⟩
      have s0 : Same H (upd H S (SetO w S (fun _ => false) 0)) := Same.new hS
      have hS0 : upd H S (SetO w S (fun _ => false) 0) S = some (SetO w S (fun _ => false) 0) := upd_same
      generalize upd H S (SetO w S (fun _ => false) 0) = H0 at s0 hS0 ⊢
      refine ⟨Nat.zero_le _, fun F hF => ?_⟩
      have nSF : S ≠ F := ne_of_none hS0 hF
      have hFH : H F = none := s0.free hF
      refine ⟨_, rfl, l, rfl, ⟨xs, SqL.of ((Same.trans s0 (Same.new hF)) _ _ hl)⟩, for_list (K := K) (a := l) (xs := xs) (fun i σ H' => ∃ v4 v5 v6 us, σ = [some (.ref x), some (.ref l), some (.ref S), some (.ref F), v4, v5, v6] ∧ Same H H' ∧ H' S = some (SetO w S (fun j => decide (j ∈ ends ((xs.take i).map (prOf H)))) (ends ((xs.take i).map (prOf H))).length) ∧ H' F = some (.lst us) ∧ NewPrs H H' us ((xs.take i).map (prOf H)) ∧ OkPairs H n ts (xs.take i))
        ⟨none, none, none, [], rfl, Same.trans s0 (Same.new hF), by rw [upd_ne nSF, hS0]; exact congrArg some (setO_eq (fun j => by simp [ends]) rfl), upd_same, .nil, ⟨fun y z => (by simp at z), fun y z => (by simp at z), by simp [ends]⟩⟩ (fun i σ H' _ ⟨_, _, _, _, _, e, _⟩ => SqL.of (e _ _ hl)) ?_ ?_⟩
      · rintro i y σ H2 hi ⟨v4, v5, v6, us, rfl, s2, hS2, hF2, np, ok⟩
        have hy := List.mem_of_getElem? hi
        obtain ⟨u, kt⟩ := kl.its _ eL y hy
        have kt2 := kt.ex s2
        have tk : xs.take (i + 1) = xs.take i ++ [y] := by rw [List.take_succ, hi]; rfl
        have bads : (isTie H y n = true → prOf H y ∈ ts → (prOf H y).1 ∉ ends ((xs.take i).map (prOf H)) → (prOf H y).2 ∉ ends ((xs.take i).map (prOf H)) → False) → ∀ H', Same H H' → E (.ref c.BadPairs) none H' := fun z H' e => bad H' e fun xs' e1 o => by
          rw [eL] at e1; cases e1
          have o2 := o.take (i + 1)
          have o3 := o2.one
          rw [tk, List.map_append, List.map_cons, List.map_nil, ends_snoc] at o3
          have o4 := (List.nodup_append.mp o3).2.2
          exact z (o.all y hy) (o.tied y hy) (fun m => o4 _ m _ List.mem_cons_self rfl) (fun m => o4 _ m _ (List.mem_cons_of_mem _ List.mem_cons_self) rfl)
        obtain ⟨dx2, lt2, ln2, us2, rs2, a2, _⟩ := (N.ex s2).at_
        refine ⟨_, rfl, _, rfl, x, c.Net, dx2, _, _, rfl, a2, T.cl_Net, T.a_Net_size, nf_size _ _ _, y, u, (n : Int), rfl, kt2, _, rfl, ?_⟩
        rw [isTie_ex kt s2]
        cases hp : isTie H y n with
        | false => exact iteT (bads (fun z _ _ _ => by rw [hp] at z; cases z) H2 s2)
        | true =>
          refine iteF ?_
          obtain ⟨tu, tie⟩ := isTie_iff hp
          have cu : u = .tuple := by
            by_cases cu : u = .tuple
            · exact cu
            · rw [tupOf_no kt.kd cu] at tu; cases tu
          subst cu
          obtain ⟨a, zs, rfl, ea⟩ := kt.kd.tup_of
          rw [tupOf_tup ea] at tu
          cases tu
          have mp : (xs.take (i + 1)).map (prOf H) = (xs.take i).map (prOf H) ++ [prOf H (.ref a)] := by rw [tk, List.map_append]; rfl
          have oks := fun h2 h3 h4 => ok.snoc (y := .ref a) hp h2 h3 h4
          rw [← tk] at oks
          have lim := ok.few
          generalize hps : (xs.take i).map (prOf H) = ps at hS2 np mp oks bads ok
          have lps : ps.length = (xs.take i).length := by rw [← hps, List.length_map]
          generalize prOf H (.ref a) = pr at ea tie bads mp oks
          obtain ⟨p1, p2⟩ := pr
          simp only at ea tie bads mp oks
          obtain ⟨t1, t2, t3⟩ := tie
          simp only at t1 t2 t3
          have hb2 := s2 _ _ ea
          refine ⟨_, rfl, a, _, rfl, SqT.of hb2, rfl, _, _, rfl, _, _, rfl, rfl, ?_⟩
          obtain ⟨q1, rfl⟩ : ∃ q1 : Nat, p1 = (q1 : Int) := ⟨p1.toNat, by omega⟩
          refine ⟨_, rfl, _, rfl, x, dx2, _, rfl, a2, nf_beside _ _ _, _, rfl, x, n, ts, _, _, rfl, N.ex s2, .int _, fun i' e hi' D hD => ?_, fun z => ?_⟩
          rotate_left
          · have : isPl (.int (q1 : Int)) n = true := decide_eq_true ⟨by omega, by omega⟩
            rw [this] at z; cases z
          injection e with e
          obtain rfl : q1 = i' := by omega
          have s3 : Same H (upd H2 D (.lst ((nbr ts (q1 : Int)).map V.int))) := Same.trans s2 (Same.new hD)
          have nS : S ≠ D := ne_of_none hS2 hD
          have nF : F ≠ D := ne_of_none hF2 hD
          have hD3 : upd H2 D (.lst ((nbr ts (q1 : Int)).map V.int)) D = some (.lst ((nbr ts (q1 : Int)).map V.int)) := upd_same
          have hS3 : upd H2 D (.lst ((nbr ts (q1 : Int)).map V.int)) S = _ := (upd_ne nS).trans hS2
          have hF3 : upd H2 D (.lst ((nbr ts (q1 : Int)).map V.int)) F = _ := (upd_ne nF).trans hF2
          have np3 : NewPrs H (upd H2 D (.lst ((nbr ts (q1 : Int)).map V.int))) us ps := np.tups fun b ys e => by rw [upd_ne (ne_of_none e hD)]; exact e
          generalize upd H2 D (.lst ((nbr ts (q1 : Int)).map V.int)) = H3 at s3 hD3 hS3 hF3 np3 ⊢
          refine ⟨D, _, rfl, .inl (SqL.of hD3), rfl, flat_ints _, _, rfl, ?_⟩
          rw [inV_ints]
          have hmem : p2 ∈ nbr ts (q1 : Int) ↔ ((q1 : Int), p2) ∈ ts := by
            rw [nbr_mem N.tie]
            refine ⟨fun z => z.elim id fun z => ?_, .inl⟩
            have := (N.tie _ z).2.1
            simp only at this; omega
          by_cases cb : p2 ∈ nbr ts (q1 : Int)
          · rw [decide_eq_true cb]
            refine iteF ?_
            have inT := hmem.mp cb
            refine ⟨_, rfl, _, rfl, (q1 : Int), S, _, _, rfl, rfl, hS3, _, rfl, ?_⟩
            by_cases c1 : (q1 : Int) ∈ ends ps
            · rw [decide_eq_true c1]
              refine iteT ?_
              exact iteT (bads (fun _ _ z _ => z c1) H3 s3)
            · rw [decide_eq_false c1]
              refine iteF ⟨_, rfl, _, rfl, p2, S, _, _, rfl, rfl, hS3, _, rfl, ?_⟩
              by_cases c2 : p2 ∈ ends ps
              · rw [decide_eq_true c2]
                exact iteT (bads (fun _ _ _ z => z c2) H3 s3)
              · rw [decide_eq_false c2]
                refine iteF ?_
                have lz : ps.length ≤ 20 := by omega
                have el := ends_len ps
                refine ⟨_, rfl, ⟨S, _, _, rfl, hS3⟩, _, rfl, S, (q1 : Int), _, _, rfl, rfl, hS3, (by show (ends ps).length + 1 < scanBound; unfold scanBound; omega), ?_⟩
                rw [if_neg (show ¬ decide ((q1 : Int) ∈ ends ps) = true from fun z => c1 (of_decide_eq_true z))]
                have ne21 : ¬ p2 = (q1 : Int) := by omega
                refine ⟨_, rfl, ⟨S, _, _, rfl, upd_same⟩, _, rfl, S, p2, _, _, rfl, rfl, upd_same, (by show (ends ps).length + 1 + 1 < scanBound; unfold scanBound; omega), ?_⟩
                rw [if_neg (show ¬ (decide (p2 ∈ ends ps) || decide (p2 = (q1 : Int))) = true by rw [decide_eq_false c2, decide_eq_false ne21]; exact Bool.false_ne_true)]
                have hS4 : upd (upd H3 S (SetO w S (fun j => decide (j ∈ ends ps) || decide (j = (q1 : Int))) ((ends ps).length + 1))) S (SetO w S (fun j => (decide (j ∈ ends ps) || decide (j = (q1 : Int))) || decide (j = p2)) ((ends ps).length + 1 + 1)) S = some (SetO w S (fun j => decide (j ∈ ends (ps ++ [((q1 : Int), p2)]))) (ends (ps ++ [((q1 : Int), p2)])).length) := by
                  rw [upd_same]
                  refine congrArg some (setO_eq (fun j => ?_) ?_)
                  · rw [ends_snoc]
                    simp only [List.mem_append, List.mem_cons, List.not_mem_nil, or_false]
                    by_cases d1 : j ∈ ends ps
                    · simp [d1]
                    · simp [d1]
                  · rw [ends_snoc, List.length_append]; rfl
                have s4 : Same H (upd (upd H3 S (SetO w S (fun j => decide (j ∈ ends ps) || decide (j = (q1 : Int))) ((ends ps).length + 1))) S (SetO w S (fun j => (decide (j ∈ ends ps) || decide (j = (q1 : Int))) || decide (j = p2)) ((ends ps).length + 1 + 1))) := Same.mut (Same.mut s3 hS) hS
                have hF4 : upd (upd H3 S (SetO w S (fun j => decide (j ∈ ends ps) || decide (j = (q1 : Int))) ((ends ps).length + 1))) S (SetO w S (fun j => (decide (j ∈ ends ps) || decide (j = (q1 : Int))) || decide (j = p2)) ((ends ps).length + 1 + 1)) F = some (.lst us) := by rw [upd_ne nSF.symm, upd_ne nSF.symm]; exact hF3
                have np4 : NewPrs H (upd (upd H3 S (SetO w S (fun j => decide (j ∈ ends ps) || decide (j = (q1 : Int))) ((ends ps).length + 1))) S (SetO w S (fun j => (decide (j ∈ ends ps) || decide (j = (q1 : Int))) || decide (j = p2)) ((ends ps).length + 1 + 1))) us ps := np3.tups fun b ys e => by
                  have nb : b ≠ S := fun z => by rw [z, hS3] at e; cases e
                  rw [upd_ne nb, upd_ne nb]; exact e
                generalize upd (upd H3 S (SetO w S (fun j => decide (j ∈ ends ps) || decide (j = (q1 : Int))) ((ends ps).length + 1))) S (SetO w S (fun j => (decide (j ∈ ends ps) || decide (j = (q1 : Int))) || decide (j = p2)) ((ends ps).length + 1 + 1)) = H4 at s4 hS4 hF4 np4 ⊢
                refine ⟨_, rfl, .inl ⟨rfl, _, SqL.of hF4⟩, _, rfl, _, rfl, (by show 2 ≤ sizeLine; decide), fun r hr' => ?_⟩
                have nFr : F ≠ r := ne_of_none hF4 hr'
                have nSr : S ≠ r := ne_of_none hS4 hr'
                have lus := np4.len
                refine ⟨F, us, _, rfl, rfl, by rw [upd_ne nFr]; exact hF4, by rw [sizeLine_eq]; omega, ?_⟩
                refine ⟨_, _, _, us ++ [.ref r], rfl, Same.mut (Same.trans s4 (Same.new hr')) hFH, by rw [upd_ne nSF, upd_ne nSr, mp]; exact hS4, upd_same, ?_, oks inT c1 c2⟩
                rw [mp]
                refine NewPrs.snoc (np4.tups fun b ys e => ?_) ⟨r, rfl, s4.free hr', by rw [upd_ne nFr.symm]; exact upd_same⟩
                rw [upd_ne (ne_of e hF4 (fun z => nomatch z)), upd_ne (ne_of_none e hr')]; exact e
          · rw [decide_eq_false cb]
            exact iteT (bads (fun _ z _ _ => cb (hmem.mpr z)) H3 s3)
      · rintro σ H2 ⟨v4, v5, v6, us, rfl, s2, hS2, hF2, np, ok⟩
        rw [List.take_length] at np ok hS2
        rcases hres with ⟨xs', e, _, q⟩ | ⟨z, _⟩
        · rw [eL] at e; cases e
          have few := ok.few
          have prs := np.prs
          refine ⟨_, rfl, F, us, prOf H2, rfl, SqL.of hF2, fun v hv => ?_, fun ys r sd sb hr' => ?_⟩
          · obtain ⟨j, hj⟩ := List.getElem?_of_mem hv
            obtain ⟨pq, b, _, rfl, e⟩ := prs.get hj
            have e2 : prOf H2 (.ref b) = pq := by unfold prOf; rw [tupOf_tup e]
            exact ⟨b, rfl, by rw [e2]; exact e⟩
          · have pm : (ys.map (prOf H2)).Perm (xs.map (prOf H)) := by
              have h1 := sb.perm.map (prOf H2)
              have h2 : us.map (prOf H2) = xs.map (prOf H) := prs.prOf
              rw [h2] at h1; exact h1
            have nd : (ys.map (prOf H2)).Nodup := pm.nodup_iff.mpr (ends_nd ok.one)
            refine q (ys.map (prOf H2)) r ys _ pm ?_ (s2.free hr') (Same.trans s2 (Same.new hr')) upd_same ?_
            · refine List.pairwise_map.mpr ?_
              exact (sd.and (List.pairwise_map.mp nd)).imp fun {a b} h => ltP_plt h.1 h.2
            · have key : ∀ M : List V, (∀ v ∈ M, v ∈ us) → NewPrs H (upd H2 r (.lst ys)) M (M.map (prOf H2)) := by
                intro M
                induction M with
                | nil => intro _; exact .nil
                | cons v M ih =>
                  intro hM
                  obtain ⟨j, hj⟩ := List.getElem?_of_mem (hM v List.mem_cons_self)
                  refine .cons ?_ (ih fun y hy => hM y (List.mem_cons_of_mem _ hy))
                  obtain ⟨a, e1, e2, e3⟩ := np.item hj
                  exact ⟨a, e1, e2, by rw [upd_ne (ne_of_none e3 hr')]; exact e3⟩
              exact key ys fun v hv => sb.perm.mem_iff.mp hv
        · exact absurd ok (z xs eL)
    · rw [decide_eq_false ct]
      refine iteT ?_
      exact bad H (Same.refl H) fun xs e => by rw [listOf_no kl.kd ct] at e; cases e
end
end Od

namespace Od
open PySem PySem.Spec PyProof.Rows L2
def mst (i : Int) (acc : V) (p : Pr) : V := if p.1 = i then .int p.2 else if p.2 = i then .int p.1 else acc
/-- the one that i is paired with, None where it is alone -/
def mateOf (ps : List Pr) (i : Int) : V := ps.foldl (mst i) .non
theorem mateOf_snoc (ps : List Pr) (p : Pr) (i : Int) : mateOf (ps ++ [p]) i = mst i (mateOf ps i) p := by
  unfold mateOf; rw [List.foldl_append]; rfl
theorem mst_non {i : Int} {acc : V} {p : Pr} : mst i acc p = .non ↔ acc = .non ∧ p.1 ≠ i ∧ p.2 ≠ i := by
  unfold mst
  by_cases a : p.1 = i
  · rw [if_pos a]; exact ⟨(fun z => by cases z), fun z => absurd a z.2.1⟩
  · rw [if_neg a]
    by_cases b : p.2 = i
    · rw [if_pos b]; exact ⟨(fun z => by cases z), fun z => absurd b z.2.2⟩
    · rw [if_neg b]; exact ⟨fun z => ⟨z, a, b⟩, fun z => z.1⟩
theorem mate_fold (i : Int) : ∀ (ps : List Pr) (acc : V), ps.foldl (mst i) acc = .non ↔ acc = .non ∧ i ∉ ends ps
  | [], acc => ⟨fun z => ⟨z, List.not_mem_nil⟩, fun z => z.1⟩
  | p :: ps, acc => by
    rw [List.foldl_cons, mate_fold i ps, mst_non]
    show _ ↔ acc = .non ∧ i ∉ p.1 :: p.2 :: ends ps
    simp only [List.mem_cons, not_or]
    constructor
    · rintro ⟨⟨a, b, c⟩, d⟩; exact ⟨a, fun e => b e.symm, fun e => c e.symm, d⟩
    · rintro ⟨a, b, c, d⟩; exact ⟨⟨a, fun e => b e.symm, fun e => c e.symm⟩, d⟩
theorem mate_non {ps : List Pr} {i : Int} : mateOf ps i = .non ↔ i ∉ ends ps := by
  unfold mateOf; rw [mate_fold]; exact ⟨fun z => z.2, fun z => ⟨rfl, z⟩⟩
theorem mate_kind (ps : List Pr) (i : Int) : mateOf ps i = .non ∨ ∃ k, mateOf ps i = .int k := by
  unfold mateOf
  have key : ∀ (ps : List Pr) (acc : V), (acc = .non ∨ ∃ k, acc = .int k) → (ps.foldl (mst i) acc = .non ∨ ∃ k, ps.foldl (mst i) acc = .int k) := fun ps => by
    induction ps with
    | nil => exact fun _ h => h
    | cons p ps ih =>
      intro acc h
      refine ih _ ?_
      unfold mst
      by_cases a : p.1 = i
      · rw [if_pos a]; exact .inr ⟨_, rfl⟩
      · rw [if_neg a]
        by_cases b : p.2 = i
        · rw [if_pos b]; exact .inr ⟨_, rfl⟩
        · rw [if_neg b]; exact h
  exact key ps .non (.inl rfl)
def mrow (n : Nat) (ps : List Pr) : List V := (List.range n).map fun i : Nat => mateOf ps (i : Int)
theorem mrow_len (n : Nat) (ps : List Pr) : (mrow n ps).length = n := by unfold mrow; rw [List.length_map, List.length_range]
theorem mrow_at {n : Nat} {ps : List Pr} {i : Nat} (h : i < n) : (mrow n ps)[i]? = some (mateOf ps (i : Int)) := by
  unfold mrow; rw [List.getElem?_map, List.getElem?_range h]; rfl
theorem mrow_snoc {n : Nat} {ps : List Pr} {a b : Nat} (ha : a < n) (hb : b < n) (hab : a ≠ b) : ((mrow n ps).set a (.int (b : Int))).set b (.int (a : Int)) = mrow n (ps ++ [((a : Int), (b : Int))]) := by
  refine List.ext_getElem? fun i => ?_
  by_cases hi : i < n
  · rw [mrow_at hi, mateOf_snoc]
    unfold mst
    by_cases c1 : i = b
    · subst c1
      rw [List.getElem?_set_self (by rw [List.length_set, mrow_len]; exact hi), if_neg (by simp only; omega), if_pos rfl]
    · rw [List.getElem?_set_ne (fun z => c1 z.symm)]
      by_cases c2 : i = a
      · subst c2
        rw [List.getElem?_set_self (by rw [mrow_len]; exact hi), if_pos rfl]
      · rw [List.getElem?_set_ne (fun z => c2 z.symm), mrow_at hi, if_neg (by simp only; omega), if_neg (by simp only; omega)]
  · rw [List.getElem?_eq_none (by rw [List.length_set, List.length_set, mrow_len]; omega), List.getElem?_eq_none (by rw [mrow_len]; omega)]
theorem OkPairs.ex {H H' : Hp} {n : Int} {ts : List Pr} {xs : List V} (k : ∀ y ∈ xs, ∃ u, Kt H y u) (e : Same H H') : OkPairs H' n ts xs ↔ OkPairs H n ts xs := by
  have ep := prs_ex k e
  have ei : ∀ y ∈ xs, isTie H' y n = isTie H y n := fun y hy => by
    obtain ⟨u, q⟩ := k y hy
    exact isTie_ex q e
  have ef : ∀ y ∈ xs, prOf H' y = prOf H y := fun y hy => by
    obtain ⟨u, q⟩ := k y hy
    exact prOf_ex q.kd e
  constructor
  · intro o
    exact ⟨fun y hy => by rw [← ei y hy]; exact o.all y hy, fun y hy => by rw [← ef y hy]; exact o.tied y hy, by rw [← ep]; exact o.one⟩
  · intro o
    exact ⟨fun y hy => by rw [ei y hy]; exact o.all y hy, fun y hy => by rw [ef y hy]; exact o.tied y hy, by rw [ep]; exact o.one⟩
theorem no_later {H H1 : Hp} {n : Nat} {ts : List Pr} {y : V} {t : Ty} (kl : Kl H y t) (s1 : Same H H1) (z : ∀ xs, listOf H y = some xs → ¬ OkPairs H n ts xs) : ∀ xs, listOf H1 y = some xs → ¬ OkPairs H1 n ts xs := fun xs e o => by
  rw [listOf_ex kl.kd s1] at e
  exact z xs e ((OkPairs.ex (kl.its xs e) s1).mp o)
theorem ixn {n j : Nat} (h : j < n) : ixN n (j : Int) = some j := by
  unfold ixN; rw [if_pos (by omega), if_pos (by omega), Int.toNat_natCast]
def spMates (C B : Addr) : Sp := fun vs H Q E => ∃ (x : Addr) (n : Nat) (ts : List Pr) (y : V) (t : Ty), vs = [.ref x, y] ∧ NetAt C H x n ts ∧ Kl H y t ∧
  ((∃ xs, listOf H y = some xs ∧ OkPairs H n ts xs ∧ ∀ (qs : List Pr) (p : Addr) (H' : Hp), qs.Perm (xs.map (prOf H)) → qs.Pairwise plt → H p = none → Same H H' → H' p = some (.lst (mrow n qs)) → Q (.ref p) H') ∨
  ((∀ xs, listOf H y = some xs → ¬ OkPairs H n ts xs) ∧ ∀ H', Same H H' → E (.ref B) none H'))
def spAlone (C B : Addr) : Sp := fun vs H Q E => ∃ (x : Addr) (n : Nat) (ts : List Pr) (y : V) (t : Ty), vs = [.ref x, y] ∧ NetAt C H x n ts ∧ Kl H y t ∧
  ((∃ xs, listOf H y = some xs ∧ OkPairs H n ts xs ∧ ∀ (ns : List Int) (p : Addr) (H' : Hp), ns.Pairwise (· < ·) → (∀ q : Int, q ∈ ns ↔ 0 ≤ q ∧ q < (n : Int) ∧ q ∉ ends (xs.map (prOf H))) → H p = none → Same H H' → H' p = some (.lst (ns.map V.int)) → Q (.ref p) H') ∨
  ((∀ xs, listOf H y = some xs → ¬ OkPairs H n ts xs) ∧ ∀ H', Same H H' → E (.ref B) none H'))
section
variable {P : Program} {w : World} {K : PySem.W.Frag} {mg : Str → Option Value} {c : Cs} {base : Heap}
theorem ok_mates (T : Top K mg c) : Fd.Has P w K mg base (L2N.CX P w) 5 "mates_in" ["net", "pairs"] (spMates c.Net c.BadPairs) := by
  have G_checked : Fd.Has P w K mg base (L2N.CX P w) 4 "checked" ["net", "pairs"] (spChecked c.Net c.BadPairs) := ok_checked T
  refine T.d_mates_in.okN sc_mates_in (fun vs H Q E h => ?_) (fun f cdv A outer s H vs Q E hr h => ?_)
  · obtain ⟨x, n, ts, y, t, rfl, _⟩ := h; rfl
  · obtain ⟨x, n, ts, y, t, rfl, N, kl, hres⟩ := h
    have hr_checked := hr
    have n40 := N.hi
    refine ⟨_, (pss_cons (ps_set (i := 2) sc_mates_in.nd rfl (Or.inl rfl) (pe_op op_rep (pe_lst (pa_cons pe_non pa_nil)) (pe_fld (pv 0) rfl)))
      (pss_cons (ps_for (L2.passes_of rfl) rfl (pi_list (Fd.pe_fN G_checked hr_checked (by rfl) (L2N.passes_call (L2N.takes_of rfl rfl rfl rfl) fun _ _ _ _ h => h) (pa_cons (pv 0) (pa_cons (pv 1) pa_nil)))) (pg_tup rfl (pgs_cons (pg_name (i := 3) sc_mates_in.nd rfl (Or.inl rfl)) (pgs_cons (pg_name (i := 4) sc_mates_in.nd rfl (Or.inl rfl)) pgs_nil)))
      (pss_cons (ps_asg (pv 4) (pg_sub (pv 2) (pv 3) set_list))
        (pss_one (ps_asg (pv 3) (pg_sub (pv 2) (pv 4) set_list)))))
      (pss_one (ps_ret (pv 2))))), ?_⟩
    refine ⟨(by show 1 ≤ sizeLine; decide), fun p0 hp0 => ?_⟩
    have s0 : Same H (upd H p0 (.lst [.non])) := Same.new hp0
    obtain ⟨dx, lt, ln, us, rs, a1, _⟩ := (N.ex s0).at_
    refine ⟨_, rfl, x, c.Net, dx, _, _, rfl, a1, T.cl_Net, T.a_Net_size, nf_size _ _ _, p0, (n : Int), [.non], rfl, rfl, upd_same, by omega, by omega, by rw [sizeLine_eq]; show 1 * (n : Int).toNat ≤ _; omega, fun M hM => ?_⟩
    have eM : (List.replicate ((n : Int).toNat) [V.non]).flatten = mrow n [] := by
      rw [Int.toNat_natCast]
      refine List.flatten_replicate_singleton.trans ?_
      refine List.ext_getElem? fun i => ?_
      by_cases hi : i < n
      · rw [mrow_at hi, List.getElem?_replicate, if_pos hi]; rfl
      · rw [List.getElem?_replicate, if_neg hi, List.getElem?_eq_none (by rw [mrow_len]; omega)]
    rw [eM]
    have hMH : H M = none := s0.free hM
    have s1 : Same H (upd (upd H p0 (.lst [.non])) M (.lst (mrow n []))) := Same.trans s0 (Same.new hM)
    have hM1 : upd (upd H p0 (.lst [.non])) M (.lst (mrow n [])) M = some (.lst (mrow n [])) := upd_same
    generalize upd (upd H p0 (.lst [.non])) M (.lst (mrow n [])) = H1 at s1 hM1 ⊢
    rcases hres with ⟨xs, e, o, q⟩ | ⟨z, q⟩
    · refine ⟨_, rfl, _, rfl, x, n, ts, y, t, rfl, N.ex s1, kl.ex s1, .inl ⟨xs, by rw [listOf_ex kl.kd s1]; exact e, (OkPairs.ex (kl.its xs e) s1).mpr o, fun qs p us H2 pm up hp s2 hp2 np => ?_⟩⟩
      rw [prs_ex (kl.its xs e) s1] at pm
      have prs := np.prs
      have tie : ∀ pq ∈ qs, Tie n pq := fun pq hq => o.tie pq (pm.mem_iff.mp hq)
      have npM : p ≠ M := fun z => by rw [z, hM1] at hp; cases hp
      refine ⟨p, rfl, ⟨_, SqL.of hp2⟩, for_list (K := K) (a := p) (xs := us) (fun i σ H' => ∃ v3 v4, σ = [some (.ref x), some y, some (.ref M), v3, v4] ∧ Same H H' ∧ H' M = some (.lst (mrow n (qs.take i))) ∧ H' p = some (.lst us) ∧ Prs H' us qs)
        ⟨none, none, rfl, Same.trans s1 s2, s2 _ _ hM1, hp2, prs⟩ (fun i σ H' _ ⟨_, _, _, _, _, e, _⟩ => SqL.of e) ?_ ?_⟩
      · rintro i v σ H3 hi ⟨v3, v4, rfl, s3, hM3, hp3, pr3⟩
        obtain ⟨pq, b, hq, rfl, e3⟩ := pr3.get hi
        obtain ⟨t1, t2, t3⟩ := tie pq (List.mem_of_getElem? hq)
        obtain ⟨q1, q2⟩ := pq
        simp only at t1 t2 t3 e3
        obtain ⟨m1, rfl⟩ : ∃ m : Nat, q1 = (m : Int) := ⟨q1.toNat, by omega⟩
        obtain ⟨m2, rfl⟩ : ∃ m : Nat, q2 = (m : Int) := ⟨q2.toNat, by omega⟩
        have tk : qs.take (i + 1) = qs.take i ++ [((m1 : Int), (m2 : Int))] := by rw [List.take_succ, hq]; rfl
        refine ⟨b, _, rfl, SqT.of e3, rfl, _, _, rfl, _, _, rfl, rfl, ?_⟩
        refine ⟨_, rfl, _, rfl, _, rfl, M, _, (m1 : Int), m1, rfl, rfl, hM3, ixn (by rw [mrow_len]; omega), ?_⟩
        refine ⟨_, rfl, _, rfl, _, rfl, M, _, (m2 : Int), m2, rfl, rfl, upd_same, ixn (by rw [List.length_set, mrow_len]; omega), ?_⟩
        refine ⟨_, _, rfl, Same.mut (Same.mut s3 hMH) hMH, ?_, by rw [upd_ne npM, upd_ne npM]; exact hp3, pr3.tups fun c' ys e => ?_⟩
        · rw [upd_same, tk, mrow_snoc (by omega) (by omega) (by omega)]
        · have nc : c' ≠ M := ne_of e hM3 (fun z => nomatch z)
          rw [upd_ne nc, upd_ne nc]; exact e
      · rintro σ H3 ⟨v3, v4, rfl, s3, hM3, hp3, pr3⟩
        rw [prs.len, List.take_length] at hM3
        exact ⟨_, rfl, q qs M H3 pm up hMH s3 hM3⟩
    · exact ⟨_, rfl, _, rfl, x, n, ts, y, t, rfl, N.ex s1, kl.ex s1, .inr ⟨no_later kl s1 z, fun H' e => q H' (Same.trans s1 e)⟩⟩
end
end Od

namespace Od
open PySem PySem.Spec PyProof.Rows L2
/-- a list of places, none of them twice -/
def ArePl (H : Hp) (y : V) (n : Int) (ms : List Int) : Prop := listOf H y = some (ms.map V.int) ∧ (∀ m ∈ ms, 0 ≤ m ∧ m < n) ∧ ms.Nodup
/-- its kind, and the kinds of a list's items -/
structure Ki (H : Hp) (x : V) (t : Ty) : Prop where
  kd : Kd H x t
  its : ∀ xs, listOf H x = some xs → xs.length ≤ 1000 ∧ ∀ y ∈ xs, ∃ u, Kd H y u
theorem places_ints {n : Int} : ∀ {xs : List V}, (∀ v ∈ xs, isPl v n = true) → ∃ ms : List Int, xs = ms.map V.int ∧ ∀ m ∈ ms, 0 ≤ m ∧ m < n
  | [], _ => ⟨[], rfl, fun m hm => by cases hm⟩
  | v :: xs, h => by
    obtain ⟨i, rfl, a, b⟩ := isPl_int (h v List.mem_cons_self)
    obtain ⟨ms, e, r⟩ := places_ints fun z hz => h z (List.mem_cons_of_mem _ hz)
    refine ⟨i :: ms, by rw [e]; rfl, fun m hm => ?_⟩
    rcases List.mem_cons.mp hm with rfl | hm
    · exact ⟨a, b⟩
    · exact r m hm
theorem map_int_inj : ∀ {a b : List Int}, a.map V.int = b.map V.int → a = b
  | [], [], _ => rfl
  | [], _ :: _, h => by cases h
  | _ :: _, [], h => by cases h
  | x :: a, y :: b, h => by
    rw [List.map_cons, List.map_cons] at h
    injection h with h1 h2
    injection h1 with h1
    rw [h1, map_int_inj h2]
def spArePl (C : Addr) : Sp := fun vs H Q _ => ∃ (x : Addr) (n : Nat) (ts : List Pr) (y : V) (t : Ty), vs = [.ref x, y] ∧ NetAt C H x n ts ∧ Ki H y t ∧
  (∀ ms, ArePl H y n ms → Q (.bl true) H) ∧ ((∀ ms, ¬ ArePl H y n ms) → Q (.bl false) H)
section
variable {P : Program} {w : World} {K : PySem.W.Frag} {mg : Str → Option Value} {c : Cs} {base : Heap}
theorem ok_are_places (T : Top K mg c) : Fd.Has P w K mg base CX0 3 "are_places" ["net", "way"] (spArePl c.Net) := by
  have G_is_place : Fd.Has P w K mg base CX0 2 "is_place" ["thing", "size"] spPlace := ok_is_place T
  refine T.d_are_places.ok sc_are_places (fun vs H Q E h => ?_) (fun f cdv A outer s H vs Q E hr h => ?_)
  · obtain ⟨x, n, ts, y, t, rfl, _⟩ := h; rfl
  · obtain ⟨x, n, ts, y, t, rfl, N, ki, qt, qf⟩ := h
    have hr_is_place := hr
    obtain ⟨dx, lt, ln, us, rs, a1, _⟩ := N.at_
    refine ⟨_, (pss_cons (ps_if (pt_not (pt_val (pe_callB (r := rIsi K) call_isi (by rfl) T.n_isinstance boot_isinstance (pa_cons (pv 1) (pa_cons (pe_bltn (v := .ty "list") (by rfl) T.n_list boot_list rfl) pa_nil)))))
      (pss_one (ps_ret pe_bl))
      pss_nil)
      (pss_cons (ps_for PassesOwn.never rfl (pi_list (pv 1)) (pg_name (i := 2) sc_are_places.nd rfl (Or.inl rfl))
      (pss_one (ps_if (pt_not (pt_val (Fd.pe_f G_is_place hr_is_place (by rfl) (pa_cons (pv 2) (pa_cons (pe_fld (pv 0) rfl) pa_nil)))))
        (pss_one (ps_ret pe_bl))
        pss_nil)))
      (pss_one (ps_ret (pe_cmpR op_eq (St2.pe_lenD (by rfl) T.n_len (by rfl) T.n_set (pv 1)) (pe_callB call_len_seq (by rfl) T.n_len boot_len (pa_cons (pv 1) pa_nil)) (nomark _)))))), ?_⟩
    refine ⟨y, rfl, _, _, _, _, _, rfl, ClsV.ty _, ki.kd.tyx, kit_ty (kit_list t), _, rfl, ?_⟩
    by_cases ct : t = .list
    · subst ct
      rw [decide_eq_true rfl]
      refine iteF ?_
      obtain ⟨l, xs, rfl, hl⟩ := ki.kd.list_of
      have eL := listOf_lst hl
      obtain ⟨lx, kx⟩ := ki.its _ eL
      refine ⟨_, rfl, l, rfl, ⟨xs, SqL.of hl⟩, for_list (K := K) (a := l) (xs := xs) (fun i σ H' => ∃ v2, σ = [some (.ref x), some (.ref l), v2] ∧ H' = H ∧ ∀ v ∈ xs.take i, isPl v n = true)
        ⟨none, rfl, rfl, fun v hv => (by rw [List.take_zero] at hv; cases hv)⟩ (fun i σ H' _ ⟨_, _, e, _⟩ => SqL.of (by rw [e]; exact hl)) ?_ ?_⟩
      · rintro i v σ H' hi ⟨v2, rfl, rfl, al⟩
        have hv := List.mem_of_getElem? hi
        obtain ⟨u, kd⟩ := kx v hv
        have tk : xs.take (i + 1) = xs.take i ++ [v] := by rw [List.take_succ, hi]; rfl
        refine ⟨_, rfl, _, rfl, x, c.Net, dx, _, _, rfl, a1, T.cl_Net, T.a_Net_size, nf_size _ _ _, v, u, (n : Int), rfl, kd, _, rfl, ?_⟩
        cases hp : isPl v n with
        | false =>
          refine iteT (qf fun ms a => ?_)
          obtain ⟨e1, r, _⟩ := a
          rw [eL] at e1; cases e1
          obtain ⟨m, hm, rfl⟩ := List.mem_map.mp hv
          have : isPl (.int m) n = true := decide_eq_true (r m hm)
          rw [this] at hp; cases hp
        | true =>
          refine iteF ⟨_, rfl, rfl, fun z hz => ?_⟩
          rw [tk] at hz
          rcases List.mem_append.mp hz with z' | z'
          · exact al z z'
          · rw [List.mem_singleton.mp z']; exact hp
      · rintro σ H' ⟨v2, rfl, rfl, al⟩
        rw [List.take_length] at al
        obtain ⟨ms, rfl, rg⟩ := places_ints al
        rw [List.length_map] at lx
        refine ⟨_, rfl, l, ms, rfl, SqL.of hl, by omega, _, rfl, l, _, rfl, .inl (SqL.of hl), rfl, ?_⟩
        rw [vint, List.length_map]
        by_cases nd : ms.Nodup
        · rw [decide_eq_true (by rw [St2.dist_nd nd])]
          exact qt ms ⟨eL, rg, nd⟩
        · rw [decide_eq_false (fun z => nd (St2.dist_iff.mp (by omega)))]
          refine qf fun ms' a => ?_
          obtain ⟨e1, _, nd'⟩ := a
          rw [eL] at e1
          have e2 := map_int_inj (Option.some.inj e1)
          rw [e2] at nd; exact nd nd'
    · rw [decide_eq_false ct]
      refine iteT (qf fun ms a => ?_)
      obtain ⟨e1, _⟩ := a
      rw [listOf_no ki.kd ct] at e1; cases e1
end
end Od

namespace Od
open PySem PySem.Spec PyProof.Rows L2
/-- a way for the pairing qs -/
structure IsWay (n : Nat) (ts qs : List Pr) (ms : List Int) : Prop where
  rg : ∀ m ∈ ms, 0 ≤ m ∧ m < (n : Int)
  nd : ms.Nodup
  pos : 0 < ms.length
  even : ms.length % 2 = 0
  fst : ∀ m, ms[0]? = some m → mateOf qs m = .non
  lst : ∀ m, ms[ms.length - 1]? = some m → mateOf qs m = .non
  go : ∀ (i : Nat) (a b : Int), ms[i]? = some a → ms[i + 1]? = some b → b ∈ nbr ts a ∧ (mateOf qs a = .int b ↔ i % 2 = 1)
def Way (H : Hp) (y : V) (n : Nat) (ts qs : List Pr) (ms : List Int) : Prop := listOf H y = some (ms.map V.int) ∧ IsWay n ts qs ms
def spIsWay (C : Addr) : Sp := fun vs H Q _ => ∃ (x m : Addr) (n : Nat) (ts qs : List Pr) (y : V) (t : Ty), vs = [.ref x, .ref m, y] ∧ NetAt C H x n ts ∧ H m = some (.lst (mrow n qs)) ∧ Ki H y t ∧
  (∀ ms, Way H y n ts qs ms → ∀ H', Same H H' → Q (.bl true) H') ∧ ((∀ ms, ¬ Way H y n ts qs ms) → ∀ H', Same H H' → Q (.bl false) H')
section
variable {P : Program} {w : World} {K : PySem.W.Frag} {mg : Str → Option Value} {c : Cs} {base : Heap}
theorem ok_is_way (T : Top K mg c) : Fd.Has P w K mg base CX0 4 "is_way" ["net", "mates", "way"] (spIsWay c.Net) := by
  have G_are_places : Fd.Has P w K mg base CX0 3 "are_places" ["net", "way"] (spArePl c.Net) := ok_are_places T
  have G_Net_beside : Fd.MHas P w K mg base (L2N.CX P w) 3 c.Net "beside" ["self", "place"] (spBeside c.Net c.NoPlace) := ok_beside T
  refine T.d_is_way.ok sc_is_way (fun vs H Q E h => ?_) (fun f cdv A outer s H vs Q E hr h => ?_)
  · obtain ⟨x, m, n, ts, qs, y, t, rfl, _⟩ := h; rfl
  · obtain ⟨x, m, n, ts, qs, y, t, rfl, N, hm, ki, qt, qf⟩ := h
    have hr_are_places := hr
    have hr_Net_beside := hr
    have n40 := N.hi
    refine ⟨_, (pss_cons (ps_if (PW.pt (pw_or (pt_not (pt_val (Fd.pe_f G_are_places hr_are_places (by rfl) (pa_cons (pv 0) (pa_cons (pv 2) pa_nil))))) (pw_or (pt_cmpR op_eq (pe_callB call_len_seq (by rfl) T.n_len boot_len (pa_cons (pv 2) pa_nil)) pe_int (nomark _)) (pw_or1 (pt_cmpR op_eq (pe_op op_mod (pe_callB call_len_seq (by rfl) T.n_len boot_len (pa_cons (pv 2) pa_nil)) pe_int) pe_int (nomark _))))))
      (pss_one (ps_ret pe_bl))
      pss_nil)
      (pss_cons (ps_if (PW.pt (pw_or (pt_cmpR op_notN (pe_ix ix_list (pv 1) (pe_ix ix_list (pv 2) pe_int (fun _ _ => rfl)) (fun _ _ => rfl)) pe_non (nomark _)) (pw_or1 (pt_cmpR op_notN (pe_ix ix_list (pv 1) (pe_ix ix_list (pv 2) (pe_un un_neg pe_int) (fun _ _ => rfl)) (fun _ _ => rfl)) pe_non (nomark _)))))
      (pss_one (ps_ret pe_bl))
      pss_nil)
      (pss_cons (ps_for PassesOwn.never rfl (pi_range1 (by rfl) T.n_range (pa_cons (pe_op op_sub (pe_callB call_len_seq (by rfl) T.n_len boot_len (pa_cons (pv 2) pa_nil)) pe_int) pa_nil)) (pg_name (i := 3) sc_is_way.nd rfl (Or.inl rfl))
      (pss_cons (ps_set (i := 4) sc_is_way.nd rfl (Or.inl rfl) (pe_ix ix_list (pv 2) (pv 3) (fun _ _ => rfl)))
        (pss_cons (ps_set (i := 5) sc_is_way.nd rfl (Or.inl rfl) (pe_ix ix_list (pv 2) (pe_op op_add (pv 3) pe_int) (fun _ _ => rfl)))
        (pss_cons (ps_if (pt_cmpR (r := rIn K true) op_notIn_seq (pv 5) (Fd.pe_mN G_Net_beside (pv 0) T.cl_Net hr_Net_beside Fd.pass00 (pa_cons (pv 4) pa_nil)) (by rfl))
        (pss_one (ps_ret pe_bl))
        pss_nil)
        (pss_one (ps_if (pt_cmpR op_ne (pe_cmpR op_eq (pe_ix ix_list (pv 1) (pv 4) (fun _ _ => rfl)) (pv 5) (nomark _)) (pe_cmpR op_eq (pe_op op_mod (pv 3) pe_int) pe_int (nomark _)) (nomark _))
        (pss_one (ps_ret pe_bl))
        pss_nil))))))
      (pss_one (ps_ret pe_bl))))), ?_⟩
    refine ⟨_, rfl, _, rfl, x, n, ts, y, t, rfl, N, ki, fun ms ap => ?_, fun no => ?_⟩
    rotate_left
    · refine ⟨_, rfl, iteT ?_⟩
      refine iteT (qf (fun ms wy => no ms ⟨wy.1, wy.2.rg, wy.2.nd⟩) H (Same.refl H))
    · refine ⟨_, rfl, iteF ?_⟩
      obtain ⟨eL, rg, nd⟩ := ap
      obtain ⟨l, rfl, hl⟩ : ∃ l, y = .ref l ∧ H l = some (.lst (ms.map V.int)) := by
        cases t with
        | list =>
          obtain ⟨l, xs, rfl, hl⟩ := ki.kd.list_of
          rw [listOf_lst hl] at eL; cases eL
          exact ⟨l, rfl, hl⟩
        | _ => rw [listOf_no ki.kd (by decide)] at eL; cases eL
      have uni : ∀ ms', Way H (.ref l) n ts qs ms' → IsWay n ts qs ms := fun ms' wy => by
        obtain ⟨e1, w'⟩ := wy
        rw [eL] at e1
        rw [map_int_inj (Option.some.inj e1)]; exact w'
      have bad : ¬ IsWay n ts qs ms → ∀ H', Same H H' → Q (.bl false) H' := fun z => qf fun ms' wy => z (uni ms' wy)
      refine ⟨_, rfl, l, _, rfl, .inl (SqL.of hl), rfl, _, rfl, ?_⟩
      rw [vint, List.length_map]
      by_cases c0 : ms.length = 0
      · rw [decide_eq_true (by omega)]
        refine iteT (iteT (bad (fun z => by have := z.pos; omega) H (Same.refl H)))
      rw [decide_eq_false (by omega)]
      refine iteF ⟨_, rfl, l, _, rfl, .inl (SqL.of hl), _, _, rfl, rfl, (by show (0 : Int) < 2; decide), rfl, _, rfl, ?_⟩
      rw [vint, List.length_map]
      by_cases c1 : ms.length % 2 = 1
      · rw [decide_eq_true (by omega)]
        refine iteT (bad (fun z => by have := z.even; omega) H (Same.refl H))
      rw [decide_eq_false (by omega)]
      refine iteF ?_
      have atM : ∀ k : Int, 0 ≤ k → k < (n : Int) → atI (mrow n qs) k = some (mateOf qs k) := fun k h0 h1 => by
        have q1 := atI_nat (mrow_at (n := n) (ps := qs) (i := k.toNat) (by omega))
        rw [show ((k.toNat : Nat) : Int) = k by omega] at q1; exact q1
      have atW : ∀ j : Nat, ∀ k : Int, ms[j]? = some k → atI (ms.map V.int) (j : Int) = some (V.int k) := fun j k h => atI_nat (by rw [List.getElem?_map, h]; rfl)
      obtain ⟨k0, hk0⟩ : ∃ k, ms[0]? = some k := ⟨_, List.getElem?_eq_getElem (by omega)⟩
      obtain ⟨k9, hk9⟩ : ∃ k, ms[ms.length - 1]? = some k := ⟨_, List.getElem?_eq_getElem (by omega)⟩
      have r0 := rg k0 (List.mem_of_getElem? hk0)
      have r9 := rg k9 (List.mem_of_getElem? hk9)
      have at9 : atI (ms.map V.int) (-1) = some (V.int k9) := by
        unfold atI ixN
        rw [List.length_map, if_neg (by decide), if_pos (by omega)]
        have e : (-1 + ((ms.length : Nat) : Int)).toNat = ms.length - 1 := by omega
        rw [e]
        show (ms.map V.int)[ms.length - 1]? = _
        rw [List.getElem?_map, hk9]; rfl
      refine ⟨_, rfl, _, rfl, l, _, (0 : Int), V.int k0, rfl, rfl, SqL.of hl, atW 0 k0 hk0, m, _, k0, _, rfl, rfl, SqL.of hm, atM k0 r0.1 r0.2, rfl, _, rfl, ?_⟩
      by_cases c2 : mateOf qs k0 = .non
      · rw [decide_eq_true c2]
        refine iteF ⟨_, rfl, _, rfl, _, rfl, l, _, (-1 : Int), V.int k9, rfl, rfl, SqL.of hl, at9, m, _, k9, _, rfl, rfl, SqL.of hm, atM k9 r9.1 r9.2, rfl, _, rfl, ?_⟩
        by_cases c3 : mateOf qs k9 = .non
        · rw [decide_eq_true c3]
          refine iteF ?_
          refine ⟨_, rfl, l, _, rfl, .inl (SqL.of hl), _, _, rfl, rfl, (((ms.map V.int).length : Nat) : Int) - 1, rfl, by rw [List.length_map]; have := (ki.its _ eL).1; rw [List.length_map] at this; omega, by rw [List.length_map]; have := (ki.its _ eL).1; rw [List.length_map] at this; omega, for_range (lo := 0) (n := ((((ms.map V.int).length : Nat) : Int) - 1).toNat) (fun i σ H' => ∃ v3 v4 v5, σ = [some (.ref x), some (.ref m), some (.ref l), v3, v4, v5] ∧ Same H H' ∧ ∀ (j : Nat) (a b : Int), j < i → ms[j]? = some a → ms[j + 1]? = some b → b ∈ nbr ts a ∧ (mateOf qs a = .int b ↔ j % 2 = 1))
            ⟨none, none, none, rfl, Same.refl H, fun j a b hj => absurd hj (Nat.not_lt_zero _)⟩ ?_ ?_⟩
          · rintro i σ H1 hi ⟨v3, v4, v5, rfl, s1, go⟩
            rw [show (0 : Int) + (i : Int) = (i : Int) from Int.zero_add _]
            rw [List.length_map] at hi
            obtain ⟨a, ha⟩ : ∃ a, ms[i]? = some a := ⟨_, List.getElem?_eq_getElem (by omega)⟩
            obtain ⟨b, hb⟩ : ∃ b, ms[i + 1]? = some b := ⟨_, List.getElem?_eq_getElem (by omega)⟩
            have ra := rg a (List.mem_of_getElem? ha)
            have rb := rg b (List.mem_of_getElem? hb)
            have hl1 := s1 _ _ hl
            have atb := atW (i + 1) b hb
            rw [show (((i + 1 : Nat) : Nat) : Int) = (i : Int) + 1 by omega] at atb
            obtain ⟨dx, lt, ln, us, rs, a1, _⟩ := (N.ex s1).at_
            refine ⟨_, rfl, _, rfl, l, _, (i : Int), V.int a, rfl, rfl, SqL.of hl1, atW i a ha, ?_⟩
            refine ⟨_, rfl, _, rfl, _, _, rfl, rfl, l, _, (i : Int) + 1, V.int b, rfl, rfl, SqL.of hl1, atb, ?_⟩
            obtain ⟨an, rfl⟩ : ∃ an : Nat, a = (an : Int) := ⟨a.toNat, by omega⟩
            refine ⟨_, rfl, _, rfl, x, dx, _, rfl, a1, nf_beside _ _ _, _, rfl, x, n, ts, _, _, rfl, N.ex s1, .int _, fun i' e hi' D hD => ?_, fun z => ?_⟩
            rotate_left
            · have : isPl (.int (an : Int)) n = true := decide_eq_true ⟨by omega, by omega⟩
              rw [this] at z; cases z
            injection e with e
            obtain rfl : an = i' := by omega
            have s2 := Same.trans s1 (Same.new (o := .lst ((nbr ts (an : Int)).map V.int)) hD)
            refine ⟨D, _, rfl, .inl (SqL.of upd_same), rfl, flat_ints _, _, rfl, ?_⟩
            rw [inV_ints]
            by_cases cb : b ∈ nbr ts (an : Int)
            · rw [decide_eq_true cb]
              refine iteF ?_
              have sc : scal (mateOf qs (an : Int)) (.int b) = true := by
                rcases mate_kind qs (an : Int) with h | ⟨k, h⟩
                · rw [h]; rfl
                · rw [h]; rfl
              refine ⟨_, rfl, _, rfl, m, _, (an : Int), _, rfl, rfl, SqL.of (s2 _ _ hm), atM _ ra.1 ra.2, _, rfl, sc, _, rfl, _, _, rfl, rfl, (by show (0 : Int) < 2; decide), rfl, rfl, _, rfl, ?_⟩
              rw [vint]
              have eb : ∀ p q : Bool, decide (V.bl p = V.bl q) = decide (p = q) := fun p q => by
                cases p <;> cases q <;> rfl
              rw [eb]
              have ei : decide ((i : Int) % 2 = 1) = decide (i % 2 = 1) := by
                by_cases z : i % 2 = 1
                · rw [decide_eq_true z, decide_eq_true (by omega)]
                · rw [decide_eq_false z, decide_eq_false (by omega)]
              rw [ei]
              by_cases pq : (mateOf qs (an : Int) = .int b ↔ i % 2 = 1)
              · rw [decide_eq_decide.mpr pq, decide_eq_true rfl]
                refine iteF ⟨_, _, _, rfl, s2, fun j a' b' hj h1 h2 => ?_⟩
                by_cases ej : j = i
                · subst ej
                  rw [ha] at h1; cases h1
                  rw [hb] at h2; cases h2
                  exact ⟨cb, pq⟩
                · exact go j a' b' (by omega) h1 h2
              · rw [decide_eq_false (fun z => pq (decide_eq_decide.mp z))]
                exact iteT (bad (fun z => pq (z.go i _ b ha hb).2) _ s2)
            · rw [decide_eq_false cb]
              exact iteT (bad (fun z => cb (z.go i _ b ha hb).1) _ s2)
          · rintro σ H1 ⟨v3, v4, v5, rfl, s1, go⟩
            refine qt ms ⟨eL, rg, nd, by omega, by omega, fun k hk => ?_, fun k hk => ?_, fun j a b h1 h2 => ?_⟩ H1 s1
            · rw [hk0] at hk; cases hk; exact c2
            · rw [hk9] at hk; cases hk; exact c3
            · have jl := (List.getElem?_eq_some_iff.mp h2).1
              exact go j a b (by rw [List.length_map]; omega) h1 h2
        · rw [decide_eq_false c3]
          exact iteT (bad (fun z => c3 (z.lst k9 hk9)) H (Same.refl H))
      · rw [decide_eq_false c2]
        exact iteT (iteT (bad (fun z => c2 (z.fst k0 hk0)) H (Same.refl H)))
end
end Od

namespace Od
open PySem PySem.Spec PyProof.Rows L2
def mm (a b : Int) : Pr := (if b < a then b else a, if b > a then b else a)
/-- the steps of a way -/
def stp (ms : List Int) : Nat → List Pr
  | 0 => []
  | i + 1 => stp ms i ++ [mm (ms.getD i 0) (ms.getD (i + 1) 0)]
theorem stp_len (ms : List Int) : ∀ i, (stp ms i).length = i
  | 0 => rfl
  | i + 1 => by rw [stp, List.length_append, stp_len ms i]; rfl
def unt (ss : List Pr) (qs : List Pr) : List Pr := qs.filter fun q => decide (q ∉ ss)
theorem shaped_dP (p : Pr) : SeqAt.shaped (dP p) = true := by unfold SeqAt.shaped dP; simp [PyData.canLay0, PyData.canLayAll0, PyData.depth, PyData.depthAll]
theorem any_dP (p : Pr) : ∀ ts : List Pr, ((ts.map dP).any fun z => PyData.eqv z (dP p)) = decide (p ∈ ts)
  | [] => rfl
  | t :: ts => by
    rw [List.map_cons, List.any_cons, any_dP p ts, eqv_dP]
    by_cases h : t = p
    · subst h; simp
    · rw [decide_eq_false h, Bool.false_or]
      by_cases h2 : p ∈ ts
      · rw [decide_eq_true h2, decide_eq_true (List.mem_cons_of_mem _ h2)]
      · rw [decide_eq_false h2, decide_eq_false]
        intro z
        rcases List.mem_cons.mp z with z | z
        · exact h z.symm
        · exact h2 z
theorem ev_new {H H' : Hp} : ∀ {us : List V} {ts : List Pr}, NewPrs H H' us ts → NewPrs H H' (St2.ev us) (St2.ev ts)
  | _, _, .nil => .nil
  | _, _, .cons h .nil => .cons h .nil
  | _, _, .cons h (.cons _ t) => .cons h (ev_new t)
theorem new_app {H H' : Hp} {us vs : List V} {ts ss : List Pr} (h : NewPrs H H' us ts) (g : NewPrs H H' vs ss) : NewPrs H H' (us ++ vs) (ts ++ ss) := by
  induction h with
  | nil => exact g
  | cons r _ ih => exact .cons r ih
theorem new_all {H H' : Hp} {us : List V} {ts : List Pr} (h : NewPrs H H' us ts) : ∀ M : List V, (∀ v ∈ M, v ∈ us) → NewPrs H H' M (M.map (prOf H'))
  | [], _ => .nil
  | v :: M, hM => by
    obtain ⟨j, hj⟩ := List.getElem?_of_mem (hM v List.mem_cons_self)
    exact .cons (h.item hj) (new_all h M fun y hy => hM y (List.mem_cons_of_mem _ hy))
theorem unt_snoc (ss qs : List Pr) (q : Pr) : unt ss (qs ++ [q]) = if q ∈ ss then unt ss qs else unt ss qs ++ [q] := by
  unfold unt
  rw [List.filter_append]
  by_cases h : q ∈ ss
  · rw [if_pos h, List.filter_cons_of_neg (by simpa using h)]; simp
  · rw [if_neg h, List.filter_cons_of_pos (by simpa using h)]; simp
theorem unt_len (ss qs : List Pr) : (unt ss qs).length ≤ qs.length := List.length_filter_le _ _
theorem cut1 {xs : List V} (h : 0 < xs.length) : cutV xs (some 1) none = xs.drop 1 := by
  have e1 : HT.sIx xs.length 0 (some 1) = 1 := by
    unfold HT.sIx
    simp
    try omega
  have e2 : HT.sIx xs.length xs.length none = xs.length := rfl
  unfold cutV
  rw [e1, e2, List.take_of_length_le (by rw [List.length_drop]; exact Nat.le_refl _)]
theorem ok_prs {H : Hp} {ws : List V} {ps ts : List Pr} {n : Nat} (pp : Prs H ws ps) (tie : ∀ z ∈ ts, Tie n z) (sub : ∀ z ∈ ps, z ∈ ts) (nd : (ends ps).Nodup) : OkPairs H n ts ws := by
  refine ⟨fun y hy => ?_, fun y hy => ?_, by rw [pp.prOf]; exact nd⟩
  · obtain ⟨j, hj⟩ := List.getElem?_of_mem hy
    obtain ⟨pq, b, hq, rfl, e⟩ := pp.get hj
    exact (isTie_of (tupOf_tup e) (tie pq (sub pq (List.mem_of_getElem? hq)))).1
  · obtain ⟨j, hj⟩ := List.getElem?_of_mem hy
    obtain ⟨pq, b, hq, rfl, e⟩ := pp.get hj
    have e2 : prOf H (.ref b) = pq := by unfold prOf; rw [tupOf_tup e]
    rw [e2]; exact sub pq (List.mem_of_getElem? hq)
theorem Ki.ex {H H' : Hp} {x : V} {t : Ty} (k : Ki H x t) (e : Same H H') : Ki H' x t := by
  refine ⟨k.kd.ex e, fun xs h => ?_⟩
  rw [listOf_ex k.kd e] at h
  obtain ⟨l, q⟩ := k.its xs h
  exact ⟨l, fun y hy => let ⟨u, z⟩ := q y hy; ⟨u, z.ex e⟩⟩
def spTurned (C B : Addr) : Sp := fun vs H Q E => ∃ (x : Addr) (n : Nat) (ts qs : List Pr) (y z : V) (t tz : Ty) (xs : List V), vs = [.ref x, y, z] ∧ NetAt C H x n ts ∧ Kl H y t ∧ listOf H y = some xs ∧ OkPairs H n ts xs ∧ Ki H z tz ∧ qs.Perm (xs.map (prOf H)) ∧ qs.Pairwise plt ∧
  ((∃ ms, Way H z n ts qs ms ∧ ∀ (res : List Pr) (p : Addr) (us : List V) (H' : Hp), res.Perm (unt (stp ms (ms.length - 1)) qs ++ St2.ev (stp ms (ms.length - 1))) → res.Pairwise (fun a b => ¬ plt b a) → H p = none → Same H H' → H' p = some (.lst us) → NewPrs H H' us res → Q (.ref p) H') ∨
  ((∀ ms, ¬ Way H z n ts qs ms) ∧ ∀ H', Same H H' → E (.ref B) none H'))
section
variable {P : Program} {w : World} {K : PySem.W.Frag} {mg : Str → Option Value} {c : Cs} {base : Heap}
theorem ok_turned (T : Top K mg c) : Fd.Has P w K mg base (L2N.CX P w) 6 "turned" ["net", "pairs", "way"] (spTurned c.Net c.BadWay) := by
  have G_checked : Fd.Has P w K mg base (L2N.CX P w) 4 "checked" ["net", "pairs"] (spChecked c.Net c.BadPairs) := ok_checked T
  have G_mates_in : Fd.Has P w K mg base (L2N.CX P w) 5 "mates_in" ["net", "pairs"] (spMates c.Net c.BadPairs) := ok_mates T
  have G_is_way : Fd.Has P w K mg base CX0 4 "is_way" ["net", "mates", "way"] (spIsWay c.Net) := ok_is_way T
  refine T.d_turned.okN sc_turned (fun vs H Q E h => ?_) (fun f cdv A outer s H vs Q E hr h => ?_)
  · obtain ⟨x, n, ts, qs, y, z, t, tz, xs, rfl, _⟩ := h; rfl
  · obtain ⟨x, n, ts, qs, y, z, t, tz, xs, rfl, N, kl, e, o, ki, pm, up, hres⟩ := h
    have hr_checked := hr.mono (show 4 ≤ 5 by decide)
    have hr_mates_in := hr
    have hr_is_way := hr.mono (show 4 ≤ 5 by decide)
    have n40 := N.hi
    refine ⟨_, (pss_cons (ps_set (i := 3) sc_turned.nd rfl (Or.inl rfl) (Fd.pe_fN G_checked hr_checked (by rfl) (L2N.passes_call (L2N.takes_of rfl rfl rfl rfl) fun _ _ _ _ h => h) (pa_cons (pv 0) (pa_cons (pv 1) pa_nil))))
      (pss_cons (ps_if (pt_not (pt_val (Fd.pe_f G_is_way hr_is_way (by rfl) (pa_cons (pv 0) (pa_cons (Fd.pe_fN G_mates_in hr_mates_in (by rfl) (L2N.passes_call (L2N.takes_of rfl rfl rfl rfl) fun _ _ _ _ h => h) (pa_cons (pv 0) (pa_cons (pv 3) pa_nil))) (pa_cons (pv 2) pa_nil))))))
      (pss_one (L2N.ps_raise rfl (L2N.takes_of rfl rfl rfl rfl) (L2N.pmk_own PySem.F.excBase_ValueError T.e_BadWay.x T.e_BadWay.c T.e_BadWay.p (raises_own T.e_BadWay.b T.e_BadWay.t) (by rfl))))
      pss_nil)
      (pss_cons (ps_set (i := 4) sc_turned.nd rfl (Or.inr rfl) (pe_lc (own := [("one", 6), ("other", 7)]) (g := gTup K 2 (gCons (gName 6) (gCons (gName 7) gNil))) rfl sc_turned.nd (pi_zip (by rfl) T.n_zip (pa_cons (pv 2) (pa_cons (pe_slice sl_list (pv 2) (po_some pe_int) po_none) pa_nil))) (blkOk_by (own := [("one", 6), ("other", 7)]) (N := N_turned) (sc := defScope S_turned) (by decide +kernel)) (fun _ _ _ _ _ => (pg_tup rfl (pgs_cons (pg_name (i := 6) sc_turned.nd rfl (Or.inl rfl)) (pgs_cons (pg_name (i := 7) sc_turned.nd rfl (Or.inl rfl)) pgs_nil)))) (fun _ _ _ _ _ => pts_nil) (fun _ _ _ _ _ => (pe_tup (pa_cons (pe_callB (call_min2 rfl) (by rfl) T.n_min boot_min (pa_cons (pv 6) (pa_cons (pv 7) pa_nil))) (pa_cons (pe_callB (call_max2 rfl) (by rfl) T.n_max boot_max (pa_cons (pv 6) (pa_cons (pv 7) pa_nil))) pa_nil))))))
      (pss_cons (ps_setLc (i := 5) (own := [("pair", 8)]) (g := gName 8) rfl sc_turned.nd rfl rfl (sw_true rfl rfl rfl (by decide +kernel)) (pi_list (pv 3)) (blkOk_by (own := [("pair", 8)]) (N := N_turned) (sc := defScope S_turned) (by decide +kernel)) (fun _ _ _ _ _ => pg_name (i := 8) sc_turned.nd rfl (Or.inl rfl)) (fun _ _ _ _ _ => (pts_one (pt_cmpR (r := rNotInD K) (op_notInD (Sd.u65 hr)) (pv 8) (pv 4) (by rfl)))) (fun _ _ _ _ _ => (pv 8)))
      (pss_one (ps_ret (pe_callB cr_sortedPO (by rfl) T.n_sorted boot_sorted (pa_cons (pe_op op_cat (pv 5) (St2.pe_evL (pv 4))) pa_nil)))))))), ?_⟩
    refine ⟨_, rfl, _, rfl, x, n, ts, y, t, rfl, N, kl, .inl ⟨xs, e, o, fun q1 F uF H1 pm1 up1 hF s1 hF1 np => ?_⟩⟩
    obtain rfl : q1 = qs := plt_one (pm1.trans pm.symm) up1 up
    have prF := np.prs
    have sub : ∀ pq ∈ q1, pq ∈ ts := fun pq hq => by
      obtain ⟨v, hv, rfl⟩ := List.mem_map.mp (pm.mem_iff.mp hq)
      exact o.tied v hv
    have nd : (ends q1).Nodup := (ends_perm pm).nodup_iff.mpr o.one
    refine ⟨_, rfl, _, rfl, _, rfl, x, n, ts, _, .list, rfl, N.ex s1, kl_lst hF1 prF.kt, .inl ⟨uF, listOf_lst hF1, ok_prs prF N.tie sub nd, fun q2 M H2 pm2 up2 hM s2 hM2 => ?_⟩⟩
    rw [prF.prOf] at pm2
    obtain rfl : q2 = q1 := plt_one pm2 up2 up
    have s02 := Same.trans s1 s2
    have lo := listOf_ex ki.kd s02
    refine ⟨_, rfl, x, M, n, ts, q2, z, tz, rfl, N.ex s02, hM2, ki.ex s02, fun ms wy H3 s3 => ?_, fun no H3 s3 => ?_⟩
    rotate_left
    · refine ⟨_, rfl, iteT ?_⟩
      rcases hres with ⟨ms, wy, _⟩ | ⟨_, q⟩
      · exact absurd ⟨lo.trans wy.1, wy.2⟩ (no ms)
      · exact q H3 (Same.trans s02 s3)
    refine ⟨_, rfl, iteF ?_⟩
    rcases hres with ⟨ms', wy', q⟩ | ⟨no, _⟩
    rotate_left
    · exact absurd ⟨lo.symm.trans wy.1, wy.2⟩ (no ms)
    obtain rfl : ms' = ms := by
      have e1 := wy.1
      rw [lo, wy'.1] at e1
      exact map_int_inj (Option.some.inj e1)
    have W := wy.2
    obtain ⟨l, rfl, hl⟩ : ∃ l, z = .ref l ∧ H l = some (.lst (ms'.map V.int)) := by
      have eL := wy'.1
      cases tz with
      | list =>
        obtain ⟨l, xs, rfl, hl⟩ := ki.kd.list_of
        rw [listOf_lst hl] at eL; cases eL
        exact ⟨l, rfl, hl⟩
      | _ => rw [listOf_no ki.kd (by decide)] at eL; cases eL
    have wpos := W.pos
    have weven := W.even
    have s03 := Same.trans s02 s3
    have hl3 := s03 _ _ hl
    have lenw := (ki.its _ wy'.1).1
    rw [List.length_map] at lenw
    refine ⟨_, rfl, _, rfl, _, rfl, l, _, rfl, SqL.of hl3, fun e1 f1 => ?_⟩
    have b1 := Same.new (o := .lst (cutV (ms'.map V.int) (some 1) none)) f1
    have he1 : upd H3 e1 (.lst (cutV (ms'.map V.int) (some 1) none)) e1 = some (.lst ((ms'.map V.int).drop 1)) := by rw [upd_same, cut1 (by rw [List.length_map]; exact wpos)]
    generalize upd H3 e1 (.lst (cutV (ms'.map V.int) (some 1) none)) = H4 at b1 he1 ⊢
    have s04 := Same.trans s03 b1
    have hl4 := b1 _ _ hl3
    refine ⟨l, e1, _, _, rfl, SqL.of hl4, SqL.of he1, fun D hD => ?_⟩
    refine lc_it (walk_zip (n := ms'.length - 1) (by rw [List.length_drop, List.length_map]; omega)) (fun i Hc => ∃ vs : List V, Same H4 Hc ∧ Hc D = some (.lst vs) ∧ NewPrs H Hc vs (stp ms' i)) ⟨[], Same.new hD, upd_same, .nil⟩ (fun i Hc _ ⟨_, e, _⟩ => ⟨SqL.of (e _ _ hl4), SqL.of (e _ _ he1)⟩) ?_ ?_
    · rintro i v Hc H' hi ⟨vs, s5, hDc, npc⟩ ⟨tt, x1, y1, rfl, htt, rfl, hx1, hy1⟩
      have hx1 : (ms'.map V.int)[i]? = some x1 := hx1
      have hy1 : ((ms'.map V.int).drop 1)[i]? = some y1 := hy1
      rw [List.getElem?_map] at hx1
      obtain ⟨a, ha, rfl⟩ := Option.map_eq_some_iff.mp hx1
      rw [List.getElem?_drop, List.getElem?_map] at hy1
      obtain ⟨b, hb, rfl⟩ := Option.map_eq_some_iff.mp hy1
      have ga : ms'.getD i 0 = a := by rw [List.getD_eq_getElem?_getD, ha]; rfl
      have gb : ms'.getD (i + 1) 0 = b := by rw [List.getD_eq_getElem?_getD, show i + 1 = 1 + i by omega, hb]; rfl
      have b2 : Same Hc (upd Hc tt (.tup [.int a, .int b])) := Same.new htt
      have lvs := npc.len
      rw [stp_len] at lvs
      refine ⟨tt, _, rfl, SqT.of upd_same, rfl, _, _, rfl, _, _, rfl, rfl, rfl, tyes (iteT ?_)⟩
      refine ⟨_, rfl, _, rfl, a, b, rfl, _, rfl, _, rfl, a, b, rfl, (by show 2 ≤ sizeLine; decide), fun r hr' => ?_⟩
      have b3 := Same.new (o := .tup [.int (mm a b).1, .int (mm a b).2]) hr'
      have hD2 : upd (upd Hc tt (.tup [.int a, .int b])) r (.tup [.int (mm a b).1, .int (mm a b).2]) D = some (.lst vs) := b3 _ _ (b2 _ _ hDc)
      have sH := Same.trans (Same.trans (Same.trans s04 s5) b2) b3
      have nrD : r ≠ D := fun z => by
        rw [z] at hr'
        have h1 := b2 _ _ hDc
        rw [hr'] at h1; cases h1
      refine ⟨vs, hD2, by rw [sizeLine_eq]; omega, vs ++ [.ref r], Same.mut (Same.trans (Same.trans s5 b2) b3) hD, upd_same, ?_⟩
      rw [stp, ga, gb]
      refine NewPrs.snoc (npc.tups fun c' ys e => ?_) ⟨r, rfl, (Same.trans (Same.trans s04 s5) b2).free hr', by rw [upd_ne nrD]; exact upd_same⟩
      rw [upd_ne (ne_of (b3 _ _ (b2 _ _ e)) hD2 (fun z => nomatch z))]
      exact b3 _ _ (b2 _ _ e)
    rintro H5 ⟨vs, s5, hD5, nps⟩
    have s05 := Same.trans s04 s5
    have s15 := Same.trans (Same.trans (Same.trans s2 s3) b1) s5
    have npF : NewPrs H H5 uF _ := np.tups fun c' ys e => s15 _ _ e
    have hF5 := s15 _ _ hF1
    have lF := npF.len
    have fewq := (OkPairs.few o)
    have lq := pm.length_eq
    rw [List.length_map] at lq
    -- those that are not steps
    refine ⟨_, rfl, F, rfl, ⟨uF, SqL.of hF5⟩, fun D2 hD2 => ?_⟩
    have prsS := nps.prs
    refine lc_list (xs := uF) (fun j Hc => ∃ us : List V, Same H5 Hc ∧ Hc D2 = some (.lst us) ∧ NewPrs H Hc us (unt (stp ms' (ms'.length - 1)) (q2.take j))) ⟨[], Same.new hD2, upd_same, .nil⟩ (fun j Hc _ ⟨_, e, _⟩ => SqL.of (e _ _ hF5)) ?_ ?_
    · rintro j v Hc hj ⟨us, s6, hDc, npu⟩
      obtain ⟨pq, a, hpq, rfl, ea⟩ := npF.prs.get hj
      have ea6 := s6 _ _ ea
      have tk : q2.take (j + 1) = q2.take j ++ [pq] := by rw [List.take_succ, hpq]; rfl
      have lus := npu.len
      have lun := unt_len (stp ms' (ms'.length - 1)) (q2.take j)
      rw [List.length_take] at lun
      refine ⟨rfl, _, rfl, _, rfl, dP pq, (stp ms' (ms'.length - 1)).map dP, .tup (SqT.of ea6) (.cons (.int _) (.cons (.int _) .nil)), dp_prs (SqL.of (s6 _ _ hD5)) (prsS.ex s6), shaped_dP _, shaped_dPs _, _, rfl, ?_⟩
      rw [any_dP]
      by_cases cm : pq ∈ stp ms' (ms'.length - 1)
      · rw [decide_eq_true cm]
        refine iteF ⟨us, s6, hDc, ?_⟩
        rw [tk, unt_snoc, if_pos cm]; exact npu
      · rw [decide_eq_false cm]
        refine iteT ⟨_, rfl, us, hDc, by rw [sizeLine_eq]; omega, us ++ [.ref a], Same.mut s6 hD2, upd_same, ?_⟩
        rw [tk, unt_snoc, if_neg cm]
        obtain ⟨a', e1, e2, e3⟩ := npF.item hj
        cases e1
        refine NewPrs.snoc (npu.tups fun c' ys e => ?_) ⟨a, rfl, e2, ?_⟩
        · rw [upd_ne (ne_of e hDc (fun z => nomatch z))]; exact e
        · rw [upd_ne (ne_of ea6 hDc (fun z => nomatch z))]; exact ea6
    rintro H6 ⟨us, s6, hD6, npu⟩
    rw [lF, List.take_length] at npu
    have lus := npu.len
    have lun := unt_len (stp ms' (ms'.length - 1)) q2
    have npS6 : NewPrs H H6 vs (stp ms' (ms'.length - 1)) := nps.tups fun c' ys e => s6 _ _ e
    have s06 := Same.trans s05 s6
    have lvs := nps.len
    rw [stp_len] at lvs
    refine ⟨_, rfl, _, rfl, D, vs, rfl, SqL.of (s6 _ _ hD5), fun e2 f2 => ?_⟩
    have b2 := Same.new (o := .lst (St2.ev vs)) f2
    have lev : (St2.ev vs).length ≤ 1000 := by rw [St2.ev_len]; omega
    refine ⟨D2, e2, _, _, rfl, rfl, b2 _ _ hD6, upd_same, by rw [sizeLine_eq]; omega, fun e3 f3 => ?_⟩
    have b3 : Same (upd H6 e2 (.lst (St2.ev vs))) (upd (upd H6 e2 (.lst (St2.ev vs))) e3 (.lst (us ++ St2.ev vs))) := Same.new f3
    have he3 : upd (upd H6 e2 (.lst (St2.ev vs))) e3 (.lst (us ++ St2.ev vs)) e3 = some (.lst (us ++ St2.ev vs)) := upd_same
    have s67 := Same.trans b2 b3
    generalize upd (upd H6 e2 (.lst (St2.ev vs))) e3 (.lst (us ++ St2.ev vs)) = H7 at he3 s67 ⊢
    have s07 := Same.trans s06 s67
    have all7 : NewPrs H H7 (us ++ St2.ev vs) _ := (new_app npu (ev_new npS6)).tups fun c' ys e => s67 _ _ e
    have prs7 := all7.prs
    refine ⟨e3, us ++ St2.ev vs, prOf H7, rfl, SqL.of he3, fun v hv => ?_, fun ys r sd sb hr' => ?_⟩
    · obtain ⟨j, hj⟩ := List.getElem?_of_mem hv
      obtain ⟨a, h1, _, h3⟩ := all7.item hj
      exact ⟨a, h1, h3⟩
    · have pmr := sb.perm.map (prOf H7)
      rw [prs7.prOf] at pmr
      refine q (ys.map (prOf H7)) r ys _ pmr ?_ (s07.free hr') (Same.trans s07 (Same.new hr')) upd_same ?_
      · refine List.pairwise_map.mpr (sd.imp fun {a b} h => ?_)
        exact SrtO.lexB_no.mp h
      · refine (new_all all7 ys fun v hv => sb.perm.mem_iff.mp hv).tups fun c' zs e => ?_
        rw [upd_ne (ne_of_none e hr')]; exact e
end
end Od

namespace Od
open PySem PySem.Spec PyProof.Rows L2
theorem srt_prs {H : Hp} {ws ys : List V} {ps : List Pr} (pp : Prs H ws ps) (nd : ps.Nodup) (sd : SrtO.Srtd (ltP (prOf H)) ys) (sb : SrtO.Stb (ltP (prOf H)) ys ws) : (ys.map (prOf H)).Perm ps ∧ (ys.map (prOf H)).Pairwise plt ∧ Prs H ys (ys.map (prOf H)) := by
  have pm : (ys.map (prOf H)).Perm ps := by
    have h1 := sb.perm.map (prOf H)
    rw [pp.prOf] at h1; exact h1
  refine ⟨pm, ?_, ?_⟩
  · refine List.pairwise_map.mpr ?_
    exact (sd.and (List.pairwise_map.mp (pm.nodup_iff.mpr nd))).imp fun {a b} h => ltP_plt h.1 h.2
  · have key : ∀ M : List V, (∀ v ∈ M, v ∈ ws) → Prs H M (M.map (prOf H)) := by
      intro M
      induction M with
      | nil => intro _; exact .nil
      | cons v M ih =>
        intro hM
        obtain ⟨j, hj⟩ := List.getElem?_of_mem (hM v List.mem_cons_self)
        obtain ⟨pq, b, _, rfl, e⟩ := pp.get hj
        have e2 : prOf H (.ref b) = pq := by unfold prOf; rw [tupOf_tup e]
        exact .cons ⟨b, rfl, by rw [e2]; exact e⟩ (ih fun y hy => hM y (List.mem_cons_of_mem _ hy))
    exact key ys fun v hv => sb.perm.mem_iff.mp hv
theorem prs_each {H : Hp} {ws : List V} {ps : List Pr} (pp : Prs H ws ps) : ∀ v ∈ ws, ∃ t, v = V.ref t ∧ H t = some (.tup [.int (prOf H v).1, .int (prOf H v).2]) := fun v hv => by
  obtain ⟨j, hj⟩ := List.getElem?_of_mem hv
  obtain ⟨pq, b, _, rfl, e⟩ := pp.get hj
  have e2 : prOf H (.ref b) = pq := by unfold prOf; rw [tupOf_tup e]
  exact ⟨b, rfl, by rw [e2]; exact e⟩
theorem plt_strict {l : List Pr} (h : l.Pairwise fun a b => ¬ plt b a) (nd : l.Nodup) : l.Pairwise plt :=
  (h.and nd).imp fun {a b} z => by
    obtain ⟨z1, z2⟩ := z
    obtain ⟨a1, a2⟩ := a
    obtain ⟨b1, b2⟩ := b
    unfold plt at z1 ⊢
    simp only at z1 ⊢
    have : ¬ (a1 = b1 ∧ a2 = b2) := fun e => z2 (by rw [e.1, e.2])
    omega
open Classical in
theorem srt_ex (l : List Pr) (nd : l.Nodup) : ∃ q : List Pr, q.Perm l ∧ q.Pairwise plt := by
  refine ⟨l.mergeSort fun a b => decide (¬ plt b a), List.mergeSort_perm _ _, ?_⟩
  have h := List.pairwise_mergeSort (le := fun a b : Pr => decide (¬ plt b a)) (fun a b c h1 h2 => ?_) (fun a b => ?_) l
  · refine plt_strict (h.imp fun z => of_decide_eq_true z) ((List.mergeSort_perm _ _).nodup_iff.mpr nd)
  · have h1 := of_decide_eq_true h1
    have h2 := of_decide_eq_true h2
    refine decide_eq_true ?_
    unfold plt at *
    omega
  · by_cases c : plt b a
    · have : ¬ plt a b := by unfold plt at *; omega
      rw [decide_eq_true this, Bool.or_true]
    · rw [decide_eq_true c, Bool.true_or]
theorem Prs.take {H : Hp} : ∀ {us : List V} {ts : List Pr} (j : Nat), Prs H us ts → Prs H (us.take j) (ts.take j)
  | _, _, 0, _ => by rw [List.take_zero, List.take_zero]; exact .nil
  | _, _, j + 1, .nil => .nil
  | _, _, j + 1, .cons a t => .cons a (Prs.take j t)
theorem Prs.drop {H : Hp} : ∀ {us : List V} {ts : List Pr} (j : Nat), Prs H us ts → Prs H (us.drop j) (ts.drop j)
  | _, _, 0, h => h
  | _, _, j + 1, .nil => .nil
  | _, _, j + 1, .cons a t => Prs.drop j t
theorem Prs.app {H : Hp} {us vs : List V} {ts ss : List Pr} (h : Prs H us ts) (g : Prs H vs ss) : Prs H (us ++ vs) (ts ++ ss) := by
  induction h with
  | nil => exact g
  | cons r _ ih => exact .cons r ih
theorem Prs.rev {H : Hp} : ∀ {us : List V} {ts : List Pr}, Prs H us ts → Prs H us.reverse ts.reverse
  | _, _, .nil => .nil
  | _, _, .cons a t => by rw [List.reverse_cons, List.reverse_cons]; exact (Prs.rev t).app (.cons a .nil)
/-- what makes a net -/
theorem good_nd {H : Hp} {k : Addr} {us : List V} {ts : List Pr} {n : Nat} (h : H k = some (.lst us)) (p : Prs H us ts) (tie : ∀ x ∈ ts, Tie n x) (nd : ts.Nodup) (h1 : 1 ≤ n) (h2 : n ≤ 40) : Good H (.int n) (.ref k) n ts := by
  refine ⟨rfl, h1, h2, us, listOf_lst h, ⟨fun y hy => ?_, by rw [p.prOf]; exact nd⟩, p.prOf.symm⟩
  obtain ⟨i, hi⟩ := List.getElem?_of_mem hy
  obtain ⟨z, b, hz, rfl, e⟩ := p.get hi
  exact (isTie_of (tupOf_tup e) (tie z (List.mem_of_getElem? hz))).1
def spLaw (K : PySem.W.Frag) : Sp := fun vs H Q _ => ∃ (a : Addr) (ns : List Int), vs = [.ref a] ∧ SqL K H a (ns.map V.int) ∧ ns.length ≤ 63 ∧ ∀ H', Q (.bl true) H'
/-! ### pairings as mathematics -/
/-- the mate, if there is one -/
def mo (qs : List Pr) (i : Int) : Option Int := match mateOf qs i with
  | .int k => some k
  | _ => none
theorem mo_none {qs : List Pr} {i : Int} : mo qs i = none ↔ mateOf qs i = .non := by
  unfold mo
  rcases mate_kind qs i with h | ⟨k, h⟩
  · rw [h]; exact ⟨fun _ => rfl, fun _ => rfl⟩
  · rw [h]; exact ⟨fun z => (by cases z), fun z => (by cases z)⟩
theorem mo_some {qs : List Pr} {i k : Int} : mo qs i = some k ↔ mateOf qs i = .int k := by
  unfold mo
  rcases mate_kind qs i with h | ⟨j, h⟩
  · rw [h]; exact ⟨fun z => (by cases z), fun z => (by cases z)⟩
  · rw [h]; exact ⟨fun z => (by injection z with z; rw [z]), fun z => (by injection z with z; rw [z])⟩
theorem mo_free {qs : List Pr} {i : Int} : mo qs i = none ↔ i ∉ ends qs := mo_none.trans mate_non
theorem fold_off {i : Int} : ∀ (ps : List Pr) (acc : V), i ∉ ends ps → ps.foldl (mst i) acc = acc
  | [], _, _ => rfl
  | p :: ps, acc, h => by
    have h' : i ∉ p.1 :: p.2 :: ends ps := h
    simp only [List.mem_cons, not_or] at h'
    rw [List.foldl_cons, fold_off ps _ h'.2.2]
    unfold mst
    rw [if_neg fun z => h'.1 z.symm, if_neg fun z => h'.2.1 z.symm]
theorem mate_in {qs : List Pr} (nd : (ends qs).Nodup) {a b : Int} (h : (a, b) ∈ qs) : mateOf qs a = .int b ∧ mateOf qs b = .int a := by
  obtain ⟨s, t, rfl⟩ := List.append_of_mem h
  have e : ends (s ++ (a, b) :: t) = ends s ++ (a :: b :: ends t) := by unfold ends; rw [List.flatMap_append]; rfl
  rw [e] at nd
  obtain ⟨_, n2, _⟩ := List.nodup_append.mp nd
  obtain ⟨na, n3⟩ := List.nodup_cons.mp n2
  obtain ⟨nb, _⟩ := List.nodup_cons.mp n3
  have nab : a ≠ b := fun z => na (z ▸ List.mem_cons_self)
  have na' : a ∉ ends t := fun z => na (List.mem_cons_of_mem _ z)
  unfold mateOf
  rw [List.foldl_append, List.foldl_append, List.foldl_cons, List.foldl_cons, fold_off t _ na', fold_off t _ nb]
  unfold mst
  rw [if_pos rfl, if_neg nab, if_pos rfl]
  exact ⟨rfl, rfl⟩
theorem mate_mem {qs : List Pr} {a b : Int} (h : mateOf qs a = .int b) : (a, b) ∈ qs ∨ (b, a) ∈ qs := by
  have key : ∀ (ps : List Pr) (acc : V), ps.foldl (mst a) acc = .int b → acc = .int b ∨ (a, b) ∈ ps ∨ (b, a) ∈ ps := fun ps => by
    induction ps with
    | nil => exact fun acc h => .inl h
    | cons p ps ih =>
      intro acc h
      rw [List.foldl_cons] at h
      rcases ih _ h with z | z | z
      · unfold mst at z
        by_cases c1 : p.1 = a
        · rw [if_pos c1] at z; injection z with z
          exact .inr (.inl (by rw [← c1, ← z]; exact List.mem_cons_self))
        · rw [if_neg c1] at z
          by_cases c2 : p.2 = a
          · rw [if_pos c2] at z; injection z with z
            exact .inr (.inr (by rw [← c2, ← z]; exact List.mem_cons_self))
          · rw [if_neg c2] at z; exact .inl z
      · exact .inr (.inl (List.mem_cons_of_mem _ z))
      · exact .inr (.inr (List.mem_cons_of_mem _ z))
  rcases key qs .non h with z | z
  · cases z
  · exact z
theorem mate_iff {qs : List Pr} (nd : (ends qs).Nodup) {a b : Int} : mateOf qs a = .int b ↔ (a, b) ∈ qs ∨ (b, a) ∈ qs :=
  ⟨mate_mem, fun h => h.elim (fun h => (mate_in nd h).1) fun h => (mate_in nd h).2⟩
theorem mm_pr {n : Int} {p : Pr} (h : Tie n p) : mm p.1 p.2 = p ∧ mm p.2 p.1 = p := by
  obtain ⟨a, b⟩ := p
  obtain ⟨_, h2, _⟩ := h
  simp only at h2
  unfold mm
  constructor
  · rw [if_neg (by omega), if_pos (by omega)]
  · rw [if_pos (by omega), if_neg (by omega)]
theorem mm_cases (a b : Int) : mm a b = (a, b) ∨ mm a b = (b, a) := by
  unfold mm
  by_cases c : b < a
  · rw [if_pos c, if_neg (by omega)]; exact .inr rfl
  · rw [if_neg c]
    by_cases d : b > a
    · rw [if_pos d]; exact .inl rfl
    · rw [if_neg d, show b = a by omega]; exact .inl rfl
theorem mm_comm (a b : Int) : mm a b = mm b a := by
  unfold mm
  refine Prod.ext ?_ ?_
  · show (if b < a then b else a) = (if a < b then a else b)
    by_cases c : b < a
    · rw [if_pos c, if_neg (by omega)]
    · rw [if_neg c]
      by_cases d : a < b
      · rw [if_pos d]
      · rw [if_neg d]; omega
  · show (if b > a then b else a) = (if a > b then a else b)
    by_cases c : b > a
    · rw [if_pos c, if_neg (by omega)]
    · rw [if_neg c]
      by_cases d : a > b
      · rw [if_pos d]
      · rw [if_neg d]; omega
/-- a pairing of the net with these ties -/
structure Pg (n : Nat) (ts qs : List Pr) : Prop where
  tie : ∀ p ∈ ts, Tie n p
  sub : ∀ p ∈ qs, p ∈ ts
  nd : (ends qs).Nodup
section
variable {n : Nat} {ts qs : List Pr}
theorem mm_mem (tie : ∀ p ∈ ts, Tie (n : Int) p) {a b : Int} : mm a b ∈ ts ↔ (a, b) ∈ ts ∨ (b, a) ∈ ts := by
  constructor
  · intro h
    rcases mm_cases a b with e | e
    · rw [e] at h; exact .inl h
    · rw [e] at h; exact .inr h
  · rintro (h | h)
    · have := (mm_pr (tie _ h)).1; simp only at this; rw [this]; exact h
    · have := (mm_pr (tie _ h)).2; simp only at this; rw [this]; exact h
theorem nbr_mm (tie : ∀ p ∈ ts, Tie (n : Int) p) {a b : Int} : b ∈ nbr ts a ↔ mm a b ∈ ts := (nbr_mem tie).trans (mm_mem tie).symm
theorem gr_nbr (tie : ∀ p ∈ ts, Tie (n : Int) p) : Ge.Gr (nbr ts) := ⟨fun h => nbr_sym tie h, fun {p} h => by
  rcases (nbr_mem tie).mp h with z | z
  · have := (tie _ z).2.1; simp only at this; omega
  · have := (tie _ z).2.1; simp only at this; omega⟩
theorem Pg.tieq (g : Pg n ts qs) : ∀ p ∈ qs, Tie n p := fun p hp => g.tie p (g.sub p hp)
theorem Pg.mate (g : Pg n ts qs) {a b : Int} : mateOf qs a = .int b ↔ mm a b ∈ qs := (mate_iff g.nd).trans (mm_mem g.tieq).symm
theorem Pg.mt (g : Pg n ts qs) : Ge.Mt (nbr ts) (mo qs) := by
  refine ⟨fun {p q} h => ?_, fun {p q} h => ?_⟩
  · rw [mo_some, g.mate] at h ⊢; rw [mm_comm]; exact h
  · rw [mo_some, g.mate] at h
    exact (nbr_mm g.tie).mpr (g.sub _ h)
theorem Pg.rng (g : Pg n ts qs) : ∀ q ∈ ends qs, 0 ≤ q ∧ q < (n : Int) := ends_rng g.tieq
theorem Pg.count (g : Pg n ts qs) : (Ge.un n (mo qs)).length + 2 * qs.length = n := by
  rw [← ends_len, ← List.length_append]
  have nd : (Ge.un n (mo qs) ++ ends qs).Nodup := List.nodup_append.mpr ⟨Ge.pl_nd, g.nd, fun a ha b hb e => by
    subst e
    exact mo_free.mp (Ge.pl_mem.mp ha).2 hb⟩
  have nr : ((List.range n).map fun i : Nat => (i : Int)).Nodup := List.pairwise_map.mpr (List.nodup_range.imp fun h e => h (by omega))
  have h1 := Ge.sub_len nd (l2 := (List.range n).map fun i : Nat => (i : Int)) fun a ha => by
    have : 0 ≤ a ∧ a < (n : Int) := by
      rcases List.mem_append.mp ha with z | z
      · exact (Ge.pl_mem.mp z).1
      · exact g.rng a z
    exact List.mem_map.mpr ⟨a.toNat, List.mem_range.mpr (by omega), by omega⟩
  have h2 := Ge.sub_len nr (l2 := Ge.un n (mo qs) ++ ends qs) fun a ha => by
    obtain ⟨i, hi, rfl⟩ := List.mem_map.mp ha
    have := List.mem_range.mp hi
    by_cases c : (i : Int) ∈ ends qs
    · exact List.mem_append_right _ c
    · exact List.mem_append_left _ (Ge.pl_mem.mpr ⟨by omega, mo_free.mpr c⟩)
  rw [List.length_map, List.length_range] at h1 h2
  omega
theorem nbr_rg (tie : ∀ p ∈ ts, Tie (n : Int) p) : ∀ {p q : Int}, q ∈ nbr ts p → 0 ≤ q ∧ q < (n : Int) := fun h => nbr_rng tie h
end
/-! ### a way turned -/
theorem stp_at (ms : List Int) : ∀ (k i : Nat), i < k → (stp ms k)[i]? = some (mm (ms.getD i 0) (ms.getD (i + 1) 0))
  | 0, i, h => by omega
  | k + 1, i, h => by
    rw [stp]
    by_cases c : i < k
    · rw [List.getElem?_append_left (by rw [stp_len]; exact c)]; exact stp_at ms k i c
    · obtain rfl : i = k := by omega
      rw [List.getElem?_append_right (by rw [stp_len]; omega), stp_len, Nat.sub_self]; rfl
theorem ev_at {α : Type} : ∀ (xs : List α) (i : Nat), (St2.ev xs)[i]? = xs[2 * i]?
  | [], i => by rw [show St2.ev ([] : List α) = [] from rfl]; simp
  | [x], i => by
    rw [show St2.ev [x] = [x] from rfl]
    cases i with
    | zero => rfl
    | succ i => rw [List.getElem?_eq_none (by simp), List.getElem?_eq_none (by simp; omega)]
  | x :: y :: t, i => by
    rw [show St2.ev (x :: y :: t) = x :: St2.ev t from rfl]
    cases i with
    | zero => rfl
    | succ i =>
      rw [List.getElem?_cons_succ, ev_at t i, show 2 * (i + 1) = 2 * i + 1 + 1 by omega, List.getElem?_cons_succ, List.getElem?_cons_succ]
theorem getD_at {ms : List Int} {i : Nat} {a : Int} (h : ms[i]? = some a) : ms.getD i 0 = a := by rw [List.getD_eq_getElem?_getD, h]; rfl
/-- the steps at the even places -/
def due (ms : List Int) : List Pr := St2.ev (stp ms (ms.length - 1))
theorem due_mem {ms : List Int} {p : Pr} : p ∈ due ms ↔ ∃ (i : Nat) (a b : Int), ms[2 * i]? = some a ∧ ms[2 * i + 1]? = some b ∧ p = mm a b := by
  unfold due
  constructor
  · intro h
    obtain ⟨i, hi⟩ := List.getElem?_of_mem h
    rw [ev_at] at hi
    have hl := (List.getElem?_eq_some_iff.mp hi).1
    rw [stp_len] at hl
    rw [stp_at ms _ _ hl] at hi
    have h1 : 2 * i < ms.length := by omega
    have h2 : 2 * i + 1 < ms.length := by omega
    refine ⟨i, ms[2 * i], ms[2 * i + 1], List.getElem?_eq_getElem h1, List.getElem?_eq_getElem h2, ?_⟩
    rw [getD_at (List.getElem?_eq_getElem h1), getD_at (List.getElem?_eq_getElem h2)] at hi
    exact (Option.some.inj hi).symm
  · rintro ⟨i, a, b, h1, h2, rfl⟩
    have hl := (List.getElem?_eq_some_iff.mp h2).1
    refine List.mem_of_getElem? (i := i) ?_
    rw [ev_at, stp_at ms _ _ (by omega), getD_at h1, getD_at h2]
theorem due_len {ms : List Int} (he : ms.length % 2 = 0) : (due ms).length = ms.length / 2 := by
  unfold due
  rw [St2.ev_len, stp_len]; omega
theorem ends_mm (a b : Int) : ∀ x, x ∈ [(mm a b).1, (mm a b).2] ↔ x = a ∨ x = b := fun x => by
  rcases mm_cases a b with e | e
  · rw [e]; simp
  · rw [e]; simp [or_comm]
theorem due_ends {ms : List Int} (he : ms.length % 2 = 0) {x : Int} : x ∈ ends (due ms) ↔ x ∈ ms := by
  unfold ends
  rw [List.mem_flatMap]
  constructor
  · rintro ⟨p, hp, hx⟩
    obtain ⟨i, a, b, h1, h2, rfl⟩ := due_mem.mp hp
    rcases (ends_mm a b x).mp hx with rfl | rfl
    · exact List.mem_of_getElem? h1
    · exact List.mem_of_getElem? h2
  · intro hx
    obtain ⟨i, hi⟩ := List.getElem?_of_mem hx
    have hl := (List.getElem?_eq_some_iff.mp hi).1
    by_cases c : i % 2 = 0
    · have h2 : i + 1 < ms.length := by omega
      refine ⟨mm x ms[i+1], due_mem.mpr ⟨i / 2, x, ms[i+1], ?_, ?_, rfl⟩, (ends_mm _ _ _).mpr (.inl rfl)⟩
      · rw [show 2 * (i / 2) = i by omega]; exact hi
      · rw [show 2 * (i / 2) + 1 = i + 1 by omega]; exact List.getElem?_eq_getElem h2
    · have h2 : i - 1 < ms.length := by omega
      refine ⟨mm ms[i-1] x, due_mem.mpr ⟨i / 2, ms[i-1], x, ?_, ?_, rfl⟩, (ends_mm _ _ _).mpr (.inr rfl)⟩
      · rw [show 2 * (i / 2) = i - 1 by omega]; exact List.getElem?_eq_getElem h2
      · rw [show 2 * (i / 2) + 1 = i by omega]; exact hi
theorem nodup_of_len {l l2 : List Int} (h2 : l2.Nodup) (s : ∀ a ∈ l2, a ∈ l) (e : l.length ≤ l2.length) : l.Nodup := by
  have key : ∀ (l l2 : List Int), l2.Nodup → (∀ a ∈ l2, a ∈ l) → l.length ≤ l2.length → l.Nodup := by
    intro l
    induction l with
    | nil => exact fun _ _ _ _ => List.nodup_nil
    | cons a t ih =>
      intro l2 nd s e
      rw [List.length_cons] at e
      have am : a ∉ t := fun z => by
        have := Ge.sub_len nd (l2 := t) fun b hb => (List.mem_cons.mp (s b hb)).elim (fun h => h ▸ z) id
        omega
      refine List.nodup_cons.mpr ⟨am, ih (l2.erase a) (nd.erase a) (fun b hb => ?_) ?_⟩
      · obtain ⟨h1, h2⟩ := (List.Nodup.mem_erase_iff nd).mp hb
        exact (List.mem_cons.mp (s b h2)).resolve_left h1
      · have := List.length_erase (a := a) (l := l2)
        split at this <;> omega
  exact key l l2 h2 s e
theorem due_nd {ms : List Int} (he : ms.length % 2 = 0) (nd : ms.Nodup) : (ends (due ms)).Nodup :=
  nodup_of_len nd (fun a ha => (due_ends he).mpr ha) (by rw [ends_len, due_len he]; omega)
theorem IsWay.step {n : Nat} {ts qs : List Pr} {ms : List Int} (w : IsWay n ts qs ms) {p : Pr} : p ∈ stp ms (ms.length - 1) ↔ ∃ (i : Nat) (a b : Int), ms[i]? = some a ∧ ms[i + 1]? = some b ∧ p = mm a b := by
  constructor
  · intro h
    obtain ⟨i, hi⟩ := List.getElem?_of_mem h
    have hl := (List.getElem?_eq_some_iff.mp hi).1
    rw [stp_len] at hl
    rw [stp_at ms _ _ hl] at hi
    have h1 : i < ms.length := by omega
    have h2 : i + 1 < ms.length := by omega
    rw [getD_at (List.getElem?_eq_getElem h1), getD_at (List.getElem?_eq_getElem h2)] at hi
    exact ⟨i, ms[i], ms[i+1], List.getElem?_eq_getElem h1, List.getElem?_eq_getElem h2, (Option.some.inj hi).symm⟩
  · rintro ⟨i, a, b, h1, h2, rfl⟩
    have hl := (List.getElem?_eq_some_iff.mp h2).1
    refine List.mem_of_getElem? (i := i) ?_
    rw [stp_at ms _ _ (by omega), getD_at h1, getD_at h2]
section
variable {n : Nat} {ts qs : List Pr} {ms : List Int}
/-- a pair with a place of the way is a step -/
theorem IsWay.pair (g : Pg n ts qs) (w : IsWay n ts qs ms) {a b : Int} (h : mm a b ∈ qs) (ha : a ∈ ms) : mm a b ∈ stp ms (ms.length - 1) := by
  have hm := g.mate.mpr h
  obtain ⟨i, hi⟩ := List.getElem?_of_mem ha
  have hl := (List.getElem?_eq_some_iff.mp hi).1
  have ev := w.even
  by_cases c : i % 2 = 1
  · by_cases d : i = ms.length - 1
    · subst d
      rw [w.lst a hi] at hm; cases hm
    · have h2 : i + 1 < ms.length := by omega
      obtain ⟨_, k⟩ := w.go i a ms[i+1] hi (List.getElem?_eq_getElem h2)
      have k := k.mpr c
      rw [hm] at k; injection k with k
      exact w.step.mpr ⟨i, a, b, hi, by rw [List.getElem?_eq_getElem h2, k], rfl⟩
  · cases i with
    | zero => rw [w.fst a hi] at hm; cases hm
    | succ j =>
      have h2 : j < ms.length := by omega
      obtain ⟨_, k⟩ := w.go j ms[j] a (List.getElem?_eq_getElem h2) hi
      have k := k.mpr (by omega)
      rw [g.mate, mm_comm] at k
      have k := g.mate.mpr k
      rw [hm] at k; injection k with k
      exact w.step.mpr ⟨j, b, a, by rw [List.getElem?_eq_getElem h2, k], hi, mm_comm a b⟩
theorem unt_mem {ss : List Pr} {p : Pr} : p ∈ unt ss qs ↔ p ∈ qs ∧ p ∉ ss := by
  unfold unt
  rw [List.mem_filter]
  constructor
  · rintro ⟨h1, h2⟩; exact ⟨h1, of_decide_eq_true h2⟩
  · rintro ⟨h1, h2⟩; exact ⟨h1, decide_eq_true h2⟩
/-- the way turned -/
def trnd (ms : List Int) (qs : List Pr) : List Pr := unt (stp ms (ms.length - 1)) qs ++ due ms
theorem ends_app (a b : List Pr) : ends (a ++ b) = ends a ++ ends b := by unfold ends; rw [List.flatMap_append]
theorem mem_ends {ps : List Pr} {x : Int} : x ∈ ends ps ↔ ∃ p ∈ ps, x = p.1 ∨ x = p.2 := by
  unfold ends
  rw [List.mem_flatMap]
  constructor
  · rintro ⟨p, h, hx⟩; simp at hx; exact ⟨p, h, hx⟩
  · rintro ⟨p, h, hx⟩; exact ⟨p, h, by simp; exact hx⟩
theorem IsWay.off (g : Pg n ts qs) (w : IsWay n ts qs ms) {x : Int} (h : x ∈ ends (unt (stp ms (ms.length - 1)) qs)) : x ∉ ms := fun hx => by
  obtain ⟨p, hp, e⟩ := mem_ends.mp h
  obtain ⟨h1, h2⟩ := unt_mem.mp hp
  obtain ⟨m1, m2⟩ := mm_pr (g.tieq p h1)
  rcases e with e | e
  · refine h2 ?_
    rw [← m1]
    exact w.pair g (by rw [m1]; exact h1) (e ▸ hx)
  · refine h2 ?_
    rw [← m2]
    exact w.pair g (by rw [m2]; exact h1) (e ▸ hx)
theorem trnd_ends (g : Pg n ts qs) (w : IsWay n ts qs ms) {x : Int} : x ∈ ends (trnd ms qs) ↔ x ∈ ms ∨ x ∈ ends qs := by
  unfold trnd
  rw [ends_app, List.mem_append, due_ends w.even]
  constructor
  · rintro (h | h)
    · obtain ⟨p, hp, e⟩ := mem_ends.mp h
      exact .inr (mem_ends.mpr ⟨p, (unt_mem.mp hp).1, e⟩)
    · exact .inl h
  · rintro (h | h)
    · exact .inr h
    · by_cases c : x ∈ ms
      · exact .inr c
      · obtain ⟨p, hp, e⟩ := mem_ends.mp h
        refine .inl (mem_ends.mpr ⟨p, unt_mem.mpr ⟨hp, fun z => c ?_⟩, e⟩)
        obtain ⟨i, a, b, h1, h2, rfl⟩ := w.step.mp z
        have := (ends_mm a b x).mp (by simp; exact e)
        rcases this with rfl | rfl
        · exact List.mem_of_getElem? h1
        · exact List.mem_of_getElem? h2
theorem IsWay.pg (g : Pg n ts qs) (w : IsWay n ts qs ms) : Pg n ts (trnd ms qs) := by
  refine ⟨g.tie, fun p hp => ?_, ?_⟩
  · rcases List.mem_append.mp hp with h | h
    · exact g.sub p (unt_mem.mp h).1
    · obtain ⟨i, a, b, h1, h2, rfl⟩ := due_mem.mp h
      exact (nbr_mm g.tie).mp (w.go _ a b h1 h2).1
  · unfold trnd
    rw [ends_app]
    refine List.nodup_append.mpr ⟨?_, due_nd w.even w.nd, fun a ha b hb e => ?_⟩
    · have := g.nd
      unfold ends at this ⊢
      unfold unt
      have key : ∀ {a b : List Pr}, a.Sublist b → (a.flatMap fun p => [p.1, p.2]).Sublist (b.flatMap fun p => [p.1, p.2]) := fun h => by
        induction h with
        | slnil => exact List.Sublist.refl _
        | cons p _ ih => rw [List.flatMap_cons]; exact ih.trans (List.sublist_append_right _ _)
        | cons_cons p _ ih => rw [List.flatMap_cons, List.flatMap_cons]; exact (List.Sublist.refl _).append ih
      exact this.sublist (key List.filter_sublist)
    · subst e
      exact w.off g ha ((due_ends w.even).mp hb)
theorem trnd_len (g : Pg n ts qs) (w : IsWay n ts qs ms) : (trnd ms qs).length = qs.length + 1 := by
  have g2 := w.pg g
  have ev := w.even
  have pos := w.pos
  obtain ⟨a, ha⟩ : ∃ a, ms[0]? = some a := ⟨_, List.getElem?_eq_getElem (by omega)⟩
  obtain ⟨b, hb⟩ : ∃ b, ms[ms.length - 1]? = some b := ⟨_, List.getElem?_eq_getElem (by omega)⟩
  have fa := mate_non.mp (w.fst a ha)
  have fb := mate_non.mp (w.lst b hb)
  have nab : a ≠ b := fun z => by
    subst z
    have := Ge.nodup_at w.nd ha hb
    omega
  have nd : (a :: b :: ends qs).Nodup := List.nodup_cons.mpr ⟨fun z => (List.mem_cons.mp z).elim nab fa, List.nodup_cons.mpr ⟨fb, g.nd⟩⟩
  have h1 := Ge.sub_len nd (l2 := ends (trnd ms qs)) fun x hx => by
    rw [trnd_ends g w]
    rcases List.mem_cons.mp hx with rfl | hx
    · exact .inl (List.mem_of_getElem? ha)
    · rcases List.mem_cons.mp hx with rfl | hx
      · exact .inl (List.mem_of_getElem? hb)
      · exact .inr hx
  have h2 := Ge.sub_len g2.nd (l2 := a :: b :: ends qs) fun x hx => by
    rcases (trnd_ends g w).mp hx with h | h
    · obtain ⟨i, hi⟩ := List.getElem?_of_mem h
      have hl := (List.getElem?_eq_some_iff.mp hi).1
      by_cases c0 : i = 0
      · subst c0; rw [ha] at hi; cases hi; exact List.mem_cons_self
      by_cases c9 : i = ms.length - 1
      · subst c9; rw [hb] at hi; cases hi; exact List.mem_cons_of_mem _ List.mem_cons_self
      refine List.mem_cons_of_mem _ (List.mem_cons_of_mem _ ?_)
      apply Classical.byContradiction
      intro no
      have nn := mate_non.mpr no
      by_cases c : i % 2 = 1
      · have q := (w.go i x ms[i+1] hi (List.getElem?_eq_getElem (by omega))).2.mpr c
        rw [nn] at q; cases q
      · obtain ⟨j, rfl⟩ : ∃ j, i = j + 1 := ⟨i - 1, by omega⟩
        have q := (w.go j ms[j] x (List.getElem?_eq_getElem (by omega)) hi).2.mpr (by omega)
        rw [g.mate, mm_comm] at q
        have q := g.mate.mpr q
        rw [nn] at q; cases q
    · exact List.mem_cons_of_mem _ (List.mem_cons_of_mem _ h)
  rw [List.length_cons, List.length_cons, ends_len, ends_len] at h1
  rw [List.length_cons, List.length_cons, ends_len, ends_len] at h2
  omega
end
end Od

namespace Od
open PySem PySem.Spec PyProof.Rows L2
/-! ### roads -/
/-- the places E, each with its own address, as the entries of a dict -/
def rk (ad : Int → Addr) (E : List Int) : List (L2.Key × V) := E.map fun x => (Sum.inl x, V.ref (ad x))
theorem rk_len (ad : Int → Addr) (E : List Int) : (rk ad E).length = E.length := List.length_map _
theorem rk_val (ad : Int → Addr) (q : Int) : ∀ E : List Int, valV (rk ad E) (Sum.inl q : L2.Key) = if q ∈ E then some (.ref (ad q)) else none
  | [] => rfl
  | p :: E => by
    show valV ((Sum.inl p, V.ref (ad p)) :: rk ad E) (Sum.inl q : L2.Key) = _
    by_cases e : p = q
    · subst e
      rw [valV_pos (by rfl), if_pos List.mem_cons_self]
    · rw [valV_neg (by intro z; injection z with z; exact e z), rk_val ad q E]
      by_cases m : q ∈ E
      · rw [if_pos m, if_pos (List.mem_cons_of_mem _ m)]
      · rw [if_neg m, if_neg fun z => (List.mem_cons.mp z).elim (fun z => e z.symm) m]
theorem rk_put {ad : Int → Addr} {E : List Int} {q : Int} (a : Addr) (h : q ∉ E) : putK (rk ad E) (Sum.inl q : L2.Key) (.ref a) = rk (fun x => if x = q then a else ad x) (E ++ [q]) := by
  have hn : valV (rk ad E) (Sum.inl q : L2.Key) = none := by rw [rk_val, if_neg h]
  rw [putK_new _ hn]
  unfold rk
  rw [List.map_append, List.map_cons, List.map_nil]
  dsimp only
  rw [if_pos rfl]
  congr 1
  refine List.map_congr_left fun x hx => ?_
  rw [if_neg (show ¬ x = q from fun z => h (z ▸ hx))]
theorem rk_merge (af : Int → Addr) : ∀ (F E : List Int) (ad : Int → Addr), F.Nodup → (∀ x ∈ F, x ∉ E) → mergeK (rk ad E) (rk af F) = rk (fun x => if x ∈ F then af x else ad x) (E ++ F)
  | [], E, ad, _, _ => by
    rw [List.append_nil]
    show rk ad E = _
    unfold rk
    refine List.map_congr_left fun x _ => ?_
    dsimp only
    rw [if_neg (by intro z; cases z)]
  | q :: F, E, ad, nd, off => by
    obtain ⟨nq, nF⟩ := List.nodup_cons.mp nd
    show mergeK (putK (rk ad E) (Sum.inl q : L2.Key) (.ref (af q))) (rk af F) = _
    rw [rk_put _ (off q List.mem_cons_self), rk_merge af F (E ++ [q]) _ nF fun x hx z => ?_]
    · rw [List.append_assoc]
      show rk _ (E ++ q :: F) = _
      unfold rk
      refine List.map_congr_left fun x _ => ?_
      dsimp only
      by_cases c : x ∈ F
      · rw [if_pos c, if_pos (List.mem_cons_of_mem _ c)]
      · rw [if_neg c]
        by_cases d : x = q
        · subst d; rw [if_pos rfl, if_pos List.mem_cons_self]
        · rw [if_neg d, if_neg fun z => (List.mem_cons.mp z).elim d c]
    · rcases List.mem_append.mp z with z | z
      · exact off x (List.mem_cons_of_mem _ hx) z
      · exact nq (List.mem_singleton.mp z ▸ hx)
/-- the roads stand at d -/
structure RAt (H : Hp) (d : Addr) (E : List Int) (rd : Int → List Int) (ad : Int → Addr) : Prop where
  kv : H d = some (.dK (rk ad E))
  row : ∀ x ∈ E, H (ad x) = some (.lst ((rd x).map V.int))
theorem RAt.ex {H H' : Hp} {d : Addr} {E : List Int} {rd : Int → List Int} {ad : Int → Addr} (r : RAt H d E rd ad) (e : Same H H') : RAt H' d E rd ad :=
  ⟨e _ _ r.kv, fun x hx => e _ _ (r.row x hx)⟩
theorem RAt.get {H : Hp} {d : Addr} {E : List Int} {rd : Int → List Int} {ad : Int → Addr} (r : RAt H d E rd ad) {q : Int} (h : q ∈ E) : DGet H d (.int q) (some (.ref (ad q))) := by
  have := DGet.k (k := Sum.inl q) r.kv
  rw [rk_val, if_pos h] at this
  exact this
theorem RAt.has {H : Hp} {d : Addr} {E : List Int} {rd : Int → List Int} {ad : Int → Addr} (r : RAt H d E rd ad) (q : Int) : DGet H d (.int q) (if q ∈ E then some (.ref (ad q)) else none) := by
  have := DGet.k (k := Sum.inl q) r.kv
  rw [rk_val] at this
  exact this
theorem isSome_if {q : Int} {E : List Int} {a : Addr} : (if q ∈ E then some (V.ref a) else none).isSome = decide (q ∈ E) := by
  by_cases h : q ∈ E
  · rw [if_pos h, decide_eq_true h]; rfl
  · rw [if_neg h, decide_eq_false h]; rfl
end Od

namespace Od
open PySem PySem.Spec PyProof.Rows L2
/-! ### roads round a ring -/
/-- those of l that have no road and are not on the other one -/
def nw (E o l : List Int) : List Int := l.filter fun p => decide (p ∉ E ∧ p ∉ o)
theorem nw_mem {E o l : List Int} {p : Int} : p ∈ nw E o l ↔ p ∈ l ∧ p ∉ E ∧ p ∉ o := by
  unfold nw; rw [List.mem_filter, decide_eq_true_eq]
theorem nw_snoc {E o l : List Int} {p : Int} : nw E o (l ++ [p]) = if p ∉ E ∧ p ∉ o then nw E o l ++ [p] else nw E o l := by
  unfold nw
  rw [List.filter_append]
  by_cases h : p ∉ E ∧ p ∉ o
  · rw [if_pos h]
    have e : decide (p ∉ E ∧ p ∉ o) = true := decide_eq_true h
    rw [show [p].filter (fun p => decide (p ∉ E ∧ p ∉ o)) = [p] by rw [List.filter_cons, if_pos e]; rfl]
  · rw [if_neg h]
    have e : ¬ decide (p ∉ E ∧ p ∉ o) = true := by rw [decide_eq_true_eq]; exact h
    rw [show [p].filter (fun p => decide (p ∉ E ∧ p ∉ o)) = [] by rw [List.filter_cons, if_neg e]; rfl, List.append_nil]
def spRound : Sp := fun vs H Q _ => ∃ (d : Addr) (E : List Int) (rd : Int → List Int) (ad : Int → Addr) (a b : Int), vs = [.ref d, .int a, .int b] ∧ RAt H d E rd ad ∧ a ∈ E ∧ b ∈ E ∧ E.length ≤ 40 ∧ (rd a).Nodup ∧ (rd a).length ≤ 40 ∧ (rd b).length ≤ 40 ∧
  ∀ (nr : Int → List Int) (p : Addr) (af : Int → Addr) (H' : Hp), (∀ (x : Int) (i : Nat), (rd a)[i]? = some x → x ∉ E → x ∉ rd b → nr x = rd b ++ ((rd a).drop i).reverse) → H p = none → Same H H' → RAt H' p (nw E (rd b) (rd a)) nr af → (∀ x ∈ nw E (rd b) (rd a), H (af x) = none) → Q (.ref p) H'
section
variable {P : Program} {w : World} {K : PySem.W.Frag} {mg : Str → Option Value} {c : Cs} {base : Heap}
theorem ok_round (T : Top K mg c) : Fd.Has P w K mg base CX0 1 "roads_round" ["roads", "one", "other"] spRound := by
  refine T.d_roads_round.ok sc_roads_round (fun vs H Q E h => ?_) (fun f cdv A outer s H vs Q E hr h => ?_)
  · obtain ⟨d, E, rd, ad, a, b, rfl, _⟩ := h; rfl
  · obtain ⟨d, E, rd, ad, a, b, rfl, R, ha, hb, lE, nda, la, lb, q⟩ := h
    refine ⟨_, (pss_cons (ps_set (i := 3) sc_roads_round.nd rfl (Or.inl rfl) pe_dnewK)
      (pss_cons (ps_for PassesOwn.never rfl (pi_enum (by rfl) T.n_enumerate (pa_cons (pe_dget (hu_of hr) (pv 0) (pv 1) (fun _ _ => rfl)) pa_nil)) (pg_tup rfl (pgs_cons (pg_name (i := 4) sc_roads_round.nd rfl (Or.inl rfl)) (pgs_cons (pg_name (i := 5) sc_roads_round.nd rfl (Or.inl rfl)) pgs_nil)))
      (pss_one (ps_if (PW.pt (pw_and (pt_cmp (pc_dnotin (hu_of hr) (pv 5) (pv 0))) (pw_and1 (pt_cmpR (r := rIn K true) op_notIn_seq (pv 5) (pe_dget (hu_of hr) (pv 0) (pv 2) (fun _ _ => rfl)) (by rfl)))))
        (pss_cons (ps_set (i := 6) sc_roads_round.nd rfl (Or.inl rfl) (pe_slice sl_list (pe_dget (hu_of hr) (pv 0) (pv 1) (fun _ _ => rfl)) (po_some (pv 4)) po_none))
          (pss_one (ps_asg (pe_op op_cat (pe_dget (hu_of hr) (pv 0) (pv 2) (fun _ _ => rfl)) (pe_revL (pv 6))) (pg_sub (pv 3) (pv 5) (set_dict (hu_of hr))))))
        pss_nil)))
      (pss_one (ps_ret (pv 3))))), ?_⟩
    dsimp only [cxOf, Cx.nox]
    refine fun M hM => ?_
    have sM := Same.new (o := .dK []) hM
    have eM : upd H M (.dK []) M = some (.dK []) := upd_same
    generalize upd H M (.dK []) = H0 at sM eM ⊢
    have R0 := R.ex sM
    have ea0 := R0.row a ha
    refine ⟨_, rfl, _, rfl, d, _, rfl, R0.get ha, ad a, _, rfl, SqL.of ea0, for_it (walk_enum (xs := (rd a).map V.int)) (fun i σ H' => ∃ v4 v5 v6 nr af, σ = [some (.ref d), some (.int a), some (.int b), some (.ref M), v4, v5, v6] ∧ Same H H' ∧ RAt H' M (nw E (rd b) ((rd a).take i)) nr af ∧ (∀ x ∈ nw E (rd b) ((rd a).take i), H (af x) = none) ∧ ∀ (x : Int) (j : Nat), j < i → (rd a)[j]? = some x → x ∉ E → x ∉ rd b → nr x = rd b ++ ((rd a).drop j).reverse)
      ⟨none, none, none, fun _ => [], fun _ => 0, rfl, sM, ⟨eM, fun x hx => by rw [List.take_zero] at hx; cases hx⟩, fun x hx => (by rw [List.take_zero] at hx; cases hx), fun x j hj => absurd hj (Nat.not_lt_zero _)⟩ (fun i σ H' _ ⟨_, _, _, _, _, _, e, _⟩ => SqL.of ((R.ex e).row a ha)) ?_ ?_⟩
    · rintro i v σ H1 H2 hi ⟨w4, w5, w6, nr, af, rfl, s1, RF, hnew, hnr⟩ ⟨t, x1, y1, rfl, ht, rfl, hx1, hy1⟩
      have hy1 : ((rd a).map V.int)[i]? = some y1 := hy1
      rw [List.getElem?_map] at hy1
      obtain ⟨y, hy, rfl⟩ := Option.map_eq_some_iff.mp hy1
      obtain rfl : V.int (i : Int) = x1 := Option.some.inj hx1
      have b1 := Same.new (o := .tup [V.int (i : Int), .int y]) ht
      have et : upd H1 t (.tup [V.int (i : Int), .int y]) t = some (.tup [V.int (i : Int), .int y]) := upd_same
      generalize upd H1 t (.tup [V.int (i : Int), .int y]) = H2 at b1 et ⊢
      have s2 := Same.trans s1 b1
      have R2 := R.ex s2
      have RF2 := RF.ex b1
      have il := (List.getElem?_eq_some_iff.mp hy).1
      have tk : (rd a).take (i + 1) = (rd a).take i ++ [y] := by rw [List.take_succ, hy]; rfl
      refine ⟨t, _, rfl, SqT.of et, rfl, _, _, rfl, _, _, rfl, rfl, ?_⟩
      have skip : ¬ (y ∉ E ∧ y ∉ rd b) → ∃ v4 v5 v6 nr af, [some (V.ref d), some (.int a), some (.int b), some (.ref M), some (.int (i : Int)), some (.int y), w6] = [some (V.ref d), some (.int a), some (.int b), some (.ref M), v4, v5, v6] ∧ Same H H2 ∧ RAt H2 M (nw E (rd b) ((rd a).take (i + 1))) nr af ∧ (∀ x ∈ nw E (rd b) ((rd a).take (i + 1)), H (af x) = none) ∧ ∀ (x : Int) (j : Nat), j < i + 1 → (rd a)[j]? = some x → x ∉ E → x ∉ rd b → nr x = rd b ++ ((rd a).drop j).reverse := fun no => by
        refine ⟨_, _, _, nr, af, rfl, s2, by rw [tk, nw_snoc, if_neg no]; exact RF2, by rw [tk, nw_snoc, if_neg no]; exact hnew, fun x j hj hx h1 h2 => ?_⟩
        by_cases e : j = i
        · subst e
          rw [hy] at hx; cases hx
          exact absurd ⟨h1, h2⟩ no
        · exact hnr x j (by omega) hx h1 h2
      refine ⟨_, rfl, _, rfl, d, _, rfl, R2.has y, _, rfl, ?_⟩
      rw [isSome_if]
      by_cases c1 : y ∈ E
      · rw [decide_eq_true c1]
        exact iteF (iteF (skip fun z => z.1 c1))
      rw [decide_eq_false c1]
      refine iteT ⟨_, rfl, _, rfl, _, rfl, d, _, rfl, R2.get hb, ad b, _, rfl, .inl (SqL.of (R2.row b hb)), rfl, flat_ints _, _, rfl, ?_⟩
      rw [inV_ints]
      by_cases c2 : y ∈ rd b
      · rw [decide_eq_true c2]
        exact iteF (skip fun z => z.2 c2)
      rw [decide_eq_false c2]
      refine iteT ?_
      -- the road round
      refine ⟨_, rfl, _, rfl, d, _, rfl, R2.get ha, _, rfl, _, rfl, ad a, _, rfl, SqL.of (R2.row a ha), fun pb hpb => ?_⟩
      have b2 := Same.new (o := .lst (cutV ((rd a).map V.int) (some (i : Int)) none)) hpb
      have epb : upd H2 pb (.lst (cutV ((rd a).map V.int) (some (i : Int)) none)) pb = some (.lst (((rd a).drop i).map V.int)) := by rw [upd_same, Sl.cut_from, List.map_drop]
      generalize upd H2 pb _ = H3 at b2 epb ⊢
      have R3 := R2.ex b2
      refine ⟨_, rfl, _, rfl, d, _, rfl, R3.get hb, _, rfl, pb, _, rfl, SqL.of epb, fun pc hpc => ?_⟩
      have b3 := Same.new (o := .lst (((rd a).drop i).map V.int).reverse) hpc
      have epc : upd H3 pc (.lst (((rd a).drop i).map V.int).reverse) pc = some (.lst (((rd a).drop i).reverse.map V.int)) := by rw [upd_same, List.map_reverse]
      generalize upd H3 pc _ = H4 at b3 epc ⊢
      have R4 := R3.ex b3
      refine ⟨ad b, pc, _, _, rfl, rfl, R4.row b hb, epc, len40 (by rw [List.length_map, List.length_map, List.length_reverse, List.length_drop]; omega), fun pd hpd => ?_⟩
      have b4 := Same.new (o := .lst ((rd b).map V.int ++ ((rd a).drop i).reverse.map V.int)) hpd
      have epd : upd H4 pd (.lst ((rd b).map V.int ++ ((rd a).drop i).reverse.map V.int)) pd = some (.lst ((rd b ++ ((rd a).drop i).reverse).map V.int)) := by rw [upd_same, List.map_append]
      generalize upd H4 pd _ = H5 at b4 epd ⊢
      have b25 := Same.trans (Same.trans b2 b3) b4
      have RF5 := RF2.ex b25
      have yF : y ∉ nw E (rd b) ((rd a).take i) := fun z => by
        obtain ⟨j, h1, h2⟩ := Ge.mem_take.mp (nw_mem.mp z).1
        have := Ge.nodup_at nda h2 hy
        omega
      have lF : (nw E (rd b) ((rd a).take i)).length ≤ 40 := by
        unfold nw
        refine Nat.le_trans (List.length_filter_le _ _) ?_
        rw [List.length_take]; omega
      refine ⟨_, rfl, _, rfl, M, _, rfl, DPut.k (k := .inl y) RF5.kv (by rw [rk_len, sizeLine_eq]; omega), ?_⟩
      rw [rk_put _ yF]
      have sN : Same H (upd H5 M (.dK (rk (fun x => if x = y then pd else af x) (nw E (rd b) ((rd a).take i) ++ [y])))) := Same.mut (Same.trans s2 b25) hM
      have keep : ∀ {l : Addr} {xs : List V}, H5 l = some (.lst xs) → (upd H5 M (.dK (rk (fun x => if x = y then pd else af x) (nw E (rd b) ((rd a).take i) ++ [y])))) l = some (.lst xs) := fun {l xs} e => by
        rw [upd_ne (ne_of e RF5.kv (fun z => nomatch z))]; exact e
      refine ⟨_, _, _, fun x => if x = y then rd b ++ ((rd a).drop i).reverse else nr x, fun x => if x = y then pd else af x, rfl, sN, ?_, fun x hx => ?_, fun x j hj hx h1 h2 => ?_⟩
      · rw [tk, nw_snoc, if_pos ⟨c1, c2⟩]
        refine ⟨upd_same, fun x hx => ?_⟩
        by_cases e : x = y
        · subst e
          rw [if_pos rfl, if_pos rfl]; exact keep epd
        · rw [if_neg e, if_neg e]
          rcases List.mem_append.mp hx with z | z
          · exact keep (RF5.row x z)
          · exact absurd (List.mem_singleton.mp z) e
      · dsimp only
        by_cases e : x = y
        · subst e
          rw [if_pos rfl]; exact (Same.trans s2 (Same.trans b2 b3)).free hpd
        · rw [if_neg e]
          rw [tk, nw_snoc, if_pos ⟨c1, c2⟩] at hx
          rcases List.mem_append.mp hx with z | z
          · exact hnew x z
          · exact absurd (List.mem_singleton.mp z) e
      · dsimp only
        by_cases e : j = i
        · subst e
          rw [hy] at hx; cases hx
          rw [if_pos rfl]
        · have ne : x ≠ y := fun z => by
            subst z
            exact e (Ge.nodup_at nda hx hy)
          rw [if_neg ne]
          exact hnr x j (by omega) hx h1 h2
    · rintro σ H1 ⟨v4, v5, v6, nr, af, rfl, s1, RF, hnew, hnr⟩
      rw [List.length_map, List.take_length] at RF hnew
      refine ⟨_, rfl, q nr M af H1 (fun x j hx h1 h2 => hnr x j ?_ hx h1 h2) hM s1 RF hnew⟩
      have := (List.getElem?_eq_some_iff.mp hx).1
      rw [List.length_map]; exact this
end
end Od

namespace Od
open PySem PySem.Spec PyProof.Rows L2
theorem ring_of {E : List Int} {rd n1 n2 : Int → List Int} {h t : Int} (nh : (rd h).Nodup) (nt : (rd t).Nodup)
    (h1 : ∀ (x : Int) (i : Nat), (rd h)[i]? = some x → x ∉ E → x ∉ rd t → n1 x = rd t ++ ((rd h).drop i).reverse)
    (h2 : ∀ (x : Int) (i : Nat), (rd t)[i]? = some x → x ∉ E → x ∉ rd h → n2 x = rd h ++ ((rd t).drop i).reverse) :
    Ge.Ring E rd h t (nw E (rd t) (rd h) ++ nw E (rd h) (rd t)) (Ge.put n1 (nw E (rd h) (rd t)) n2) := by
  refine ⟨?_, fun p => ?_, fun p hp i hi hn => ?_, fun p hp i hi hn => ?_⟩
  · refine List.nodup_append.mpr ⟨nh.filter _, nt.filter _, fun a ha b hb e => ?_⟩
    subst e
    exact (nw_mem.mp ha).2.2 (nw_mem.mp hb).1
  · rw [List.mem_append, nw_mem, nw_mem]
    constructor
    · rintro (⟨a, b, d⟩ | ⟨a, b, d⟩)
      · exact ⟨b, .inl ⟨a, d⟩⟩
      · exact ⟨b, .inr ⟨a, d⟩⟩
    · rintro ⟨b, ⟨a, d⟩ | ⟨a, d⟩⟩
      · exact .inl ⟨a, b, d⟩
      · exact .inr ⟨a, b, d⟩
  · rw [Ge.put_out fun z => (nw_mem.mp z).2.2 (List.mem_of_getElem? hi)]
    exact h1 p i hi hp hn
  · rw [Ge.put_in (nw_mem.mpr ⟨List.mem_of_getElem? hi, hp, hn⟩)]
    exact h2 p i hi hp hn
def spBy : Sp := fun vs H Q _ => ∃ (d m : Addr) (n : Nat) (qs : List Pr) (E : List Int) (rd : Int → List Int) (ad : Int → Addr) (h t : Int), vs = [.ref d, .ref m, .int h, .int t] ∧ RAt H d E rd ad ∧ H m = some (.lst (mrow n qs)) ∧ h ∈ E ∧ E.length ≤ 40 ∧ (∀ x ∈ E, (rd x).Nodup ∧ (rd x).length ≤ 40) ∧ 0 ≤ t ∧ t < (n : Int) ∧ (t ∈ E ∨ ∃ z, mo qs t = some z) ∧
  ∀ (F : List Int) (nr : Int → List Int) (p : Addr) (af : Int → Addr) (H' : Hp), Ge.Step (mo qs) E rd h t F nr → H p = none → Same H H' → RAt H' p F nr af → (∀ x ∈ F, H (af x) = none) → Q (.ref p) H'
section
variable {P : Program} {w : World} {K : PySem.W.Frag} {mg : Str → Option Value} {c : Cs} {base : Heap}
theorem ok_by (T : Top K mg c) : Fd.Has P w K mg base CX0 2 "roads_by" ["roads", "mates", "here", "there"] spBy := by
  have G_roads_round : Fd.Has P w K mg base CX0 1 "roads_round" ["roads", "one", "other"] spRound := ok_round T
  refine T.d_roads_by.ok sc_roads_by (fun vs H Q E h => ?_) (fun f cdv A outer s H vs Q E hr h => ?_)
  · obtain ⟨d, m, n, qs, E, rd, ad, a, b, rfl, _⟩ := h; rfl
  · obtain ⟨d, m, n, qs, E, rd, ad, a, b, rfl, R, hm, ha, lE, hrd, b0, b1, hb, q⟩ := h
    have hr_roads_round := hr
    refine ⟨_, (pss_cons (ps_if (pt_cmp (pc_din (hu_of hr) (pv 3) (pv 0)))
      (pss_cons (ps_set (i := 4) sc_roads_by.nd rfl (Or.inl rfl) (Fd.pe_f G_roads_round hr_roads_round (by rfl) (pa_cons (pv 0) (pa_cons (pv 2) (pa_cons (pv 3) pa_nil)))))
        (pss_cons (ps_expr (pe_bm PySem.F.plainAttrs_dict PySem.F.slot_dict_update PySem.F.type_dict_update Up.mt_updD (pv 4) (pa_cons (Fd.pe_f G_roads_round hr_roads_round (by rfl) (pa_cons (pv 0) (pa_cons (pv 3) (pa_cons (pv 2) pa_nil)))) pa_nil)))
        (pss_one (ps_ret (pv 4)))))
      pss_nil)
      (pss_cons (ps_set (i := 5) sc_roads_by.nd rfl (Or.inl rfl) (pe_ix ix_list (pv 1) (pv 3) (fun _ _ => rfl)))
      (pss_cons (ps_if (pt_cmp (pc_din (hu_of hr) (pv 5) (pv 0)))
      (pss_one (ps_ret pe_dnewK))
      pss_nil)
      (pss_one (ps_ret (pe_disp (pps_cons (pv 5) (pe_op op_cat (pe_dget (hu_of hr) (pv 0) (pv 2) (fun _ _ => rfl)) (pe_lst (pa_cons (pv 3) (pa_cons (pv 5) pa_nil)))) pps_nil) (by rfl) (by rfl) (fun z => by cases z) (by decide))))))), ?_⟩
    dsimp only [cxOf, Cx.nox]
    refine ⟨_, rfl, _, rfl, d, _, rfl, R.has b, _, rfl, ?_⟩
    rw [isSome_if]
    by_cases cb : b ∈ E
    · rw [decide_eq_true cb]
      have nda := (hrd a ha).1
      have ndb := (hrd b cb).1
      have la := (hrd a ha).2
      have lb := (hrd b cb).2
      refine iteT ⟨_, rfl, _, rfl, _, rfl, d, E, rd, ad, a, b, rfl, R, ha, cb, lE, nda, la, lb, fun n1 p1 af1 H1 hn1 hp1 s1 R1 new1 => ?_⟩
      have R' := R.ex s1
      refine ⟨_, rfl, .inr (.inr (.inl ⟨rfl, .inl ⟨_, R1.kv⟩⟩)), _, rfl, _, rfl, _, rfl, d, E, rd, ad, b, a, rfl, R', cb, ha, lE, ndb, lb, la, fun n2 p2 af2 H2 hn2 hp2 s2 R2 new2 => ?_⟩
      have R1' := R1.ex s2
      have n12 : p1 ≠ p2 := fun z => by rw [z] at R1; rw [R1.kv] at hp2; cases hp2
      have lw : ∀ (E o l : List Int), (nw E o l).length ≤ l.length := fun E o l => List.length_filter_le _ _
      have w1 := lw E (rd b) (rd a)
      have w2 := lw E (rd a) (rd b)
      refine ⟨p1, p2, _, _, rfl, rfl, n12, R1'.kv, R2.kv, by rw [rk_len, rk_len, sizeLine_eq]; omega, ?_⟩
      have ring := ring_of nda ndb hn1 hn2
      have off : ∀ x ∈ nw E (rd a) (rd b), x ∉ nw E (rd b) (rd a) := fun x hx hy => (nw_mem.mp hy).2.2 (nw_mem.mp hx).1
      have nf : (nw E (rd a) (rd b)).Nodup := ndb.filter _
      rw [rk_merge af2 _ _ af1 nf off]
      refine ⟨_, rfl, q _ _ p1 _ _ (.ring cb ring) hp1 (Same.mut (Same.trans s1 s2) hp1) ⟨upd_same, fun x hx => ?_⟩ fun x hx => ?_⟩
      rotate_left
      · by_cases c2 : x ∈ nw E (rd a) (rd b)
        · rw [if_pos c2]; exact s1.free (new2 x c2)
        · rw [if_neg c2]
          rcases List.mem_append.mp hx with z | z
          · exact new1 x z
          · exact absurd z c2
      have keep : ∀ {l : Addr} {xs : List V} {o : HO}, H2 l = some (.lst xs) → (∀ k, o = .dK k → upd H2 p1 o l = some (.lst xs)) := fun {l xs o} e k _ => by
        rw [upd_ne (ne_of e R1'.kv (fun z => nomatch z))]; exact e
      by_cases c2 : x ∈ nw E (rd a) (rd b)
      · rw [if_pos c2, Ge.put_in c2]
        exact keep (R2.row x c2) _ rfl
      · rw [if_neg c2, Ge.put_out c2]
        rcases List.mem_append.mp hx with z | z
        · exact keep (R1'.row x z) _ rfl
        · exact absurd z c2
    · rw [decide_eq_false cb]
      obtain ⟨z, hz⟩ := hb.resolve_left cb
      have mz := mo_some.mp hz
      obtain ⟨bn, rfl⟩ : ∃ bn : Nat, b = (bn : Int) := ⟨b.toNat, by omega⟩
      have atb : atI (mrow n qs) (bn : Int) = some (.int z) := by
        rw [← mz]; exact atI_nat (mrow_at (by omega))
      refine iteF ⟨_, rfl, _, rfl, m, _, _, _, rfl, rfl, SqL.of hm, atb, ?_⟩
      refine ⟨_, rfl, _, rfl, d, _, rfl, R.has z, _, rfl, ?_⟩
      rw [isSome_if]
      by_cases cz : z ∈ E
      · rw [decide_eq_true cz]
        refine iteT fun p hp => ?_
        exact q [] (fun _ => []) p (fun _ => 0) _ (.skip cb hz cz) hp (Same.new hp) ⟨upd_same, fun x hx => by cases hx⟩ fun x hx => by cases hx
      · rw [decide_eq_false cz]
        refine iteF fun p hp => ?_
        have s0 := Same.new (o := .dK []) hp
        have e0 : upd H p (.dK []) p = some (.dK []) := upd_same
        generalize upd H p (.dK []) = H0 at s0 e0 ⊢
        have R0 := R.ex s0
        refine ⟨_, rfl, _, rfl, _, rfl, d, _, rfl, R0.get ha, _, rfl, _, rfl, (by show 2 ≤ sizeLine; decide), fun p1 hp1 => ?_⟩
        have b1 := Same.new (o := .lst [V.int (bn : Int), .int z]) hp1
        have e1 : upd H0 p1 (.lst [V.int (bn : Int), .int z]) p1 = some (.lst ([(bn : Int), z].map V.int)) := upd_same
        generalize upd H0 p1 (.lst [V.int (bn : Int), .int z]) = H1 at b1 e1 ⊢
        have R1 := R0.ex b1
        have la := (hrd a ha).2
        refine ⟨ad a, p1, _, _, rfl, rfl, R1.row a ha, e1, len40 (by simp; omega), fun p2 hp2 => ?_⟩
        have b2 := Same.new (o := .lst ((rd a).map V.int ++ [(bn : Int), z].map V.int)) hp2
        have e2 : upd H1 p2 (.lst ((rd a).map V.int ++ [(bn : Int), z].map V.int)) p2 = some (.lst ((rd a ++ [(bn : Int), z]).map V.int)) := by rw [upd_same, List.map_append]
        generalize upd H1 p2 _ = H2 at b2 e2 ⊢
        have b02 := Same.trans b1 b2
        refine ⟨b02 _ _ e0, [(Sum.inl z, .ref p2)], rfl, (by show 1 ≤ 15; decide), ?_⟩
        refine q [z] (fun _ => rd a ++ [(bn : Int), z]) p (fun _ => p2) _ (.grow cb hz cz rfl) hp (Same.mut (Same.trans s0 b02) hp) ⟨by rw [upd_same]; rfl, fun x hx => ?_⟩ fun x hx => (Same.trans s0 b1).free hp2
        rw [upd_ne (ne_of e2 (b02 _ _ e0) (fun z => nomatch z))]; exact e2
end
end Od

namespace Od
open PySem PySem.Spec PyProof.Rows L2
theorem rk_congr {ad ad' : Int → Addr} {E : List Int} (h : ∀ x ∈ E, ad x = ad' x) : rk ad E = rk ad' E := by
  unfold rk
  exact List.map_congr_left fun x hx => by rw [h x hx]
theorem if_ret {t : TT} {u w : TS} {D : Ends} {σ : St} {H : Hp} {R S : Hp → Prop} (h : ∀ Q' : Bool → Hp → Prop, (∀ H6, R H6 → Q' false H6) → (∀ H6, S H6 → Q' true H6) → t σ H Q') (k : ∀ H6, R H6 → w D σ H6) (r : ∀ H6, S H6 → u D σ H6) : tIfS t u w D σ H :=
  h _ (fun H6 r => by rw [if_neg Bool.false_ne_true]; exact k H6 r) fun H6 z => by rw [if_pos rfl]; exact r H6 z
/-- the end of a search that finds a way -/
theorem way_end {n : Nat} {ts qs : List Pr} {r : Int} {E : List Int} {rd : Int → List Int} {h t : Int} (g : Pg n ts qs) (hr : 0 ≤ r ∧ r < (n : Int)) (V : Ge.Sv (nbr ts) (mo qs) r E rd) (hh : h ∈ E) (ht : t ∈ nbr ts h) (htE : t ∉ E) (hn : mo qs t = none) :
    IsWay n ts qs (rd h ++ [t]) := by
  have R := V.road h hh
  have odd := R.odd
  have M := g.mt
  have rg := R.rng (nbr_rg g.tie) hr
  have off : t ∉ rd h := fun z => by
    obtain ⟨i, hi⟩ := List.getElem?_of_mem z
    obtain ⟨v, _, e, _⟩ := V.mate_in hh hi htE
    rw [hn] at e; cases e
  have len : (rd h ++ [t]).length = (rd h).length + 1 := by rw [List.length_append]; rfl
  have at1 : ∀ {i : Nat} {a : Int}, (rd h ++ [t])[i]? = some a → (i < (rd h).length ∧ (rd h)[i]? = some a) ∨ (i = (rd h).length ∧ a = t) := fun {i a} e => by
    by_cases c : i < (rd h).length
    · rw [List.getElem?_append_left c] at e; exact .inl ⟨c, e⟩
    · have hl := (List.getElem?_eq_some_iff.mp e).1
      rw [len] at hl
      obtain rfl : i = (rd h).length := by omega
      rw [List.getElem?_append_right (Nat.le_refl _), Nat.sub_self] at e
      exact .inr ⟨rfl, (Option.some.inj e).symm⟩
  refine ⟨fun m hm => ?_, List.nodup_append.mpr ⟨R.nd, List.pairwise_singleton _ _, fun a ha b hb e => off (by rw [← List.mem_singleton.mp hb, ← e]; exact ha)⟩, by omega, by omega, fun m hm => ?_, fun m hm => ?_, fun i a b h1 h2 => ?_⟩
  · rcases List.mem_append.mp hm with z | z
    · exact rg m z
    · rw [List.mem_singleton.mp z]; exact nbr_rng g.tie ht
  · rw [List.getElem?_append_left R.pos, R.fst] at hm; cases hm
    exact mo_none.mp V.alone
  · rw [len, show (rd h).length + 1 - 1 = (rd h).length by omega, List.getElem?_append_right (Nat.le_refl _), Nat.sub_self] at hm
    cases hm
    exact mo_none.mp hn
  · rcases at1 h1 with ⟨c1, e1⟩ | ⟨c1, e1⟩
    · rcases at1 h2 with ⟨c2, e2⟩ | ⟨c2, e2⟩
      · refine ⟨R.adj i a b e1 e2, ?_⟩
        constructor
        · intro k
          apply Classical.byContradiction
          intro c
          have k := mo_some.mpr k
          by_cases i0 : i = 0
          · subst i0
            rw [R.fst] at e1; cases e1
            rw [V.alone] at k; cases k
          · obtain ⟨j, rfl⟩ : ∃ j, i = j + 1 := ⟨i - 1, by omega⟩
            obtain ⟨u, hu, e⟩ := R.prev M e1 (by omega)
            rw [k] at e; cases e
            have := Ge.nodup_at R.nd hu e2
            omega
        · intro o
          exact mo_some.mp (R.alt i a b o e1 e2)
      · have : i = (rd h).length - 1 := by omega
        rw [this, R.lst] at e1; cases e1
        subst e2
        refine ⟨ht, fun k => ?_, fun o => by omega⟩
        have := M.sym (mo_some.mpr k)
        rw [hn] at this; cases this
    · rcases at1 h2 with ⟨c2, e2⟩ | ⟨c2, e2⟩ <;> omega
/-- where a search stands: the roads at d, what waits at l -/
structure WS (H : Hp) (d l : Addr) (ts qs : List Pr) (r : Int) (E : List Int) (rd : Int → List Int) (ad : Int → Addr) (W : List Int) : Prop where
  R : RAt H d E rd ad
  wt : H l = some (.lst (W.map V.int))
  far : ∀ x ∈ E, ad x ≠ l
  sv : Ge.Sv (nbr ts) (mo qs) r E rd
  nd : E.Nodup
  sub : ∀ x ∈ W, x ∈ E
def spFrom (C : Addr) : Sp := fun vs H Q _ => ∃ (x m : Addr) (r : Int) (n : Nat) (ts qs : List Pr), vs = [.ref x, .ref m, .int r] ∧ NetAt C H x n ts ∧ H m = some (.lst (mrow n qs)) ∧ Pg n ts qs ∧ 0 ≤ r ∧ r < (n : Int) ∧ mo qs r = none ∧
  (∀ (ms : List Int) (p : Addr) (H' : Hp), IsWay n ts qs ms → H p = none → Same H H' → H' p = some (.lst (ms.map V.int)) → Q (.ref p) H') ∧ ((∃ F, Ge.Srch n (nbr ts) (mo qs) r F) → ∀ H', Same H H' → Q .non H')
section
variable {P : Program} {w : World} {K : PySem.W.Frag} {mg : Str → Option Value} {c : Cs} {base : Heap}
theorem ok_from (T : Top K mg c) : Fd.Has P w K mg base CX0 4 "way_from" ["net", "mates", "root"] (spFrom c.Net) := by
  have G_Net_beside : Fd.MHas P w K mg base (L2N.CX P w) 3 c.Net "beside" ["self", "place"] (spBeside c.Net c.NoPlace) := ok_beside T
  have G_roads_by : Fd.Has P w K mg base CX0 2 "roads_by" ["roads", "mates", "here", "there"] spBy := ok_by T
  refine T.d_way_from.ok sc_way_from (fun vs H Q E h => ?_) (fun f cdv A outer s H vs Q E hr h => ?_)
  · obtain ⟨x, m, r, n, ts, qs, rfl, _⟩ := h; rfl
  · obtain ⟨x, m, r, n, ts, qs, rfl, N, hm, g, r0, r1, hrn, qw, qn⟩ := h
    have hr_Net_beside := hr
    have hr_roads_by := hr.mono (show 2 ≤ 3 by decide)
    have n40 := N.hi
    have G := gr_nbr g.tie
    have M := g.mt
    have hn : ∀ {p q : Int}, q ∈ nbr ts p → 0 ≤ q ∧ q < (n : Int) := nbr_rg g.tie
    refine ⟨_, (pss_cons (ps_set (i := 3) sc_way_from.nd rfl (Or.inl rfl) (pe_disp (pps_cons (pv 2) (pe_lst (pa_cons (pv 2) pa_nil)) pps_nil) (by rfl) (by rfl) (fun z => by cases z) (by decide)))
      (pss_cons (ps_set (i := 4) sc_way_from.nd rfl (Or.inl rfl) (pe_lst (pa_cons (pv 2) pa_nil)))
      (pss_cons (ps_while PassesOwn.never (pt_truth (pv 4) (by intro _; rfl))
      (pss_cons (ps_set (i := 5) sc_way_from.nd rfl (Or.inl rfl) (pe_bm0 PySem.F.plainAttrs_list PySem.F.slot_list_pop PySem.F.type_list_pop mt_pop (pv 4)))
        (pss_one (ps_for PassesOwn.never rfl (pi_list (Fd.pe_mN G_Net_beside (pv 0) T.cl_Net hr_Net_beside Fd.pass00 (pa_cons (pv 5) pa_nil))) (pg_name (i := 6) sc_way_from.nd rfl (Or.inl rfl))
        (pss_cons (ps_if (PW.pt (pw_and (pt_cmp (pc_dnotin (hu_of hr) (pv 6) (pv 3))) (pw_and1 (pt_cmpR op_isN (pe_ix ix_list (pv 1) (pv 6) (fun _ _ => rfl)) pe_non (nomark _)))))
          (pss_one (ps_ret (pe_op op_cat (pe_dget (hu_of hr) (pv 3) (pv 5) (fun _ _ => rfl)) (pe_lst (pa_cons (pv 6) pa_nil)))))
          pss_nil)
          (pss_cons (ps_set (i := 7) sc_way_from.nd rfl (Or.inl rfl) (Fd.pe_f G_roads_by hr_roads_by (by rfl) (pa_cons (pv 3) (pa_cons (pv 1) (pa_cons (pv 5) (pa_cons (pv 6) pa_nil))))))
          (pss_one (ps_lock (ps_for PassesOwn.never rfl (pi_keys (pv 7)) (pg_name (i := 8) sc_way_from.nd rfl (Or.inl rfl))
          (pss_cons (ps_asg (pe_dget (hu_of hr) (pv 7) (pv 8) (fun _ _ => rfl)) (pg_sub (pv 3) (pv 8) (set_dict (hu_of hr))))
            (pss_one (ps_expr (pe_bm PySem.F.plainAttrs_list PySem.F.slot_list_append PySem.F.type_list_append mt_append (pv 4) (pa_cons (pv 8) pa_nil))))))))))))))
      (pss_one (ps_ret pe_non))))), ?_⟩
    dsimp only [cxOf, Cx.nox]
    refine fun d hd => ?_
    have s0 := Same.new (o := .dK []) hd
    have e0 : upd H d (.dK []) d = some (.dK []) := upd_same
    generalize upd H d (.dK []) = H0 at s0 e0 ⊢
    refine ⟨_, rfl, _, rfl, (by show 1 ≤ sizeLine; decide), fun p1 hp1 => ?_⟩
    have b1 := Same.new (o := .lst [V.int r]) hp1
    have e1 : upd H0 p1 (.lst [V.int r]) p1 = some (.lst ([r].map V.int)) := upd_same
    generalize upd H0 p1 (.lst [V.int r]) = H1 at b1 e1 ⊢
    refine ⟨b1 _ _ e0, [(Sum.inl r, .ref p1)], rfl, (by show 1 ≤ 15; decide), ?_⟩
    have sd : Same H (upd H1 d (.dK (mergeK [] [(Sum.inl r, V.ref p1)]))) := Same.mut (Same.trans s0 b1) hd
    have ed : upd H1 d (.dK (mergeK [] [(Sum.inl r, V.ref p1)])) d = some (.dK (rk (fun _ => p1) [r])) := by rw [upd_same]; rfl
    have ep1 : upd H1 d (.dK (mergeK [] [(Sum.inl r, V.ref p1)])) p1 = some (.lst ([r].map V.int)) := by
      rw [upd_ne (ne_of e1 (b1 _ _ e0) (fun z => nomatch z))]; exact e1
    generalize upd H1 d (.dK (mergeK [] [(Sum.inl r, V.ref p1)])) = H2 at sd ed ep1 ⊢
    refine ⟨_, rfl, (by show 1 ≤ sizeLine; decide), fun wl hwl => ?_⟩
    have nwl : H wl = none := sd.free hwl
    have dwl : d ≠ wl := ne_of_none ed hwl
    have b3 := Same.new (o := .lst [V.int r]) hwl
    have ewl : upd H2 wl (.lst [V.int r]) wl = some (.lst ([r].map V.int)) := upd_same
    have S0 : WS (upd H2 wl (.lst [V.int r])) d wl ts qs r [r] (fun _ => [r]) (fun _ => p1) [r] :=
      ⟨⟨b3 _ _ ed, fun x hx => b3 _ _ ep1⟩, ewl, fun x _ => ne_of_none ep1 hwl, Ge.Sv.start hrn, List.pairwise_singleton _ _, fun x hx => hx⟩
    have s3 := Same.trans sd b3
    generalize upd H2 wl (.lst [V.int r]) = H3 at s3 S0 ⊢
    refine ⟨fun k σ H' => ∃ v5 v6 v7 v8 E rd ad W, σ = [some (.ref x), some (.ref m), some (.int r), some (.ref d), some (.ref wl), v5, v6, v7, v8] ∧ Same H H' ∧ WS H' d wl ts qs r E rd ad W ∧ Ge.Cl (nbr ts) (mo qs) E rd W (fun _ _ => False) ∧ k = 2 * (n - E.length) + W.length ∧ k ≤ 2 * n,
      ⟨_, none, none, none, none, [r], _, _, [r], rfl, s3, S0, Ge.Cl.start, rfl, by show 2 * (n - 1) + 1 ≤ 2 * n; omega⟩, ?_⟩
    rintro k σ HA ⟨v5, v6, v7, v8, E, rd, ad, W, rfl, sA, SA, cA, rfl, mb⟩
    refine ⟨_, rfl, _, .inl ⟨_, SqL.of SA.wt, rfl⟩, ?_⟩
    have rgE := SA.sv.rng hn ⟨r0, r1⟩
    have lenE : E.length ≤ n := int_few rgE SA.nd
    by_cases cw : W = []
    · subst cw
      dsimp only
      rw [if_neg (by simp)]
      exact qn ⟨_, SA.sv.srch G M cA.fin rgE⟩ HA sA
    · have hlen : 0 < W.length := List.length_pos_iff.mpr cw
      obtain ⟨y, hy⟩ : ∃ y, W[W.length - 1]? = some y := ⟨_, List.getElem?_eq_getElem (by omega)⟩
      have eW : W = W.dropLast ++ [y] := by
        have h2 := (List.dropLast_concat_getLast cw).symm
        have h3 : W.getLast cw = y := by
          have : W.getLast? = some y := by rw [List.getLast?_eq_getElem?]; exact hy
          rw [List.getLast?_eq_some_getLast cw] at this
          exact Option.some.inj this
        rw [h3] at h2; exact h2
      have yE : y ∈ E := SA.sub y (List.mem_of_getElem? hy)
      have yr := rgE y yE
      dsimp only
      rw [if_pos (by simpa using cw)]
      refine ⟨fun σ H' => ∃ v5 v6 v7 v8 E2 rd2 ad2 W2, σ = [some (.ref x), some (.ref m), some (.int r), some (.ref d), some (.ref wl), v5, v6, v7, v8] ∧ Same H H' ∧ WS H' d wl ts qs r E2 rd2 ad2 W2 ∧ Ge.Cl (nbr ts) (mo qs) E2 rd2 W2 (fun _ _ => False) ∧ 2 * (n - E2.length) + W2.length < 2 * (n - E.length) + W.length, ?_, ?_⟩
      · rintro σ' H' ⟨v5, v6, v7, v8, E2, rd2, ad2, W2, e1, e2, e3, e4, e5⟩
        exact ⟨_, e5, v5, v6, v7, v8, E2, rd2, ad2, W2, e1, e2, e3, e4, rfl, by omega⟩
      have dl : W.dropLast.length = W.length - 1 := List.length_dropLast
      have C1 : Ge.Cl (nbr ts) (mo qs) E rd W.dropLast (fun x z => x = y ∧ z ∈ (nbr ts y).drop 0) := by
        rw [eW] at cA
        exact cA.pop G
      refine ⟨_, rfl, .inl ⟨rfl, _, SqL.of SA.wt⟩, wl, _, V.int y, rfl, rfl, SA.wt, by rw [List.length_map, List.getElem?_map, hy]; rfl, ?_⟩
      have sB : Same H (upd HA wl (.lst (W.map V.int).dropLast)) := Same.mut sA nwl
      have SB : WS (upd HA wl (.lst (W.map V.int).dropLast)) d wl ts qs r E rd ad W.dropLast :=
        ⟨⟨by rw [upd_ne dwl]; exact SA.R.kv, fun z hz => by rw [upd_ne (SA.far z hz)]; exact SA.R.row z hz⟩, by rw [upd_same, List.map_dropLast], SA.far, SA.sv, SA.nd, fun z hz => SA.sub z (List.dropLast_subset _ hz)⟩
      generalize upd HA wl (.lst (W.map V.int).dropLast) = HB at sB SB ⊢
      have NB := N.ex sB
      obtain ⟨dx, lt, ln, us, rs, a1, _⟩ := NB.at_
      obtain ⟨yn, rfl⟩ : ∃ yn : Nat, y = (yn : Int) := ⟨y.toNat, by omega⟩
      refine ⟨_, rfl, x, dx, _, rfl, a1, nf_beside _ _ _, _, rfl, x, n, ts, _, _, rfl, NB, .int _, fun i e hi D0 hD0 => ?_, fun z => ?_⟩
      rotate_left
      · have : isPl (.int (yn : Int)) n = true := decide_eq_true ⟨by omega, by omega⟩
        rw [this] at z; cases z
      injection e with e
      obtain rfl : yn = i := by omega
      have nD0 : H D0 = none := sB.free hD0
      have bD := Same.new (o := .lst ((nbr ts (yn : Int)).map V.int)) hD0
      have eD : upd HB D0 (.lst ((nbr ts (yn : Int)).map V.int)) D0 = some (.lst ((nbr ts (yn : Int)).map V.int)) := upd_same
      have dD : D0 ≠ d := fun z => by rw [z, SB.R.kv] at hD0; cases hD0
      have wD : D0 ≠ wl := fun z => by rw [z, SB.wt] at hD0; cases hD0
      have SC : WS (upd HB D0 (.lst ((nbr ts (yn : Int)).map V.int))) d wl ts qs r E rd ad W.dropLast := ⟨SB.R.ex bD, bD _ _ SB.wt, SB.far, SB.sv, SB.nd, SB.sub⟩
      have sC := Same.trans sB bD
      generalize upd HB D0 (.lst ((nbr ts (yn : Int)).map V.int)) = HC at eD SC sC ⊢
      refine ⟨D0, rfl, ⟨_, SqL.of eD⟩, for_list (K := K) (a := D0) (xs := (nbr ts (yn : Int)).map V.int) (fun i σ H' => ∃ v6 v7 v8 E2 rd2 ad2 W2, σ = [some (.ref x), some (.ref m), some (.int r), some (.ref d), some (.ref wl), some (.int (yn : Int)), v6, v7, v8] ∧ Same H H' ∧ H' D0 = some (.lst ((nbr ts (yn : Int)).map V.int)) ∧ WS H' d wl ts qs r E2 rd2 ad2 W2 ∧ (yn : Int) ∈ E2 ∧
          Ge.Cl (nbr ts) (mo qs) E2 rd2 W2 (fun x z => x = (yn : Int) ∧ z ∈ (nbr ts (yn : Int)).drop i) ∧ 2 * (n - E2.length) + W2.length < 2 * (n - E.length) + W.length)
        ⟨v6, v7, v8, E, rd, ad, W.dropLast, rfl, sC, eD, SC, yE, C1, by omega⟩ (fun i σ H' _ ⟨_, _, _, _, _, _, _, _, _, e, _⟩ => SqL.of e) ?_ ?_⟩
      · rintro i z σ H4 hi ⟨v6, v7, v8, E2, rd2, ad2, W2, rfl, s4, eD4, S4, y4, C4, ms⟩
        rw [List.getElem?_map] at hi
        obtain ⟨t, ht, rfl⟩ := Option.map_eq_some_iff.mp hi
        have tn := List.mem_of_getElem? ht
        have tr := hn tn
        have rg4 := S4.sv.rng hn ⟨r0, r1⟩
        have len4 : E2.length ≤ n := int_few rg4 S4.nd
        have atM : atI (mrow n qs) t = some (mateOf qs t) := by
          have q1 := atI_nat (mrow_at (n := n) (ps := qs) (i := t.toNat) (by omega))
          rw [show ((t.toNat : Nat) : Int) = t by omega] at q1; exact q1
        have hm4 := s4 _ _ hm
        have rds : ∀ x ∈ E2, (rd2 x).Nodup ∧ (rd2 x).length ≤ 40 := fun x hx => ⟨(S4.sv.road x hx).nd, Nat.le_trans (S4.sv.len hn ⟨r0, r1⟩ hx) n40⟩
        refine tsq (if_ret (R := fun H6 => H6 = H4 ∧ (t ∈ E2 ∨ ∃ z, mo qs t = some z)) (S := fun H6 => H6 = H4 ∧ t ∉ E2 ∧ mo qs t = none) (fun Q' hf htr => ?_) (fun H6 h6 => ?_) fun H6 h6 => ?_)
        · refine ⟨_, rfl, _, rfl, d, _, rfl, S4.R.has t, _, rfl, ?_⟩
          rw [isSome_if]
          by_cases c1 : t ∈ E2
          · rw [decide_eq_true c1]
            exact iteF (hf _ ⟨rfl, .inl c1⟩)
          · rw [decide_eq_false c1]
            refine iteT ⟨_, rfl, _, rfl, m, _, _, _, rfl, rfl, SqL.of hm4, atM, rfl, _, rfl, ?_⟩
            by_cases c2 : mateOf qs t = .non
            · rw [decide_eq_true c2]
              exact htr _ ⟨rfl, c1, mo_none.mpr c2⟩
            · rw [decide_eq_false c2]
              refine hf _ ⟨rfl, .inr ?_⟩
              rcases mate_kind qs t with h | ⟨k, h⟩
              · exact absurd h c2
              · exact ⟨k, mo_some.mpr h⟩
        · obtain ⟨rfl, hb⟩ := h6
          refine tnx ?_
          dsimp only
          refine ⟨_, rfl, _, rfl, _, rfl, _, rfl, d, m, n, qs, E2, rd2, ad2, (yn : Int), t, rfl, S4.R, hm4, y4, by omega, rds, tr.1, tr.2, hb, fun F nr p af H5 st hp s5 R5 new5 => ?_⟩
          have R4' := S4.R.ex s5
          have wt5 := s5 _ _ S4.wt
          have eD5 := s5 _ _ eD4
          have s05 := Same.trans s4 s5
          have np : H p = none := s4.free hp
          have pd : p ≠ d := fun z => by rw [z, S4.R.kv] at hp; cases hp
          have pl : p ≠ wl := fun z => by rw [z, S4.wt] at hp; cases hp
          have pD : p ≠ D0 := fun z => by rw [z, eD4] at hp; cases hp
          have ndE := (List.nodup_append.mpr ⟨S4.nd, st.off.1, fun a ha b hb' e => st.off.2 b hb' (e ▸ ha)⟩ : (E2 ++ F).Nodup)
          have sv5 := st.sv G M S4.sv y4 tn
          have len5 : (E2 ++ F).length ≤ n := int_few (sv5.rng hn ⟨r0, r1⟩) ndE
          have cl5 := st.cl G M S4.sv C4 ht y4
          have farF : ∀ q ∈ F, af q ≠ wl := fun q hq z => by
            have := new5 q hq
            rw [z, S4.wt] at this; cases this
          rw [List.length_append] at len5
          have few : ∀ j, (F.take j).length ≤ F.length := fun j => by rw [List.length_take]; omega
          have subW : W2.length ≤ 2 * n + W.length := by omega
          have wlen : W.length ≤ 1000 ∨ True := .inr trivial
          refine ⟨p, _, R5.kv, trivial, fun od => ?_⟩
          refine ⟨_, rfl, p, od, rfl, .inl ⟨_, upd_same, for_it (walk_keys (kvs := rk af F)) (fun j σ H' => ∃ v8, σ = [some (.ref x), some (.ref m), some (.int r), some (.ref d), some (.ref wl), some (.int (yn : Int)), some (.int t), some (.ref p), v8] ∧ Same H H' ∧ H' D0 = some (.lst ((nbr ts (yn : Int)).map V.int)) ∧ H' p = some (.frz od (.dK (rk af F))) ∧ H' d = some (.dK (rk (fun q => if q ∈ F.take j then af q else ad2 q) (E2 ++ F.take j))) ∧ (∀ q ∈ E2, H' (ad2 q) = some (.lst ((rd2 q).map V.int))) ∧ (∀ q ∈ F, H' (af q) = some (.lst ((nr q).map V.int))) ∧ H' wl = some (.lst ((W2 ++ F.take j).map V.int)))
            ⟨v8, rfl, Same.mut s05 np, by rw [upd_ne pD.symm]; exact eD5, upd_same, ?_, fun q hq => ?_, fun q hq => ?_, ?_⟩ (fun j σ H' _ ⟨_, _, _, _, e, _⟩ => e) ?_ ?_⟩⟩
          · rw [upd_ne pd.symm, List.take_zero, List.append_nil, R4'.kv]
            exact congrArg some (congrArg HO.dK (rk_congr fun q _ => by rw [if_neg (by intro z; cases z)]))
          · rw [upd_ne (ne_of (R4'.row q hq) R5.kv (fun z => nomatch z))]; exact R4'.row q hq
          · rw [upd_ne (ne_of (R5.row q hq) R5.kv (fun z => nomatch z))]; exact R5.row q hq
          · rw [upd_ne pl.symm, List.take_zero, List.append_nil]; exact wt5
          · rintro j v σ H7 H8 hj ⟨w8, rfl, s7, e1, e2, e3, e4, e5, e6⟩ ⟨rfl, kk, vv, hkv, rfl⟩
            unfold rk at hkv
            rw [List.getElem?_map] at hkv
            obtain ⟨q, hq, e⟩ := Option.map_eq_some_iff.mp hkv
            injection e with e7 e8
            subst e7 e8
            have qF := List.mem_of_getElem? hq
            have tk : F.take (j + 1) = F.take j ++ [q] := by rw [List.take_succ, hq]; rfl
            have jl := (List.getElem?_eq_some_iff.mp hq).1
            have qn : q ∉ E2 ++ F.take j := fun z => by
              rcases List.mem_append.mp z with z | z
              · exact st.off.2 q qF z
              · obtain ⟨i', h1, h2⟩ := Ge.mem_take.mp z
                have := Ge.nodup_at st.off.1 h2 hq
                omega
            have gF : DGet H8 p (.int q) (some (.ref (af q))) := .inl ⟨_, Sum.inl q, .inr ⟨od, e2⟩, rfl, by rw [rk_val, if_pos qF]⟩
            refine ⟨_, rfl, _, rfl, p, _, rfl, gF, _, rfl, _, rfl, d, _, rfl, DPut.k (k := .inl q) e3 (by rw [rk_len, List.length_append, sizeLine_eq]; have := few j; omega), ?_⟩
            rw [rk_put _ qn]
            have w1 : upd H8 d (.dK (rk (fun x => if x = q then af q else if x ∈ F.take j then af x else ad2 x) (E2 ++ F.take j ++ [q]))) wl = some (.lst ((W2 ++ F.take j).map V.int)) := by rw [upd_ne dwl.symm]; exact e6
            refine ⟨_, rfl, .inl ⟨rfl, _, SqL.of w1⟩, _, rfl, wl, _, _, rfl, rfl, w1, ?_, ?_⟩
            · rw [List.length_map, List.length_append, sizeLine_eq]
              have := few j
              have := S4.sub
              omega
            refine ⟨_, rfl, Same.mut (Same.mut s7 hd) nwl, ?_, ?_, ?_, fun q' hq' => ?_, fun q' hq' => ?_, ?_⟩
            · rw [upd_ne wD, upd_ne dD]; exact e1
            · rw [upd_ne pl, upd_ne pd]; exact e2
            · rw [upd_ne dwl, upd_same, tk, ← List.append_assoc]
              refine congrArg some (congrArg HO.dK (rk_congr fun q' _ => ?_))
              by_cases c1 : q' = q
              · subst c1; rw [if_pos rfl, if_pos (List.mem_append_right _ (List.mem_singleton.mpr rfl))]
              · rw [if_neg c1]
                by_cases c2 : q' ∈ F.take j
                · rw [if_pos c2, if_pos (List.mem_append_left _ c2)]
                · rw [if_neg c2, if_neg fun z => (List.mem_append.mp z).elim c2 fun z => c1 (List.mem_singleton.mp z)]
            · rw [upd_ne (S4.far q' hq'), upd_ne (ne_of (e4 q' hq') e3 (fun z => nomatch z))]; exact e4 q' hq'
            · rw [upd_ne (farF q' hq'), upd_ne (ne_of (e5 q' hq') e3 (fun z => nomatch z))]; exact e5 q' hq'
            · rw [upd_same, tk, ← List.append_assoc, List.map_append (l₁ := W2 ++ F.take j)]; rfl
          · rintro σ H7 ⟨w8, rfl, s7, e1, e2, e3, e4, e5, e6⟩
            rw [rk_len, List.take_length] at e3 e6
            refine ⟨e2, ?_⟩
            have nq : ∀ {b : Addr} {o : HO}, H7 b = some o → (o ≠ .frz od (.dK (rk af F))) → upd H7 p (.dK (rk af F)) b = some o := fun {b o} e ne => by
              rw [upd_ne fun z => ne (by rw [z, e2] at e; exact (Option.some.inj e).symm)]; exact e
            refine ⟨_, _, _, E2 ++ F, Ge.put rd2 F nr, fun q => if q ∈ F then af q else ad2 q, W2 ++ F, rfl, Same.mut s7 np, nq e1 (fun z => nomatch z), ⟨⟨nq e3 (fun z => nomatch z), fun q hq => ?_⟩, nq e6 (fun z => nomatch z), fun q hq => ?_, sv5, ndE, fun q hq => ?_⟩, List.mem_append_left _ y4, cl5, ?_⟩
            · by_cases c : q ∈ F
              · rw [if_pos c, Ge.put_in c]; exact nq (e5 q c) (fun z => nomatch z)
              · rw [if_neg c, Ge.put_out c]
                exact nq (e4 q ((List.mem_append.mp hq).resolve_right c)) (fun z => nomatch z)
            · by_cases c : q ∈ F
              · rw [if_pos c]; exact farF q c
              · rw [if_neg c]; exact S4.far q ((List.mem_append.mp hq).resolve_right c)
            · rcases List.mem_append.mp hq with z | z
              · exact List.mem_append_left _ (S4.sub q z)
              · exact List.mem_append_right _ z
            · rw [List.length_append, List.length_append]; omega
        · obtain ⟨rfl, c1, c2⟩ := h6
          refine ⟨_, rfl, _, rfl, d, _, rfl, S4.R.get y4, _, rfl, (by show 1 ≤ sizeLine; decide), fun p1 hp1 => ?_⟩
          have b1 := Same.new (o := .lst [V.int t]) hp1
          have ly := (rds _ y4).2
          refine ⟨ad2 (yn : Int), p1, _, _, rfl, rfl, b1 _ _ (S4.R.row _ y4), upd_same, len40 (by simp; omega), fun p2 hp2 => ?_⟩
          have b2 := Same.new (o := .lst ((rd2 (yn : Int)).map V.int ++ [V.int t])) hp2
          have s6 := Same.trans s4 b1
          exact qw _ p2 _ (way_end g ⟨r0, r1⟩ S4.sv y4 tn c1 c2) (s6.free hp2) (Same.trans s6 b2) (by rw [upd_same, List.map_append]; rfl)
      · rintro σ H4 ⟨v6, v7, v8, E2, rd2, ad2, W2, rfl, s4, eD4, S4, y4, C4, ms⟩
        rw [List.length_map] at C4
        exact ⟨_, _, _, _, E2, rd2, ad2, W2, rfl, s4, S4, C4.round, ms⟩
end
end Od

namespace Od
open PySem PySem.Spec PyProof.Rows L2
theorem OkPairs.pg {H : Hp} {n : Nat} {ts qs : List Pr} {xs : List V} (o : OkPairs H n ts xs) (tie : ∀ p ∈ ts, Tie n p) (pm : qs.Perm (xs.map (prOf H))) : Pg n ts qs :=
  ⟨tie, fun p hp => by
    obtain ⟨v, hv, rfl⟩ := List.mem_map.mp (pm.mem_iff.mp hp)
    exact o.tied v hv, (ends_perm pm).nodup_iff.mpr o.one⟩
/-- all searches have come to their ends -/
theorem big_all {n : Nat} {ts qs : List Pr} (g : Pg n ts qs) (h : ∀ r : Int, 0 ≤ r → r < (n : Int) → mo qs r = none → ∃ F, Ge.Srch n (nbr ts) (mo qs) r F) : ∃ E, Ge.Big n (nbr ts) (mo qs) E := by
  have h' : ∀ r : Int, ∃ F : Int → Prop, (0 ≤ r ∧ r < (n : Int) ∧ mo qs r = none) → Ge.Srch n (nbr ts) (mo qs) r F := fun r => by
    by_cases c : 0 ≤ r ∧ r < (n : Int) ∧ mo qs r = none
    · obtain ⟨F, hF⟩ := h r c.1 c.2.1 c.2.2
      exact ⟨F, fun _ => hF⟩
    · exact ⟨fun _ => False, fun z => absurd z c⟩
  obtain ⟨F, hF⟩ := Classical.skolem.mp h'
  exact ⟨_, Ge.big_of (gr_nbr g.tie) g.mt (nbr_rg g.tie) F fun r h0 h1 h2 => hF r ⟨h0, h1, h2⟩⟩
theorem Pg.perm {n : Nat} {ts a b : List Pr} (g : Pg n ts a) (p : b.Perm a) : Pg n ts b := ⟨g.tie, fun z hz => g.sub z (p.mem_iff.mp hz), (ends_perm p).nodup_iff.mpr g.nd⟩
/-- what better tells of qs -/
def Told (n : Nat) (ts : List Pr) (H : Hp) (qs : List Pr) (v : V) : Prop := (∃ (l : Addr) (ms : List Int), v = .ref l ∧ H l = some (.lst (ms.map V.int)) ∧ ms.length ≤ 40 ∧ IsWay n ts qs ms) ∨ (v = .non ∧ ∃ E, Ge.Big n (nbr ts) (mo qs) E)
theorem IsWay.len {n : Nat} {ts qs : List Pr} {ms : List Int} (w : IsWay n ts qs ms) : ms.length ≤ n := int_few w.rg w.nd
def spBetter (C B : Addr) : Sp := fun vs H Q E => ∃ (x : Addr) (n : Nat) (ts : List Pr) (y : V) (t : Ty), vs = [.ref x, y] ∧ NetAt C H x n ts ∧ Kl H y t ∧
  ((∃ (xs : List V) (qs : List Pr), listOf H y = some xs ∧ OkPairs H n ts xs ∧ qs.Perm (xs.map (prOf H)) ∧ qs.Pairwise plt ∧ (∀ (ms : List Int) (p : Addr) (H' : Hp), IsWay n ts qs ms → H p = none → Same H H' → H' p = some (.lst (ms.map V.int)) → Q (.ref p) H') ∧ ((∃ E, Ge.Big n (nbr ts) (mo qs) E) → ∀ H', Same H H' → Q .non H')) ∨
  ((∀ xs, listOf H y = some xs → ¬ OkPairs H n ts xs) ∧ ∀ H', Same H H' → E (.ref B) none H'))
def spMost (C : Addr) : Sp := fun vs H Q _ => ∃ (x : Addr) (n : Nat) (ts : List Pr), vs = [.ref x] ∧ NetAt C H x n ts ∧
  ∀ (qs : List Pr) (E : Int → Prop) (p : Addr) (us : List V) (H' : Hp), Pg n ts qs → qs.Pairwise plt → Ge.Big n (nbr ts) (mo qs) E → H p = none → Same H H' → H' p = some (.lst us) → NewPrs H H' us qs → Q (.ref p) H'
section
variable {P : Program} {w : World} {K : PySem.W.Frag} {mg : Str → Option Value} {c : Cs} {base : Heap}
theorem ok_better (T : Top K mg c) : Fd.Has P w K mg base (L2N.CX P w) 6 "better" ["net", "pairs"] (spBetter c.Net c.BadPairs) := by
  have G_mates_in : Fd.Has P w K mg base (L2N.CX P w) 5 "mates_in" ["net", "pairs"] (spMates c.Net c.BadPairs) := ok_mates T
  have G_way_from : Fd.Has P w K mg base CX0 4 "way_from" ["net", "mates", "root"] (spFrom c.Net) := ok_from T
  refine T.d_better.okN sc_better (fun vs H Q E h => ?_) (fun f cdv A outer s H vs Q E hr h => ?_)
  · obtain ⟨x, n, ts, y, t, rfl, _⟩ := h; rfl
  · obtain ⟨x, n, ts, y, t, rfl, N, kl, hres⟩ := h
    have hr_mates_in := hr
    have hr_way_from := hr.mono (show 4 ≤ 5 by decide)
    have n40 := N.hi
    refine ⟨_, (pss_cons (ps_set (i := 2) sc_better.nd rfl (Or.inl rfl) (Fd.pe_fN G_mates_in hr_mates_in (by rfl) (L2N.passes_call (L2N.takes_of rfl rfl rfl rfl) fun _ _ _ _ h => h) (pa_cons (pv 0) (pa_cons (pv 1) pa_nil))))
      (pss_cons (ps_for (L2.passes_of rfl) rfl (pi_range1 (by rfl) T.n_range (pa_cons (pe_fld (pv 0) rfl) pa_nil)) (pg_name (i := 3) sc_better.nd rfl (Or.inl rfl))
      (pss_one (ps_if (pt_cmpR op_isN (pe_ix ix_list (pv 2) (pv 3) (fun _ _ => rfl)) pe_non (nomark _))
        (pss_cons (ps_set (i := 4) sc_better.nd rfl (Or.inl rfl) (Fd.pe_f G_way_from hr_way_from (by rfl) (pa_cons (pv 0) (pa_cons (pv 2) (pa_cons (pv 3) pa_nil)))))
          (pss_one (ps_if (pt_cmpR op_notN (pv 4) pe_non (nomark _))
          (pss_one (ps_ret (pv 4)))
          pss_nil)))
        pss_nil)))
      (pss_one (ps_ret pe_non)))), ?_⟩
    rcases hres with ⟨xs, qs, e, o, pm, up, qw, qn⟩ | ⟨z, q⟩
    rotate_left
    · exact ⟨_, rfl, _, rfl, x, n, ts, y, t, rfl, N, kl, .inr ⟨z, q⟩⟩
    have g := o.pg N.tie pm
    refine ⟨_, rfl, _, rfl, x, n, ts, y, t, rfl, N, kl, .inl ⟨xs, e, o, fun q' m H1 pm' up' hmn s1 hm => ?_⟩⟩
    obtain rfl : q' = qs := plt_one (pm'.trans pm.symm) up' up
    obtain ⟨dx, lt, ln, us, rs, a1, _⟩ := (N.ex s1).at_
    refine ⟨_, rfl, x, c.Net, dx, _, _, rfl, a1, T.cl_Net, T.a_Net_size, nf_size _ _ _, (n : Int), rfl, by omega, by omega, for_range (lo := 0) (n := ((n : Int)).toNat) (fun i σ H' => ∃ v3 v4, σ = [some (.ref x), some y, some (.ref m), v3, v4] ∧ Same H H' ∧ H' m = some (.lst (mrow n q')) ∧ ∀ r : Int, 0 ≤ r → r < (i : Int) → mo q' r = none → ∃ F, Ge.Srch n (nbr ts) (mo q') r F)
      ⟨none, none, rfl, s1, hm, fun r h0 h1 => (by omega)⟩ ?_ ?_⟩
    · rintro i σ H2 hi ⟨v3, v4, rfl, s2, hm2, go⟩
      rw [show (0 : Int) + (i : Int) = (i : Int) from Int.zero_add _]
      have atm : atI (mrow n q') (i : Int) = some (mateOf q' (i : Int)) := atI_nat (mrow_at (by omega))
      have next : (mo q' (i : Int) = none → ∃ F, Ge.Srch n (nbr ts) (mo q') (i : Int) F) → ∀ r : Int, 0 ≤ r → r < ((i + 1 : Nat) : Int) → mo q' r = none → ∃ F, Ge.Srch n (nbr ts) (mo q') r F := fun h r h0 h1 h2 => by
        by_cases e : r = (i : Int)
        · subst e; exact h h2
        · exact go r h0 (by omega) h2
      refine ⟨_, rfl, _, rfl, m, _, _, _, rfl, rfl, SqL.of hm2, atm, rfl, _, rfl, ?_⟩
      by_cases c1 : mateOf q' (i : Int) = .non
      · rw [decide_eq_true c1]
        refine iteT ⟨_, rfl, _, rfl, _, rfl, x, m, (i : Int), n, ts, q', rfl, N.ex s2, hm2, g, by omega, by omega, mo_none.mpr c1, fun ms p H3 wy hp s3 e3 => ?_, fun sr H3 s3 => ?_⟩
        · refine ⟨_, rfl, rfl, _, rfl, ?_⟩
          refine iteT ⟨_, rfl, qw ms p H3 wy (s2.free hp) (Same.trans s2 s3) e3⟩
        · refine ⟨_, rfl, rfl, _, rfl, ?_⟩
          exact iteF ⟨_, _, rfl, Same.trans s2 s3, s3 _ _ hm2, next fun _ => sr⟩
      · rw [decide_eq_false c1]
        exact iteF ⟨_, _, rfl, s2, hm2, next fun z => absurd (mo_none.mp z) c1⟩
    · rintro σ H2 ⟨v3, v4, rfl, s2, hm2, go⟩
      exact qn (big_all g fun r h0 h1 h2 => go r h0 (by omega) h2) H2 s2
theorem ok_most (T : Top K mg c) : Fd.Has P w K mg base CX0 7 "most" ["net"] (spMost c.Net) := by
  have G_better : Fd.Has P w K mg base (L2N.CX P w) 6 "better" ["net", "pairs"] (spBetter c.Net c.BadPairs) := ok_better T
  have G_turned : Fd.Has P w K mg base (L2N.CX P w) 6 "turned" ["net", "pairs", "way"] (spTurned c.Net c.BadWay) := ok_turned T
  refine T.d_most.ok sc_most (fun vs H Q E h => ?_) (fun f cdv A outer s H vs Q E hr h => ?_)
  · obtain ⟨x, n, ts, rfl, _⟩ := h; rfl
  · obtain ⟨x, n, ts, rfl, N, q⟩ := h
    have hr_better := hr
    have hr_turned := hr
    have n40 := N.hi
    refine ⟨_, (pss_cons (ps_set (i := 1) sc_most.nd rfl (Or.inl rfl) (pe_lst pa_nil))
      (pss_cons (ps_set (i := 2) sc_most.nd rfl (Or.inl rfl) (Fd.pe_fN G_better hr_better (by rfl) Fd.pass00 (pa_cons (pv 0) (pa_cons (pv 1) pa_nil))))
      (pss_cons (ps_while PassesOwn.never (pt_cmpR op_notN (pv 2) pe_non (nomark _))
      (pss_cons (ps_set (i := 1) sc_most.nd rfl (Or.inl rfl) (Fd.pe_fN G_turned hr_turned (by rfl) Fd.pass00 (pa_cons (pv 0) (pa_cons (pv 1) (pa_cons (pv 2) pa_nil)))))
        (pss_one (ps_set (i := 2) sc_most.nd rfl (Or.inl rfl) (Fd.pe_fN G_better hr_better (by rfl) Fd.pass00 (pa_cons (pv 0) (pa_cons (pv 1) pa_nil)))))))
      (pss_one (ps_ret (pv 1)))))), ?_⟩
    refine ⟨Nat.zero_le _, fun p hp => ?_⟩
    have s0 := Same.new (o := .lst []) hp
    have e0 : upd H p (.lst []) p = some (.lst []) := upd_same
    generalize upd H p (.lst []) = H0 at s0 e0 ⊢
    have g0 : Pg n ts [] := ⟨N.tie, fun z hz => (by cases hz), List.nodup_nil⟩
    have ok0 : ∀ {H' : Hp} {us : List V} {qs : List Pr}, Prs H' us qs → Pg n ts qs → OkPairs H' n ts us := fun pr g => ok_prs pr N.tie g.sub g.nd
    refine ⟨_, rfl, _, rfl, x, n, ts, _, .list, rfl, N.ex s0, kl_lst e0 (fun y hy => by cases hy), .inl ⟨[], [], listOf_lst e0, ok0 .nil g0, List.Perm.refl _, List.Pairwise.nil, fun ms pw H1 wy hpw s1 e1 => ?_, fun big H1 s1 => ?_⟩⟩
    · have wv : Told n ts H1 [] (.ref pw) := .inl ⟨pw, ms, rfl, e1, by have := wy.len; omega, wy⟩
      refine ⟨fun k σ H' => ∃ v pa us qs, σ = [some (.ref x), some (.ref pa), some v] ∧ Same H H' ∧ H pa = none ∧ H' pa = some (.lst us) ∧ NewPrs H H' us qs ∧ Pg n ts qs ∧ qs.Pairwise plt ∧ Told n ts H' qs v ∧ k = n - qs.length,
        ⟨_, _, p, [], [], rfl, Same.trans s0 s1, hp, s1 _ _ e0, .nil, g0, List.Pairwise.nil, wv, rfl⟩, ?_⟩
      rintro k σ H2 ⟨v, pa, us, qs, rfl, s2, npa, e2, np, g, up, wv, rfl⟩
      refine ⟨_, rfl, rfl, _, rfl, ?_⟩
      rcases wv with ⟨l, ms, rfl, el, lms, wy⟩ | ⟨rfl, E, big⟩
      · dsimp only
        rw [if_pos (show (!decide (V.ref l = V.non)) = true from rfl)]
        refine ⟨fun σ H' => ∃ v pa us qs2, σ = [some (.ref x), some (.ref pa), some v] ∧ Same H H' ∧ H pa = none ∧ H' pa = some (.lst us) ∧ NewPrs H H' us qs2 ∧ Pg n ts qs2 ∧ qs2.Pairwise plt ∧ Told n ts H' qs2 v ∧ n - qs2.length < n - qs.length, ?_, ?_⟩
        · rintro σ' H' ⟨v, pa, us, qs2, e1, e2, e3, e4, e5, e6, e7, e8, e9⟩
          exact ⟨_, e9, v, pa, us, qs2, e1, e2, e3, e4, e5, e6, e7, e8, rfl⟩
        have pr := np.prs
        refine ⟨_, rfl, _, rfl, _, rfl, x, n, ts, qs, _, _, .list, .list, us, rfl, N.ex s2, kl_lst e2 pr.kt, listOf_lst e2, ok0 pr g, ⟨.lst el, fun xs z => ?_⟩, by rw [pr.prOf], up, .inl ⟨ms, ⟨listOf_lst el, wy⟩, fun res pb ub H3 pm sd hpb s3 e3 np3 => ?_⟩⟩
        · rw [listOf_lst el] at z; cases z
          exact ⟨by rw [List.length_map]; omega, kd_ints⟩
        have pmT : res.Perm (trnd ms qs) := pm
        have g3 : Pg n ts res := (wy.pg g).perm pmT
        have up3 : res.Pairwise plt := plt_strict sd (ends_nd g3.nd)
        have l3 : res.length = qs.length + 1 := by rw [pmT.length_eq, trnd_len g wy]
        have c3 := g3.count
        have s03 := Same.trans s2 s3
        have npb : H pb = none := s2.free hpb
        have np3' : NewPrs H H3 ub res := np3.to s2 fun a o _ e => e
        have pr3 := np3.prs
        refine ⟨_, rfl, _, rfl, x, n, ts, _, .list, rfl, N.ex s03, kl_lst e3 pr3.kt, .inl ⟨ub, res, listOf_lst e3, ok0 pr3 g3, by rw [pr3.prOf], up3, fun ms4 p4 H4 wy4 hp4 s4 e4 => ?_, fun big H4 s4 => ?_⟩⟩
        · exact ⟨_, pb, ub, res, rfl, Same.trans s03 s4, npb, s4 _ _ e3, np3'.tups fun a xs e => s4 _ _ e, g3, up3, .inl ⟨p4, ms4, rfl, e4, by have := wy4.len; omega, wy4⟩, by omega⟩
        · exact ⟨_, pb, ub, res, rfl, Same.trans s03 s4, npb, s4 _ _ e3, np3'.tups fun a xs e => s4 _ _ e, g3, up3, .inr ⟨rfl, big⟩, by omega⟩
      · dsimp only
        rw [if_neg (show ¬ (!decide (V.non = V.non)) = true from Bool.false_ne_true)]
        exact ⟨_, rfl, q qs E pa us H2 g up big npa s2 e2 np⟩
    · have wv : Told n ts H1 [] .non := .inr ⟨rfl, big⟩
      refine ⟨fun k σ H' => ∃ v pa us qs, σ = [some (.ref x), some (.ref pa), some v] ∧ Same H H' ∧ H pa = none ∧ H' pa = some (.lst us) ∧ NewPrs H H' us qs ∧ Pg n ts qs ∧ qs.Pairwise plt ∧ Told n ts H' qs v ∧ k = n - qs.length,
        ⟨_, _, p, [], [], rfl, Same.trans s0 s1, hp, s1 _ _ e0, .nil, g0, List.Pairwise.nil, wv, rfl⟩, ?_⟩
      rintro k σ H2 ⟨v, pa, us, qs, rfl, s2, npa, e2, np, g, up, wv, rfl⟩
      refine ⟨_, rfl, rfl, _, rfl, ?_⟩
      rcases wv with ⟨l, ms, rfl, el, lms, wy⟩ | ⟨rfl, E, big⟩
      · dsimp only
        rw [if_pos (show (!decide (V.ref l = V.non)) = true from rfl)]
        refine ⟨fun σ H' => ∃ v pa us qs2, σ = [some (.ref x), some (.ref pa), some v] ∧ Same H H' ∧ H pa = none ∧ H' pa = some (.lst us) ∧ NewPrs H H' us qs2 ∧ Pg n ts qs2 ∧ qs2.Pairwise plt ∧ Told n ts H' qs2 v ∧ n - qs2.length < n - qs.length, ?_, ?_⟩
        · rintro σ' H' ⟨v, pa, us, qs2, e1, e2, e3, e4, e5, e6, e7, e8, e9⟩
          exact ⟨_, e9, v, pa, us, qs2, e1, e2, e3, e4, e5, e6, e7, e8, rfl⟩
        have pr := np.prs
        refine ⟨_, rfl, _, rfl, _, rfl, x, n, ts, qs, _, _, .list, .list, us, rfl, N.ex s2, kl_lst e2 pr.kt, listOf_lst e2, ok0 pr g, ⟨.lst el, fun xs z => ?_⟩, by rw [pr.prOf], up, .inl ⟨ms, ⟨listOf_lst el, wy⟩, fun res pb ub H3 pm sd hpb s3 e3 np3 => ?_⟩⟩
        · rw [listOf_lst el] at z; cases z
          exact ⟨by rw [List.length_map]; omega, kd_ints⟩
        have pmT : res.Perm (trnd ms qs) := pm
        have g3 : Pg n ts res := (wy.pg g).perm pmT
        have up3 : res.Pairwise plt := plt_strict sd (ends_nd g3.nd)
        have l3 : res.length = qs.length + 1 := by rw [pmT.length_eq, trnd_len g wy]
        have c3 := g3.count
        have s03 := Same.trans s2 s3
        have npb : H pb = none := s2.free hpb
        have np3' : NewPrs H H3 ub res := np3.to s2 fun a o _ e => e
        have pr3 := np3.prs
        refine ⟨_, rfl, _, rfl, x, n, ts, _, .list, rfl, N.ex s03, kl_lst e3 pr3.kt, .inl ⟨ub, res, listOf_lst e3, ok0 pr3 g3, by rw [pr3.prOf], up3, fun ms4 p4 H4 wy4 hp4 s4 e4 => ?_, fun big H4 s4 => ?_⟩⟩
        · exact ⟨_, pb, ub, res, rfl, Same.trans s03 s4, npb, s4 _ _ e3, np3'.tups fun a xs e => s4 _ _ e, g3, up3, .inl ⟨p4, ms4, rfl, e4, by have := wy4.len; omega, wy4⟩, by omega⟩
        · exact ⟨_, pb, ub, res, rfl, Same.trans s03 s4, npb, s4 _ _ e3, np3'.tups fun a xs e => s4 _ _ e, g3, up3, .inr ⟨rfl, big⟩, by omega⟩
      · dsimp only
        rw [if_neg (show ¬ (!decide (V.non = V.non)) = true from Bool.false_ne_true)]
        exact ⟨_, rfl, q qs E pa us H2 g up big npa s2 e2 np⟩
end
end Od

namespace Od
open PySem PySem.Spec PyProof.Rows L2
/-- those pairs that do not have v -/
def wo (v : Int) (qs : List Pr) : List Pr := qs.filter fun p => decide (v ∉ [p.1, p.2])
theorem wo_mem {v : Int} {qs : List Pr} {p : Pr} : p ∈ wo v qs ↔ p ∈ qs ∧ v ≠ p.1 ∧ v ≠ p.2 := by
  unfold wo; rw [List.mem_filter, decide_eq_true_eq]; simp
theorem wo_snoc {v : Int} {qs : List Pr} {p : Pr} : wo v (qs ++ [p]) = if v ∈ [p.1, p.2] then wo v qs else wo v qs ++ [p] := by
  unfold wo
  rw [List.filter_append]
  by_cases h : v ∈ [p.1, p.2]
  · rw [if_pos h]
    have e : ¬ decide (v ∉ [p.1, p.2]) = true := by rw [decide_eq_true_eq]; exact fun z => z h
    rw [show [p].filter (fun p : Pr => decide (v ∉ [p.1, p.2])) = [] by rw [List.filter_cons, if_neg e]; rfl, List.append_nil]
  · rw [if_neg h]
    have e : decide (v ∉ [p.1, p.2]) = true := decide_eq_true h
    rw [show [p].filter (fun p : Pr => decide (v ∉ [p.1, p.2])) = [p] by rw [List.filter_cons, if_pos e]; rfl]
theorem wo_ends {v : Int} {qs : List Pr} : v ∉ ends (wo v qs) := fun h => by
  obtain ⟨p, hp, e⟩ := mem_ends.mp h
  obtain ⟨_, h1, h2⟩ := wo_mem.mp hp
  exact e.elim h1 h2
theorem wo_len {v : Int} : ∀ {qs : List Pr}, (ends qs).Nodup → (wo v qs).length = if v ∈ ends qs then qs.length - 1 else qs.length
  | [], _ => rfl
  | p :: t, nd => by
    have nd' : (p.1 :: p.2 :: ends t).Nodup := nd
    obtain ⟨n1, nd2⟩ := List.nodup_cons.mp nd'
    obtain ⟨n2, n3⟩ := List.nodup_cons.mp nd2
    have ih := wo_len (v := v) n3
    have mem : v ∈ ends (p :: t) ↔ v = p.1 ∨ v = p.2 ∨ v ∈ ends t := by
      show v ∈ p.1 :: p.2 :: ends t ↔ _
      rw [List.mem_cons, List.mem_cons]
    by_cases c : v ∈ [p.1, p.2]
    · have c' : v = p.1 ∨ v = p.2 := by simpa using c
      have off : v ∉ ends t := fun z => by
        rcases c' with e | e
        · exact n1 (List.mem_cons_of_mem _ (e ▸ z))
        · exact n2 (e ▸ z)
      rw [if_neg off] at ih
      have e : ¬ decide (v ∉ [p.1, p.2]) = true := by rw [decide_eq_true_eq]; exact fun z => z c
      rw [if_pos (mem.mpr (c'.imp id .inl)), show wo v (p :: t) = wo v t by unfold wo; rw [List.filter_cons, if_neg e], ih]; rfl
    · have c1 : v ≠ p.1 := fun e => c (by rw [e]; exact List.mem_cons_self)
      have c2 : v ≠ p.2 := fun e => c (by rw [e]; exact List.mem_cons_of_mem _ List.mem_cons_self)
      have e : decide (v ∉ [p.1, p.2]) = true := decide_eq_true c
      rw [show wo v (p :: t) = p :: wo v t by unfold wo; rw [List.filter_cons, if_pos e], List.length_cons, ih]
      by_cases d : v ∈ ends t
      · rw [if_pos d, if_pos (mem.mpr (.inr (.inr d))), List.length_cons]
        have : 0 < t.length := by
          cases t with
          | nil => cases d
          | cons _ _ => exact Nat.zero_lt_succ _
        omega
      · rw [if_neg d, if_neg fun z => (mem.mp z).elim c1 fun z => z.elim c2 d, List.length_cons]
theorem wo_eq {v : Int} {qs : List Pr} (h : v ∉ ends qs) : wo v qs = qs := by
  unfold wo
  refine List.filter_eq_self.mpr fun p hp => decide_eq_true fun z => h (mem_ends.mpr ⟨p, hp, by simpa using z⟩)
section
variable {n : Nat} {ts qs : List Pr} {v : Int}
theorem wo_tie (tie : ∀ p ∈ ts, Tie (n : Int) p) : ∀ p ∈ wo v ts, Tie (n : Int) p := fun p hp => tie p (wo_mem.mp hp).1
theorem Pg.wo (g : Pg n ts qs) : Pg n (wo v ts) (wo v qs) := by
  refine ⟨wo_tie g.tie, fun p hp => ?_, ?_⟩
  · obtain ⟨h1, h2⟩ := wo_mem.mp hp
    exact wo_mem.mpr ⟨g.sub p h1, h2⟩
  · have key : ∀ {a b : List Pr}, a.Sublist b → (a.flatMap fun p => [p.1, p.2]).Sublist (b.flatMap fun p => [p.1, p.2]) := fun h => by
      induction h with
      | slnil => exact List.Sublist.refl _
      | cons p _ ih => rw [List.flatMap_cons]; exact ih.trans (List.sublist_append_right _ _)
      | cons_cons p _ ih => rw [List.flatMap_cons, List.flatMap_cons]; exact (List.Sublist.refl _).append ih
    exact List.Nodup.sublist (key List.filter_sublist) g.nd
/-- a pairing of the net without the ties of v -/
theorem Pg.from_wo (g : Pg n (Od.wo v ts) qs) (tie : ∀ p ∈ ts, Tie n p) : Pg n ts qs ∧ v ∉ ends qs :=
  ⟨⟨tie, fun p hp => (wo_mem.mp (g.sub p hp)).1, g.nd⟩, fun z => by
    obtain ⟨p, hp, e⟩ := mem_ends.mp z
    obtain ⟨_, h1, h2⟩ := wo_mem.mp (g.sub p hp)
    exact e.elim h1 h2⟩
/-- where others, a pair less, are greatest without the ties of v, no greatest pairing leaves v alone -/
theorem no_free (g : Pg n ts qs) (hv : v ∈ ends qs) {E E' : Int → Prop} (B : Ge.Big n (nbr ts) (mo qs) E) (B' : Ge.Big n (nbr (Od.wo v ts)) (mo (Od.wo v qs)) E') : ¬ E v := fun hE => by
  obtain ⟨N, MN, h0, hl⟩ := B.rch hE
  have tie' := wo_tie (v := v) g.tie
  have g' := g.wo (v := v)
  have MN' : Ge.Mt (nbr (Od.wo v ts)) N := by
    refine ⟨MN.sym, fun {p q} h => ?_⟩
    have pv : p ≠ v := fun e => by rw [e, h0] at h; cases h
    have qv : q ≠ v := fun e => by
      have := MN.sym h
      rw [e, h0] at this; cases this
    rcases (nbr_mem g.tie).mp (MN.tie h) with z | z
    · exact (nbr_mem tie').mpr (.inl (wo_mem.mpr ⟨z, fun e => pv e.symm, fun e => qv e.symm⟩))
    · exact (nbr_mem tie').mpr (.inr (wo_mem.mpr ⟨z, fun e => qv e.symm, fun e => pv e.symm⟩))
  have l1 := B'.least (gr_nbr tie') g'.mt (nbr_rg tie') MN'
  have c1 := g.count
  have c2 := g'.count
  have wl := wo_len (v := v) g.nd
  rw [if_pos hv] at wl
  have : 0 < qs.length := by
    cases qs with
    | nil => cases hv
    | cons _ _ => exact Nat.zero_lt_succ _
  omega
/-- a pairing as great that leaves v alone -/
theorem is_free (g : Pg n ts qs) {E : Int → Prop} (B : Ge.Big n (nbr ts) (mo qs) E) {res : List Pr} (gr : Pg n ts res) (hl : res.length = qs.length) (hv : v ∉ ends res) (h0 : 0 ≤ v) (h1 : v < (n : Int)) : E v := by
  have c1 := g.count
  have c2 := gr.count
  exact B.alone (gr_nbr g.tie) g.mt (nbr_rg g.tie) gr.mt (by omega) h0 h1 (mo_free.mpr hv)
end
def spWo : Sp := fun vs H Q _ => ∃ (l : Addr) (v : Int) (us : List V) (qs : List Pr), vs = [.ref l, .int v] ∧ H l = some (.lst us) ∧ Prs H us qs ∧ us.length ≤ 1000 ∧
  ∀ (p : Addr) (us' : List V) (H' : Hp), H p = none → Same H H' → H' p = some (.lst us') → Prs H' us' (wo v qs) → Q (.ref p) H'
def spFreed (C : Addr) : Sp := fun vs H Q _ => ∃ (x l : Addr) (v : Int) (n : Nat) (ts qs : List Pr) (us : List V) (E : Int → Prop), vs = [.ref x, .ref l, .int v] ∧ NetAt C H x n ts ∧ H l = some (.lst us) ∧ Prs H us qs ∧ Pg n ts qs ∧ qs.Pairwise plt ∧ Ge.Big n (nbr ts) (mo qs) E ∧ 0 ≤ v ∧ v < (n : Int) ∧
  (∀ (res : List Pr) (p : Addr) (us' : List V) (H' : Hp), Pg n ts res → res.Pairwise plt → res.length = qs.length → v ∉ ends res → E v → H p = none → Same H H' → H' p = some (.lst us') → Prs H' us' res → Q (.ref p) H') ∧ (¬ E v → ∀ H', Same H H' → Q .non H')
section
variable {P : Program} {w : World} {K : PySem.W.Frag} {mg : Str → Option Value} {c : Cs} {base : Heap}
theorem ok_wo (T : Top K mg c) : Fd.Has P w K mg base CX0 1 "without" ["rows", "place"] spWo := by
  refine T.d_without.ok sc_without (fun vs H Q E h => ?_) (fun f cdv A outer s H vs Q E hr h => ?_)
  · obtain ⟨l, v, us, qs, rfl, _⟩ := h; rfl
  · obtain ⟨l, v, us, qs, rfl, hl, pr, few, q⟩ := h
    refine ⟨_, (pss_one (ps_ret (pe_lc (own := [("row", 2)]) (g := gName 2) rfl sc_without.nd (pi_list (pv 0)) (blkOk_by (own := [("row", 2)]) (N := N_without) (sc := defScope S_without) (by decide +kernel)) (fun _ _ _ _ _ => pg_name (i := 2) sc_without.nd rfl (Or.inl rfl)) (fun _ _ _ _ _ => (pts_one (pt_cmpR (r := rIn K true) op_notIn_seq (pv 1) (pv 2) (by rfl)))) (fun _ _ _ _ _ => (pv 2))))), ?_⟩
    refine ⟨_, rfl, l, rfl, ⟨us, SqL.of hl⟩, fun D hD => ?_⟩
    refine lc_list (xs := us) (fun i Hc => ∃ vs : List V, Same H Hc ∧ Hc D = some (.lst vs) ∧ Prs Hc vs (wo v (qs.take i)) ∧ vs.length ≤ i) ⟨[], Same.new hD, upd_same, .nil, Nat.le_refl _⟩ (fun i Hc _ ⟨_, e, _⟩ => SqL.of (e _ _ hl)) ?_ ?_
    · rintro i y Hc hi ⟨vs, s1, hDc, np, lv⟩
      obtain ⟨pq, a, hpq, rfl, ea⟩ := pr.get hi
      have ea1 := s1 _ _ ea
      have il := (List.getElem?_eq_some_iff.mp hi).1
      have tk : qs.take (i + 1) = qs.take i ++ [pq] := by rw [List.take_succ, hpq]; rfl
      refine ⟨rfl, _, rfl, _, rfl, a, _, rfl, .inr (SqT.of ea1), rfl, flat_ints [pq.1, pq.2], _, rfl, ?_⟩
      rw [show [V.int pq.1, V.int pq.2] = [pq.1, pq.2].map V.int from rfl, inV_ints]
      by_cases cm : v ∈ [pq.1, pq.2]
      · rw [decide_eq_true cm]
        refine iteF ⟨vs, s1, hDc, ?_, by omega⟩
        rw [tk, wo_snoc, if_pos cm]; exact np
      · rw [decide_eq_false cm]
        refine iteT ⟨_, rfl, vs, hDc, by rw [sizeLine_eq]; omega, vs ++ [.ref a], Same.mut s1 hD, upd_same, ?_, by rw [List.length_append]; show vs.length + 1 ≤ i + 1; omega⟩
        rw [tk, wo_snoc, if_neg cm]
        have kT : ∀ c' zs, Hc c' = some (.tup zs) → upd Hc D (.lst (vs ++ [.ref a])) c' = some (.tup zs) := fun c' zs e => by
          rw [upd_ne (ne_of e hDc (fun z => nomatch z))]; exact e
        exact (np.tups kT).app (.cons ⟨a, rfl, kT _ _ ea1⟩ .nil)
    · rintro Hc ⟨vs, s1, hDc, np, lv⟩
      rw [pr.len, List.take_length] at np
      exact q D vs Hc hD s1 hDc np
theorem ok_freed (T : Top K mg c) : Fd.Has P w K mg base CX0 8 "freed" ["net", "pairs", "place"] (spFreed c.Net) := by
  have G_without : Fd.Has P w K mg base CX0 1 "without" ["rows", "place"] spWo := ok_wo T
  have G_Net : Fd.IHas P w K mg base (L2N.CX P w) 6 c.Net ["self", "size", "ties"] (spInit c.Net c.BadNet) := ok_init T
  have G_Net_ties : Fd.MHas P w K mg base CX0 1 c.Net "ties" ["self"] (spTies c.Net) := ok_ties T
  have G_better : Fd.Has P w K mg base (L2N.CX P w) 6 "better" ["net", "pairs"] (spBetter c.Net c.BadPairs) := ok_better T
  have G_turned : Fd.Has P w K mg base (L2N.CX P w) 6 "turned" ["net", "pairs", "way"] (spTurned c.Net c.BadWay) := ok_turned T
  refine T.d_freed.ok sc_freed (fun vs H Q E h => ?_) (fun f cdv A outer s H vs Q E hr h => ?_)
  · obtain ⟨x, l, v, n, ts, qs, us, E, rfl, _⟩ := h; rfl
  · obtain ⟨x, l, v, n, ts, qs, us, E, rfl, N, hl, pr, g, up, B, v0, v1, qy, qn⟩ := h
    have hr_without := hr.mono (show 1 ≤ 7 by decide)
    have hr_Net := hr
    have hr_Net_ties := hr.mono (show 1 ≤ 7 by decide)
    have hr_better := hr.mono (show 6 ≤ 7 by decide)
    have hr_turned := hr.mono (show 6 ≤ 7 by decide)
    have n40 := N.hi
    have n1 := N.lo
    have lus := pr.len
    have few := g.count
    refine ⟨_, (pss_cons (ps_set (i := 3) sc_freed.nd rfl (Or.inl rfl) (Fd.pe_f G_without hr_without (by rfl) (pa_cons (pv 1) (pa_cons (pv 2) pa_nil))))
      (pss_cons (ps_if (pt_cmpR op_eq (pe_callB call_len_seq (by rfl) T.n_len boot_len (pa_cons (pv 3) pa_nil)) (pe_callB call_len_seq (by rfl) T.n_len boot_len (pa_cons (pv 1) pa_nil)) (nomark _))
      (pss_one (ps_ret (pv 3)))
      pss_nil)
      (pss_cons (ps_set (i := 4) sc_freed.nd rfl (Or.inl rfl) (Fd.pe_mk G_Net hr_Net (by rfl) T.c_Net Fd.pass00 (pa_cons (pe_fld (pv 0) rfl) (pa_cons (Fd.pe_f G_without hr_without (by rfl) (pa_cons (Fd.pe_m0 G_Net_ties (pv 0) T.cl_Net hr_Net_ties) (pa_cons (pv 2) pa_nil))) pa_nil))))
      (pss_cons (ps_set (i := 5) sc_freed.nd rfl (Or.inl rfl) (Fd.pe_fN G_better hr_better (by rfl) Fd.pass00 (pa_cons (pv 4) (pa_cons (pv 3) pa_nil))))
      (pss_cons (ps_if (pt_cmpR op_isN (pv 5) pe_non (nomark _))
      (pss_one (ps_ret pe_non))
      pss_nil)
      (pss_one (ps_ret (Fd.pe_fN G_turned hr_turned (by rfl) Fd.pass00 (pa_cons (pv 4) (pa_cons (pv 3) (pa_cons (pv 5) pa_nil))))))))))), ?_⟩
    refine ⟨_, rfl, _, rfl, l, v, us, qs, rfl, hl, pr, by omega, fun p uo H1 hp s1 ep pr1 => ?_⟩
    have luo := pr1.len
    have wl := wo_len (v := v) g.nd
    have l0 : 0 < qs.length ∨ v ∉ ends qs := by
      cases qs with
      | nil => exact .inr (fun z => by cases z)
      | cons _ _ => exact .inl (Nat.zero_lt_succ _)
    have hl1 := s1 _ _ hl
    refine ⟨_, rfl, p, _, rfl, .inl (SqL.of ep), _, rfl, l, _, rfl, .inl (SqL.of hl1), rfl, _, rfl, ?_⟩
    rw [vint]
    by_cases cv : v ∈ ends qs
    · rw [if_pos cv] at wl
      have l0 := l0.resolve_right fun z => z cv
      rw [decide_eq_false (by omega)]
      refine iteF ?_
      -- the net without its ties
      have N1 := N.ex s1
      obtain ⟨dx, lt, ln, us', rs, a1, _⟩ := N1.at_
      refine ⟨_, rfl, x, c.Net, dx, _, _, rfl, a1, T.cl_Net, T.a_Net_size, nf_size _ _ _, _, rfl, x, dx, _, rfl, a1, nf_m_ties _ _ _, x, n, ts, rfl, N1, fun p2 u2 hp2 pr2 => ?_⟩
      have b2 := Same.new (o := .lst u2) hp2
      have e2 : upd H1 p2 (.lst u2) p2 = some (.lst u2) := upd_same
      have pr2' := pr2.ex b2
      have l2 := pr2.len
      have fewt := N.few
      generalize upd H1 p2 (.lst u2) = H2 at b2 e2 pr2' ⊢
      refine ⟨_, rfl, p2, v, u2, ts, rfl, e2, pr2', by omega, fun p3 u3 H3 hp3 s3 e3 pr3 => ?_⟩
      have tw := wo_tie (v := v) N.tie
      have uw : (wo v ts).Pairwise plt := N.up.sublist List.filter_sublist
      have good := good_nd (n := n) e3 pr3 tw (plt_nodup uw) n1 n40
      have s03 := Same.trans (Same.trans s1 b2) s3
      have s13 := Same.trans b2 s3
      intro y dy hy hdy ne
      refine ⟨H3, y, dy, _, _, _, _, rfl, fun b o e => by rw [upd_ne (ne_of_none e hy), upd_ne (ne_of_none e hdy)]; exact e, hy, upd_same, .int _, kl_lst e3 pr3.kt, .inl ⟨n, wo v ts, good, fun ts' H4 pmN s4 N4 => ⟨rfl, ?_⟩⟩⟩
      obtain rfl : ts' = wo v ts := plt_one pmN N4.up uw
      have NR : NetAt c.Net H4 y n (wo v ts) := N4.ex newp_same
      have s14 := Same.trans s13 s4
      have s04 := Same.trans s1 s14
      have ep4 := s14 _ _ ep
      have pr4 := pr1.ex s14
      have go := g.wo (v := v)
      have uo' : (wo v qs).Pairwise plt := up.sublist List.filter_sublist
      have ok4 : ∀ {H' : Hp}, Prs H' uo (wo v qs) → OkPairs H' n (wo v ts) uo := fun pr => ok_prs pr NR.tie go.sub go.nd
      refine ⟨_, rfl, _, rfl, y, n, wo v ts, _, .list, rfl, NR, kl_lst ep4 pr4.kt, .inl ⟨uo, wo v qs, listOf_lst ep4, ok4 pr4, by rw [pr4.prOf], uo', fun ms pw H5 wy hpw s5 e5 => ?_, fun big H5 s5 => ?_⟩⟩
      · refine ⟨_, rfl, rfl, _, rfl, iteF ?_⟩
        have ep5 := s5 _ _ ep4
        have pr5 := pr4.ex s5
        have lw := wy.len
        refine ⟨_, rfl, _, rfl, _, rfl, y, n, wo v ts, wo v qs, _, _, .list, .list, uo, rfl, NR.ex s5, kl_lst ep5 pr5.kt, listOf_lst ep5, ok4 pr5, ⟨.lst e5, fun xs z => ?_⟩, by rw [pr5.prOf], uo', .inl ⟨ms, ⟨listOf_lst e5, wy⟩, fun res pb ub H6 pm sd hpb s6 e6 np6 => ?_⟩⟩
        · rw [listOf_lst e5] at z; cases z
          exact ⟨by rw [List.length_map]; omega, kd_ints⟩
        have pmT : res.Perm (trnd ms (wo v qs)) := pm
        have g3 : Pg n (wo v ts) res := (wy.pg go).perm pmT
        have l3 : res.length = qs.length := by rw [pmT.length_eq, trnd_len go wy]; omega
        obtain ⟨gt, vo⟩ := g3.from_wo N.tie
        have s06 := Same.trans (Same.trans s04 s5) s6
        exact qy res pb ub H6 gt (plt_strict sd (ends_nd g3.nd)) l3 vo (is_free g B gt l3 vo v0 v1) ((Same.trans s04 s5).free hpb) s06 e6 np6.prs
      · refine ⟨_, rfl, rfl, _, rfl, iteT ?_⟩
        obtain ⟨E', B'⟩ := big
        exact qn (no_free g cv B B') H5 (Same.trans s04 s5)
    · rw [if_neg cv] at wl
      rw [decide_eq_true (by omega)]
      refine iteT ⟨_, rfl, ?_⟩
      rw [wo_eq cv] at pr1
      exact qy qs p uo H1 g up rfl cv (is_free g B g rfl cv v0 v1) hp s1 ep pr1
end
end Od

namespace Od
open PySem PySem.Spec PyProof.Rows L2
/-- E is what some greatest pairing of the net leaves alone -/
def Free (n : Nat) (ts : List Pr) (E : Int → Prop) : Prop := ∃ qs, Pg n ts qs ∧ qs.Pairwise plt ∧ Ge.Big n (nbr ts) (mo qs) E
/-- the fence -/
def IsFence (n : Nat) (ts : List Pr) (E : Int → Prop) (F : List Int) : Prop := F.Pairwise (· < ·) ∧ ∀ v, v ∈ F ↔ (0 ≤ v ∧ v < (n : Int)) ∧ Ge.Bes (nbr ts) E v
theorem big_one {n : Nat} {ts q1 q2 : List Pr} {E1 E2 : Int → Prop} (g1 : Pg n ts q1) (g2 : Pg n ts q2) (B1 : Ge.Big n (nbr ts) (mo q1) E1) (B2 : Ge.Big n (nbr ts) (mo q2) E2) : (∀ v, E1 v ↔ E2 v) ∧ q1.length = q2.length := by
  have G := gr_nbr g1.tie
  have hn : ∀ {p q : Int}, q ∈ nbr ts p → 0 ≤ q ∧ q < (n : Int) := nbr_rg g1.tie
  have l1 := B1.least G g1.mt hn g2.mt
  have l2 := B2.least G g2.mt hn g1.mt
  have c1 := g1.count
  have c2 := g2.count
  refine ⟨fun v => ⟨fun h => ?_, fun h => ?_⟩, by omega⟩
  · have r := B1.cert.rg h
    obtain ⟨N, a, b, c⟩ := B1.rch h
    exact B2.alone G g2.mt hn a (by omega) r.1 r.2 b
  · have r := B2.cert.rg h
    obtain ⟨N, a, b, c⟩ := B2.rch h
    exact B1.alone G g1.mt hn a (by omega) r.1 r.2 b
theorem Free.one {n : Nat} {ts : List Pr} {E1 E2 : Int → Prop} (h1 : Free n ts E1) (h2 : Free n ts E2) : E1 = E2 := by
  obtain ⟨q1, g1, _, B1⟩ := h1
  obtain ⟨q2, g2, _, B2⟩ := h2
  exact funext fun v => propext ((big_one g1 g2 B1 B2).1 v)
theorem IsFence.one {n : Nat} {ts : List Pr} {E : Int → Prop} {F F' : List Int} (h : IsFence n ts E F) (h' : IsFence n ts E F') : F = F' :=
  up_one h.1 h'.1 fun p => (h.2 p).trans (h'.2 p).symm
def spBesOne (C : Addr) : Sp := fun vs H Q _ => ∃ (x l : Addr) (v : Int) (n : Nat) (ts : List Pr) (bs : List Bool), vs = [.ref x, .int v, .ref l] ∧ NetAt C H x n ts ∧ H l = some (.lst (bs.map V.bl)) ∧ bs.length = n ∧ 0 ≤ v ∧ v < (n : Int) ∧
  ∀ H', Same H H' → Q (.bl ((nbr ts v).any fun u => bs.getD u.toNat false)) H'
def spFence (C : Addr) : Sp := fun vs H Q _ => ∃ (x : Addr) (n : Nat) (ts : List Pr), vs = [.ref x] ∧ NetAt C H x n ts ∧
  ∀ (E : Int → Prop) (F : List Int) (p : Addr) (H' : Hp), Free n ts E → IsFence n ts E F → H p = none → Same H H' → H' p = some (.lst (F.map V.int)) → Q (.ref p) H'
section
variable {P : Program} {w : World} {K : PySem.W.Frag} {mg : Str → Option Value} {c : Cs} {base : Heap}
theorem ok_bes (T : Top K mg c) : Fd.Has P w K mg base CX0 4 "is_beside_one" ["net", "place", "marked"] (spBesOne c.Net) := by
  have G_Net_beside : Fd.MHas P w K mg base (L2N.CX P w) 3 c.Net "beside" ["self", "place"] (spBeside c.Net c.NoPlace) := ok_beside T
  refine T.d_is_beside_one.ok sc_is_beside_one (fun vs H Q E h => ?_) (fun f cdv A outer s H vs Q E hr h => ?_)
  · obtain ⟨x, l, v, n, ts, bs, rfl, _⟩ := h; rfl
  · obtain ⟨x, l, v, n, ts, bs, rfl, N, hl, lb, v0, v1, q⟩ := h
    have hr_Net_beside := hr
    have n40 := N.hi
    refine ⟨_, (pss_one (ps_ret (pe_callB (cr_any rfl) (by rfl) T.n_any boot_any (pa_cons (pe_lc (own := [("other", 3)]) (g := gName 3) rfl sc_is_beside_one.nd (pi_list (Fd.pe_mN G_Net_beside (pv 0) T.cl_Net hr_Net_beside Fd.pass00 (pa_cons (pv 1) pa_nil))) (blkOk_by (own := [("other", 3)]) (N := N_is_beside_one) (sc := defScope S_is_beside_one) (by decide +kernel)) (fun _ _ _ _ _ => pg_name (i := 3) sc_is_beside_one.nd rfl (Or.inl rfl)) (fun _ _ _ _ _ => pts_nil) (fun _ _ _ _ _ => (pe_ix (r := rIxL K) ix_list (pv 2) (pv 3) (fun _ _ => rfl)))) pa_nil)))), ?_⟩
    obtain ⟨dx, lt, ln, us, rs, a1, _⟩ := N.at_
    obtain ⟨vn, rfl⟩ : ∃ vn : Nat, v = (vn : Int) := ⟨v.toNat, by omega⟩
    refine ⟨_, rfl, x, dx, _, rfl, a1, nf_beside _ _ _, _, rfl, x, n, ts, _, _, rfl, N, .int _, fun i e hi D0 hD0 => ?_, fun z => ?_⟩
    rotate_left
    · have : isPl (.int (vn : Int)) n = true := decide_eq_true ⟨by omega, by omega⟩
      rw [this] at z; cases z
    injection e with e
    obtain rfl : vn = i := by omega
    have s0 := Same.new (o := .lst ((nbr ts (vn : Int)).map V.int)) hD0
    have e0 : upd H D0 (.lst ((nbr ts (vn : Int)).map V.int)) D0 = some (.lst ((nbr ts (vn : Int)).map V.int)) := upd_same
    generalize upd H D0 (.lst ((nbr ts (vn : Int)).map V.int)) = H0 at s0 e0 ⊢
    have lnb : (nbr ts (vn : Int)).length ≤ n := int_few (fun q hq => nbr_rng N.tie hq) ((nbr_up N.tie N.up _).imp fun h e => by omega)
    refine ⟨D0, rfl, ⟨_, SqL.of e0⟩, fun D hD => ?_⟩
    refine lc_list (xs := (nbr ts (vn : Int)).map V.int) (fun i Hc => Same H0 Hc ∧ Hc D = some (.lst ((((nbr ts (vn : Int)).take i).map fun u => bs.getD u.toNat false).map V.bl))) ⟨Same.new hD, upd_same⟩ (fun i Hc _ e => SqL.of (e.1 _ _ e0)) ?_ ?_
    · rintro i y Hc hi ⟨s1, hDc⟩
      rw [List.getElem?_map] at hi
      obtain ⟨u, hu, rfl⟩ := Option.map_eq_some_iff.mp hi
      have ur := nbr_rng N.tie (List.mem_of_getElem? hu)
      have il := (List.getElem?_eq_some_iff.mp hu).1
      have tk : (nbr ts (vn : Int)).take (i + 1) = (nbr ts (vn : Int)).take i ++ [u] := by rw [List.take_succ, hu]; rfl
      have atb : atI (bs.map V.bl) u = some (V.bl (bs.getD u.toNat false)) := by
        have q1 := atI_nat (xs := bs.map V.bl) (j := u.toNat) (v := V.bl (bs.getD u.toNat false)) (by
          rw [List.getElem?_map, List.getD_eq_getElem?_getD, List.getElem?_eq_getElem (by omega)]; rfl)
        rwa [show ((u.toNat : Nat) : Int) = u by omega] at q1
      refine ⟨rfl, tyes (iteT ⟨_, rfl, _, rfl, l, _, _, _, rfl, rfl, SqL.of (s1 _ _ (s0 _ _ hl)), atb, _, hDc, ?_, Same.mut s1 hD, ?_⟩)⟩
      · rw [List.length_map, List.length_map, List.length_take, sizeLine_eq]; omega
      · rw [upd_same, tk, List.map_append, List.map_append]; rfl
    · rintro Hc ⟨s1, hDc⟩
      rw [List.length_map, List.take_length] at hDc
      refine ⟨D, _, rfl, SqL.of hDc, ?_⟩
      rw [List.any_map]
      exact q Hc (Same.trans s0 s1)
theorem ok_fence (T : Top K mg c) : Fd.Has P w K mg base CX0 9 "fence" ["net"] (spFence c.Net) := by
  have G_most : Fd.Has P w K mg base CX0 7 "most" ["net"] (spMost c.Net) := ok_most T
  have G_freed : Fd.Has P w K mg base CX0 8 "freed" ["net", "pairs", "place"] (spFreed c.Net) := ok_freed T
  have G_is_beside_one : Fd.Has P w K mg base CX0 4 "is_beside_one" ["net", "place", "marked"] (spBesOne c.Net) := ok_bes T
  refine T.d_fence.ok sc_fence (fun vs H Q E h => ?_) (fun f cdv A outer s H vs Q E hr h => ?_)
  · obtain ⟨x, n, ts, rfl, _⟩ := h; rfl
  · obtain ⟨x, n, ts, rfl, N, q⟩ := h
    have hr_most := hr.mono (show 7 ≤ 8 by decide)
    have hr_freed := hr
    have hr_is_beside_one := hr.mono (show 4 ≤ 8 by decide)
    have n40 := N.hi
    refine ⟨_, (pss_cons (ps_set (i := 1) sc_fence.nd rfl (Or.inr rfl) (Fd.pe_f G_most hr_most (by rfl) (pa_cons (pv 0) pa_nil)))
      (pss_cons (ps_set (i := 2) sc_fence.nd rfl (Or.inl rfl) (pe_callTy (Up.cl_rng rfl) (by rfl) T.n_list boot_list (pa_cons (pe_callTy Up.cr_range1 (by rfl) T.n_range boot_range (pa_cons (pe_fld (pv 0) rfl) pa_nil)) pa_nil)))
      (pss_cons (ps_set (i := 3) sc_fence.nd rfl (Or.inr rfl) (pe_lc (own := [("place", 4)]) (g := gName 4) rfl sc_fence.nd (pi_list (pv 2)) (blkOk_by (own := [("place", 4)]) (N := N_fence) (sc := defScope S_fence) (by decide +kernel)) (fun _ _ _ _ _ => pg_name (i := 4) sc_fence.nd rfl (Or.inl rfl)) (fun _ _ _ _ _ => pts_nil) (fun _ _ _ _ _ => (pe_cmpR op_notN (Fd.pe_f G_freed hr_freed (by rfl) (pa_cons (pv 0) (pa_cons (pv 1) (pa_cons (pv 4) pa_nil)))) pe_non (nomark _)))))
      (pss_one (ps_ret (pe_lc (own := [("place", 4)]) (g := gName 4) rfl sc_fence.nd (pi_list (pv 2)) (blkOk_by (own := [("place", 4)]) (N := N_fence) (sc := defScope S_fence) (by decide +kernel)) (fun _ _ _ _ _ => pg_name (i := 4) sc_fence.nd rfl (Or.inl rfl)) (fun _ _ _ _ _ => (pts_one (PW.pt (pw_and (pt_not (pt_val (pe_ix (r := rIxL K) ix_list (pv 3) (pv 4) (fun _ _ => rfl)))) (pw_and1 (pt_val (Fd.pe_f G_is_beside_one hr_is_beside_one (by rfl) (pa_cons (pv 0) (pa_cons (pv 4) (pa_cons (pv 3) pa_nil)))))))))) (fun _ _ _ _ _ => (pv 4)))))))), ?_⟩
    refine ⟨_, rfl, x, n, ts, rfl, N, fun qs E pm us H1 g up B hpm s1 epm np => ?_⟩
    have pr := np.prs
    have free : Free n ts E := ⟨qs, g, up, B⟩
    obtain ⟨dx, lt, ln, us', rs, a1, _⟩ := (N.ex s1).at_
    refine ⟨_, rfl, x, c.Net, dx, _, _, rfl, a1, T.cl_Net, T.a_Net_size, nf_size _ _ _, _, rfl, fun pr1 hpr1 => ?_⟩
    have b1 := Same.new (o := .rng 0 (n : Int)) hpr1
    have e1 : upd H1 pr1 (.rng 0 (n : Int)) pr1 = some (.rng 0 (n : Int)) := upd_same
    generalize upd H1 pr1 (.rng 0 (n : Int)) = H2 at b1 e1 ⊢
    refine ⟨pr1, n, rfl, e1, by omega, fun pp hpp => ?_⟩
    have b2 := Same.new (o := .lst ((List.range n).map fun i : Nat => V.int (i : Int))) hpp
    have e2 : upd H2 pp (.lst ((List.range n).map fun i : Nat => V.int (i : Int))) pp = some (.lst ((List.range n).map fun i : Nat => V.int (i : Int))) := upd_same
    generalize upd H2 pp (.lst ((List.range n).map fun i : Nat => V.int (i : Int))) = H3 at b2 e2 ⊢
    have s03 := Same.trans s1 (Same.trans b1 b2)
    have s13 := Same.trans b1 b2
    have pAt : ∀ {i : Nat} {v : V}, ((List.range n).map fun i : Nat => V.int (i : Int))[i]? = some v → i < n ∧ v = .int (i : Int) := fun {i v} h => by
      rw [List.getElem?_map] at h
      obtain ⟨k, hk, rfl⟩ := Option.map_eq_some_iff.mp h
      have hl := (List.getElem?_eq_some_iff.mp hk).1
      rw [List.length_range] at hl
      rw [List.getElem?_range hl] at hk
      cases hk
      exact ⟨hl, rfl⟩
    -- which can be left alone
    refine ⟨_, rfl, pp, rfl, ⟨_, SqL.of e2⟩, fun D hD => ?_⟩
    refine lc_list (xs := (List.range n).map fun i : Nat => V.int (i : Int)) (fun i Hc => ∃ bs : List Bool, Same H3 Hc ∧ Hc D = some (.lst (bs.map V.bl)) ∧ bs.length = i ∧ ∀ j : Nat, j < i → (bs.getD j false = true ↔ E (j : Int))) ⟨[], Same.new hD, upd_same, rfl, fun j hj => absurd hj (Nat.not_lt_zero _)⟩ (fun i Hc _ ⟨_, e, _⟩ => SqL.of (e _ _ e2)) ?_ ?_
    · rintro i y Hc hi ⟨bs, s4, hDc, lb, hb⟩
      obtain ⟨il, rfl⟩ := pAt hi
      have s04 := Same.trans s03 s4
      have nD : ∀ {H' : Hp}, Same Hc H' → H' D = some (.lst (bs.map V.bl)) := fun e => e _ _ hDc
      have fin : ∀ (b : Bool) (H' : Hp), Same Hc H' → (b = true ↔ E (i : Int)) → ∃ acc, H' D = some (.lst acc) ∧ acc.length < sizeLine ∧ ∃ bs : List Bool, Same H3 (upd H' D (.lst (acc ++ [V.bl b]))) ∧ upd H' D (.lst (acc ++ [V.bl b])) D = some (.lst (bs.map V.bl)) ∧ bs.length = i + 1 ∧ ∀ j : Nat, j < i + 1 → (bs.getD j false = true ↔ E (j : Int)) := fun b H' e h => by
        refine ⟨_, nD e, by rw [List.length_map, sizeLine_eq]; omega, bs ++ [b], Same.mut (Same.trans s4 e) hD, by rw [upd_same, List.map_append]; rfl, by rw [List.length_append, lb]; rfl, fun j hj => ?_⟩
        rw [List.getD_eq_getElem?_getD]
        by_cases c : j < i
        · rw [List.getElem?_append_left (by omega), ← List.getD_eq_getElem?_getD]; exact hb j c
        · obtain rfl : j = i := by omega
          rw [List.getElem?_append_right (by omega), lb, Nat.sub_self]; exact h
      refine ⟨rfl, tyes (iteT ⟨_, rfl, _, rfl, _, rfl, x, pm, (i : Int), n, ts, qs, us, E, rfl, N.ex s04, (Same.trans s13 s4) _ _ epm, pr.ex (Same.trans s13 s4), g, up, B, by omega, by omega, fun res p us2 H5 _ _ _ _ hE _ s5 _ _ => ?_, fun hE H5 s5 => ?_⟩)⟩
      · refine ⟨rfl, ?_⟩
        exact fin true H5 s5 ⟨fun _ => hE, fun _ => rfl⟩
      · refine ⟨rfl, ?_⟩
        exact fin false H5 s5 ⟨fun z => (by cases z), fun z => absurd z hE⟩
    rintro H4 ⟨bs, s4, hD4, lb, hb⟩
    rw [List.length_map, List.length_range] at lb hb
    have s04 := Same.trans s03 s4
    have bE : ∀ v : Int, 0 ≤ v → v < (n : Int) → (bs.getD v.toNat false = true ↔ E v) := fun v h0 h1 => by
      have := hb v.toNat (by omega)
      rwa [show ((v.toNat : Nat) : Int) = v by omega] at this
    have e24 := s4 _ _ e2
    have any_E : ∀ v : Int, ((nbr ts v).any fun u => bs.getD u.toNat false) = true ↔ ∃ u, E u ∧ v ∈ nbr ts u := fun v => by
      rw [List.any_eq_true]
      constructor
      · rintro ⟨u, hu, h⟩
        have r := nbr_rng N.tie hu
        exact ⟨u, (bE u r.1 r.2).mp h, nbr_sym N.tie hu⟩
      · rintro ⟨u, hE, hu⟩
        have hu' := nbr_sym N.tie hu
        have r := nbr_rng N.tie hu'
        exact ⟨u, hu', (bE u r.1 r.2).mpr hE⟩
    -- the bound ones beside one of these
    refine ⟨_, rfl, pp, rfl, ⟨_, SqL.of e24⟩, fun D2 hD2 => ?_⟩
    refine lc_list (xs := (List.range n).map fun i : Nat => V.int (i : Int)) (fun i Hc => ∃ F : List Int, Same H4 Hc ∧ Hc D2 = some (.lst (F.map V.int)) ∧ F.length ≤ i ∧ F.Pairwise (· < ·) ∧ ∀ v, v ∈ F ↔ (0 ≤ v ∧ v < (i : Int)) ∧ Ge.Bes (nbr ts) E v) ⟨[], Same.new hD2, upd_same, Nat.le_refl _, List.Pairwise.nil, fun v => ⟨fun z => (by cases z), fun z => (by omega)⟩⟩ (fun i Hc _ ⟨_, e, _⟩ => SqL.of (e _ _ e24)) ?_ ?_
    · rintro i y Hc hi ⟨F, s5, hDc, lF, upF, mem⟩
      obtain ⟨il, rfl⟩ := pAt hi
      have atb : atI (bs.map V.bl) (i : Int) = some (V.bl (bs.getD i false)) := atI_nat (by rw [List.getElem?_map, List.getD_eq_getElem?_getD, List.getElem?_eq_getElem (by omega)]; rfl)
      have no : ¬ Ge.Bes (nbr ts) E (i : Int) → ∀ H', Same Hc H' → ∃ F : List Int, Same H4 H' ∧ H' D2 = some (.lst (F.map V.int)) ∧ F.length ≤ i + 1 ∧ F.Pairwise (· < ·) ∧ ∀ v, v ∈ F ↔ (0 ≤ v ∧ v < ((i + 1 : Nat) : Int)) ∧ Ge.Bes (nbr ts) E v := fun nb H' e => by
        refine ⟨F, Same.trans s5 e, e _ _ hDc, by omega, upF, fun v => ?_⟩
        rw [mem v]
        constructor
        · rintro ⟨a, b⟩; exact ⟨⟨a.1, by omega⟩, b⟩
        · rintro ⟨a, b⟩
          have : v ≠ (i : Int) := fun z => nb (z ▸ b)
          exact ⟨⟨a.1, by omega⟩, b⟩
      have hb0 := hb i il
      refine ⟨rfl, _, rfl, _, rfl, D, _, _, _, rfl, rfl, SqL.of (s5 _ _ hD4), atb, _, rfl, ?_⟩
      by_cases cE : E (i : Int)
      · rw [hb0.mpr cE]
        exact iteF (iteF (no (fun z => z.1 cE) Hc (Same.refl Hc)))
      · have e0 : bs.getD i false = false := by
          cases e : bs.getD i false with
          | false => rfl
          | true => exact absurd (hb0.mp e) cE
        rw [e0]
        refine iteT ⟨_, rfl, _, rfl, _, rfl, x, D, (i : Int), n, ts, bs, rfl, (N.ex s04).ex s5, s5 _ _ hD4, lb, by omega, by omega, fun H6 s6 => ⟨_, rfl, ?_⟩⟩
        by_cases cB : ∃ u, E u ∧ (i : Int) ∈ nbr ts u
        · rw [(any_E _).mpr cB]
          have hD6 := s6 _ _ hDc
          refine iteT ⟨_, rfl, _, hD6, by rw [List.length_map, sizeLine_eq]; omega, F ++ [(i : Int)], Same.mut (Same.trans s5 s6) hD2, by rw [upd_same, List.map_append]; rfl, by rw [List.length_append]; show F.length + 1 ≤ i + 1; omega, ?_, fun v => ?_⟩
          · refine List.pairwise_append.mpr ⟨upF, List.pairwise_singleton _ _, fun a ha b hb' => ?_⟩
            rw [List.mem_singleton.mp hb']
            exact ((mem a).mp ha).1.2
          · rw [List.mem_append, mem v, List.mem_singleton]
            constructor
            · rintro (⟨a, b⟩ | rfl)
              · exact ⟨⟨a.1, by omega⟩, b⟩
              · exact ⟨⟨by omega, by omega⟩, cE, cB⟩
            · rintro ⟨a, b⟩
              by_cases z : v = (i : Int)
              · exact .inr z
              · exact .inl ⟨⟨a.1, by omega⟩, b⟩
        · have e1 : ((nbr ts (i : Int)).any fun u => bs.getD u.toNat false) = false := by
            cases e : ((nbr ts (i : Int)).any fun u => bs.getD u.toNat false) with
            | false => rfl
            | true => exact absurd ((any_E _).mp e) cB
          rw [e1]
          exact iteF (no (fun z => cB z.2) H6 s6)
    · rintro H5 ⟨F, s5, hD5, lF, upF, mem⟩
      rw [List.length_map, List.length_range] at mem
      exact q E F D2 H5 free ⟨upF, mem⟩ (s04.free hD2) (Same.trans s04 s5) hD5
end
end Od

namespace Od
open PySem PySem.Spec PyProof.Rows L2
/-! ### the law's look at a pairing -/
theorem lex_plt {l1 l2 p1 p2 : Int} (h : plt (l1, l2) (p1, p2)) : HT.lexLt [l1, l2] [p1, p2] = true := by
  unfold plt at h
  simp only at h
  unfold HT.lexLt
  by_cases c : l1 = p1
  · rw [if_pos c]
    unfold HT.lexLt
    rw [if_neg (by omega)]
    exact decide_eq_true (by omega)
  · rw [if_neg c]
    exact decide_eq_true (by omega)
def spAloneL : Sp := fun vs H Q _ => ∃ (n : Nat) (l p : Addr) (us ws : List V) (ts qs : List Pr), vs = [.int n, .ref l, .ref p] ∧ n ≤ 40 ∧ H l = some (.lst us) ∧ Prs H us ts ∧ H p = some (.lst ws) ∧ Prs H ws qs ∧ Pg n ts qs ∧ qs.Pairwise plt ∧
  ∀ (ls : List Int) (r : Addr) (H' : Hp), ls.length + 2 * qs.length = n → (∀ x, x ∈ ls ↔ (0 ≤ x ∧ x < (n : Int)) ∧ x ∉ ends qs) → H r = none → Same H H' → H' r = some (.lst (ls.map V.int)) → Q (.ref r) H'
section
variable {P : Program} {w : World} {K : PySem.W.Frag} {mg : Str → Option Value} {c : Cs} {base : Heap}
theorem ok_aloneL (T : Top K mg c) : Fd.Has P w K mg base CX0 2 "_law_alone" ["_law_size", "_law_ties", "_law_pairs"] spAloneL := by
  have G__law_whole : Fd.Has P w K mg base CX0 1 "_law_whole" ["_law_found"] spWhole := ok_whole T
  refine T.d__law_alone.ok sc__law_alone (fun vs H Q E h => ?_) (fun f cdv A outer s H vs Q E hr h => ?_)
  · obtain ⟨n, l, p, us, ws, ts, qs, rfl, _⟩ := h; rfl
  · obtain ⟨n, l, p, us, ws, ts, qs, rfl, n40, hl, pl, hp, pp, g, up, q⟩ := h
    have hr__law_whole := hr
    have cnt := g.count
    have lws := pp.len
    have ndq := ends_nd g.nd
    refine ⟨_, (pss_cons (ps_if (pt_not (pt_val (pe_callB (r := rIsi K) call_isi (by rfl) T.n_isinstance boot_isinstance (pa_cons (pv 2) (pa_cons (pe_bltn (v := .ty "list") (by rfl) T.n_list boot_list rfl) pa_nil)))))
      (pss_one (ps_ret pe_non))
      pss_nil)
      (pss_cons (ps_set (i := 3) sc__law_alone.nd rfl (Or.inr rfl) pe_dnewK)
      (pss_cons (ps_set (i := 4) sc__law_alone.nd rfl (Or.inl rfl) (pe_tup (pa_cons (pe_un un_neg pe_int) (pa_cons (pe_un un_neg pe_int) pa_nil))))
      (pss_cons (ps_for PassesOwn.never rfl (pi_list (pv 2)) (pg_name (i := 5) sc__law_alone.nd rfl (Or.inl rfl))
      (pss_cons (ps_if (PW.pt (pw_or (pt_not (pt_val (pe_callB (r := rIsi K) call_isi (by rfl) T.n_isinstance boot_isinstance (pa_cons (pv 5) (pa_cons (pe_bltn (v := .ty "tuple") (by rfl) T.n_tuple boot_tuple rfl) pa_nil))))) (pw_or (pt_cmpR op_ne (pe_callB call_len_seq (by rfl) T.n_len boot_len (pa_cons (pv 5) pa_nil)) pe_int (nomark _)) (pw_or1 (pt_cmpR (r := rNotInD K) (op_notInD (Sd.u65 hr)) (pv 5) (pv 1) (by rfl))))))
        (pss_one (ps_ret pe_non))
        pss_nil)
        (pss_cons (ps_if (PW.pt (pw_or (pt_not (pt_val (Fd.pe_f G__law_whole hr__law_whole (by rfl) (pa_cons (pe_ix ix_tup (pv 5) pe_int (fun _ _ => rfl)) pa_nil)))) (pw_or (pt_not (pt_val (Fd.pe_f G__law_whole hr__law_whole (by rfl) (pa_cons (pe_ix ix_tup (pv 5) pe_int (fun _ _ => rfl)) pa_nil)))) (pw_or1 (pt_not (pt_cmpR (op_ltT hr.units0) (pv 4) (pv 5) (nomark _)))))))
        (pss_one (ps_ret pe_non))
        pss_nil)
        (pss_cons (ps_if (PW.pt (pw_or (pt_cmp (pc_din (hu_of hr) (pe_ix ix_tup (pv 5) pe_int (fun _ _ => rfl)) (pv 3))) (pw_or1 (pt_cmp (pc_din (hu_of hr) (pe_ix ix_tup (pv 5) pe_int (fun _ _ => rfl)) (pv 3))))))
        (pss_one (ps_ret pe_non))
        pss_nil)
        (pss_cons (ps_asg pe_bl (pg_sub (pv 3) (pe_ix ix_tup (pv 5) pe_int (fun _ _ => rfl)) (set_dict (hu_of hr))))
        (pss_cons (ps_asg pe_bl (pg_sub (pv 3) (pe_ix ix_tup (pv 5) pe_int (fun _ _ => rfl)) (set_dict (hu_of hr))))
        (pss_one (ps_set (i := 4) sc__law_alone.nd rfl (Or.inl rfl) (pv 5)))))))))
      (pss_one (ps_ret (pe_lc (own := [("_law_place", 6)]) (g := gName 6) rfl sc__law_alone.nd (pi_range1 (by rfl) T.n_range (pa_cons (pv 0) pa_nil)) (blkOk_by (own := [("_law_place", 6)]) (N := N__law_alone) (sc := defScope S__law_alone) (by decide +kernel)) (fun _ _ _ _ _ => pg_name (i := 6) sc__law_alone.nd rfl (Or.inl rfl)) (fun _ _ _ _ _ => (pts_one (pt_cmp (pc_dnotin (hu_of hr) (pv 6) (pv 3))))) (fun _ _ _ _ _ => (pv 6))))))))), ?_⟩
    refine ⟨_, rfl, _, _, _, _, _, rfl, ClsV.ty _, (Kd.lst hp).tyx, kit_ty (kit_list _), _, rfl, ?_⟩
    rw [decide_eq_true rfl]
    refine iteF fun M hM => ?_
    have sM := Same.new (o := .dK []) hM
    have eM : upd H M (.dK []) M = some (.dK (mk [])) := upd_same
    generalize upd H M (.dK []) = H0 at sM eM ⊢
    refine ⟨_, rfl, _, rfl, (by show 2 ≤ sizeLine; decide), fun l0 hl0 => ?_⟩
    have b0 := Same.new (o := .tup [V.int (-1), .int (-1)]) hl0
    have e0 : upd H0 l0 (.tup [V.int (-1), .int (-1)]) l0 = some (.tup [V.int (-1), .int (-1)]) := upd_same
    have s0 := Same.trans sM b0
    refine ⟨_, rfl, p, rfl, ⟨ws, SqL.of (s0 _ _ hp)⟩, for_list (K := K) (a := p) (xs := ws) (fun i σ H' => ∃ la l1 l2 v5 v6, σ = [some (.int n), some (.ref l), some (.ref p), some (.ref M), some (.ref la), v5, v6] ∧ Same H H' ∧ H' M = some (.dK (mk (ends (qs.take i)))) ∧ H' la = some (.tup [.int l1, .int l2]) ∧ ∀ z, qs[i]? = some z → plt (l1, l2) z)
      ⟨l0, -1, -1, none, none, rfl, s0, b0 _ _ eM, e0, fun z hz => ?_⟩ (fun i σ H' _ ⟨_, _, _, _, _, _, e, _⟩ => SqL.of (e _ _ hp)) ?_ ?_⟩
    · have := g.tieq z (List.mem_of_getElem? hz)
      have := this.1
      show -1 < z.1 ∨ _
      exact .inl (by omega)
    · rintro i v σ H1 hi ⟨la, l1, l2, v5, v6, rfl, s1, hM1, ea, lt⟩
      obtain ⟨z, b, hz, rfl, eb⟩ := pp.get hi
      have eb1 := s1 _ _ eb
      have inq := List.mem_of_getElem? hz
      have tk : qs.take (i + 1) = qs.take i ++ [z] := by rw [List.take_succ, hz]; rfl
      have il := (List.getElem?_eq_some_iff.mp hz).1
      have offE : z.1 ∉ ends (qs.take i) ∧ z.2 ∉ ends (qs.take i ++ [z]) ∨ True := .inr trivial
      have nd := g.nd
      have split : ends (qs.take i ++ [z]) = ends (qs.take i) ++ [z.1, z.2] := ends_snoc _ _
      have nd1 : (ends (qs.take i) ++ [z.1, z.2]).Nodup := by
        rw [← split, ← tk]
        have e : qs = qs.take (i + 1) ++ qs.drop (i + 1) := (List.take_append_drop _ _).symm
        rw [e] at nd
        rw [ends_app] at nd
        exact (List.nodup_append.mp nd).1
      have o1 : z.1 ∉ ends (qs.take i) := fun h => (List.nodup_append.mp nd1).2.2 _ h z.1 List.mem_cons_self rfl
      have o2 : z.2 ∉ ends (qs.take i) := fun h => (List.nodup_append.mp nd1).2.2 _ h z.2 (List.mem_cons_of_mem _ List.mem_cons_self) rfl
      have o12 : z.2 ∉ ends (qs.take i) ++ [z.1] := fun h => by
        rcases List.mem_append.mp h with h | h
        · exact o2 h
        · have := (g.tieq z inq).2.1
          rw [List.mem_singleton] at h; omega
      have lenE : (ends (qs.take i)).length ≤ 80 := by rw [ends_len, List.length_take]; omega
      dsimp only [gName]
      refine tsq (if_no (R := Same H1) (fun Q' hq => ?_) fun H2 s2 => ?_)
      · refine ⟨_, rfl, _, _, _, _, _, rfl, ClsV.ty _, (Kd.tup eb1).tyx, kit_ty (kit_tuple _), _, rfl, ?_⟩
        rw [decide_eq_true rfl]
        refine iteF ⟨_, rfl, b, _, rfl, .inr (SqT.of eb1), rfl, _, rfl, ?_⟩
        refine iteF ⟨_, rfl, _, rfl, dP z, ts.map dP, .tup (SqT.of eb1) (.cons (.int _) (.cons (.int _) .nil)), dp_prs (SqL.of (s1 _ _ hl)) (pl.ex s1), shaped_dP _, shaped_dPs _, _, rfl, ?_⟩
        rw [any_dP, decide_eq_true (g.sub z inq)]
        exact hq _ (Same.refl H1)
      have eb2 := s2 _ _ eb1
      refine tnx ?_
      dsimp only
      refine tsq (if_no (R := Same H2) (fun Q' hq => ?_) fun H3 s3 => ?_)
      · refine ⟨_, rfl, b, _, (0 : Int), V.int z.1, rfl, rfl, SqT.of eb2, rfl, V.int z.1, _, rfl, .int _, _, rfl, ?_⟩
        refine iteF ⟨_, rfl, b, _, (1 : Int), V.int z.2, rfl, rfl, SqT.of eb2, rfl, V.int z.2, _, rfl, .int _, _, rfl, ?_⟩
        refine iteF ⟨_, rfl, _, rfl, la, b, [l1, l2], [z.1, z.2], rfl, rfl, SqT.of (s2 _ _ ea), SqT.of eb2, _, rfl, ?_⟩
        rw [lex_plt (lt z hz)]
        exact hq _ (Same.refl H2)
      have eb3 := s3 _ _ eb2
      have s13 := Same.trans s2 s3
      have hM3 := s13 _ _ hM1
      refine tnx ?_
      dsimp only
      refine tsq (if_no (R := Same H3) (fun Q' hq => ?_) fun H4 s4 => ?_)
      · refine ⟨_, rfl, b, _, (0 : Int), V.int z.1, rfl, rfl, SqT.of eb3, rfl, _, rfl, M, _, rfl, DGet.k (k := .inl z.1) hM3, _, rfl, ?_⟩
        rw [mk_val, decide_eq_false o1]
        refine iteF ⟨_, rfl, b, _, (1 : Int), V.int z.2, rfl, rfl, SqT.of eb3, rfl, _, rfl, M, _, rfl, DGet.k (k := .inl z.2) hM3, _, rfl, ?_⟩
        rw [mk_val, decide_eq_false o2]
        exact hq _ (Same.refl H3)
      have eb4 := s4 _ _ eb3
      have s04 := Same.trans s1 (Same.trans s13 s4)
      have hM4 := s4 _ _ hM3
      refine tnx ?_
      dsimp only
      refine ⟨_, rfl, _, rfl, b, _, (0 : Int), V.int z.1, rfl, rfl, SqT.of eb4, rfl, M, _, rfl, DPut.k (k := .inl z.1) hM4 (by rw [mk_len, sizeLine_eq]; omega), ?_⟩
      rw [mk_put o1]
      have nbM : b ≠ M := ne_of eb4 hM4 (fun z => nomatch z)
      have eb5 : upd H4 M (.dK (mk (ends (qs.take i) ++ [z.1]))) b = some (.tup [.int z.1, .int z.2]) := by rw [upd_ne nbM]; exact eb4
      have hM5 : upd H4 M (.dK (mk (ends (qs.take i) ++ [z.1]))) M = some (.dK (mk (ends (qs.take i) ++ [z.1]))) := upd_same
      have s05 : Same H (upd H4 M (.dK (mk (ends (qs.take i) ++ [z.1])))) := Same.mut s04 hM
      generalize upd H4 M (.dK (mk (ends (qs.take i) ++ [z.1]))) = H5 at eb5 hM5 s05 ⊢
      refine ⟨_, rfl, _, rfl, b, _, (1 : Int), V.int z.2, rfl, rfl, SqT.of eb5, rfl, M, _, rfl, DPut.k (k := .inl z.2) hM5 (by rw [mk_len, List.length_append, sizeLine_eq]; show _ + 1 < _; omega), ?_⟩
      rw [mk_put o12]
      refine ⟨_, rfl, b, z.1, z.2, _, _, rfl, Same.mut s05 hM, ?_, by rw [upd_ne nbM]; exact eb5, fun z' hz' => ?_⟩
      · rw [upd_same, tk, split, List.append_assoc]; rfl
      · exact List.pairwise_iff_getElem.mp up i (i + 1) il (List.getElem?_eq_some_iff.mp hz').1 (by omega) |> fun h => by
          rw [(List.getElem?_eq_some_iff.mp hz).2, (List.getElem?_eq_some_iff.mp hz').2] at h; exact h
    · rintro σ H1 ⟨la, l1, l2, v5, v6, rfl, s1, hM1, ea, lt⟩
      rw [lws, List.take_length] at hM1
      refine ⟨_, rfl, (n : Int), rfl, by omega, by omega, fun D hD => ?_⟩
      refine lc_range (lo := 0) (n := ((n : Int)).toNat) (fun i Hc => ∃ ls : List Int, Same H1 Hc ∧ Hc D = some (.lst (ls.map V.int)) ∧ ls.length ≤ i ∧ ls.Nodup ∧ ∀ x, x ∈ ls ↔ (0 ≤ x ∧ x < (i : Int)) ∧ x ∉ ends qs) ⟨[], Same.new hD, upd_same, Nat.le_refl _, List.nodup_nil, fun x => ⟨fun z => (by cases z), fun z => (by omega)⟩⟩ ?_ ?_
      · rintro i Hc hi ⟨ls, s2, hDc, ll, ndl, mem⟩
        rw [show (0 : Int) + (i : Int) = (i : Int) from Int.zero_add _]
        refine ⟨rfl, _, rfl, _, rfl, M, _, rfl, DGet.k (k := .inl (i : Int)) (s2 _ _ hM1), _, rfl, ?_⟩
        rw [mk_val]
        by_cases cm : (i : Int) ∈ ends qs
        · rw [decide_eq_true cm]
          refine iteF ⟨ls, s2, hDc, by omega, ndl, fun x => ?_⟩
          rw [mem x]
          constructor
          · rintro ⟨a, b⟩; exact ⟨⟨a.1, by omega⟩, b⟩
          · rintro ⟨a, b⟩
            have : x ≠ (i : Int) := fun z => b (z ▸ cm)
            exact ⟨⟨a.1, by omega⟩, b⟩
        · rw [decide_eq_false cm]
          refine iteT ⟨_, rfl, _, hDc, by rw [List.length_map, sizeLine_eq]; omega, ls ++ [(i : Int)], Same.mut s2 hD, by rw [upd_same, List.map_append]; rfl, by rw [List.length_append]; show ls.length + 1 ≤ i + 1; omega, List.nodup_append.mpr ⟨ndl, List.pairwise_singleton _ _, fun a ha b hb e => ?_⟩, fun x => ?_⟩
          · rw [List.mem_singleton] at hb
            have := ((mem a).mp ha).1.2
            omega
          · rw [List.mem_append, mem x, List.mem_singleton]
            constructor
            · rintro (⟨a, b⟩ | rfl)
              · exact ⟨⟨a.1, by omega⟩, b⟩
              · exact ⟨⟨by omega, by omega⟩, cm⟩
            · rintro ⟨a, b⟩
              by_cases e : x = (i : Int)
              · exact .inr e
              · exact .inl ⟨⟨a.1, by omega⟩, b⟩
      · rintro Hc ⟨ls, s2, hDc, ll, ndl, mem⟩
        rw [show ((((n : Int)).toNat : Nat) : Int) = (n : Int) by omega] at mem
        refine q ls D Hc ?_ mem (s1.free hD) (Same.trans s1 s2) hDc
        have h1 := Ge.sub_len ndl (l2 := Ge.un n (mo qs)) fun x hx => Ge.pl_mem.mpr ⟨((mem x).mp hx).1, mo_free.mpr ((mem x).mp hx).2⟩
        have h2 := Ge.sub_len (Ge.pl_nd (n := n) (P := fun x => mo qs x = none)) (l2 := ls) fun x hx => (mem x).mpr ⟨(Ge.pl_mem.mp hx).1, mo_free.mp (Ge.pl_mem.mp hx).2⟩
        have : (Ge.un n (mo qs)).length = ls.length := Nat.le_antisymm h2 h1
        omega
end
end Od

namespace Od
open PySem PySem.Spec PyProof.Rows L2
/-! ### the heap without some addresses -/
def rmL (H : Hp) (W : List Addr) : Hp := fun b => if b ∈ W then none else H b
theorem rmL_same {H : Hp} {W : List Addr} : Same (rmL H W) H := fun b o e => by
  unfold rmL at e
  by_cases m : b ∈ W
  · rw [if_pos m] at e; cases e
  · rw [if_neg m] at e; exact e
theorem rmL_at {H : Hp} {W : List Addr} {b : Addr} {o : HO} (e : H b = some o) (m : b ∉ W) : rmL H W b = some o := by
  unfold rmL; rw [if_neg m]; exact e
theorem rmL_in {H : Hp} {W : List Addr} {b : Addr} (m : b ∈ W) : rmL H W b = none := by unfold rmL; rw [if_pos m]
theorem rmL_off {H : Hp} {W : List Addr} {b : Addr} {o : HO} (e : rmL H W b = some o) : b ∉ W ∧ H b = some o := by
  unfold rmL at e
  by_cases m : b ∈ W
  · rw [if_pos m] at e; cases e
  · rw [if_neg m] at e; exact ⟨m, e⟩
/-- what is without W stays without W -/
theorem rmL_to {B H : Hp} {W : List Addr} (s : Same B H) (h : ∀ b ∈ W, B b = none) : Same B (rmL H W) := fun b o e =>
  rmL_at (s b o e) fun m => by rw [h b m] at e; cases e
theorem rmL_mono {H H' : Hp} {M W : List Addr} (s : Same (rmL H M) H') (sub : ∀ b ∈ M, b ∈ W) : Same (rmL H W) (rmL H' W) := fun b o e => by
  obtain ⟨m, e⟩ := rmL_off e
  exact rmL_at (s b o (rmL_at e fun z => m (sub b z))) m
theorem rmL_new {B H H' : Hp} {M : List Addr} (s0 : Same B H) (h : ∀ b ∈ M, B b = none) (s : Same (rmL H M) H') : Same B H' := fun b o e => s b o (rmL_to s0 h b o e)
theorem rmL_up {H H' H2 : Hp} {M : List Addr} (s : Same (rmL H M) H') (s2 : Same H' H2) : Same (rmL H M) H2 := Same.trans s s2
/-- b of M may be changed -/
theorem rmL_mut {H H' : Hp} {M : List Addr} {b : Addr} {o : HO} (s : Same (rmL H M) H') (m : b ∈ M) : Same (rmL H M) (upd H' b o) := Same.mut s (rmL_in m)
theorem rmL_nil {H H' : Hp} {M : List Addr} (s : Same H H') : Same (rmL H M) H' := Same.trans rmL_same s

/-! ### a Kept -/
theorem k1 : ¬ (("_net" : Str) = "_pairs") := by decide +kernel
theorem k1' : ¬ (("_pairs" : Str) = "_net") := by decide +kernel
abbrev kf1 (x : Addr) : List (Str × V) := putF "_net" (.ref x) []
def kf (x p : Addr) : List (Str × V) := putF "_pairs" (.ref p) (kf1 x)
theorem kf_eq (x p : Addr) : kf x p = [(("_net" : Str), V.ref x), (("_pairs" : Str), V.ref p)] := by
  show (if ("_net" : Str) = "_pairs" then [(("_net" : Str), V.ref p)] else (("_net" : Str), V.ref x) :: putF "_pairs" (V.ref p) []) = _
  rw [if_neg k1]; rfl
theorem kf_len (x p : Addr) : (kf x p).length < 1000 := by rw [kf_eq]; show 2 < 1000; decide
theorem kf1_len (x : Addr) : (kf1 x).length < 1000 := by show 1 < 1000; decide
theorem kf_net (x p : Addr) : (kf x p).lookup ("_net" : Str) = some (.ref x) := by unfold kf; rw [lookup_putF, if_neg k1, lookup_putF, if_pos rfl]
theorem kf_pairs (x p : Addr) : (kf x p).lookup ("_pairs" : Str) = some (.ref p) := by unfold kf; rw [lookup_putF, if_pos rfl]
theorem kf_no (x p : Addr) {m : Str} (h1 : ¬ m = "_net") (h2 : ¬ m = "_pairs") : (kf x p).lookup m = none := by
  unfold kf; rw [lookup_putF, if_neg h2, lookup_putF, if_neg h1]; rfl
theorem kf_put1 (x p y : Addr) : putF "_net" (.ref y) (kf x p) = kf y p := by
  rw [kf_eq, kf_eq]
  show (if ("_net" : Str) = "_net" then (("_net" : Str), V.ref y) :: [(("_pairs" : Str), V.ref p)] else _) = _
  rw [if_pos rfl]
theorem kf_put2 (x p r : Addr) : putF "_pairs" (.ref r) (kf x p) = kf x r := by
  rw [kf_eq, kf_eq]
  show (if ("_net" : Str) = "_pairs" then _ else (("_net" : Str), V.ref x) :: (if ("_pairs" : Str) = "_pairs" then [(("_pairs" : Str), V.ref r)] else _)) = _
  rw [if_neg k1, if_pos rfl]
theorem kf_m_net (x p : Addr) : (kf x p).lookup ("net" : Str) = none := kf_no _ _ (by decide +kernel) (by decide +kernel)
theorem kf_m_pairs (x p : Addr) : (kf x p).lookup ("pairs" : Str) = none := kf_no _ _ (by decide +kernel) (by decide +kernel)
theorem kf_m_put (x p : Addr) : (kf x p).lookup ("put" : Str) = none := kf_no _ _ (by decide +kernel) (by decide +kernel)
theorem kf_m_cut (x p : Addr) : (kf x p).lookup ("cut" : Str) = none := kf_no _ _ (by decide +kernel) (by decide +kernel)
theorem kf_m_turn (x p : Addr) : (kf x p).lookup ("_turn_to" : Str) = none := kf_no _ _ (by decide +kernel) (by decide +kernel)
/-- qs is a greatest pairing, rising -/
structure Grt (n : Nat) (ts qs : List Pr) : Prop where
  pg : Pg n ts qs
  up : qs.Pairwise plt
  big : ∀ q, Pg n ts q → q.length ≤ qs.length
structure KeptAt (c : Cs) (H : Hp) (k : Addr) (n : Nat) (ts qs : List Pr) : Prop where
  at_ : ∃ (dk x p : Addr) (us : List V), H k = some (.ins c.Kept dk (kf x p)) ∧ NetAt c.Net H x n ts ∧ H p = some (.lst us) ∧ Prs H us qs
  grt : Grt n ts qs
theorem KeptAt.ex {c : Cs} {H H' : Hp} {k : Addr} {n : Nat} {ts qs : List Pr} (A : KeptAt c H k n ts qs) (e : Same H H') : KeptAt c H' k n ts qs := by
  obtain ⟨dk, x, p, us, h1, h2, h3, h4⟩ := A.at_
  exact ⟨⟨dk, x, p, us, e _ _ h1, h2.ex e, e _ _ h3, h4.ex e⟩, A.grt⟩
theorem KeptAt.out {c : Cs} {H : Hp} {W : List Addr} {k : Addr} {n : Nat} {ts qs : List Pr} (A : KeptAt c (rmL H W) k n ts qs) : KeptAt c H k n ts qs := A.ex rmL_same
theorem KeptAt.off {c : Cs} {H : Hp} {W : List Addr} {k : Addr} {n : Nat} {ts qs : List Pr} (A : KeptAt c (rmL H W) k n ts qs) : k ∉ W := by
  obtain ⟨dk, x, p, us, h1, _⟩ := A.at_
  exact (rmL_off h1).1

/-! ### greatest pairings, a tie more or less -/
section
variable {n : Nat} {ts qs : List Pr} {F : Int → Prop}
theorem big_ge (g : Pg n ts qs) (B : Ge.Big n (nbr ts) (mo qs) F) {q : List Pr} (h : Pg n ts q) : q.length ≤ qs.length := by
  have c1 := g.count
  have c2 := h.count
  have l := Ge.Big.least (nb := nbr ts) (gr_nbr g.tie) g.mt (nbr_rg g.tie) B h.mt
  omega
/-- without t -/
def lss (t : Pr) (l : List Pr) : List Pr := l.filter fun q => decide (q ≠ t)
theorem lss_snoc (t : Pr) (l : List Pr) (q : Pr) : lss t (l ++ [q]) = if q = t then lss t l else lss t l ++ [q] := by
  unfold lss
  rw [List.filter_append]
  by_cases e : q = t
  · rw [if_pos e, List.filter_cons, if_neg (by rw [decide_eq_true_eq]; exact fun z => z e)]; simp
  · rw [if_neg e, List.filter_cons, if_pos (decide_eq_true e)]; rfl
theorem lss_mem {t : Pr} {l : List Pr} {p : Pr} : p ∈ lss t l ↔ p ∈ l ∧ p ≠ t := by unfold lss; rw [List.mem_filter, decide_eq_true_eq]
theorem lss_len (t : Pr) : ∀ {l : List Pr}, l.Nodup → l.length ≤ (lss t l).length + 1
  | [], _ => Nat.zero_le _
  | p :: l, h => by
    rw [List.nodup_cons] at h
    unfold lss
    rw [List.filter_cons]
    by_cases e : p = t
    · subst e
      rw [if_neg (by rw [decide_eq_true_eq]; exact fun z => z rfl)]
      have e2 : l.filter (fun q => decide (q ≠ p)) = l := List.filter_eq_self.mpr fun q hq => decide_eq_true fun z => h.1 (z ▸ hq)
      rw [e2]; exact Nat.le_refl _
    · rw [if_pos (decide_eq_true e)]
      have := lss_len t h.2
      unfold lss at this
      rw [List.length_cons, List.length_cons]; omega
theorem lss_le (t : Pr) (l : List Pr) : (lss t l).length ≤ l.length := List.length_filter_le _ _
theorem lss_up {t : Pr} {l : List Pr} (h : l.Pairwise plt) : (lss t l).Pairwise plt := h.sublist List.filter_sublist
theorem lss_ends {t : Pr} {l : List Pr} (h : (ends l).Nodup) : (ends (lss t l)).Nodup := by
  have : List.Sublist (ends (lss t l)) (ends l) := by
    unfold ends lss
    induction l with
    | nil => exact List.Sublist.slnil
    | cons p l ih =>
      have h2 : (ends l).Nodup := by
        unfold ends at h ⊢
        rw [List.flatMap_cons] at h
        exact (List.nodup_append.mp h).2.1
      rw [List.filter_cons, List.flatMap_cons]
      by_cases e : decide (p ≠ t) = true
      · rw [if_pos e, List.flatMap_cons]; exact List.Sublist.append (List.Sublist.refl _) (ih h2)
      · rw [if_neg e]; exact List.Sublist.trans (ih h2) (List.sublist_append_right _ _)
  exact h.sublist this
/-- ts with t, put among them -/
theorem put_bound {t : Pr} {ts' : List Pr} (G : Grt n ts qs) (mem : ∀ p ∈ ts', p ∈ ts ∨ p = t) (q : List Pr) (g : Pg n ts' q) : q.length ≤ qs.length + 1 := by
  have h1 := G.big (lss t q) ⟨G.pg.tie, fun p hp => by
    obtain ⟨a, b⟩ := lss_mem.mp hp
    exact (mem p (g.sub p a)).resolve_right b, lss_ends g.nd⟩
  have h2 := lss_len t (ends_nd g.nd)
  omega
theorem cut_bound {t : Pr} (G : Grt n ts qs) (q : List Pr) (g : Pg n (lss t ts) q) : q.length ≤ (lss t qs).length + 1 := by
  have h1 := G.big q ⟨G.pg.tie, fun p hp => (lss_mem.mp (g.sub p hp)).1, g.nd⟩
  have h2 := lss_len t (ends_nd G.pg.nd)
  omega
theorem cut_pg {t : Pr} (g : Pg n ts qs) : Pg n (lss t ts) (lss t qs) :=
  ⟨fun p hp => g.tie p (lss_mem.mp hp).1, fun p hp => lss_mem.mpr ⟨g.sub p (lss_mem.mp hp).1, (lss_mem.mp hp).2⟩, lss_ends g.nd⟩
end
end Od

namespace Od
open PySem PySem.Spec PyProof.Rows L2
/-! ### a tie between two places -/
def twoPl (one other : V) (n : Int) : Option Pr := match one, other with
  | .int i, .int j => if isPl one n = true ∧ isPl other n = true ∧ i ≠ j then some (mm i j) else none
  | _, _ => none
theorem twoPl_some {one other : V} {n : Int} {z : Pr} (h : twoPl one other n = some z) : ∃ i j, one = .int i ∧ other = .int j ∧ (0 ≤ i ∧ i < n) ∧ (0 ≤ j ∧ j < n) ∧ i ≠ j ∧ z = mm i j := by
  cases one with
  | int i => cases other with
    | int j =>
      have h' : (if isPl (.int i) n = true ∧ isPl (.int j) n = true ∧ i ≠ j then some (mm i j) else none) = some z := h
      by_cases c : isPl (.int i) n = true ∧ isPl (.int j) n = true ∧ i ≠ j
      · rw [if_pos c] at h'; cases h'
        exact ⟨i, j, rfl, rfl, of_decide_eq_true c.1, of_decide_eq_true c.2.1, c.2.2, rfl⟩
      · rw [if_neg c] at h'; cases h'
    | _ => cases h
  | _ => cases h
theorem twoPl_yes {i j n : Int} (h1 : isPl (.int i) n = true) (h2 : isPl (.int j) n = true) (h : i ≠ j) : twoPl (.int i) (.int j) n = some (mm i j) := by
  show (if isPl (.int i) n = true ∧ isPl (.int j) n = true ∧ i ≠ j then some (mm i j) else none) = _
  rw [if_pos ⟨h1, h2, h⟩]
theorem twoPl_no1 {one other : V} {n : Int} (h : isPl one n = false) : twoPl one other n = none := by
  cases e : twoPl one other n with
  | none => rfl
  | some z =>
    obtain ⟨i, j, rfl, rfl, a, _⟩ := twoPl_some e
    have : isPl (.int i) n = true := decide_eq_true a
    rw [h] at this; cases this
theorem twoPl_no2 {one other : V} {n : Int} (h : isPl other n = false) : twoPl one other n = none := by
  cases e : twoPl one other n with
  | none => rfl
  | some z =>
    obtain ⟨i, j, rfl, rfl, _, a, _⟩ := twoPl_some e
    have : isPl (.int j) n = true := decide_eq_true a
    rw [h] at this; cases this
theorem twoPl_same {i n : Int} : twoPl (.int i) (.int i) n = none := by
  show (if isPl (.int i) n = true ∧ isPl (.int i) n = true ∧ i ≠ i then some (mm i i) else none) = _
  rw [if_neg fun z => z.2.2 rfl]
theorem twoPl_tie {one other : V} {n : Int} {z : Pr} (h : twoPl one other n = some z) : Tie n z := by
  obtain ⟨i, j, _, _, a, b, c, rfl⟩ := twoPl_some h
  rcases mm_cases i j with e | e <;> · unfold mm at e ⊢; unfold Tie; simp only; split <;> split <;> omega
def spTieB (C : Addr) : Sp := fun vs H Q E => ∃ (n : Int) (one other : V) (t1 t2 : Ty), vs = [.int n, one, other] ∧ Kd H one t1 ∧ Kd H other t2 ∧
  (∀ z, twoPl one other n = some z → ∀ t, H t = none → Q (.ref t) (upd H t (.tup [.int z.1, .int z.2]))) ∧ (twoPl one other n = none → E (.ref C) none H)
def spKInit (c : Cs) : Sp := fun vs H Q E => ∃ (H0 : Hp) (k dk : Addr) (sz : V) (tz : Ty), vs = [.ref k, sz] ∧ Same H0 H ∧ H0 k = none ∧ H k = some (.ins c.Kept dk []) ∧ Kd H0 sz tz ∧
  (∀ n : Nat, sz = .int n → 1 ≤ n → n ≤ 40 → ∀ H', Same H0 H' → KeptAt c (newp H0 H') k n [] [] → Q .non H') ∧ ((∀ n : Nat, sz = .int n → ¬ (1 ≤ n ∧ n ≤ 40)) → ∀ H', Same H0 H' → E (.ref c.BadNet) none H')
def spKNet (c : Cs) : Sp := fun vs H Q _ => ∃ (k : Addr) (n : Nat) (ts qs : List Pr), vs = [.ref k] ∧ KeptAt c H k n ts qs ∧ ∀ x H', H x = none → Same H H' → NetAt c.Net (newp H H') x n ts → Q (.ref x) H'
def spKPairs (c : Cs) : Sp := fun vs H Q _ => ∃ (k : Addr) (n : Nat) (ts qs : List Pr), vs = [.ref k] ∧ KeptAt c H k n ts qs ∧ ∀ p us, H p = none → Prs H us qs → Q (.ref p) (upd H p (.lst us))
def spTurnTo (c : Cs) : Sp := fun vs H Q _ => ∃ (W : List Addr) (k l p : Addr) (n : Nat) (ts qs ts' ps tu : List Pr) (us vs2 : List V), vs = [.ref k, .ref l, .ref p] ∧ (∀ b ∈ W, ∃ o, H b = some o) ∧ KeptAt c (rmL H W) k n ts qs ∧
  H l = some (.lst us) ∧ Prs H us tu ∧ ts'.Perm tu ∧ ts'.Pairwise plt ∧ rmL H W p = some (.lst vs2) ∧ Prs (rmL H W) vs2 ps ∧ Pg n ts' ps ∧ ps.Pairwise plt ∧ (∀ q, Pg n ts' q → q.length ≤ ps.length + 1) ∧
  ∀ qs' H', Same (rmL H [k]) H' → KeptAt c (rmL H' W) k n ts' qs' → ps.length ≤ qs'.length → qs'.length ≤ ps.length + 1 → Q (.int ((qs'.length : Int) - qs.length)) H'
section
variable {P : Program} {w : World} {K : PySem.W.Frag} {mg : Str → Option Value} {c : Cs} {base : Heap}
theorem ok_tieB (T : Top K mg c) : Fd.Has P w K mg base (L2N.CX P w) 3 "tie_between" ["size", "one", "other"] (spTieB c.NoPlace) := by
  have G_is_place : Fd.Has P w K mg base CX0 2 "is_place" ["thing", "size"] spPlace := ok_is_place T
  refine T.d_tie_between.okN sc_tie_between (fun vs H Q E h => ?_) (fun f cdv A outer s H vs Q E hr h => ?_)
  · obtain ⟨n, one, other, t1, t2, rfl, _⟩ := h; rfl
  · obtain ⟨n, one, other, t1, t2, rfl, ka, kb, qy, qn⟩ := h
    have hr_is_place := hr
    refine ⟨_, (pss_cons (ps_if (PW.pt (pw_or (pt_not (pt_val (Fd.pe_f G_is_place hr_is_place (by rfl) (pa_cons (pv 1) (pa_cons (pv 0) pa_nil))))) (pw_or1 (pt_not (pt_val (Fd.pe_f G_is_place hr_is_place (by rfl) (pa_cons (pv 2) (pa_cons (pv 0) pa_nil))))))))
      (pss_one (L2N.ps_raise rfl (L2N.takes_of rfl rfl rfl rfl) (L2N.pmk_own PySem.F.excBase_ValueError T.e_NoPlace.x T.e_NoPlace.c T.e_NoPlace.p (raises_own T.e_NoPlace.b T.e_NoPlace.t) (by rfl))))
      pss_nil)
      (pss_cons (ps_if (pt_cmpR (op_eqD hr.units) (pv 1) (pv 2) (nomark _))
      (pss_one (L2N.ps_raise rfl (L2N.takes_of rfl rfl rfl rfl) (L2N.pmk_own PySem.F.excBase_ValueError T.e_NoPlace.x T.e_NoPlace.c T.e_NoPlace.p (raises_own T.e_NoPlace.b T.e_NoPlace.t) (by rfl))))
      pss_nil)
      (pss_one (ps_ret (pe_tup (pa_cons (pe_callB (call_min2 rfl) (by rfl) T.n_min boot_min (pa_cons (pv 1) (pa_cons (pv 2) pa_nil))) (pa_cons (pe_callB (call_max2 rfl) (by rfl) T.n_max boot_max (pa_cons (pv 1) (pa_cons (pv 2) pa_nil))) pa_nil))))))), ?_⟩
    refine ⟨_, rfl, _, rfl, one, t1, n, rfl, ka, _, rfl, ?_⟩
    cases h1 : isPl one n with
    | false => exact iteT (qn (twoPl_no1 h1))
    | true =>
    refine iteF ⟨_, rfl, _, rfl, other, t2, n, rfl, kb, _, rfl, ?_⟩
    cases h2 : isPl other n with
    | false => exact iteT (qn (twoPl_no2 h2))
    | true =>
    refine iteF ?_
    obtain ⟨i, rfl, i0, i1⟩ := isPl_int h1
    obtain ⟨j, rfl, j0, j1⟩ := isPl_int h2
    refine tnx ?_
    dsimp only
    refine ⟨_, rfl, _, rfl, .int i, .int j, .int _, .int _, (by show SeqAt.shaped (PyData.int i) = true; unfold SeqAt.shaped; simp [PyData.canLay0, PyData.depth]), (by show SeqAt.shaped (PyData.int j) = true; unfold SeqAt.shaped; simp [PyData.canLay0, PyData.depth]), _, rfl, ?_⟩
    rw [eqv_int]
    by_cases e : i = j
    · subst e
      rw [decide_eq_true rfl]
      exact iteT (qn twoPl_same)
    · rw [decide_eq_false e]
      refine iteF ?_
      exact ⟨_, rfl, _, rfl, i, j, rfl, _, rfl, _, rfl, i, j, rfl, (by show 2 ≤ sizeLine; decide), fun t ht => qy _ (twoPl_yes h1 h2 e) t ht⟩
theorem ok_kinit (T : Top K mg c) : Fd.IHas P w K mg base (L2N.CX P w) 8 c.Kept ["self", "size"] (spKInit c) := by
  have G_Net : Fd.IHas P w K mg base (L2N.CX P w) 6 c.Net ["self", "size", "ties"] (spInit c.Net c.BadNet) := ok_init T
  refine T.d_Kept___init__.okN sc_Kept___init__ (fun vs H Q E h => ?_) (fun f cdv A outer s H vs Q E hr h => ?_)
  · obtain ⟨H0, k, dk, sz, tz, rfl, _⟩ := h; rfl
  · obtain ⟨H0, k, dk, sz, tz, rfl, s0, k0, hk, kz, qy, qn⟩ := h
    have hr_Net := hr
    refine ⟨_, (pss_cons (ps_fld (pv 0) (Fd.pe_mk G_Net hr_Net (by rfl) T.c_Net (L2N.passes_call (L2N.takes_of rfl rfl rfl rfl) fun _ _ _ _ h => h) (pa_cons (pv 1) (pa_cons (pe_lst pa_nil) pa_nil))) rfl)
      (pss_one (ps_fld (pv 0) (pe_lst pa_nil) rfl))), ?_⟩
    refine ⟨_, rfl, Nat.zero_le _, fun l hl => ?_⟩
    have b1 := Same.new (o := .lst []) hl
    have e1 : upd H l (.lst []) l = some (.lst []) := upd_same
    generalize upd H l (.lst []) = H1 at b1 e1 ⊢
    have s01 := Same.trans s0 b1
    have hk1 := b1 _ _ hk
    intro y dy hy hdy ne
    have up2 : Same H1 (upd (upd H1 dy (.own y)) y (.ins c.Net dy [])) := fun b o e => by rw [upd_ne (ne_of_none e hy), upd_ne (ne_of_none e hdy)]; exact e
    refine ⟨H1, y, dy, _, _, _, _, rfl, up2, hy, upd_same, kz.ex s01, kl_lst e1 (fun y hy => by cases hy), ?_⟩
    by_cases cz : ∃ n : Nat, sz = .int n ∧ 1 ≤ n ∧ n ≤ 40
    · obtain ⟨n, rfl, n1, n40⟩ := cz
      have good := good_nd (n := n) (ts := []) e1 .nil (fun x hx => by cases hx) List.nodup_nil n1 n40
      refine .inl ⟨n, [], good, fun ts' H3 pmN s3 N3 => ⟨rfl, ?_⟩⟩
      obtain rfl : ts' = [] := pmN.eq_nil
      have hk3 := s3 _ _ hk1
      have s03 := Same.trans s01 s3
      refine ⟨_, rfl, k, c.Kept, dk, [], rfl, hk3, T.cl_Kept, T.a_Kept__net, (by show 0 < 1000; decide), ?_⟩
      have s04 : Same H0 (upd H3 k (.ins c.Kept dk (kf1 y))) := Same.mut s03 k0
      have hk4 : upd H3 k (.ins c.Kept dk (kf1 y)) k = some (.ins c.Kept dk (kf1 y)) := upd_same
      refine tnx ?_
      dsimp only
      refine ⟨Nat.zero_le _, fun l2 hl2 => ?_⟩
      have kl2 : k ≠ l2 := ne_of_none hk4 hl2
      have b5 := Same.new (o := .lst []) hl2
      refine ⟨_, rfl, k, c.Kept, dk, _, rfl, b5 _ _ hk4, T.cl_Kept, T.a_Kept__pairs, kf1_len _, ?_⟩
      refine qy n rfl n1 n40 _ (Same.mut (Same.trans s04 b5) k0) ⟨⟨dk, y, l2, [], newp_at k0 upd_same, ?_, newp_at (s04.free hl2) (by rw [upd_ne kl2.symm]; exact upd_same), .nil⟩, ⟨⟨fun p hp => (by cases hp), fun p hp => (by cases hp), List.nodup_nil⟩, List.Pairwise.nil, fun q g => ?_⟩⟩
      · exact N3.ex fun b o e => by
          have hb : H1 b = none := by
            unfold newp at e
            by_cases cb : (H1 b).isSome
            · rw [if_pos cb] at e; cases e
            · exact Option.not_isSome_iff_eq_none.mp cb
          have bk : b ≠ k := fun z => by rw [z, hk1] at hb; cases hb
          refine newp_at (s01.free hb) ?_
          rw [upd_ne bk]
          exact b5 _ _ (by rw [upd_ne bk]; exact newp_same _ _ e)
      · cases q with
        | nil => exact Nat.le_refl _
        | cons p q => exact absurd (g.sub p List.mem_cons_self) (fun z => by cases z)
    · refine .inr ⟨fun n ps g => cz ⟨n, g.1, g.2.1, g.2.2.1⟩, fun H' s' => qn (fun n e z => cz ⟨n, e, z⟩) H' (Same.trans s01 s')⟩
end
end Od

namespace Od
open PySem PySem.Spec PyProof.Rows L2
theorem newp_off {H H' : Hp} {b : Addr} {o : HO} (e : newp H H' b = some o) : H b = none := by
  unfold newp at e
  by_cases cb : (H b).isSome
  · rw [if_pos cb] at e; cases e
  · exact Option.not_isSome_iff_eq_none.mp cb
theorem NewPrs.rmL {H H' : Hp} {W : List Addr} (h : ∀ b ∈ W, H b ≠ none) : ∀ {us : List V} {ts : List Pr}, NewPrs H H' us ts → Prs (rmL H' W) us ts
  | _, _, .nil => .nil
  | _, _, .cons ⟨a, h1, h0, h2⟩ t => .cons ⟨a, h1, rmL_at h2 fun m => h a m h0⟩ (NewPrs.rmL h t)
section
variable {P : Program} {w : World} {K : PySem.W.Frag} {mg : Str → Option Value} {c : Cs} {base : Heap}
theorem ok_knet (T : Top K mg c) : Fd.MHas P w K mg base CX0 8 c.Kept "net" ["self"] (spKNet c) := by
  have G_Net : Fd.IHas P w K mg base (L2N.CX P w) 6 c.Net ["self", "size", "ties"] (spInit c.Net c.BadNet) := ok_init T
  have G_Net_ties : Fd.MHas P w K mg base CX0 1 c.Net "ties" ["self"] (spTies c.Net) := ok_ties T
  refine T.d_Kept_net.ok sc_Kept_net (fun vs H Q E h => ?_) (fun f cdv A outer s H vs Q E hr h => ?_)
  · obtain ⟨k, n, ts, qs, rfl, _⟩ := h; rfl
  · obtain ⟨k, n, ts, qs, rfl, A, q⟩ := h
    have hr_Net := hr
    have hr_Net_ties := hr.mono (show 1 ≤ 7 by decide)
    obtain ⟨dk, x, p, us, hk, N, hp, pr⟩ := A.at_
    obtain ⟨dx, lt, ln, us', rs, a1, _⟩ := N.at_
    have n40 := N.hi
    have n1 := N.lo
    refine ⟨_, (pss_one (ps_ret (Fd.pe_mk G_Net hr_Net (by rfl) T.c_Net Fd.pass00 (pa_cons (pe_fld (pe_fld (pv 0) rfl) rfl) (pa_cons (Fd.pe_m0 G_Net_ties (pe_fld (pv 0) rfl) T.cl_Net hr_Net_ties) pa_nil))))), ?_⟩
    refine ⟨_, rfl, k, c.Kept, dk, _, _, rfl, hk, T.cl_Kept, T.a_Kept__net, kf_net _ _, x, c.Net, dx, _, _, rfl, a1, T.cl_Net, T.a_Net_size, nf_size _ _ _, _, rfl, k, c.Kept, dk, _, _, rfl, hk, T.cl_Kept, T.a_Kept__net, kf_net _ _, x, dx, _, rfl, a1, nf_m_ties _ _ _, x, n, ts, rfl, N, fun p2 u2 hp2 pr2 => ?_⟩
    have b2 := Same.new (o := .lst u2) hp2
    have e2 : upd H p2 (.lst u2) p2 = some (.lst u2) := upd_same
    have pr2' := pr2.ex b2
    generalize upd H p2 (.lst u2) = H2 at b2 e2 pr2' ⊢
    have good := good_nd (n := n) e2 pr2' N.tie (plt_nodup N.up) n1 n40
    intro y dy hy hdy ne
    refine ⟨H2, y, dy, _, _, _, _, rfl, fun b o e => by rw [upd_ne (ne_of_none e hy), upd_ne (ne_of_none e hdy)]; exact e, hy, upd_same, .int _, kl_lst e2 pr2'.kt, .inl ⟨n, ts, good, fun ts' H3 pmN s3 N3 => ⟨rfl, ?_⟩⟩⟩
    obtain rfl : ts' = ts := plt_one pmN N3.up N.up
    exact q y H3 (b2.free hy) (Same.trans b2 s3) (N3.ex fun b o e => newp_at (b2.free (newp_off e)) (newp_same _ _ e))
theorem ok_kpairs (T : Top K mg c) : Fd.MHas P w K mg base CX0 1 c.Kept "pairs" ["self"] (spKPairs c) := by
  refine T.d_Kept_pairs.ok sc_Kept_pairs (fun vs H Q E h => ?_) (fun f cdv A outer s H vs Q E hr h => ?_)
  · obtain ⟨k, n, ts, qs, rfl, _⟩ := h; rfl
  · obtain ⟨k, n, ts, qs, rfl, A, q⟩ := h
    obtain ⟨dk, x, p, us, hk, N, hp, pr⟩ := A.at_
    refine ⟨_, (pss_one (ps_ret (pe_callTy call_list_of (by rfl) T.n_list boot_list (pa_cons (pe_fld (pv 0) rfl) pa_nil)))), ?_⟩
    exact ⟨_, rfl, k, c.Kept, dk, _, _, rfl, hk, T.cl_Kept, T.a_Kept__pairs, kf_pairs _ _, p, us, rfl, .inl (SqL.of hp), fun r hr' => q r us hr' pr⟩
theorem ok_turn (T : Top K mg c) : Fd.MHas P w K mg base CX0 8 c.Kept "_turn_to" ["self", "ties", "pairs"] (spTurnTo c) := by
  have G_Net : Fd.IHas P w K mg base (L2N.CX P w) 6 c.Net ["self", "size", "ties"] (spInit c.Net c.BadNet) := ok_init T
  have G_better : Fd.Has P w K mg base (L2N.CX P w) 6 "better" ["net", "pairs"] (spBetter c.Net c.BadPairs) := ok_better T
  have G_turned : Fd.Has P w K mg base (L2N.CX P w) 6 "turned" ["net", "pairs", "way"] (spTurned c.Net c.BadWay) := ok_turned T
  refine T.d_Kept__turn_to.ok sc_Kept__turn_to (fun vs H Q E h => ?_) (fun f cdv A outer s H vs Q E hr h => ?_)
  · obtain ⟨W, k, l, p, n, ts, qs, ts', ps, tu, us, vs2, rfl, _⟩ := h; rfl
  · obtain ⟨W, k, l, p2, n, ts, qs, ts', ps, tu, us, vs2, rfl, hW, AK, hl, pl, pmT, up', hp2, pr2, g, up, bnd, q⟩ := h
    have hr_Net := hr
    have hr_better := hr.mono (show 6 ≤ 7 by decide)
    have hr_turned := hr.mono (show 6 ≤ 7 by decide)
    have kW := AK.off
    obtain ⟨dk, x, p, uq, hk', N', hp', pr'⟩ := AK.at_
    have N := N'.ex rmL_same
    have n40 := N.hi
    have n1 := N.lo
    have hk := rmL_same _ _ hk'
    have hp := rmL_same _ _ hp'
    have pr := pr'.ex rmL_same
    obtain ⟨dx, lt, ln, us', rs, a1, _⟩ := N.at_
    have luq := pr.len
    have lvs := pr2.len
    have fewq := AK.grt.pg.count
    have fewp := g.count
    -- what stays throughout: all but k
    have p2k : p2 ≠ k := ne_of hp2 hk' (fun z => nomatch z)
    have base0 : Same (rmL H [k]) H := rmL_same
    have nok : rmL H [k] k = none := rmL_in List.mem_cons_self
    have hp2b : rmL H [k] p2 = some (.lst vs2) := rmL_at (rmL_same _ _ hp2) (by rw [List.mem_singleton]; exact p2k)
    have pr2b : Prs (rmL H [k]) vs2 ps := by
      refine (pr2.ex rmL_same).tups fun b xs e => rmL_at e ?_
      rw [List.mem_singleton]
      exact ne_of e hk (fun z => nomatch z)
    refine ⟨_, (pss_cons (ps_set (i := 3) sc_Kept__turn_to.nd rfl (Or.inl rfl) (pe_callB call_len_seq (by rfl) T.n_len boot_len (pa_cons (pe_fld (pv 0) rfl) pa_nil)))
      (pss_cons (ps_fld (pv 0) (Fd.pe_mk G_Net hr_Net (by rfl) T.c_Net Fd.pass00 (pa_cons (pe_fld (pe_fld (pv 0) rfl) rfl) (pa_cons (pv 1) pa_nil))) rfl)
      (pss_cons (ps_set (i := 4) sc_Kept__turn_to.nd rfl (Or.inl rfl) (Fd.pe_fN G_better hr_better (by rfl) Fd.pass00 (pa_cons (pe_fld (pv 0) rfl) (pa_cons (pv 2) pa_nil))))
      (pss_cons (ps_if (pt_cmpR op_isN (pv 4) pe_non (nomark _))
      (pss_one (ps_fld (pv 0) (pv 2) rfl))
      (pss_one (ps_fld (pv 0) (Fd.pe_fN G_turned hr_turned (by rfl) Fd.pass00 (pa_cons (pe_fld (pv 0) rfl) (pa_cons (pv 2) (pa_cons (pv 4) pa_nil)))) rfl)))
      (pss_one (ps_ret (pe_op op_sub (pe_callB call_len_seq (by rfl) T.n_len boot_len (pa_cons (pe_fld (pv 0) rfl) pa_nil)) (pv 3)))))))), ?_⟩
    refine ⟨_, rfl, k, c.Kept, dk, _, _, rfl, hk, T.cl_Kept, T.a_Kept__pairs, kf_pairs _ _, p, uq, rfl, .inl (SqL.of hp), ?_⟩
    refine tnx ?_
    dsimp only
    refine ⟨_, rfl, k, c.Kept, dk, _, _, rfl, hk, T.cl_Kept, T.a_Kept__net, kf_net _ _, x, c.Net, dx, _, _, rfl, a1, T.cl_Net, T.a_Net_size, nf_size _ _ _, _, rfl, ?_⟩
    have good := good_nd (n := n) hl pl (fun z hz => g.tie z (pmT.mem_iff.mpr hz)) (pmT.nodup_iff.mp (plt_nodup up')) n1 n40
    intro y dy hy hdy ne
    refine ⟨H, y, dy, _, _, _, _, rfl, fun b o e => by rw [upd_ne (ne_of_none e hy), upd_ne (ne_of_none e hdy)]; exact e, hy, upd_same, .int _, kl_lst hl pl.kt, .inl ⟨n, tu, good, fun tq H1 pmN s1 N1 => ⟨rfl, ?_⟩⟩⟩
    obtain rfl : tq = ts' := plt_one (pmN.trans pmT.symm) N1.up up'
    refine ⟨_, rfl, k, c.Kept, dk, _, rfl, s1 _ _ hk, T.cl_Kept, T.a_Kept__net, kf_len _ _, ?_⟩
    rw [kf_put1]
    have sB2 : Same (rmL H [k]) (upd H1 k (.ins c.Kept dk (kf y p))) := Same.mut (Same.trans base0 s1) nok
    have sN2 : Same (newp H H1) (upd H1 k (.ins c.Kept dk (kf y p))) := Same.mut newp_same (newp_old hk)
    have hk2 : upd H1 k (.ins c.Kept dk (kf y p)) k = some (.ins c.Kept dk (kf y p)) := upd_same
    have nokN : newp H H1 k = none := newp_old hk
    have nwN : ∀ b ∈ W, newp H H1 b = none := fun b m => by
      obtain ⟨o, ho⟩ := hW b m
      exact newp_old ho
    have inW : ∀ {Hx : Hp}, Same (rmL H [k]) Hx → ∀ b ∈ W, Hx b ≠ none := fun {Hx} sx b m z => by
      obtain ⟨o, ho⟩ := hW b m
      have bk : b ∉ [k] := by rw [List.mem_singleton]; exact fun e => kW (e ▸ m)
      rw [sx _ _ (rmL_at ho bk)] at z; cases z
    generalize upd H1 k (.ins c.Kept dk (kf y p)) = H2 at sB2 sN2 hk2 ⊢
    have N2 := N1.ex sN2
    have ep2 := sB2 _ _ hp2b
    have pq2 := pr2b.ex sB2
    refine tnx ?_
    dsimp only
    have ok2 : ∀ {H' : Hp}, Prs H' vs2 ps → OkPairs H' n tq vs2 := fun pr => ok_prs pr N1.tie g.sub g.nd
    refine ⟨_, rfl, k, c.Kept, dk, _, _, rfl, hk2, T.cl_Kept, T.a_Kept__net, kf_net _ _, _, rfl, y, n, tq, _, .list, rfl, N2, kl_lst ep2 pq2.kt, .inl ⟨vs2, ps, listOf_lst ep2, ok2 pq2, by rw [pq2.prOf], up, fun ms pw H3 wy hpw s3 e3 => ?_, fun big H3 s3 => ?_⟩⟩
    · refine tnx ?_
      dsimp only
      refine ⟨_, rfl, rfl, _, rfl, iteF ?_⟩
      have lw := wy.len
      have ep3 := s3 _ _ ep2
      have pq3 := pq2.ex s3
      have hk3 := s3 _ _ hk2
      refine ⟨_, rfl, k, c.Kept, dk, _, _, rfl, hk3, T.cl_Kept, T.a_Kept__net, kf_net _ _, _, rfl, _, rfl, y, n, tq, ps, _, _, .list, .list, vs2, rfl, N2.ex s3, kl_lst ep3 pq3.kt, listOf_lst ep3, ok2 pq3, ⟨.lst e3, fun xs z => ?_⟩, by rw [pq3.prOf], up, .inl ⟨ms, ⟨listOf_lst e3, wy⟩, fun res pb ub H4 pm sd hpb s4 e4 np4 => ?_⟩⟩
      · rw [listOf_lst e3] at z; cases z
        exact ⟨by rw [List.length_map]; omega, kd_ints⟩
      have pmR : res.Perm (trnd ms ps) := pm
      have g4 : Pg n tq res := (wy.pg g).perm pmR
      have l4 : res.length = ps.length + 1 := by rw [pmR.length_eq, trnd_len g wy]
      have hk4 := s4 _ _ hk3
      refine ⟨_, rfl, k, c.Kept, dk, _, rfl, hk4, T.cl_Kept, T.a_Kept__pairs, kf_len _ _, ?_⟩
      rw [kf_put2]
      have sB4 := Same.trans (Same.trans sB2 s3) s4
      have sB5 : Same (rmL H [k]) (upd H4 k (.ins c.Kept dk (kf y pb))) := Same.mut sB4 nok
      have sN5 : Same (newp H H1) (upd H4 k (.ins c.Kept dk (kf y pb))) := Same.mut (Same.trans (Same.trans sN2 s3) s4) nokN
      have pbk : pb ≠ k := fun z => by rw [z, hk3] at hpb; cases hpb
      have pbW : pb ∉ W := fun m => inW (Same.trans sB2 s3) pb m hpb
      have hk5 : upd H4 k (.ins c.Kept dk (kf y pb)) k = some (.ins c.Kept dk (kf y pb)) := upd_same
      have e5 : upd H4 k (.ins c.Kept dk (kf y pb)) pb = some (.lst ub) := by rw [upd_ne pbk]; exact e4
      have pw5 : Prs (rmL (upd H4 k (.ins c.Kept dk (kf y pb))) W) ub res := by
        refine NewPrs.rmL (H := H3) (inW (Same.trans sB2 s3)) (np4.tups fun b xs e => ?_)
        rw [upd_ne (ne_of e hk4 (fun z => nomatch z))]; exact e
      generalize upd H4 k (.ins c.Kept dk (kf y pb)) = H5 at sB5 sN5 hk5 e5 pw5 ⊢
      refine tnx ?_
      dsimp only
      refine ⟨_, rfl, k, c.Kept, dk, _, _, rfl, hk5, T.cl_Kept, T.a_Kept__pairs, kf_pairs _ _, pb, ub, rfl, .inl (SqL.of e5), _, rfl, _, _, rfl, rfl, ?_⟩
      have lub := pw5.len
      rw [luq, lub]
      exact q res H5 sB5 ⟨⟨dk, y, pb, ub, rmL_at hk5 kW, N1.ex (rmL_to sN5 nwN), rmL_at e5 pbW, pw5⟩, ⟨g4, plt_strict sd (ends_nd g4.nd), fun q' gq => by have := bnd q' gq; omega⟩⟩ (by omega) (by omega)
    · refine tnx ?_
      dsimp only
      refine ⟨_, rfl, rfl, _, rfl, iteT ?_⟩
      have ep3 := s3 _ _ ep2
      have hk3 := s3 _ _ hk2
      refine ⟨_, rfl, _, rfl, k, c.Kept, dk, _, rfl, hk3, T.cl_Kept, T.a_Kept__pairs, kf_len _ _, ?_⟩
      rw [kf_put2]
      have sB3 := Same.trans sB2 s3
      have sB5 : Same (rmL H [k]) (upd H3 k (.ins c.Kept dk (kf y p2))) := Same.mut sB3 nok
      have sN5 : Same (newp H H1) (upd H3 k (.ins c.Kept dk (kf y p2))) := Same.mut (Same.trans sN2 s3) nokN
      have hk5 : upd H3 k (.ins c.Kept dk (kf y p2)) k = some (.ins c.Kept dk (kf y p2)) := upd_same
      generalize upd H3 k (.ins c.Kept dk (kf y p2)) = H5 at sB5 sN5 hk5 ⊢
      have e5 := sB5 _ _ hp2b
      have sW : Same (rmL (rmL H W) [k]) (rmL H5 W) := fun b o e => by
        obtain ⟨m1, e⟩ := rmL_off e
        obtain ⟨m2, e⟩ := rmL_off e
        exact rmL_at (sB5 b o (rmL_at e m1)) m2
      have pw5 : Prs (rmL H5 W) vs2 ps := pr2.tups fun b xs e => sW b _ (rmL_at e (by rw [List.mem_singleton]; exact ne_of e hk' (fun z => nomatch z)))
      refine tnx ?_
      dsimp only
      refine ⟨_, rfl, k, c.Kept, dk, _, _, rfl, hk5, T.cl_Kept, T.a_Kept__pairs, kf_pairs _ _, p2, vs2, rfl, .inl (SqL.of e5), _, rfl, _, _, rfl, rfl, ?_⟩
      rw [luq, lvs]
      obtain ⟨F, big⟩ := big
      exact q ps H5 sB5 ⟨⟨dk, y, p2, vs2, rmL_at hk5 kW, N1.ex (rmL_to sN5 nwN), rmL_at e5 (rmL_off hp2).1, pw5⟩, ⟨g, up, fun q' gq => big_ge g big gq⟩⟩ (Nat.le_refl _) (Nat.le_succ _)
end
end Od

namespace Od
open PySem PySem.Spec PyProof.Rows L2
theorem rmL_ext {H H' : Hp} {W : List Addr} (s : Same H H') : Same (rmL H W) (rmL H' W) := fun b o e => by
  obtain ⟨m, e⟩ := rmL_off e
  exact rmL_at (s b o e) m
theorem dp_pr {K : PySem.W.Frag} {H : Hp} {a : Addr} {z : Pr} (e : H a = some (.tup [.int z.1, .int z.2])) : Dp K H (.ref a) (dP z) := .tup (SqT.of e) (.cons (.int _) (.cons (.int _) .nil))
theorem inW_ext {H H' : Hp} {W : List Addr} (h : ∀ b ∈ W, ∃ o, H b = some o) (s : Same H H') : ∀ b ∈ W, ∃ o, H' b = some o := fun b m => by
  obtain ⟨o, e⟩ := h b m
  exact ⟨o, s _ _ e⟩
/-- what a deed leaves: the pairs change by one at most -/
def near1 (a b : List Pr) : Prop := a.length ≤ b.length + 1 ∧ b.length ≤ a.length + 1
def spDeed (c : Cs) (cut : Bool) (B : Addr) : Sp := fun vs H Q E => ∃ (W : List Addr) (k : Addr) (one other : V) (t1 t2 : Ty) (n : Nat) (ts qs : List Pr), vs = [.ref k, one, other] ∧ (∀ b ∈ W, ∃ o, H b = some o) ∧ KeptAt c (rmL H W) k n ts qs ∧ Kd H one t1 ∧ Kd H other t2 ∧
  (twoPl one other n = none → E (.ref c.NoPlace) none H) ∧
  (∀ z, twoPl one other n = some z → decide (z ∈ ts) = !cut → ∀ H', Same H H' → E (.ref B) none H') ∧
  (∀ z, twoPl one other n = some z → decide (z ∈ ts) = cut → ∀ ts' qs' H', ts'.Perm (if cut = true then lss z ts else ts ++ [z]) → ts'.Pairwise plt → Same (rmL H [k]) H' → KeptAt c (rmL H' W) k n ts' qs' → near1 qs' qs → Q (.int ((qs'.length : Int) - qs.length)) H')
section
variable {P : Program} {w : World} {K : PySem.W.Frag} {mg : Str → Option Value} {c : Cs} {base : Heap}
theorem ok_put (T : Top K mg c) : Fd.MHas P w K mg base (L2N.CX P w) 9 c.Kept "put" ["self", "one", "other"] (spDeed c false c.TieThere) := by
  have G_tie_between : Fd.Has P w K mg base (L2N.CX P w) 3 "tie_between" ["size", "one", "other"] (spTieB c.NoPlace) := ok_tieB T
  have G_Net_ties : Fd.MHas P w K mg base CX0 1 c.Net "ties" ["self"] (spTies c.Net) := ok_ties T
  have G_Kept__turn_to : Fd.MHas P w K mg base CX0 8 c.Kept "_turn_to" ["self", "ties", "pairs"] (spTurnTo c) := ok_turn T
  refine T.d_Kept_put.okN sc_Kept_put (fun vs H Q E h => ?_) (fun f cdv A outer s H vs Q E hr h => ?_)
  · obtain ⟨W, k, one, other, t1, t2, n, ts, qs, rfl, _⟩ := h; rfl
  · obtain ⟨W, k, one, other, t1, t2, n, ts, qs, rfl, hW, AK, ka, kb, qn, qb, qy⟩ := h
    have hr_tie_between := hr.mono (show 3 ≤ 8 by decide)
    have hr_Net_ties := hr.mono (show 1 ≤ 8 by decide)
    have hr_Kept__turn_to := hr
    have kW := AK.off
    obtain ⟨dk, x, p, uq, hk', N', hp', pr'⟩ := AK.at_
    have N := N'.ex rmL_same
    have hk := rmL_same _ _ hk'
    obtain ⟨dx, lt, ln, us', rs, a1, _⟩ := N.at_
    have few := N.few
    refine ⟨_, (pss_cons (ps_set (i := 3) sc_Kept_put.nd rfl (Or.inl rfl) (Fd.pe_fN G_tie_between hr_tie_between (by rfl) (L2N.passes_call (L2N.takes_of rfl rfl rfl rfl) fun _ _ _ _ h => h) (pa_cons (pe_fld (pe_fld (pv 0) rfl) rfl) (pa_cons (pv 1) (pa_cons (pv 2) pa_nil)))))
      (pss_cons (ps_set (i := 4) sc_Kept_put.nd rfl (Or.inl rfl) (Fd.pe_m0 G_Net_ties (pe_fld (pv 0) rfl) T.cl_Net hr_Net_ties))
      (pss_cons (ps_if (pt_cmpR (r := rInD K) (op_inD (Sd.u65 hr)) (pv 3) (pv 4) (by rfl))
      (pss_one (L2N.ps_raise rfl (L2N.takes_of rfl rfl rfl rfl) (L2N.pmk_own PySem.F.excBase_ValueError T.e_TieThere.x T.e_TieThere.c T.e_TieThere.p (raises_own T.e_TieThere.b T.e_TieThere.t) (by rfl))))
      pss_nil)
      (pss_one (ps_ret (Fd.pe_m G_Kept__turn_to (pv 0) T.cl_Kept hr_Kept__turn_to (pa_cons (pe_op op_cat (pv 4) (pe_lst (pa_cons (pv 3) pa_nil))) (pa_cons (pe_fld (pv 0) rfl) pa_nil)))))))), ?_⟩
    refine ⟨_, rfl, k, c.Kept, dk, _, _, rfl, hk, T.cl_Kept, T.a_Kept__net, kf_net _ _, x, c.Net, dx, _, _, rfl, a1, T.cl_Net, T.a_Net_size, nf_size _ _ _, _, rfl, _, rfl, (n : Int), one, other, t1, t2, rfl, ka, kb, fun z ez tb htb => ?_, qn⟩
    have b1 := Same.new (o := .tup [V.int z.1, .int z.2]) htb
    have e1 : upd H tb (.tup [V.int z.1, .int z.2]) tb = some (.tup [.int z.1, .int z.2]) := upd_same
    generalize upd H tb (.tup [V.int z.1, .int z.2]) = H1 at b1 e1 ⊢
    refine tnx ?_
    dsimp only
    have hk1 := b1 _ _ hk
    refine ⟨_, rfl, k, c.Kept, dk, _, _, rfl, hk1, T.cl_Kept, T.a_Kept__net, kf_net _ _, x, dx, _, rfl, b1 _ _ a1, nf_m_ties _ _ _, x, n, ts, rfl, N.ex b1, fun l hus hl prs => ?_⟩
    have b2 := Same.new (o := .lst hus) hl
    have e2 : upd H1 l (.lst hus) l = some (.lst hus) := upd_same
    have prs2 := prs.ex b2
    have lhu := prs.len
    generalize upd H1 l (.lst hus) = H2 at b2 e2 prs2 ⊢
    have s02 := Same.trans b1 b2
    have et2 := b2 _ _ e1
    refine tnx ?_
    dsimp only
    refine ⟨_, rfl, _, rfl, dP z, ts.map dP, dp_pr et2, dp_prs (SqL.of e2) prs2, shaped_dP _, shaped_dPs _, _, rfl, ?_⟩
    rw [any_dP]
    by_cases cz : z ∈ ts
    · rw [decide_eq_true cz]
      exact iteT (qb z ez (by rw [decide_eq_true cz]; rfl) H2 s02)
    · rw [decide_eq_false cz]
      refine iteF ?_
      refine tnx ?_
      dsimp only
      refine ⟨_, rfl, k, dk, _, rfl, s02 _ _ hk, kf_m_turn _ _, _, rfl, _, rfl, (by show 1 ≤ sizeLine; decide), fun l8 g8 => ?_⟩
      have b3 := Same.new (o := .lst [V.ref tb]) g8
      refine ⟨l, l8, _, _, rfl, rfl, b3 _ _ e2, upd_same, len40 (by simp; omega), fun l9 g9 => ?_⟩
      have b4 := Same.new (o := .lst (hus ++ [V.ref tb])) g9
      have b34 := Same.trans b3 b4
      have e9 : upd (upd H2 l8 (.lst [V.ref tb])) l9 (.lst (hus ++ [V.ref tb])) l9 = some (.lst (hus ++ [V.ref tb])) := upd_same
      generalize upd (upd H2 l8 (.lst [V.ref tb])) l9 (.lst (hus ++ [V.ref tb])) = H3 at b34 e9 ⊢
      have s03 := Same.trans s02 b34
      have pr3 : Prs H3 (hus ++ [V.ref tb]) (ts ++ [z]) := (prs2.ex b34).app (.cons ⟨tb, rfl, b34 _ _ et2⟩ .nil)
      have nd : (ts ++ [z]).Nodup := List.nodup_append.mpr ⟨plt_nodup N.up, List.pairwise_singleton _ _, fun a ha b hb e => by
        rw [List.mem_singleton] at hb
        exact cz (hb ▸ e ▸ ha)⟩
      obtain ⟨ts', pmT, upT⟩ := srt_ex _ nd
      have zt := twoPl_tie ez
      have g' : Pg n ts' qs := ⟨fun y hy => by
        rcases List.mem_append.mp (pmT.mem_iff.mp hy) with m | m
        · exact N.tie y m
        · rw [List.mem_singleton.mp m]; exact zt, fun y hy => pmT.mem_iff.mpr (List.mem_append_left _ (AK.grt.pg.sub y hy)), AK.grt.pg.nd⟩
      refine ⟨_, rfl, k, c.Kept, dk, _, _, rfl, s03 _ _ hk, T.cl_Kept, T.a_Kept__pairs, kf_pairs _ _, W, k, l9, p, n, ts, qs, ts', qs, ts ++ [z], _, uq, rfl, inW_ext hW s03, AK.ex (rmL_ext s03), e9, pr3, pmT, upT, rmL_ext s03 _ _ hp', pr'.ex (rmL_ext s03), g', AK.grt.up, put_bound (t := z) AK.grt (fun y hy => ?_), fun qs' H' s5 A5 l1 l2 => ?_⟩
      · rcases List.mem_append.mp (pmT.mem_iff.mp hy) with m | m
        · exact .inl m
        · exact .inr (List.mem_singleton.mp m)
      · exact qy z ez (decide_eq_false cz) ts' qs' H' pmT upT (Same.trans (rmL_ext s03) s5) A5 ⟨l2, by omega⟩
theorem ok_cut (T : Top K mg c) : Fd.MHas P w K mg base (L2N.CX P w) 9 c.Kept "cut" ["self", "one", "other"] (spDeed c true c.NoTie) := by
  have G_tie_between : Fd.Has P w K mg base (L2N.CX P w) 3 "tie_between" ["size", "one", "other"] (spTieB c.NoPlace) := ok_tieB T
  have G_Net_ties : Fd.MHas P w K mg base CX0 1 c.Net "ties" ["self"] (spTies c.Net) := ok_ties T
  have G_Kept__turn_to : Fd.MHas P w K mg base CX0 8 c.Kept "_turn_to" ["self", "ties", "pairs"] (spTurnTo c) := ok_turn T
  refine T.d_Kept_cut.okN sc_Kept_cut (fun vs H Q E h => ?_) (fun f cdv A outer s H vs Q E hr h => ?_)
  · obtain ⟨W, k, one, other, t1, t2, n, ts, qs, rfl, _⟩ := h; rfl
  · obtain ⟨W, k, one, other, t1, t2, n, ts, qs, rfl, hW, AK, ka, kb, qn, qb, qy⟩ := h
    have hr_tie_between := hr.mono (show 3 ≤ 8 by decide)
    have hr_Net_ties := hr.mono (show 1 ≤ 8 by decide)
    have hr_Kept__turn_to := hr
    have kW := AK.off
    obtain ⟨dk, x, p, uq, hk', N', hp', pr'⟩ := AK.at_
    have N := N'.ex rmL_same
    have hk := rmL_same _ _ hk'
    have hp := rmL_same _ _ hp'
    have pr := pr'.ex rmL_same
    obtain ⟨dx, lt, ln, us', rs, a1, _⟩ := N.at_
    have few := N.few
    have fewq := AK.grt.pg.count
    have n40 := N.hi
    have luq := pr.len
    refine ⟨_, (pss_cons (ps_set (i := 3) sc_Kept_cut.nd rfl (Or.inr rfl) (Fd.pe_fN G_tie_between hr_tie_between (by rfl) (L2N.passes_call (L2N.takes_of rfl rfl rfl rfl) fun _ _ _ _ h => h) (pa_cons (pe_fld (pe_fld (pv 0) rfl) rfl) (pa_cons (pv 1) (pa_cons (pv 2) pa_nil)))))
      (pss_cons (ps_set (i := 4) sc_Kept_cut.nd rfl (Or.inl rfl) (Fd.pe_m0 G_Net_ties (pe_fld (pv 0) rfl) T.cl_Net hr_Net_ties))
      (pss_cons (ps_if (pt_cmpR (r := rNotInD K) (op_notInD (Sd.u65 hr)) (pv 3) (pv 4) (by rfl))
      (pss_one (L2N.ps_raise rfl (L2N.takes_of rfl rfl rfl rfl) (L2N.pmk_own PySem.F.excBase_ValueError T.e_NoTie.x T.e_NoTie.c T.e_NoTie.p (raises_own T.e_NoTie.b T.e_NoTie.t) (by rfl))))
      pss_nil)
      (pss_cons (ps_setLc (i := 5) (own := [("pair", 6)]) (g := gName 6) rfl sc_Kept_cut.nd rfl rfl (sw_true rfl rfl rfl (by decide +kernel)) (pi_list (pe_fld (pv 0) rfl)) (blkOk_by (own := [("pair", 6)]) (N := N_Kept_cut) (sc := defScope S_Kept_cut) (by decide +kernel)) (fun _ _ _ _ _ => pg_name (i := 6) sc_Kept_cut.nd rfl (Or.inl rfl)) (fun _ _ _ _ _ => (pts_one (pt_cmpR (r := rNeD K) (op_neD hr.units) (pv 6) (pv 3) (nomark _)))) (fun _ _ _ _ _ => (pv 6)))
      (pss_one (ps_ret (Fd.pe_m G_Kept__turn_to (pv 0) T.cl_Kept hr_Kept__turn_to (pa_cons (pe_lc (own := [("row", 7)]) (g := gName 7) rfl sc_Kept_cut.nd (pi_list (pv 4)) (blkOk_by (own := [("row", 7)]) (N := N_Kept_cut) (sc := defScope S_Kept_cut) (by decide +kernel)) (fun _ _ _ _ _ => pg_name (i := 7) sc_Kept_cut.nd rfl (Or.inl rfl)) (fun _ _ _ _ _ => (pts_one (pt_cmpR (r := rNeD K) (op_neD hr.units) (pv 7) (pv 3) (nomark _)))) (fun _ _ _ _ _ => (pv 7))) (pa_cons (pv 5) pa_nil))))))))), ?_⟩
    refine ⟨_, rfl, k, c.Kept, dk, _, _, rfl, hk, T.cl_Kept, T.a_Kept__net, kf_net _ _, x, c.Net, dx, _, _, rfl, a1, T.cl_Net, T.a_Net_size, nf_size _ _ _, _, rfl, _, rfl, (n : Int), one, other, t1, t2, rfl, ka, kb, fun z ez tb htb => ?_, qn⟩
    have b1 := Same.new (o := .tup [V.int z.1, .int z.2]) htb
    have e1 : upd H tb (.tup [V.int z.1, .int z.2]) tb = some (.tup [.int z.1, .int z.2]) := upd_same
    generalize upd H tb (.tup [V.int z.1, .int z.2]) = H1 at b1 e1 ⊢
    refine tnx ?_
    dsimp only
    have hk1 := b1 _ _ hk
    refine ⟨_, rfl, k, c.Kept, dk, _, _, rfl, hk1, T.cl_Kept, T.a_Kept__net, kf_net _ _, x, dx, _, rfl, b1 _ _ a1, nf_m_ties _ _ _, x, n, ts, rfl, N.ex b1, fun l hus hl prs => ?_⟩
    have b2 := Same.new (o := .lst hus) hl
    have e2 : upd H1 l (.lst hus) l = some (.lst hus) := upd_same
    have prs2 := prs.ex b2
    have lhu := prs.len
    generalize upd H1 l (.lst hus) = H2 at b2 e2 prs2 ⊢
    have s02 := Same.trans b1 b2
    have et2 := b2 _ _ e1
    refine tnx ?_
    dsimp only
    refine ⟨_, rfl, _, rfl, dP z, ts.map dP, dp_pr et2, dp_prs (SqL.of e2) prs2, shaped_dP _, shaped_dPs _, _, rfl, ?_⟩
    rw [any_dP]
    by_cases cz : z ∈ ts
    rotate_left
    · rw [decide_eq_false cz]
      exact iteT (qb z ez (by rw [decide_eq_false cz]; rfl) H2 s02)
    rw [decide_eq_true cz]
    refine iteF ?_
    refine tnx ?_
    dsimp only
    have hk2 := s02 _ _ hk
    refine ⟨_, rfl, k, c.Kept, dk, _, _, rfl, hk2, T.cl_Kept, T.a_Kept__pairs, kf_pairs _ _, p, rfl, ⟨uq, SqL.of (s02 _ _ hp)⟩, fun D hD => ?_⟩
    refine lc_list (xs := uq) (fun i Hc => ∃ vs : List V, Same H2 Hc ∧ Hc D = some (.lst vs) ∧ Prs (rmL H W) vs (lss z (qs.take i)) ∧ vs.length ≤ i) ⟨[], Same.new hD, upd_same, .nil, Nat.le_refl _⟩ (fun i Hc _ ⟨_, e, _⟩ => SqL.of (e _ _ (s02 _ _ hp))) ?_ ?_
    · rintro i y Hc hi ⟨vs, s1, hDc, np, lv⟩
      obtain ⟨pq, a, hpq, rfl, ea⟩ := pr'.get hi
      have s03 := Same.trans s02 s1
      have ea1 := s03 _ _ (rmL_same _ _ ea)
      have il := (List.getElem?_eq_some_iff.mp hi).1
      have tk : qs.take (i + 1) = qs.take i ++ [pq] := by rw [List.take_succ, hpq]; rfl
      refine ⟨rfl, _, rfl, _, rfl, dP pq, dP z, dp_pr ea1, dp_pr (s1 _ _ et2), shaped_dP _, shaped_dP _, _, rfl, ?_⟩
      rw [eqv_dP, tk, lss_snoc]
      by_cases cm : pq = z
      · rw [decide_eq_true cm, if_pos cm]
        exact iteF ⟨vs, s1, hDc, np, by omega⟩
      · rw [decide_eq_false cm, if_neg cm]
        refine iteT ⟨_, rfl, vs, hDc, by rw [sizeLine_eq]; omega, vs ++ [.ref a], Same.mut s1 hD, upd_same, ?_, by rw [List.length_append]; show vs.length + 1 ≤ i + 1; omega⟩
        exact np.app (.cons ⟨a, rfl, ea⟩ .nil)
    rintro H3 ⟨vq, s3, e3, prq, lvq⟩
    rw [luq, List.take_length] at prq
    have s03 := Same.trans s02 s3
    refine tnx ?_
    dsimp only
    refine ⟨_, rfl, k, dk, _, rfl, s03 _ _ hk, kf_m_turn _ _, _, rfl, l, rfl, ⟨hus, SqL.of (s3 _ _ e2)⟩, fun D2 hD2 => ?_⟩
    refine lc_list (xs := hus) (fun i Hc => ∃ vs : List V, Same H3 Hc ∧ Hc D2 = some (.lst vs) ∧ Prs Hc vs (lss z (ts.take i)) ∧ vs.length ≤ i) ⟨[], Same.new hD2, upd_same, .nil, Nat.le_refl _⟩ (fun i Hc _ ⟨_, e, _⟩ => SqL.of (e _ _ (s3 _ _ e2))) ?_ ?_
    · rintro i y Hc hi ⟨vs, s1, hDc, np, lv⟩
      obtain ⟨pq, a, hpq, rfl, ea⟩ := prs2.get hi
      have s04 := Same.trans s3 s1
      have ea1 := s04 _ _ ea
      have il := (List.getElem?_eq_some_iff.mp hi).1
      have tk : ts.take (i + 1) = ts.take i ++ [pq] := by rw [List.take_succ, hpq]; rfl
      refine ⟨rfl, _, rfl, _, rfl, dP pq, dP z, dp_pr ea1, dp_pr (s04 _ _ et2), shaped_dP _, shaped_dP _, _, rfl, ?_⟩
      rw [eqv_dP, tk, lss_snoc]
      by_cases cm : pq = z
      · rw [decide_eq_true cm, if_pos cm]
        exact iteF ⟨vs, s1, hDc, np, by omega⟩
      · rw [decide_eq_false cm, if_neg cm]
        refine iteT ⟨_, rfl, vs, hDc, by rw [sizeLine_eq]; omega, vs ++ [.ref a], Same.mut s1 hD2, upd_same, ?_, by rw [List.length_append]; show vs.length + 1 ≤ i + 1; omega⟩
        have kT : ∀ c' zs, Hc c' = some (.tup zs) → upd Hc D2 (.lst (vs ++ [.ref a])) c' = some (.tup zs) := fun c' zs e => by
          rw [upd_ne (ne_of e hDc (fun z => nomatch z))]; exact e
        exact (np.tups kT).app (.cons ⟨a, rfl, kT _ _ ea1⟩ .nil)
    rintro H4 ⟨vt, s4, e4, prt, lvt⟩
    rw [lhu, List.take_length] at prt
    have s04 := Same.trans s03 s4
    have inW := inW_ext hW s04
    have DW : D ∉ W := fun m => by
      obtain ⟨o, e⟩ := inW_ext hW s02 D m
      rw [hD] at e; cases e
    have g' := cut_pg (t := z) AK.grt.pg
    refine ⟨_, rfl, W, k, D2, D, n, ts, qs, lss z ts, lss z qs, lss z ts, vt, vq, rfl, inW, AK.ex (rmL_ext s04), e4, prt, List.Perm.refl _, lss_up N.up, rmL_at (s4 _ _ e3) DW, ?_, g', lss_up AK.grt.up, cut_bound AK.grt, fun qs' H' s5 A5 l1 l2 => ?_⟩
    · exact prq.ex (rmL_ext s04)
    · have h1 := lss_len z (ends_nd AK.grt.pg.nd)
      have h2 := lss_le z qs
      have h3 := A5.grt.big
      exact qy z ez (decide_eq_true cz) (lss z ts) qs' H' (List.Perm.refl _) (lss_up N.up) (Same.trans (rmL_ext s04) s5) A5 ⟨by omega, by omega⟩
end
end Od

namespace Od
open PySem PySem.Spec PyProof.Rows L2
/-! ### what the law is told of a deed -/
def dueOf (one other : V) (n : Int) (ts : List Pr) (cut : Bool) : Str := match twoPl one other n with
  | none => "no place"
  | some z => if decide (z ∈ ts) = cut then Str.empty else if cut = true then "no tie" else "there"
def spToldL (c : Cs) : Sp := fun vs H Q _ => ∃ (W : List Addr) (k : Addr) (cut : Bool) (one other : V) (t1 t2 : Ty) (n : Nat) (ts qs : List Pr), vs = [.ref k, .bl cut, one, other] ∧ (∀ b ∈ W, ∃ o, H b = some o) ∧ KeptAt c (rmL H W) k n ts qs ∧ Kd H one t1 ∧ Kd H other t2 ∧
  (∀ s H', dueOf one other n ts cut = s → s ≠ Str.empty → Same H H' → Q (.str s) H') ∧
  (∀ z, twoPl one other n = some z → decide (z ∈ ts) = cut → ∀ ts' qs' H', ts'.Perm (if cut = true then lss z ts else ts ++ [z]) → ts'.Pairwise plt → Same (rmL H [k]) H' → KeptAt c (rmL H' W) k n ts' qs' → near1 qs' qs → Q (.int ((qs'.length : Int) - qs.length)) H')
def spNoSize : Sp := fun vs H Q _ => ∃ (sz : V) (tz : Ty), vs = [sz] ∧ Kd H sz tz ∧ (∀ n : Nat, sz = .int n → ¬ (1 ≤ n ∧ n ≤ 40)) ∧ ∀ H', Same H H' → Q (.bl true) H'
section
variable {P : Program} {w : World} {K : PySem.W.Frag} {mg : Str → Option Value} {c : Cs} {base : Heap}
theorem ok_toldL (T : Top K mg c) : Fd.Has P w K mg base CX0 10 "_law_told" ["_law_kept", "_law_is_cut", "_law_one", "_law_other"] (spToldL c) := by
  have G__law_sole := fun (a : Addr) (oe : Obj) (cls : Value) (d : Option Addr) (hz : L2N.Zn cls d oe) (hf : ∃ vs, oe.data = .fields vs) => ok_sole (P := P) (w := w) (base := base) T a oe cls d hz hf
  have G_Kept_put : Fd.MHas P w K mg base (L2N.CX P w) 9 c.Kept "put" ["self", "one", "other"] (spDeed c false c.TieThere) := ok_put T
  have G_Kept_cut : Fd.MHas P w K mg base (L2N.CX P w) 9 c.Kept "cut" ["self", "one", "other"] (spDeed c true c.NoTie) := ok_cut T
  refine T.d__law_told.ok sc__law_told (fun vs H Q E h => ?_) (fun f cdv A outer s H vs Q E hr h => ?_)
  · obtain ⟨W, k, cut, one, other, t1, t2, n, ts, qs, rfl, _⟩ := h; rfl
  · obtain ⟨W, k, cut, one, other, t1, t2, n, ts, qs, rfl, hW, AK, ka, kb, qn, qy⟩ := h
    have hr_Kept_put := hr
    have hr_Kept_cut := hr
    have hr__law_sole := hr.mono (show 1 ≤ 9 by decide)
    obtain ⟨dk, x, p, uq, hk', _⟩ := AK.at_
    have hk := rmL_same _ _ hk'
    have noPl : twoPl one other (n : Int) = none → dueOf one other n ts cut = "no place" := fun e => by unfold dueOf; rw [e]
    have noTie : ∀ z, cut = true → twoPl one other (n : Int) = some z → decide (z ∈ ts) = !cut → dueOf one other n ts cut = "no tie" := fun z e e1 e2 => by
      unfold dueOf; rw [e1, e]; subst e; simp only [e2]; rfl
    have there : ∀ z, cut = false → twoPl one other (n : Int) = some z → decide (z ∈ ts) = !cut → dueOf one other n ts cut = "there" := fun z e e1 e2 => by
      unfold dueOf; rw [e1, e]; subst e; simp only [e2]; rfl
    refine ⟨_, (pss_one (Sd.keep (Mu.ps_try_all (i := 4) rfl rfl sc__law_told.nd rfl rfl Fd.takesF (fun W pn xe tk _ =>
      (pss_cons (ps_if (pt_val (pv 1))
        (pss_one (ps_ret (Fd.pe_mS G_Kept_cut (pv 0) T.cl_Kept hr_Kept_cut tk (pa_cons (pv 2) (pa_cons (pv 3) pa_nil)))))
        pss_nil)
        (pss_one (ps_ret (Fd.pe_mS G_Kept_put (pv 0) T.cl_Kept hr_Kept_put tk (pa_cons (pv 2) (pa_cons (pv 3) pa_nil)))))))
      (.cons ⟨rfl, by decide, Or.inl T.e_NoPlace.c⟩ (fun a oe cls d pn hz hf =>
      (pss_one (ps_ret (pe_op Mu.op_mulB pe_str (pe_callTy call_int1 (by rfl) T.n_int boot_int (pa_cons (Fh.pe_p (G__law_sole a oe cls d hz hf) (Fh.roomM hr__law_sole) (Fh.hotM hz hf) List.mem_cons_self (by rfl) (pa_cons (pv 4) pa_nil)) pa_nil))))))
      (.cons ⟨rfl, by decide, Or.inl T.e_TieThere.c⟩ (fun a oe cls d pn hz hf =>
      (pss_one (ps_ret (pe_op Mu.op_mulB pe_str (pe_callTy call_int1 (by rfl) T.n_int boot_int (pa_cons (Fh.pe_p (G__law_sole a oe cls d hz hf) (Fh.roomM hr__law_sole) (Fh.hotM hz hf) List.mem_cons_self (by rfl) (pa_cons (pv 4) pa_nil)) pa_nil))))))
      (.cons ⟨rfl, by decide, Or.inl T.e_NoTie.c⟩ (fun a oe cls d pn hz hf =>
      (pss_one (ps_ret (pe_op Mu.op_mulB pe_str (pe_callTy call_int1 (by rfl) T.n_int boot_int (pa_cons (Fh.pe_p (G__law_sole a oe cls d hz hf) (Fh.roomM hr__law_sole) (Fh.hotM hz hf) List.mem_cons_self (by rfl) (pa_cons (pv 4) pa_nil)) pa_nil))))))
      .nil)))))), ?_⟩
    cases cut with
    | true =>
      refine ⟨_, rfl, _, rfl, iteT ?_⟩
      refine ⟨_, rfl, k, dk, _, rfl, hk, kf_m_cut _ _, _, rfl, _, rfl, W, k, one, other, t1, t2, n, ts, qs, rfl, hW, AK, ka, kb, fun e => ?_, fun z e1 e2 H' s' => ?_, fun z e1 e2 ts' qs' H' h1 h2 h3 h4 h5 => qy z e1 e2 ts' qs' H' h1 h2 h3 h4 h5⟩
      · refine ⟨true, T.e_NoPlace.m, fun _ a ha => ?_, fun z => nomatch z⟩
        exact ⟨_, rfl, rfl, ⟨c.NoPlace, rfl, rfl, T.l_NoPlace⟩, .inr ⟨true, rfl, _, true, rfl, rfl, qn _ H (noPl e) (by decide) (Same.refl H)⟩⟩
      · refine ⟨false, T.m_NoTie_NoPlace, (fun z => nomatch z), fun _ => ⟨false, T.m_NoTie_TieThere, (fun z => nomatch z), fun _ => ⟨true, T.e_NoTie.m, fun _ a ha => ?_, fun z => nomatch z⟩⟩⟩
        exact ⟨_, rfl, rfl, ⟨c.NoTie, rfl, rfl, T.l_NoTie⟩, .inr ⟨true, rfl, _, true, rfl, rfl, qn _ H' (noTie z rfl e1 e2) (by decide) s'⟩⟩
    | false =>
      refine ⟨_, rfl, _, rfl, iteF ?_⟩
      refine tnx ?_
      dsimp only
      refine ⟨_, rfl, k, dk, _, rfl, hk, kf_m_put _ _, _, rfl, _, rfl, W, k, one, other, t1, t2, n, ts, qs, rfl, hW, AK, ka, kb, fun e => ?_, fun z e1 e2 H' s' => ?_, fun z e1 e2 ts' qs' H' h1 h2 h3 h4 h5 => qy z e1 e2 ts' qs' H' h1 h2 h3 h4 h5⟩
      · refine ⟨true, T.e_NoPlace.m, fun _ a ha => ?_, fun z => nomatch z⟩
        exact ⟨_, rfl, rfl, ⟨c.NoPlace, rfl, rfl, T.l_NoPlace⟩, .inr ⟨true, rfl, _, true, rfl, rfl, qn _ H (noPl e) (by decide) (Same.refl H)⟩⟩
      · refine ⟨false, T.m_TieThere_NoPlace, (fun z => nomatch z), fun _ => ⟨true, T.e_TieThere.m, fun _ a ha => ?_, fun z => nomatch z⟩⟩
        exact ⟨_, rfl, rfl, ⟨c.TieThere, rfl, rfl, T.l_TieThere⟩, .inr ⟨true, rfl, _, true, rfl, rfl, qn _ H' (there z rfl e1 e2) (by decide) s'⟩⟩
end
end Od

namespace Od
open PySem PySem.Spec PyProof.Rows L2
def spDueL : Sp := fun vs H Q _ => ∃ (n : Nat) (l : Addr) (us : List V) (tu ts : List Pr) (cut : Bool) (one other : V) (t1 t2 : Ty), vs = [.int n, .ref l, .bl cut, one, other] ∧ H l = some (.lst us) ∧ Prs H us tu ∧ tu.Perm ts ∧ Kd H one t1 ∧ Kd H other t2 ∧
  ∀ H', Same H H' → Q (.str (dueOf one other n ts cut)) H'
def spPlacesL : Sp := fun vs H Q _ => ∃ (a b : Int) (n : Nat), vs = [.int a, .int b, .int n] ∧ 0 < n ∧ n ≤ 40 ∧ ∀ (u v : V) (t1 t2 : Ty) (t : Addr) (H' : Hp), Same H H' → H' t = some (.tup [u, v]) → Kd H' u t1 → Kd H' v t2 → Q (.ref t) H'
theorem atModL {xs : List V} {k m : Int} (hm : (xs.length : Int) = m) (h0 : 0 < m) : ∃ v : V, atI xs (k % m) = some v ∧ v ∈ xs := by
  have a1 := Int.emod_nonneg k (show m ≠ 0 by omega)
  have a2 := Int.emod_lt_of_pos k h0
  have hl : (k % m).toNat < xs.length := by omega
  have q := atI_nat (List.getElem?_eq_getElem hl)
  rw [show (((k % m).toNat : Nat) : Int) = k % m by omega] at q
  exact ⟨_, q, List.getElem_mem hl⟩
theorem dueOf_some {one other : V} {n : Int} {ts : List Pr} {cut : Bool} {z : Pr} (e : twoPl one other n = some z) : dueOf one other n ts cut = if decide (z ∈ ts) = cut then Str.empty else if cut = true then "no tie" else "there" := by
  unfold dueOf; rw [e]
section
variable {P : Program} {w : World} {K : PySem.W.Frag} {mg : Str → Option Value} {c : Cs} {base : Heap}
theorem ok_nosize (T : Top K mg c) : Fd.Has P w K mg base CX0 10 "_law_no_size" ["_law_size"] spNoSize := by
  have G__law_sole := fun (a : Addr) (oe : Obj) (cls : Value) (d : Option Addr) (hz : L2N.Zn cls d oe) (hf : ∃ vs, oe.data = .fields vs) => ok_sole (P := P) (w := w) (base := base) T a oe cls d hz hf
  have G_Kept : Fd.IHas P w K mg base (L2N.CX P w) 8 c.Kept ["self", "size"] (spKInit c) := ok_kinit T
  refine T.d__law_no_size.ok sc__law_no_size (fun vs H Q E h => ?_) (fun f cdv A outer s H vs Q E hr h => ?_)
  · obtain ⟨sz, tz, rfl, _⟩ := h; rfl
  · obtain ⟨sz, tz, rfl, kz, no, q⟩ := h
    have hr_Kept := hr
    have hr__law_sole := hr.mono (show 1 ≤ 9 by decide)
    refine ⟨_, (pss_cons (Sd.keep (L2N.ps_try_as (i := 1) rfl rfl sc__law_no_size.nd rfl rfl ⟨rfl, by decide, Or.inl T.e_BadNet.c⟩ Fd.takesF (fun W pn xe tk _ =>
      (pss_one (ps_expr (Fd.pe_mkS G_Kept hr_Kept (by rfl) T.c_Kept tk (pa_cons (pv 0) pa_nil)))))
      (fun a oe cls d pn hz hf =>
      (pss_one (ps_ret (Fh.pe_p (G__law_sole a oe cls d hz hf) (Fh.roomM hr__law_sole) (Fh.hotM hz hf) List.mem_cons_self (by rfl) (pa_cons (pv 1) pa_nil)))))))
      (pss_one (ps_ret pe_bl))), ?_⟩
    refine ⟨_, rfl, fun x dx hx hdx ne => ⟨H, x, dx, sz, tz, rfl, fun b o e => by rw [upd_ne (ne_of_none e hx), upd_ne (ne_of_none e hdx)]; exact e, hx, upd_same, kz, fun n e a b => absurd ⟨a, b⟩ (no n e), fun _ H' s5 => ?_⟩⟩
    refine ⟨true, T.e_BadNet.m, fun _ a ha => ?_, fun z => nomatch z⟩
    exact ⟨_, rfl, rfl, ⟨c.BadNet, rfl, rfl, T.l_BadNet⟩, q H' s5⟩
theorem ok_dueL (T : Top K mg c) : Fd.Has P w K mg base CX0 2 "_law_due" ["_law_size", "_law_ties", "_law_is_cut", "_law_one", "_law_other"] spDueL := by
  have G__law_whole : Fd.Has P w K mg base CX0 1 "_law_whole" ["_law_found"] spWhole := ok_whole T
  refine T.d__law_due.ok sc__law_due (fun vs H Q E h => ?_) (fun f cdv A outer s H vs Q E hr h => ?_)
  · obtain ⟨n, l, us, tu, ts, cut, one, other, t1, t2, rfl, _⟩ := h; rfl
  · obtain ⟨n, l, us, tu, ts, cut, one, other, t1, t2, rfl, hl, pl, pmU, ka, kb, q⟩ := h
    have hr__law_whole := hr
    refine ⟨_, (pss_cons (ps_for PassesOwn.never rfl (pi_tup (pe_tup (pa_cons (pv 3) (pa_cons (pv 4) pa_nil)))) (pg_name (i := 5) sc__law_due.nd rfl (Or.inl rfl))
      (pss_one (ps_if (PW.pt (pw_or (pt_not (pt_val (Fd.pe_f G__law_whole hr__law_whole (by rfl) (pa_cons (pv 5) pa_nil)))) (pw_or1 (pt_not (pt_chain op_le op_lt pe_int (pv 5) (pv 0))))))
        (pss_one (ps_ret pe_str))
        pss_nil)))
      (pss_cons (ps_if (pt_cmpR (op_eqD hr.units) (pv 3) (pv 4) (nomark _))
      (pss_one (ps_ret pe_str))
      pss_nil)
      (pss_cons (ps_set (i := 6) sc__law_due.nd rfl (Or.inl rfl) (pe_tup (pa_cons (pe_callB (call_min2 rfl) (by rfl) T.n_min boot_min (pa_cons (pv 3) (pa_cons (pv 4) pa_nil))) (pa_cons (pe_callB (call_max2 rfl) (by rfl) T.n_max boot_max (pa_cons (pv 3) (pa_cons (pv 4) pa_nil))) pa_nil))))
      (pss_cons (ps_if (pt_val (pv 2))
      (pss_one (ps_ret (pe_op Mu.op_mulB pe_str (pe_callTy call_int1 (by rfl) T.n_int boot_int (pa_cons (pe_cmpR (r := rNotInD K) (op_notInD (Sd.u65 hr)) (pv 6) (pv 1) (by rfl)) pa_nil)))))
      pss_nil)
      (pss_one (ps_ret (pe_op Mu.op_mulB pe_str (pe_callTy call_int1 (by rfl) T.n_int boot_int (pa_cons (pe_cmpR (r := rInD K) (op_inD (Sd.u65 hr)) (pv 6) (pv 1) (by rfl)) pa_nil))))))))), ?_⟩
    refine ⟨_, rfl, _, rfl, (by show 2 ≤ sizeLine; decide), fun tb htb => ?_⟩
    have b1 := Same.new (o := .tup [one, other]) htb
    have e1 : upd H tb (.tup [one, other]) tb = some (.tup [one, other]) := upd_same
    generalize upd H tb (.tup [one, other]) = H1 at b1 e1 ⊢
    refine ⟨tb, rfl, ⟨_, SqT.of e1⟩, for_tup (K := K) (a := tb) (xs := [one, other]) (fun i σ H' => ∃ v5, σ = [some (.int n), some (.ref l), some (.bl cut), some one, some other, v5, none] ∧ H1 = H' ∧ (0 < i → isPl one n = true) ∧ (1 < i → isPl other n = true))
      ⟨none, rfl, rfl, fun z => absurd z (by decide), fun z => absurd z (by decide)⟩ (fun i σ H' _ ⟨_, _, e, _⟩ => e ▸ SqT.of e1) ?_ ?_⟩
    · rintro i x σ H' hi ⟨v5, rfl, rfl, p0, p1⟩
      have kx : ∃ t, Kd H1 x t := by
        match i, hi with
        | 0, hi => cases hi; exact ⟨t1, ka.ex b1⟩
        | 1, hi => cases hi; exact ⟨t2, kb.ex b1⟩
      obtain ⟨t, kx⟩ := kx
      have bad : isPl x n = false → twoPl one other n = none := fun z => by
        match i, hi with
        | 0, hi => cases hi; exact twoPl_no1 z
        | 1, hi => cases hi; exact twoPl_no2 z
      have good : isPl x n = true → ∃ v5, [some (V.int n), some (.ref l), some (.bl cut), some one, some other, some x, none] = [some (V.int n), some (.ref l), some (.bl cut), some one, some other, v5, none] ∧ H1 = H1 ∧ (0 < i + 1 → isPl one n = true) ∧ (1 < i + 1 → isPl other n = true) := fun z => by
        match i, hi with
        | 0, hi => cases hi; exact ⟨_, rfl, rfl, fun _ => z, fun z => absurd z (by decide)⟩
        | 1, hi => cases hi; exact ⟨_, rfl, rfl, fun _ => p0 (by decide), fun _ => z⟩
      have out : isPl x n = false → Q (.str "no place") H1 := fun z => by
        have e := q H1 b1
        unfold dueOf at e
        rw [bad z] at e; exact e
      dsimp only [gName]
      refine ⟨_, rfl, x, t, rfl, kx, _, rfl, ?_⟩
      cases hx : isInt x with
      | false =>
        refine iteT (out ?_)
        cases x with
        | int i => cases hx
        | _ => rfl
      | true =>
        obtain ⟨v, rfl⟩ : ∃ v, x = .int v := by
          cases x with
          | int i => exact ⟨i, rfl⟩
          | _ => cases hx
        refine iteF ⟨_, rfl, 0, v, rfl, rfl, _, rfl, ?_⟩
        by_cases c0 : (0 : Int) ≤ v
        · rw [decide_eq_true c0]
          refine iteT ⟨_, rfl, v, (n : Int), rfl, rfl, _, rfl, ?_⟩
          by_cases c1 : v < (n : Int)
          · rw [decide_eq_true c1]
            refine iteF ?_
            exact good (decide_eq_true ⟨c0, c1⟩)
          · rw [decide_eq_false c1]
            exact iteT (out (decide_eq_false fun z => c1 z.2))
        · rw [decide_eq_false c0]
          refine iteF ⟨_, rfl, ?_⟩
          exact iteT (out (decide_eq_false fun z => c0 z.1))
    · rintro σ H2 ⟨v5, rfl, rfl, p0, p1⟩
      have h1 := p0 (by show 0 < 2; decide)
      have h2 := p1 (by show 1 < 2; decide)
      obtain ⟨i, rfl, i0, i1⟩ := isPl_int h1
      obtain ⟨j, rfl, j0, j1⟩ := isPl_int h2
      refine tnx ?_
      dsimp only
      refine ⟨_, rfl, _, rfl, .int i, .int j, .int _, .int _, (by show SeqAt.shaped (PyData.int i) = true; unfold SeqAt.shaped; simp [PyData.canLay0, PyData.depth]), (by show SeqAt.shaped (PyData.int j) = true; unfold SeqAt.shaped; simp [PyData.canLay0, PyData.depth]), _, rfl, ?_⟩
      rw [eqv_int]
      by_cases e : i = j
      · subst e
        rw [decide_eq_true rfl]
        refine iteT ?_
        have z := q H1 b1
        unfold dueOf at z
        rw [twoPl_same] at z; exact z
      rw [decide_eq_false e]
      refine iteF ?_
      refine tnx ?_
      dsimp only
      refine ⟨_, rfl, _, rfl, i, j, rfl, _, rfl, _, rfl, i, j, rfl, (by show 2 ≤ sizeLine; decide), fun t ht => ?_⟩
      have b2 := Same.new (o := .tup [V.int (mm i j).1, .int (mm i j).2]) ht
      have e2 : upd H1 t (.tup [V.int (mm i j).1, .int (mm i j).2]) t = some (.tup [.int (mm i j).1, .int (mm i j).2]) := upd_same
      have s02 := Same.trans b1 b2
      have fin := q (upd H1 t (.tup [V.int (mm i j).1, .int (mm i j).2])) s02
      rw [dueOf_some (twoPl_yes h1 h2 e)] at fin
      refine tnx ?_
      show tNext _ _ (upd H1 t (.tup [V.int (mm i j).1, .int (mm i j).2]))
      generalize upd H1 t (.tup [V.int (mm i j).1, .int (mm i j).2]) = H2 at b2 e2 s02 fin ⊢
      have dz : decide (mm i j ∈ tu) = decide (mm i j ∈ ts) := by
        by_cases m : mm i j ∈ ts
        · rw [decide_eq_true m, decide_eq_true (pmU.mem_iff.mpr m)]
        · rw [decide_eq_false m, decide_eq_false fun z => m (pmU.mem_iff.mp z)]
      dsimp only
      cases cut with
      | true =>
        refine ⟨_, rfl, true, rfl, iteT ?_⟩
        refine ⟨_, rfl, _, rfl, dP (mm i j), tu.map dP, dp_pr e2, dp_prs (SqL.of (s02 _ _ hl)) (pl.ex s02), shaped_dP _, shaped_dPs _, .inr ⟨_, rfl, _, _, rfl, rfl, ?_⟩⟩
        rw [any_dP, dz]
        by_cases m : mm i j ∈ ts
        · rw [decide_eq_true m] at fin ⊢; exact fin
        · rw [decide_eq_false m] at fin ⊢; exact fin
      | false =>
        refine ⟨_, rfl, false, rfl, iteF ?_⟩
        refine tnx ?_
        dsimp only
        refine ⟨_, rfl, _, rfl, dP (mm i j), tu.map dP, dp_pr e2, dp_prs (SqL.of (s02 _ _ hl)) (pl.ex s02), shaped_dP _, shaped_dPs _, .inr ⟨_, rfl, _, _, rfl, rfl, ?_⟩⟩
        rw [any_dP, dz]
        by_cases m : mm i j ∈ ts
        · rw [decide_eq_true m] at fin ⊢; exact fin
        · rw [decide_eq_false m] at fin ⊢; exact fin
theorem ok_placesL (T : Top K mg c) : Fd.Has P w K mg base CX0 1 "_law_places" ["_law_cell", "_law_more", "_law_size"] spPlacesL := by
  refine T.d__law_places.ok sc__law_places (fun vs H Q E h => ?_) (fun f cdv A outer s H vs Q E hr h => ?_)
  · obtain ⟨a, b, n, rfl, _⟩ := h; rfl
  · obtain ⟨a, b, n, rfl, n0, n40, q⟩ := h
    refine ⟨_, (pss_cons (ps_set (i := 3) sc__law_places.nd rfl (Or.inl rfl) (pe_op op_modN (pv 1) (pv 2)))
      (pss_cons (ps_set (i := 4) sc__law_places.nd rfl (Or.inl rfl) (pe_op op_modN (pe_op op_fdivN (pv 1) (pv 2)) (pv 2)))
      (pss_cons (ps_if (pt_cmpR op_eq (pe_op op_mod (pv 0) pe_int) pe_int (nomark _))
      (pss_cons (ps_set (i := 4) sc__law_places.nd rfl (Or.inl rfl) (pe_ix ix_list (pe_lst (pa_cons (pe_un un_neg pe_int) (pa_cons (pv 2) (pa_cons pe_bl (pa_cons pe_str (pa_cons pe_non (pa_cons (pe_op op_pow pe_int pe_int) (pa_cons (pv 3) pa_nil)))))))) (pe_op op_mod (pe_op op_fdivN (pv 1) (pv 2)) pe_int) (fun _ _ => rfl)))
        (pss_one (ps_if (pt_cmpR op_eq (pe_op op_mod (pe_op op_fdiv (pv 0) pe_int) pe_int) pe_int (nomark _))
        (pss_one (ps_ret (pe_tup (pa_cons (pv 4) (pa_cons (pv 3) pa_nil)))))
        pss_nil)))
      pss_nil)
      (pss_one (ps_ret (pe_tup (pa_cons (pv 3) (pa_cons (pv 4) pa_nil)))))))), ?_⟩
    have np : (n : Int) ≠ 0 := by omega
    have nd : CDivN b n := ⟨np, by omega⟩
    refine ⟨_, rfl, _, rfl, b, (n : Int), rfl, rfl, np, ?_⟩
    refine tnx ?_
    dsimp only
    refine ⟨_, rfl, _, rfl, b, (n : Int), rfl, rfl, nd, _, rfl, _, _, rfl, rfl, np, ?_⟩
    refine tnx ?_
    dsimp only
    refine ⟨_, rfl, _, _, rfl, rfl, (by show (0 : Int) < 9; decide), rfl, _, rfl, ?_⟩
    rw [vint]
    by_cases c4 : a % 9 = 4
    · rw [decide_eq_true c4]
      refine iteT ?_
      refine ⟨_, rfl, _, rfl, _, _, rfl, rfl, ⟨by decide, by decide, by decide⟩, _, rfl, (by show 7 ≤ sizeLine; decide), fun e0 f0 => ?_⟩
      obtain ⟨w, hw1, hw2⟩ := atModL (xs := [V.int (-1), .int n, .bl true, .str "0", .non, .int (10 ^ (9 : Int).toNat), .int (b.fmod n)]) (k := b.fdiv n) (m := 7) rfl (by decide)
      have kw : ∃ t, ∀ H' : Hp, Kd H' w t := by
        simp only [List.mem_cons, List.not_mem_nil, or_false] at hw2
        rcases hw2 with rfl | rfl | rfl | rfl | rfl | rfl | rfl
        · exact ⟨_, fun _ => .int _⟩
        · exact ⟨_, fun _ => .int _⟩
        · exact ⟨_, fun _ => .bl _⟩
        · exact ⟨_, fun _ => .str _⟩
        · exact ⟨_, fun _ => .non⟩
        · exact ⟨_, fun _ => .int _⟩
        · exact ⟨_, fun _ => .int _⟩
      obtain ⟨tw, kw⟩ := kw
      refine ⟨_, rfl, _, rfl, _, _, rfl, rfl, nd, _, _, rfl, rfl, (by show (0 : Int) < 7; decide), e0, _, _, w, rfl, rfl, SqL.of upd_same, hw1, ?_⟩
      have s1 := Same.new (o := .lst [V.int (-1), .int n, .bl true, .str "0", .non, .int (10 ^ (9 : Int).toNat), .int (b.fmod n)]) f0
      refine tnx ?_
      dsimp only
      refine ⟨_, rfl, _, _, rfl, rfl, ⟨by decide, by decide⟩, _, _, rfl, rfl, (by show (0 : Int) < 2; decide), rfl, _, rfl, ?_⟩
      rw [vint]
      by_cases c1 : a / 9 % 2 = 1
      · rw [decide_eq_true c1]
        refine iteT ?_
        exact ⟨_, rfl, _, rfl, (by show 2 ≤ sizeLine; decide), fun t ht => q _ _ _ _ t _ (Same.trans s1 (Same.new ht)) upd_same (kw _) (.int _)⟩
      · rw [decide_eq_false c1]
        refine iteF ?_
        refine tnx ?_
        dsimp only
        exact ⟨_, rfl, _, rfl, (by show 2 ≤ sizeLine; decide), fun t ht => q _ _ _ _ t _ (Same.trans s1 (Same.new ht)) upd_same (.int _) (kw _)⟩
    · rw [decide_eq_false c4]
      refine iteF ?_
      refine tnx ?_
      dsimp only
      exact ⟨_, rfl, _, rfl, (by show 2 ≤ sizeLine; decide), fun t ht => q _ _ _ _ t _ (Same.new ht) upd_same (.int _) (.int _)⟩
end
end Od

namespace Od
open PySem PySem.Spec PyProof.Rows L2
def opn (cl : List Bool) (p : Int) : Prop := cl[p.toNat]? = some false
def spReached (C : Addr) : Sp := fun vs H Q _ => ∃ (x l : Addr) (n : Nat) (ts : List Pr) (a : Int) (cl : List Bool), vs = [.ref x, .int a, .ref l] ∧ NetAt C H x n ts ∧ H l = some (.lst (cl.map V.bl)) ∧ cl.length = n ∧ 0 ≤ a ∧ a < (n : Int) ∧
  ∀ (ns : List Int) (p : Addr) (H' : Hp), ns.Pairwise (· < ·) → (∀ k, k ∈ ns ↔ Rch (nbr ts) (opn cl) a k) → H p = none → Same H H' → H' p = some (.lst (ns.map V.int)) → Q (.ref p) H'
section
variable {P : Program} {w : World} {K : PySem.W.Frag} {mg : Str → Option Value} {c : Cs} {base : Heap}
end
end Od

namespace Od
open PySem PySem.Spec PyProof.Rows L2
theorem opn_set {cl : List Bool} {k p : Int} (hk : 0 ≤ k) (hp : 0 ≤ p) : opn (cl.set k.toNat true) p ↔ opn cl p ∧ p ≠ k := by
  unfold opn
  by_cases c : k.toNat = p.toNat
  · have e : p = k := by omega
    subst e
    rw [List.getElem?_set_self']
    constructor
    · intro h
      cases hc : cl[p.toNat]? with
      | none => rw [hc] at h; cases h
      | some b => rw [hc] at h; cases h
    · rintro ⟨_, h⟩; exact absurd rfl h
  · rw [List.getElem?_set_ne c]
    exact ⟨fun h => ⟨h, fun e => c (by rw [e])⟩, fun h => h.1⟩
theorem opn_rep (n : Nat) {p : Int} (h0 : 0 ≤ p) (h1 : p < (n : Int)) : opn (List.replicate n false) p := by
  unfold opn
  rw [List.getElem?_replicate, if_pos (by omega)]
theorem Rch.iff {nb : Int → List Int} {ok ok' : Int → Prop} {n : Nat} {a p : Int} (hb : ∀ {k q : Int}, q ∈ nb k → 0 ≤ q ∧ q < (n : Int)) (h : ∀ q, 0 ≤ q → q < (n : Int) → (ok q ↔ ok' q)) : Rch nb ok a p ↔ Rch nb ok' a p := by
  constructor
  · intro r
    induction r with
    | base => exact .base
    | step _ m o ih => exact .step ih m ((h _ (hb m).1 (hb m).2).mp o)
  · intro r
    induction r with
    | base => exact .base
    | step _ m o ih => exact .step ih m ((h _ (hb m).1 (hb m).2).mpr o)
theorem left_succ {nb : Int → List Int} {ok : Int → Prop} {n i : Nat} {p : Int} (c : left nb n ok i (i : Int)) : left nb n ok (i + 1) p ↔ left nb n ok i p ∧ p ∉ partOf nb n ok (i : Int) := by
  have e : partsTo nb n ok (i + 1) = partsTo nb n ok i ++ [partOf nb n ok (i : Int)] := by
    rw [partsTo]; exact if_pos c
  unfold left
  rw [e]
  constructor
  · rintro ⟨o, h⟩
    exact ⟨⟨o, fun L hL => h L (List.mem_append_left _ hL)⟩, h _ (List.mem_append_right _ (List.mem_singleton.mpr rfl))⟩
  · rintro ⟨⟨o, h⟩, h2⟩
    refine ⟨o, fun L hL => ?_⟩
    rcases List.mem_append.mp hL with z | z
    · exact h L z
    · rw [List.mem_singleton.mp z]; exact h2
theorem parts_yes {nb : Int → List Int} {ok : Int → Prop} {n i : Nat} (c : left nb n ok i (i : Int)) : partsTo nb n ok (i + 1) = partsTo nb n ok i ++ [partOf nb n ok (i : Int)] := by
  rw [partsTo]; exact if_pos c
theorem parts_no {nb : Int → List Int} {ok : Int → Prop} {n i : Nat} (c : ¬ left nb n ok i (i : Int)) : partsTo nb n ok (i + 1) = partsTo nb n ok i := by
  rw [partsTo]; exact if_neg c
theorem left_no {nb : Int → List Int} {ok : Int → Prop} {n i : Nat} {p : Int} (c : ¬ left nb n ok i (i : Int)) : left nb n ok (i + 1) p ↔ left nb n ok i p := by
  unfold left; rw [parts_no c]
/-- one row more -/
theorem RowsAt.snoc {H H' : Hp} {p : Addr} {n : Nat} {f g : Nat → List Int} {rs : List Addr} (R : RowsAt H H' p n f rs) {r : Addr} {L : List Int} (hr : H' r = some (.lst (L.map V.int))) (hn : H r = none) (hne : r ≠ p) (hni : r ∉ rs)
    (h1 : ∀ i, i < n → g i = f i) (h2 : g n = L) : RowsAt H (upd H' p (.lst ((rs ++ [r]).map V.ref))) p (n + 1) g (rs ++ [r]) := by
  refine ⟨by rw [List.length_append, R.len]; rfl, List.nodup_append.mpr ⟨R.nd, List.pairwise_singleton _ _, fun a ha b hb e => hni (by rw [← List.mem_singleton.mp hb, ← e]; exact ha)⟩, upd_same, R.new, fun a ha => ?_, fun i a ha => ?_⟩
  · rcases List.mem_append.mp ha with z | z
    · exact R.rnew a z
    · rw [List.mem_singleton.mp z]; exact hn
  · by_cases ci : i < n
    · rw [List.getElem?_append_left (by rw [R.len]; exact ci)] at ha
      rw [upd_ne (R.ne (List.mem_of_getElem? ha)), h1 i ci]
      exact R.row i a ha
    · rw [List.getElem?_append_right (by rw [R.len]; omega), R.len] at ha
      have ei : i = n := by
        cases hk : i - n with
        | zero => omega
        | succ k => rw [hk] at ha; simp at ha
      subst ei
      rw [Nat.sub_self] at ha
      simp at ha
      subst ha
      rw [upd_ne hne, h2]; exact hr
/-- another object is written -/
theorem RowsAt.other {H H' : Hp} {p : Addr} {n : Nat} {f : Nat → List Int} {rs : List Addr} {b : Addr} {o : HO} (R : RowsAt H H' p n f rs) (h1 : b ∉ rs) (h2 : b ≠ p) : RowsAt H (upd H' b o) p n f rs :=
  ⟨R.len, R.nd, by rw [upd_ne h2.symm]; exact R.at_, R.new, R.rnew, fun i a h => by
    have z : a ≠ b := fun z => h1 (by rw [← z]; exact List.mem_of_getElem? h)
    rw [upd_ne z]; exact R.row i a h⟩
def okOf (ms : List Int) (p : Int) : Prop := p ∉ ms
/-- the parts as the rows of a list -/
noncomputable def prow (ts : List Pr) (n : Nat) (ms : List Int) (i : Nat) (j : Nat) : List Int := (partsTo (nbr ts) n (okOf ms) i).getD j []
def spParts (C B : Addr) : Sp := fun vs H Q E => ∃ (x l : Addr) (n : Nat) (ts : List Pr) (xs : List V), vs = [.ref x, .ref l] ∧ NetAt C H x n ts ∧ H l = some (.lst xs) ∧ (∀ v ∈ xs, ∃ t, Kd H v t) ∧
  ((∃ ms : List Int, xs = ms.map V.int ∧ (∀ m ∈ ms, 0 ≤ m ∧ m < (n : Int)) ∧ ∀ (p : Addr) (rs : List Addr) (H' : Hp), Same H H' → RowsAt H H' p (partsTo (nbr ts) n (okOf ms) n).length (prow ts n ms n) rs → Q (.ref p) H') ∨
  ((∃ v ∈ xs, isPl v n = false) ∧ ∀ H', Same H H' → E (.ref B) none H'))
section
variable {P : Program} {w : World} {K : PySem.W.Frag} {mg : Str → Option Value} {c : Cs} {base : Heap}
end
end Od

namespace Od
open PySem PySem.Spec PyProof.Rows L2
theorem RowsAt.old {H0 H H' : Hp} {p : Addr} {n : Nat} {f : Nat → List Int} {rs : List Addr} (R : RowsAt H H' p n f rs) (s : Same H0 H) : RowsAt H0 H' p n f rs :=
  ⟨R.len, R.nd, R.at_, s.free R.new, fun a h => s.free (R.rnew a h), R.row⟩
theorem nbr_perm {tu ts : List Pr} (h : tu.Perm ts) (k : Int) : (nbr tu k).Perm (nbr ts k) := by rw [nbr_fm, nbr_fm]; exact h.filterMap _
def spNear : Sp := fun vs H Q _ => ∃ (n : Nat) (l : Addr) (us : List V) (tu ts : List Pr), vs = [.int n, .ref l] ∧ n ≤ 40 ∧ H l = some (.lst us) ∧ Prs H us tu ∧ tu.Perm ts ∧ (∀ p ∈ ts, Tie n p) ∧ ts.Pairwise plt ∧ ts.length ≤ 1000 ∧
  ∀ p rs H', Same H H' → RowsAt H H' p n (fun i => nbr ts (i : Int)) rs → Q (.ref p) H'
section
variable {P : Program} {w : World} {K : PySem.W.Frag} {mg : Str → Option Value} {c : Cs} {base : Heap}
theorem ok_near (T : Top K mg c) : Fd.Has P w K mg base CX0 1 "_law_near" ["_law_size", "_law_ties"] spNear := by
  refine T.d__law_near.ok sc__law_near (fun vs H Q E h => ?_) (fun f cdv A outer s H vs Q E hr h => ?_)
  · obtain ⟨n, l, us, tu, ts, rfl, _⟩ := h; rfl
  · obtain ⟨n, l, us, tu, ts, rfl, hn, hl, hp, pmU, htS, hup, hz, q⟩ := h
    have ht : ∀ p ∈ tu, Tie n p := fun p hp => htS p (pmU.mem_iff.mp hp)
    have hz : tu.length ≤ 1000 := by rw [pmU.length_eq]; exact hz
    refine ⟨_, (pss_cons (ps_setLc (i := 2) (own := [("_law_place", 5)]) (g := gName 5) rfl sc__law_near.nd rfl rfl (sw_true rfl rfl rfl (by decide +kernel)) (pi_range1 (by rfl) T.n_range (pa_cons (pv 0) pa_nil)) (blkOk_by (own := [("_law_place", 5)]) (N := N__law_near) (sc := defScope S__law_near) (by decide +kernel)) (fun _ _ _ _ _ => pg_name (i := 5) sc__law_near.nd rfl (Or.inl rfl)) (fun _ _ _ _ _ => pts_nil) (fun _ _ _ _ _ => (pe_lst pa_nil)))
      (pss_cons (ps_for PassesOwn.never rfl (pi_list (pv 1)) (pg_tup rfl (pgs_cons (pg_name (i := 3) sc__law_near.nd rfl (Or.inl rfl)) (pgs_cons (pg_name (i := 4) sc__law_near.nd rfl (Or.inl rfl)) pgs_nil)))
      (pss_cons (ps_expr (pe_bm PySem.F.plainAttrs_list PySem.F.slot_list_append PySem.F.type_list_append mt_append (pe_ix ix_list (pv 2) (pv 3) (fun _ _ => rfl)) (pa_cons (pv 4) pa_nil)))
        (pss_one (ps_expr (pe_bm PySem.F.plainAttrs_list PySem.F.slot_list_append PySem.F.type_list_append mt_append (pe_ix ix_list (pv 2) (pv 4) (fun _ _ => rfl)) (pa_cons (pv 3) pa_nil))))))
      (pss_one (ps_ret (pe_lc (own := [("_law_row", 6)]) (g := gName 6) rfl sc__law_near.nd (pi_list (pv 2)) (blkOk_by (own := [("_law_row", 6)]) (N := N__law_near) (sc := defScope S__law_near) (by decide +kernel)) (fun _ _ _ _ _ => pg_name (i := 6) sc__law_near.nd rfl (Or.inl rfl)) (fun _ _ _ _ _ => pts_nil) (fun _ _ _ _ _ => (pe_callB (r := rSortedI K) cr_sortedI (by rfl) T.n_sorted boot_sorted (pa_cons (pv 6) pa_nil)))))))), ?_⟩
    refine ⟨_, rfl, (n : Int), rfl, by omega, by omega, fun D hD => ?_⟩
    have e0 : ((n : Int)).toNat = n := by simp
    refine lc_range (lo := 0) (n := ((n : Int)).toNat) (fun i Hc => ∃ rs, Same H Hc ∧ RowsAt H Hc D i (fun _ => []) rs) ⟨[], Same.new hD, rfl, List.nodup_nil, upd_same, hD, fun a z => (by cases z), fun i a z => (by simp at z)⟩ ?_ ?_
    · rintro i Hc hi ⟨rs, s5, R⟩
      refine ⟨rfl, tyes (iteT ?_)⟩
      refine ⟨Nat.zero_le _, fun r hr' => ?_⟩
      have nDr : D ≠ r := ne_of_none R.at_ hr'
      refine ⟨_, by rw [upd_ne nDr]; exact R.at_, by rw [List.length_map, R.len, sizeLine_eq]; omega, rs ++ [r], Same.mut (Same.trans s5 (Same.new hr')) hD, by rw [List.length_append, R.len]; rfl, ?_, by rw [upd_same, List.map_append]; rfl, hD, fun a ha => ?_, fun j a ha => ?_⟩
      · refine List.nodup_append.mpr ⟨R.nd, List.pairwise_singleton _ _, fun a ha b hb z => ?_⟩
        rw [List.mem_singleton] at hb
        obtain ⟨j, hj, e⟩ := List.getElem_of_mem ha
        have h1 := R.row j a (by rw [List.getElem?_eq_getElem hj, e])
        rw [z, hb, hr'] at h1; cases h1
      · rcases List.mem_append.mp ha with z | z
        · exact R.rnew a z
        · rw [List.mem_singleton.mp z]; exact s5.free hr'
      · by_cases cj : j < rs.length
        · rw [List.getElem?_append_left cj] at ha
          have h1 := R.row j a ha
          rw [upd_ne (R.ne (List.mem_of_getElem? ha)), upd_ne (ne_of_none h1 hr')]
          exact h1
        · rw [List.getElem?_append_right (by omega)] at ha
          have : a = r := by
            cases hk : j - rs.length with
            | zero => rw [hk] at ha; simp at ha; exact ha.symm
            | succ k => rw [hk] at ha; simp at ha
          rw [this, upd_ne nDr.symm, upd_same]; rfl
    · rintro Hc ⟨rs, s5, R⟩
      rw [e0] at R
      refine ⟨_, rfl, l, rfl, ⟨us, SqL.of (s5 _ _ hl)⟩, for_list (K := K) (a := l) (xs := us) (fun i σ H' => ∃ v3 v4, σ = [some (.int n), some (.ref l), some (.ref D), v3, v4, none, none] ∧ Same H H' ∧ RowsAt H H' D n (fun j => nbr (tu.take i) (j : Int)) rs)
        ⟨none, none, rfl, s5, R⟩ (fun i σ H' _ ⟨_, _, _, s6, _⟩ => s6.seq (SqL.of hl)) ?_ ?_⟩
      · rintro i y σ H' hi ⟨v3, v4, rfl, s6, R6⟩
        obtain ⟨p, t, hti, rfl, htt⟩ := hp.get hi
        have hmem := List.mem_of_getElem? hti
        obtain ⟨b1, b2, b3⟩ := ht p hmem
        obtain ⟨p1, p2⟩ := p
        simp only at b1 b2 b3 htt
        obtain ⟨x1, rfl⟩ : ∃ x1 : Nat, p1 = (x1 : Int) := ⟨p1.toNat, by omega⟩
        obtain ⟨x2, rfl⟩ : ∃ x2 : Nat, p2 = (x2 : Int) := ⟨p2.toNat, by omega⟩
        have tk : tu.take (i + 1) = tu.take i ++ [((x1 : Int), (x2 : Int))] := by rw [List.take_succ, hti]; rfl
        obtain ⟨a1, ha1⟩ : ∃ a, rs[x1]? = some a := ⟨_, List.getElem?_eq_getElem (by rw [R6.len]; omega)⟩
        obtain ⟨a2, ha2⟩ : ∃ a, rs[x2]? = some a := ⟨_, List.getElem?_eq_getElem (by rw [R6.len]; omega)⟩
        have g1 : (rs.map V.ref)[x1]? = some (V.ref a1) := by rw [List.getElem?_map, ha1]; rfl
        have g2 : (rs.map V.ref)[x2]? = some (V.ref a2) := by rw [List.getElem?_map, ha2]; rfl
        have r1 := R6.row x1 a1 ha1
        have small : ∀ k (l' : List Pr), l'.length ≤ 1000 → ((nbr l' k).map V.int).length < sizeLine := fun k l' hl' => by
          have := nbr_len k l' []
          rw [List.length_map, sizeLine_eq]
          unfold nbr
          simp only [List.length_nil] at this
          omega
        have lt : (tu.take i).length ≤ 1000 := by rw [List.length_take]; omega
        refine ⟨t, _, rfl, SqT.of (s6 _ _ htt), rfl, _, _, rfl, _, _, rfl, rfl, ?_⟩
        refine ⟨_, rfl, _, rfl, D, _, _, _, rfl, rfl, SqL.of R6.at_, atI_nat g1, .inl ⟨rfl, _, SqL.of r1⟩, _, rfl, a1, _, _, rfl, rfl, r1, small _ _ lt, ?_⟩
        have R7 := R6.set ha1 (x2 : Int)
        have r2 := R7.row x2 a2 ha2
        have ne12 : x2 ≠ x1 := by omega
        simp only [if_neg ne12] at r2
        refine ⟨_, rfl, _, rfl, D, _, _, _, rfl, rfl, SqL.of R7.at_, atI_nat g2, .inl ⟨rfl, _, SqL.of r2⟩, _, rfl, a2, _, _, rfl, rfl, r2, small _ _ lt, ?_⟩
        have R8 := R7.set ha2 (x1 : Int)
        simp only [if_neg ne12] at R8
        have n1 := R6.rnew a1 (List.mem_of_getElem? ha1)
        have n2 := R6.rnew a2 (List.mem_of_getElem? ha2)
        refine ⟨_, _, rfl, Same.mut (Same.mut s6 n1) n2, ?_⟩
        have ef : (fun j : Nat => nbr (tu.take (i + 1)) (j : Int)) = (fun j : Nat => if j = x2 then nbr (tu.take i) (x2 : Int) ++ [(x1 : Int)] else if j = x1 then nbr (tu.take i) (x1 : Int) ++ [(x2 : Int)] else nbr (tu.take i) (j : Int)) := by
          funext j
          rw [tk, nbr_snoc]
          unfold nbs
          simp only
          by_cases c2 : j = x2
          · subst c2
            rw [if_neg (by omega), if_pos rfl, if_pos rfl]
          · rw [if_neg c2]
            by_cases c1 : j = x1
            · subst c1; rw [if_pos rfl, if_pos rfl]
            · rw [if_neg (by omega), if_neg (by omega), if_neg c1]
        rw [ef]
        exact R8
      · rintro σ H' ⟨v3, v4, rfl, s6, R6⟩
        rw [hp.len, List.take_length] at R6
        refine ⟨_, rfl, D, rfl, ⟨_, SqL.of R6.at_⟩, fun D2 hD2 => ?_⟩
        have lrs := R6.len
        refine lc_list (xs := rs.map V.ref) (fun i Hc => ∃ rs2, Same H' Hc ∧ RowsAt H' Hc D2 i (fun j => nbr ts (j : Int)) rs2) ⟨[], Same.new hD2, rfl, List.nodup_nil, upd_same, hD2, fun a z => (by cases z), fun i a z => (by simp at z)⟩ (fun i Hc _ ⟨_, e, _⟩ => SqL.of (e _ _ R6.at_)) ?_ ?_
        · rintro i y Hc hi ⟨rs2, s7, R7⟩
          rw [List.getElem?_map] at hi
          obtain ⟨r, hri, rfl⟩ := Option.map_eq_some_iff.mp hi
          have il : i < n := by
            have h1 := (List.getElem?_eq_some_iff.mp hri).1
            omega
          refine ⟨rfl, tyes (iteT ?_)⟩
          refine ⟨_, rfl, r, nbr tu (i : Int), rfl, SqL.of (s7 _ _ (R6.row i r hri)), fun ns' r2 pm up hr2 => ?_⟩
          obtain rfl : ns' = nbr ts (i : Int) := sorted_one (pm.trans (nbr_perm pmU _)) up (nbr_up htS hup _)
          have nD : D2 ≠ r2 := ne_of_none R7.at_ hr2
          have nR : r2 ∉ rs2 := fun z => by
            obtain ⟨j, hj⟩ := List.getElem?_of_mem z
            have h1 := R7.row j r2 hj
            rw [hr2] at h1; cases h1
          have R8 := (R7.keep (Same.new (o := .lst ((nbr ts (i : Int)).map V.int)) hr2)).snoc (g := fun j => nbr ts (j : Int)) (r := r2) upd_same (s7.free hr2) nD.symm nR (fun _ _ => rfl) rfl
          rw [List.map_append] at R8
          exact ⟨_, by rw [upd_ne nD]; exact R7.at_, by rw [List.length_map, R7.len, sizeLine_eq]; omega, rs2 ++ [r2], Same.mut (Same.trans s7 (Same.new hr2)) hD2, R8⟩
        · rintro Hc ⟨rs2, s7, R7⟩
          rw [List.length_map, lrs] at R7
          exact q D2 rs2 Hc (Same.trans s6 s7) (R7.old s6)
end
end Od

namespace Od
open PySem PySem.Spec PyProof.Rows L2
def spPart : Sp := fun vs H Q _ => ∃ (l th : Addr) (n : Nat) (ts : List Pr) (a : Int) (rs : List Addr) (kvs : List (L2.Key × V)) (ok : Int → Prop), vs = [.ref l, .int a, .ref th] ∧ n ≤ 40 ∧ (∀ p ∈ ts, Tie n p) ∧ 0 ≤ a ∧ a < (n : Int) ∧
  H l = some (.lst (rs.map V.ref)) ∧ rs.length = n ∧ (∀ (i : Nat) (r : Addr), rs[i]? = some r → H r = some (.lst ((nbr ts (i : Int)).map V.int))) ∧
  H th = some (.dK kvs) ∧ (∀ q : Int, 0 ≤ q → q < (n : Int) → ((valV kvs (Sum.inl q : L2.Key)).isSome = true ↔ ok q)) ∧
  ∀ (ns : List Int) (p : Addr) (H' : Hp), ns.Pairwise (· < ·) → (∀ k, k ∈ ns ↔ Rch (nbr ts) ok a k) → H p = none → Same H H' → H' p = some (.lst (ns.map V.int)) → Q (.ref p) H'
section
variable {P : Program} {w : World} {K : PySem.W.Frag} {mg : Str → Option Value} {c : Cs} {base : Heap}
theorem ok_part (T : Top K mg c) : Fd.Has P w K mg base CX0 1 "_law_part" ["_law_near_here", "_law_place", "_law_there"] spPart := by
  refine T.d__law_part.ok sc__law_part (fun vs H Q E h => ?_) (fun f cdv A outer s H vs Q E hr h => ?_)
  · obtain ⟨l, th, n, ts, a, rs, kvs, ok, rfl, _⟩ := h; rfl
  · obtain ⟨l, th, n, ts, a, rs, kvs, ok, rfl, n40, tie, h0, h1, hl, lrs, hrow, hth, hok, q⟩ := h
    refine ⟨_, (pss_cons (ps_set (i := 3) sc__law_part.nd rfl (Or.inl rfl) (pe_disp (pps_cons (pv 1) pe_bl pps_nil) (by rfl) (by rfl) (fun z => by cases z) (by decide)))
      (pss_cons (ps_set (i := 4) sc__law_part.nd rfl (Or.inl rfl) (pe_lst (pa_cons (pv 1) pa_nil)))
      (pss_cons (ps_while PassesOwn.never (pt_cmpR (op_neD hr.units) (pv 4) (pe_lst pa_nil) (nomark _))
      (pss_cons (ps_set (i := 5) sc__law_part.nd rfl (Or.inl rfl) (pe_bm0 PySem.F.plainAttrs_list PySem.F.slot_list_pop PySem.F.type_list_pop mt_pop (pv 4)))
        (pss_one (ps_for PassesOwn.never rfl (pi_list (pe_ix ix_list (pv 0) (pv 5) (fun _ _ => rfl))) (pg_name (i := 6) sc__law_part.nd rfl (Or.inl rfl))
        (pss_one (ps_if (PW.pt (pw_and (pt_cmp (pc_din (hu_of hr) (pv 6) (pv 2))) (pw_and1 (pt_cmp (pc_dnotin (hu_of hr) (pv 6) (pv 3))))))
          (pss_cons (ps_asg pe_bl (pg_sub (pv 3) (pv 6) (set_dict (hu_of hr))))
            (pss_one (ps_expr (pe_bm PySem.F.plainAttrs_list PySem.F.slot_list_append PySem.F.type_list_append mt_append (pv 4) (pa_cons (pv 6) pa_nil)))))
          pss_nil))))))
      (pss_one (ps_ret (pe_callB (call_sortedDI rfl) (by rfl) T.n_sorted boot_sorted (pa_cons (pv 3) pa_nil))))))), ?_⟩
    dsimp only [cxOf, Cx.nox]
    refine fun M hM => ⟨_, rfl, upd_same, [(Sum.inl a, .bl true)], rfl, (by show 1 ≤ 15; decide), ?_⟩
    have s0 : Same H (upd (upd H M (.dK [])) M (.dK (mergeK [] [(Sum.inl a, .bl true)]))) := Same.mut (Same.new hM) hM
    have hM0 : upd (upd H M (.dK [])) M (.dK (mergeK [] [(Sum.inl a, .bl true)])) M = some (.dK (mk [a])) := by rw [upd_same]; rfl
    generalize upd (upd H M (.dK [])) M (.dK (mergeK [] [(Sum.inl a, .bl true)])) = H0 at s0 hM0 ⊢
    refine ⟨_, rfl, (by show 1 ≤ sizeLine; decide), fun W hW => ?_⟩
    have nMW : M ≠ W := ne_of_none hM0 hW
    have hWH : H W = none := s0.free hW
    refine ⟨fun m σ H' => ∃ v5 v6 sl wl, σ = [some (.ref l), some (.int a), some (.ref th), some (.ref M), some (.ref W), v5, v6] ∧ Same H H' ∧ H' M = some (.dK (mk sl)) ∧ H' W = some (.lst (wl.map V.int)) ∧ DI (nbr ts) ok n a sl wl (fun _ _ => False) ∧ m = 2 * (n - sl.length) + wl.length ∧ m ≤ 2 * n,
      ⟨_, none, none, [a], [a], rfl, Same.trans s0 (Same.new hW), by rw [upd_ne nMW, hM0], upd_same, DI.start h0 h1, rfl, by show 2 * (n - 1) + 1 ≤ 2 * n; omega⟩, ?_⟩
    rintro m σ H1 ⟨v5, v6, sl, wl, rfl, s1, hM1, hW1, D, rfl, mb⟩
    refine ⟨_, rfl, Nat.zero_le _, fun e0 f0 => ?_⟩
    have b0 := Same.new (o := .lst []) f0
    refine ⟨dIs wl, dIs [], dp_ints (SqL.of (b0 _ _ hW1)), dp_ints (SqL.of upd_same), shaped_dIs _, shaped_dIs _, _, rfl, ?_⟩
    rw [eqv_dIs]
    have s1 := Same.trans s1 b0
    have hM1 := b0 _ _ hM1
    have hW1 := b0 _ _ hW1
    generalize upd H1 e0 (.lst []) = H1 at s1 hM1 hW1 ⊢
    by_cases cw : wl = []
    · subst cw
      rw [decide_eq_true rfl]
      dsimp only
      rw [if_neg (by decide)]
      refine ⟨_, rfl, M, _, sl, rfl, .inl hM1, mk_keys sl, by have := D.len; omega, fun ns p pm up hp => ?_⟩
      have nd : ns.Nodup := pm.nodup_iff.mpr D.nd
      have up' : ns.Pairwise (· < ·) := (up.and nd).imp fun {a b} h => by
        have h1 := h.1
        have h2 := h.2
        omega
      refine q ns p _ up' (fun k => ?_) (s1.free hp) (Same.trans s1 (Same.new hp)) upd_same
      rw [pm.mem_iff, D.fin k]
    · have hlen : 0 < wl.length := List.length_pos_iff.mpr cw
      obtain ⟨y, hy⟩ : ∃ y, wl[wl.length - 1]? = some y := ⟨_, List.getElem?_eq_getElem (by omega)⟩
      have hyl : wl.getLast? = some y := by rw [List.getLast?_eq_getElem?]; exact hy
      have hyw : y ∈ wl := List.mem_of_getElem? hy
      have hys : y ∈ sl := D.wt y hyw
      have yr := D.rg y hys
      rw [decide_eq_false cw]
      dsimp only
      rw [if_pos (by decide)]
      refine ⟨fun σ H' => ∃ v5 v6 sl2 wl2, σ = [some (.ref l), some (.int a), some (.ref th), some (.ref M), some (.ref W), v5, v6] ∧ Same H H' ∧ H' M = some (.dK (mk sl2)) ∧ H' W = some (.lst (wl2.map V.int)) ∧ DI (nbr ts) ok n a sl2 wl2 (fun _ _ => False) ∧ 2 * (n - sl2.length) + wl2.length < 2 * (n - sl.length) + wl.length, ?_, ?_⟩
      · rintro σ' H' ⟨v5, v6, sl2, wl2, e1, e2, e3, e4, e5, e6⟩
        exact ⟨_, e6, v5, v6, sl2, wl2, e1, e2, e3, e4, e5, rfl, by omega⟩
      have D1 := D.pop hyl
      have dl : wl.dropLast.length = wl.length - 1 := List.length_dropLast
      refine ⟨_, rfl, .inl ⟨rfl, _, SqL.of hW1⟩, W, _, V.int y, rfl, rfl, hW1, by rw [List.length_map, List.getElem?_map, hy]; rfl, ?_⟩
      have s2 : Same H (upd H1 W (.lst (wl.map V.int).dropLast)) := Same.mut s1 hWH
      have hM2 : upd H1 W (.lst (wl.map V.int).dropLast) M = some (.dK (mk sl)) := by rw [upd_ne nMW]; exact hM1
      have hW2 : upd H1 W (.lst (wl.map V.int).dropLast) W = some (.lst (wl.dropLast.map V.int)) := by rw [upd_same, List.map_dropLast]
      generalize upd H1 W (.lst (wl.map V.int).dropLast) = H2 at s2 hM2 hW2 ⊢
      obtain ⟨yn, rfl⟩ : ∃ yn : Nat, y = (yn : Int) := ⟨y.toNat, by omega⟩
      obtain ⟨r, hr'⟩ : ∃ r, rs[yn]? = some r := ⟨_, List.getElem?_eq_getElem (by omega)⟩
      have g : (rs.map V.ref)[yn]? = some (V.ref r) := by rw [List.getElem?_map, hr']; rfl
      have hrr := hrow yn r hr'
      refine ⟨_, rfl, _, rfl, l, _, _, _, rfl, rfl, SqL.of (s2 _ _ hl), atI_nat g, r, rfl, ⟨_, SqL.of (s2 _ _ hrr)⟩, for_list (K := K) (a := r) (xs := (nbr ts (yn : Int)).map V.int) (fun i σ H' => ∃ v6 sl2 wl2, σ = [some (.ref l), some (.int a), some (.ref th), some (.ref M), some (.ref W), some (.int (yn : Int)), v6] ∧ Same H H' ∧ H' M = some (.dK (mk sl2)) ∧ H' W = some (.lst (wl2.map V.int)) ∧ (yn : Int) ∈ sl2 ∧
          DI (nbr ts) ok n a sl2 wl2 (fun p z => p = (yn : Int) ∧ z ∈ (nbr ts (yn : Int)).drop i) ∧ 2 * (n - sl2.length) + wl2.length < 2 * (n - sl.length) + wl.length)
        ⟨v6, sl, wl.dropLast, rfl, s2, hM2, hW2, hys, D1, by omega⟩ (fun i σ H' _ ⟨_, _, _, _, e, _⟩ => SqL.of (e _ _ hrr)) ?_ ?_⟩
      · rintro i z σ H3 hi ⟨v6, sl2, wl2, rfl, s3, hM3, hW3, hy3, D3, ms⟩
        rw [List.getElem?_map] at hi
        obtain ⟨k, hk, rfl⟩ := Option.map_eq_some_iff.mp hi
        have kr := nbr_rng tie (List.mem_of_getElem? hk)
        have len3 := D3.len
        have hk1 := hok k kr.1 kr.2
        refine ⟨_, rfl, _, rfl, th, _, rfl, DGet.k (k := .inl k) (s3 _ _ hth), _, rfl, ?_⟩
        cases ho : (valV kvs (Sum.inl k : L2.Key)).isSome with
        | false =>
          refine iteF ?_
          refine ⟨_, sl2, wl2, rfl, s3, hM3, hW3, hy3, D3.skip hk (fun o => ?_), ms⟩
          rw [hk1.mpr o] at ho; cases ho
        | true =>
          have o := hk1.mp ho
          refine iteT ⟨_, rfl, _, rfl, M, _, rfl, DGet.k (k := .inl k) hM3, _, rfl, ?_⟩
          rw [mk_val]
          by_cases cs : k ∈ sl2
          · rw [decide_eq_true cs]
            refine iteF ?_
            exact ⟨_, sl2, wl2, rfl, s3, hM3, hW3, hy3, D3.skip hk (fun _ => cs), ms⟩
          · rw [decide_eq_false cs]
            refine iteT ?_
            have D4 := D3.push hy3 hk kr o cs
            have len4 := D4.len
            rw [List.length_append, List.length_singleton] at len4
            refine ⟨_, rfl, _, rfl, M, _, rfl, DPut.k (k := .inl k) hM3 (by rw [mk_len, sizeLine_eq]; omega), ?_⟩
            rw [mk_put cs]
            refine ⟨_, rfl, .inl ⟨rfl, _, SqL.of (by rw [upd_ne nMW.symm]; exact hW3)⟩, _, rfl, W, _, _, rfl, rfl, by rw [upd_ne nMW.symm]; exact hW3, ?_, ?_⟩
            · rw [List.length_map, sizeLine_eq]; omega
            · refine ⟨_, sl2 ++ [k], wl2 ++ [k], rfl, Same.mut (Same.mut s3 hM) hWH, ?_, ?_, List.mem_append_left _ hy3, D4, ?_⟩
              · rw [upd_ne nMW, upd_same]
              · rw [upd_same, List.map_append]; rfl
              · rw [List.length_append, List.length_append, List.length_singleton]; omega
      · rintro σ H3 ⟨v6, sl2, wl2, rfl, s3, hM3, hW3, hy3, D3, ms⟩
        rw [List.length_map] at D3
        exact ⟨_, v6, sl2, wl2, rfl, s3, hM3, hW3, D3.done, ms⟩
end
end Od

namespace Od
open PySem PySem.Spec PyProof.Rows L2
/-- the places below i that are not taken away -/
def thr (ms : List Int) : Nat → List Int
  | 0 => []
  | i + 1 => if (i : Int) ∈ ms then thr ms i else thr ms i ++ [(i : Int)]
theorem thr_mem {ms : List Int} : ∀ {i : Nat} {q : Int}, q ∈ thr ms i ↔ 0 ≤ q ∧ q < (i : Int) ∧ q ∉ ms
  | 0, q => ⟨fun h => (by cases h), fun h => (by omega)⟩
  | i + 1, q => by
    unfold thr
    by_cases c : (i : Int) ∈ ms
    · rw [if_pos c, thr_mem]
      constructor
      · rintro ⟨a, b, d⟩; exact ⟨a, by omega, d⟩
      · rintro ⟨a, b, d⟩
        refine ⟨a, ?_, d⟩
        have : q ≠ (i : Int) := fun z => d (z ▸ c)
        omega
    · rw [if_neg c, List.mem_append, thr_mem, List.mem_singleton]
      constructor
      · rintro (⟨a, b, d⟩ | rfl)
        · exact ⟨a, by omega, d⟩
        · exact ⟨by omega, by omega, c⟩
      · rintro ⟨a, b, d⟩
        by_cases e : q = (i : Int)
        · exact .inr e
        · exact .inl ⟨a, by omega, d⟩
theorem thr_nd (ms : List Int) : ∀ i, (thr ms i).Nodup
  | 0 => List.nodup_nil
  | i + 1 => by
    unfold thr
    by_cases c : (i : Int) ∈ ms
    · rw [if_pos c]; exact thr_nd ms i
    · rw [if_neg c]
      refine List.nodup_append.mpr ⟨thr_nd ms i, List.pairwise_singleton _ _, fun a ha b hb e => ?_⟩
      rw [List.mem_singleton] at hb
      have := (thr_mem.mp ha).2.1
      omega
theorem thr_len (ms : List Int) : ∀ i, (thr ms i).length ≤ i
  | 0 => Nat.le_refl _
  | i + 1 => by
    have ih := thr_len ms i
    unfold thr
    by_cases c : (i : Int) ∈ ms
    · rw [if_pos c]; omega
    · rw [if_neg c, List.length_append, List.length_singleton]; omega
theorem merge_mk : ∀ (s2 s1 : List Int), (s1 ++ s2).Nodup → mergeK (mk s1) (mk s2) = mk (s1 ++ s2)
  | [], s1, _ => by rw [List.append_nil]; rfl
  | q :: s2, s1, nd => by
    have hq : q ∉ s1 := fun z => (List.nodup_append.mp nd).2.2 q z q List.mem_cons_self rfl
    have e : s1 ++ q :: s2 = (s1 ++ [q]) ++ s2 := by rw [List.append_assoc]; rfl
    rw [e] at nd ⊢
    rw [← merge_mk s2 (s1 ++ [q]) nd, ← mk_put hq]
    rfl
theorem mk_put' (sl : List Int) (q : Int) : ∃ sl', putK (mk sl) (Sum.inl q : L2.Key) (V.bl true) = mk sl' ∧ (∀ p, p ∈ sl' ↔ p ∈ sl ∨ p = q) ∧ sl'.length ≤ sl.length + 1 := by
  by_cases h : q ∈ sl
  · refine ⟨sl, ?_, fun p => ⟨.inl, fun z => z.elim id fun e => e ▸ h⟩, Nat.le_succ _⟩
    unfold putK
    rw [valV_any, mk_val, decide_eq_true h, if_pos rfl]
    unfold mk
    rw [List.map_map]
    refine List.map_congr_left fun x _ => ?_
    show (if (Sum.inl x : L2.Key) = Sum.inl q then ((Sum.inl x : L2.Key), V.bl true) else (Sum.inl x, V.bl true)) = _
    by_cases e : (Sum.inl x : L2.Key) = Sum.inl q
    · rw [if_pos e]
    · rw [if_neg e]
  · exact ⟨sl ++ [q], mk_put h, fun p => by rw [List.mem_append, List.mem_singleton], by rw [List.length_append]; exact Nat.le_refl _⟩
theorem atI_last {xs : List V} {v : V} : atI (xs ++ [v]) (-1) = some v := by
  unfold atI ixN
  rw [List.length_append, List.length_singleton, if_neg (by decide), if_pos (by omega)]
  have : (-1 + ((xs.length + 1 : Nat) : Int)).toNat = xs.length := by omega
  rw [this]
  show (xs ++ [v])[xs.length]? = some v
  rw [List.getElem?_append_right (Nat.le_refl _), Nat.sub_self]; rfl
end Od

namespace Od
open PySem PySem.Spec PyProof.Rows L2
def spPartsL : Sp := fun vs H Q _ => ∃ (n : Nat) (l t : Addr) (us : List V) (tu ts : List Pr) (ms : List Int), vs = [.int n, .ref l, .ref t] ∧ 1 ≤ n ∧ n ≤ 40 ∧ H l = some (.lst us) ∧ Prs H us tu ∧ tu.Perm ts ∧ (∀ p ∈ ts, Tie n p) ∧ ts.Pairwise plt ∧ ts.length ≤ 1000 ∧ H t = some (.lst (ms.map V.int)) ∧
  ∀ (p : Addr) (rs : List Addr) (H' : Hp), Same H H' → RowsAt H H' p (partsTo (nbr ts) n (okOf ms) n).length (prow ts n ms n) rs → Q (.ref p) H'
section
variable {P : Program} {w : World} {K : PySem.W.Frag} {mg : Str → Option Value} {c : Cs} {base : Heap}
theorem ok_partsL (T : Top K mg c) : Fd.Has P w K mg base CX0 2 "_law_parts" ["_law_size", "_law_ties", "_law_taken"] spPartsL := by
  have G__law_near : Fd.Has P w K mg base CX0 1 "_law_near" ["_law_size", "_law_ties"] spNear := ok_near T
  have G__law_part : Fd.Has P w K mg base CX0 1 "_law_part" ["_law_near_here", "_law_place", "_law_there"] spPart := ok_part T
  refine T.d__law_parts.ok sc__law_parts (fun vs H Q E h => ?_) (fun f cdv A outer s H vs Q E hr h => ?_)
  · obtain ⟨n, l, t, us, tu, ts, ms, rfl, _⟩ := h; rfl
  · obtain ⟨n, l, t, us, tu, ts, ms, rfl, n1, n40, hl, hp, pmU, tie, up, few, ht, q⟩ := h
    have hr__law_near := hr
    have hr__law_part := hr
    refine ⟨_, (pss_cons (ps_set (i := 3) sc__law_parts.nd rfl (Or.inl rfl) (Fd.pe_f G__law_near hr__law_near (by rfl) (pa_cons (pv 0) (pa_cons (pv 1) pa_nil))))
      (pss_cons (ps_set (i := 5) sc__law_parts.nd rfl (Or.inl rfl) (pe_callTy (call_dictP rfl) (by rfl) T.n_dict boot_dict (pa_cons (pe_lc (own := [("_law_place", 4)]) (g := gName 4) rfl sc__law_parts.nd (pi_range1 (by rfl) T.n_range (pa_cons (pv 0) pa_nil)) (blkOk_by (own := [("_law_place", 4)]) (N := N__law_parts) (sc := defScope S__law_parts) (by decide +kernel)) (fun _ _ _ _ _ => pg_name (i := 4) sc__law_parts.nd rfl (Or.inl rfl)) (fun _ _ _ _ _ => (pts_one (pt_cmpR (r := rIn K true) op_notIn_seq (pv 4) (pv 2) (by rfl)))) (fun _ _ _ _ _ => (pe_tup (pa_cons (pv 4) (pa_cons pe_bl pa_nil))))) pa_nil)))
      (pss_cons (ps_set (i := 6) sc__law_parts.nd rfl (Or.inl rfl) (pe_lst pa_nil))
      (pss_cons (ps_set (i := 7) sc__law_parts.nd rfl (Or.inl rfl) pe_dnewK)
      (pss_cons (ps_for PassesOwn.never rfl (pi_range1 (by rfl) T.n_range (pa_cons (pv 0) pa_nil)) (pg_name (i := 4) sc__law_parts.nd rfl (Or.inl rfl))
      (pss_one (ps_if (PW.pt (pw_and (pt_cmp (pc_din (hu_of hr) (pv 4) (pv 5))) (pw_and1 (pt_cmp (pc_dnotin (hu_of hr) (pv 4) (pv 7))))))
        (pss_cons (ps_expr (pe_bm PySem.F.plainAttrs_list PySem.F.slot_list_append PySem.F.type_list_append mt_append (pv 6) (pa_cons (Fd.pe_f G__law_part hr__law_part (by rfl) (pa_cons (pv 3) (pa_cons (pv 4) (pa_cons (pv 5) pa_nil)))) pa_nil)))
          (pss_one (ps_for PassesOwn.never rfl (pi_list (pe_ix ix_list (pv 6) (pe_un un_neg pe_int) (fun _ _ => rfl))) (pg_name (i := 8) sc__law_parts.nd rfl (Or.inl rfl))
          (pss_one (ps_asg pe_bl (pg_sub (pv 7) (pv 8) (set_dict (hu_of hr))))))))
        pss_nil)))
      (pss_one (ps_ret (pv 6)))))))), ?_⟩
    dsimp only [cxOf, Cx.nox]
    refine ⟨_, rfl, _, rfl, n, l, us, tu, ts, rfl, n40, hl, hp, pmU, tie, up, few, fun nl rs H1 s1 R => ?_⟩
    have hnl := R.at_
    have hrow := R.row
    have lrs := R.len
    have ht1 := s1 _ _ ht
    refine ⟨_, rfl, (n : Int), rfl, by omega, by omega, fun D hD => ?_⟩
    refine lc_range (lo := 0) (n := n) (fun i Hc => ∃ ps, Same H1 Hc ∧ Hc D = some (.lst (ps.map V.ref)) ∧ ps.length ≤ i ∧ Paired (fun (p : Addr) (kv : L2.Key × V) => Hc p = some (.tup [kV kv.1, kv.2])) ps (mk (thr ms i))) ⟨[], Same.new hD, upd_same, Nat.le_refl _, .nil⟩ ?_ ?_
    · rintro i Hc hi ⟨ps, s2, hDc, lp, pr⟩
      rw [show (0 : Int) + (i : Int) = (i : Int) from Int.zero_add _]
      refine ⟨rfl, _, rfl, _, rfl, t, _, rfl, .inl (SqL.of (s2 _ _ ht1)), rfl, flat_ints ms, _, rfl, ?_⟩
      rw [inV_ints]
      by_cases cm : (i : Int) ∈ ms
      · rw [decide_eq_true cm]
        refine iteF ⟨ps, s2, hDc, by omega, ?_⟩
        rw [thr, if_pos cm]; exact pr
      · rw [decide_eq_false cm]
        refine iteT ⟨_, rfl, (by show 2 ≤ sizeLine; decide), fun r hr' => ?_⟩
        have nD : D ≠ r := ne_of_none hDc hr'
        have b1 : Same Hc (upd Hc r (.tup [.int (i : Int), .bl true])) := Same.new hr'
        refine ⟨_, by rw [upd_ne nD]; exact hDc, by rw [List.length_map, sizeLine_eq]; omega, ps ++ [r], Same.mut (Same.trans s2 b1) hD, by rw [upd_same, List.map_append]; rfl, by rw [List.length_append, List.length_singleton]; omega, ?_⟩
        rw [thr, if_neg cm]
        unfold mk at pr ⊢
        rw [List.map_append]
        refine pairSnoc (L2.Paired.mapP pr fun p kv e => ?_) ?_
        · rw [upd_ne (ne_of e hDc (fun z => nomatch z)), upd_ne (ne_of_none e hr')]; exact e
        · rw [upd_ne nD.symm]; exact upd_same
    rintro H2 ⟨ps, s2, hD2, lp, pr⟩
    refine ⟨D, ps, mk (thr ms n), rfl, SqL.of hD2, L2.Paired.mapP pr fun p kv e => SqT.of e, fun th hth0 => ?_⟩
    have em : mergeK [] (mk (thr ms n)) = mk (thr ms n) := merge_mk (thr ms n) [] (thr_nd ms n)
    rw [em]
    have s3 : Same H1 (upd H2 th (.dK (mk (thr ms n)))) := Same.trans s2 (Same.new hth0)
    have hth : upd H2 th (.dK (mk (thr ms n))) th = some (.dK (mk (thr ms n))) := upd_same
    generalize upd H2 th (.dK (mk (thr ms n))) = H3 at s3 hth ⊢
    have hok : ∀ q : Int, 0 ≤ q → q < (n : Int) → ((valV (mk (thr ms n)) (Sum.inl q : L2.Key)).isSome = true ↔ okOf ms q) := fun q h0 h1 => by
      rw [mk_val, decide_eq_true_eq, thr_mem]
      exact ⟨fun z => z.2.2, fun z => ⟨h0, h1, z⟩⟩
    have hb : ∀ {k q : Int}, q ∈ nbr ts k → 0 ≤ q ∧ q < (n : Int) := fun m => nbr_rng tie m
    -- found, met
    refine ⟨Nat.zero_le _, fun F hF => ?_⟩
    refine fun M hM => ?_
    have nFM : F ≠ M := fun z => by rw [← z, upd_same] at hM; cases hM
    have s13 : Same H H3 := Same.trans s1 s3
    have hFH : H F = none := s13.free hF
    have s4 : Same H3 (upd (upd H3 F (.lst [])) M (.dK [])) := Same.trans (Same.new hF) (Same.new hM)
    have hMH : H M = none := s13.free ((Same.new hF).free hM)
    have hF4 : upd (upd H3 F (.lst [])) M (.dK []) F = some (.lst []) := by rw [upd_ne nFM]; exact upd_same
    have hM4 : upd (upd H3 F (.lst [])) M (.dK []) M = some (.dK (mk [])) := by rw [upd_same]; rfl
    have hF3 : H3 F = none := hF
    have hM3 : H3 M = none := (Same.new hF).free hM
    generalize upd (upd H3 F (.lst [])) M (.dK []) = H4 at s4 hF4 hM4 ⊢
    refine ⟨_, rfl, (n : Int), rfl, by omega, by omega, for_range (lo := 0) (n := n) (fun i σ H' => ∃ v4 v8 sl fs, σ = [some (.int n), some (.ref l), some (.ref t), some (.ref nl), v4, some (.ref th), some (.ref F), some (.ref M), v8] ∧ Same H3 H' ∧ H' M = some (.dK (mk sl)) ∧ (∀ p : Int, p ∈ sl ↔ ∃ L ∈ partsTo (nbr ts) n (okOf ms) i, p ∈ L) ∧ sl.length ≤ i * n ∧
        RowsAt H3 H' F (partsTo (nbr ts) n (okOf ms) i).length (prow ts n ms i) fs)
      ⟨_, none, [], [], rfl, s4, hM4, fun p => ⟨fun z => (by cases z), fun ⟨L, hL, _⟩ => (by cases hL)⟩, by simp, ⟨rfl, List.nodup_nil, hF4, hF3, fun a z => (by cases z), fun i a z => (by simp at z)⟩⟩ ?_ ?_⟩
    · rintro i σ H5 hi ⟨v4, v8, sl, fs, rfl, s5, hM5, mem, lsl, RF⟩
      rw [show (0 : Int) + (i : Int) = (i : Int) from Int.zero_add _]
      have lenP := partsTo_len (nb := nbr ts) (n := n) (ok := okOf ms) i
      refine ⟨_, rfl, _, rfl, th, _, rfl, DGet.k (k := .inl (i : Int)) (s5 _ _ hth), _, rfl, ?_⟩
      have hoi := hok (i : Int) (by omega) (by omega)
      have skip : ¬ left (nbr ts) n (okOf ms) i (i : Int) → (∀ p : Int, p ∈ sl ↔ ∃ L ∈ partsTo (nbr ts) n (okOf ms) (i + 1), p ∈ L) ∧ sl.length ≤ (i + 1) * n ∧
          RowsAt H3 H5 F (partsTo (nbr ts) n (okOf ms) (i + 1)).length (prow ts n ms (i + 1)) fs := fun no => by
        have e := parts_no no
        refine ⟨fun p => ?_, ?_, ?_⟩
        · rw [e]; exact mem p
        · rw [Nat.succ_mul]; omega
        · unfold prow; rw [e]; exact RF
      cases ho : (valV (mk (thr ms n)) (Sum.inl (i : Int) : L2.Key)).isSome with
      | false =>
        refine iteF ?_
        obtain ⟨e4, e5, e6⟩ := skip fun z => by
          rw [hoi.mpr z.1] at ho; cases ho
        exact ⟨_, _, sl, fs, rfl, s5, hM5, e4, e5, e6⟩
      | true =>
        refine iteT ⟨_, rfl, _, rfl, M, _, rfl, DGet.k (k := .inl (i : Int)) hM5, _, rfl, ?_⟩
        rw [mk_val]
        by_cases cs : (i : Int) ∈ sl
        · rw [decide_eq_true cs]
          refine iteF ?_
          obtain ⟨e4, e5, e6⟩ := skip fun z => by
            obtain ⟨L, hL, hm⟩ := (mem _).mp cs
            exact z.2 L hL hm
          exact ⟨_, _, sl, fs, rfl, s5, hM5, e4, e5, e6⟩
        · rw [decide_eq_false cs]
          have yes : left (nbr ts) n (okOf ms) i (i : Int) := ⟨hoi.mp ho, fun L hL hm => cs ((mem _).mpr ⟨L, hL, hm⟩)⟩
          refine iteT ⟨_, rfl, .inl ⟨rfl, _, SqL.of RF.at_⟩, _, rfl, _, rfl, _, rfl, nl, th, n, ts, (i : Int), rs, mk (thr ms n), okOf ms, rfl, n40, tie, by omega, by omega, s5 _ _ (s3 _ _ hnl), lrs, fun j r hj => s5 _ _ (s3 _ _ (hrow j r hj)), s5 _ _ hth, hok, fun ns r H6 upn memn hr0 s6 hr6 => ?_⟩
          have eL : ns = partOf (nbr ts) n (okOf ms) (i : Int) := up_one upn (partOf_up _ _ _ _) fun p => by
            rw [memn p, partOf_mem hb (by omega) (by omega)]
          rw [eL] at hr6
          have lenL := partOf_len (nbr ts) n (okOf ms) (i : Int)
          have eP := parts_yes yes
          generalize partOf (nbr ts) n (okOf ms) (i : Int) = L at hr6 lenL eP
          clear memn upn eL ns
          have nrM : r ≠ M := fun z => by rw [z, hM5] at hr0; cases hr0
          have nrF : r ≠ F := fun z => by rw [z, RF.at_] at hr0; cases hr0
          have hrH : H3 r = none := s5.free hr0
          have nrR : r ∉ fs := fun z => by
            obtain ⟨j, hj⟩ := List.getElem?_of_mem z
            have h1 := RF.row j r hj
            rw [hr0] at h1; cases h1
          have nMR : M ∉ fs := fun z => by
            obtain ⟨j, hj⟩ := List.getElem?_of_mem z
            have h1 := RF.row j M hj
            rw [hM5] at h1; cases h1
          have RF6 := RF.keep s6
          refine ⟨F, _, _, rfl, rfl, RF6.at_, by rw [List.length_map, RF6.len, sizeLine_eq]; omega, ?_⟩
          have R7 := RF6.snoc (g := prow ts n ms (i + 1)) hr6 hrH nrF nrR (fun j hj => by unfold prow; rw [eP, List.getD_eq_getElem?_getD, List.getD_eq_getElem?_getD, List.getElem?_append_left hj]) (by unfold prow; rw [eP, List.getD_eq_getElem?_getD, List.getElem?_append_right (Nat.le_refl _), Nat.sub_self]; rfl)
          have elen : (partsTo (nbr ts) n (okOf ms) i).length + 1 = (partsTo (nbr ts) n (okOf ms) (i + 1)).length := by rw [eP, List.length_append]; rfl
          rw [elen, List.map_append] at R7
          have s7 : Same H3 (upd H6 F (.lst (fs.map V.ref ++ [V.ref r]))) := Same.mut (Same.trans s5 s6) hF3
          have hM7 : upd H6 F (.lst (fs.map V.ref ++ [V.ref r])) M = some (.dK (mk sl)) := by rw [upd_ne nFM.symm]; exact s6 _ _ hM5
          have hr7 : upd H6 F (.lst (fs.map V.ref ++ [V.ref r])) r = some (.lst (L.map V.int)) := by rw [upd_ne nrF]; exact hr6
          have hF7 : upd H6 F (.lst (fs.map V.ref ++ [V.ref r])) F = some (.lst (fs.map V.ref ++ [V.ref r])) := upd_same
          have R7' : RowsAt H3 (upd H6 F (.lst (fs.map V.ref ++ [V.ref r]))) F (partsTo (nbr ts) n (okOf ms) (i + 1)).length (prow ts n ms (i + 1)) (fs ++ [r]) := R7
          generalize upd H6 F (.lst (fs.map V.ref ++ [V.ref r])) = H7 at s7 hM7 hr7 hF7 R7' ⊢
          clear R7
          have nMR' : M ∉ fs ++ [r] := fun z => by
            rcases List.mem_append.mp z with z | z
            · exact nMR z
            · exact nrM (List.mem_singleton.mp z).symm
          refine ⟨_, rfl, _, rfl, F, _, _, _, rfl, rfl, SqL.of hF7, atI_last, r, rfl, ⟨_, SqL.of hr7⟩, for_list (K := K) (a := r) (xs := L.map V.int) (fun j σ H' => ∃ v8 sl', σ = [some (V.int n), some (.ref l), some (.ref t), some (.ref nl), some (.int (i : Int)), some (.ref th), some (.ref F), some (.ref M), v8] ∧ Same H3 H' ∧ H' M = some (.dK (mk sl')) ∧ (∀ p : Int, p ∈ sl' ↔ p ∈ sl ∨ p ∈ L.take j) ∧ sl'.length ≤ i * n + j ∧ H' r = some (.lst (L.map V.int)) ∧
              RowsAt H3 H' F (partsTo (nbr ts) n (okOf ms) (i + 1)).length (prow ts n ms (i + 1)) (fs ++ [r]))
            ⟨v8, sl, rfl, s7, hM7, fun p => by rw [List.take_zero]; exact ⟨.inl, fun z => z.elim id fun z => by cases z⟩, lsl, hr7, R7'⟩ (fun j σ H' _ ⟨_, _, _, _, _, _, _, e, _⟩ => SqL.of e) ?_ ?_⟩
          · rintro j v σ H8 hj ⟨v8, sl', rfl, s8, hM8, mem8, lsl8, hr8, R8⟩
            rw [List.getElem?_map] at hj
            obtain ⟨k, hk, rfl⟩ := Option.map_eq_some_iff.mp hj
            have tk : L.take (j + 1) = L.take j ++ [k] := by rw [List.take_succ, hk]; rfl
            have jl := (List.getElem?_eq_some_iff.mp hk).1
            have sz : sl'.length < 2000 := by
              have h1 : i * n ≤ 40 * 40 := Nat.mul_le_mul (by omega) n40
              omega
            obtain ⟨sl2, e1, e2, e3⟩ := mk_put' sl' k
            refine ⟨_, rfl, _, rfl, M, _, rfl, DPut.k (k := .inl k) hM8 (by rw [mk_len, sizeLine_eq]; omega), ?_⟩
            rw [e1]
            refine ⟨_, sl2, rfl, Same.mut s8 hM3, upd_same, fun p => ?_, by omega, by rw [upd_ne nrM]; exact hr8, R8.other nMR' nFM.symm⟩
            rw [e2 p, mem8 p, tk, List.mem_append, List.mem_singleton, or_assoc]
          · rintro σ H8 ⟨v8, sl', rfl, s8, hM8, mem8, lsl8, hr8, R8⟩
            rw [List.length_map] at lsl8
            rw [List.length_map, List.take_length] at mem8
            refine ⟨_, _, sl', fs ++ [r], rfl, s8, hM8, fun p => ?_, by rw [Nat.succ_mul]; omega, R8⟩
            rw [mem8 p, mem p, eP]
            constructor
            · rintro (⟨L', h1, h2⟩ | h)
              · exact ⟨L', List.mem_append_left _ h1, h2⟩
              · exact ⟨L, List.mem_append_right _ (List.mem_singleton.mpr rfl), h⟩
            · rintro ⟨L', h1, h2⟩
              rcases List.mem_append.mp h1 with z | z
              · exact .inl ⟨L', z, h2⟩
              · rw [List.mem_singleton] at z; subst z; exact .inr h2
    · rintro σ H5 ⟨v4, v8, sl, fs, rfl, s5, hM5, mem, lsl, RF⟩
      exact ⟨_, rfl, q F fs H5 (Same.trans s13 s5) (RF.old s13)⟩
end
end Od

namespace Od
open PySem PySem.Spec PyProof.Rows L2
/-! ### the law's look at a fence -/
theorem rch_rc {nb : Int → List Int} {ok : Int → Prop} {a p : Int} : Rch nb ok a p ↔ Ge.Rc nb ok a p := by
  constructor
  · intro h
    induction h with
    | base => exact .base
    | step _ m o ih => exact .step ih m o
  · intro h
    induction h with
    | base => exact .base
    | step _ m o ih => exact .step ih m o
theorem partsTo_sub {nb : Int → List Int} {ok : Int → Prop} {n i : Nat} {L : List Int} : ∀ {j : Nat}, i ≤ j → L ∈ partsTo nb n ok i → L ∈ partsTo nb n ok j
  | 0, h, hL => by
    obtain rfl : i = 0 := by omega
    exact hL
  | j + 1, h, hL => by
    by_cases e : i = j + 1
    · rw [← e]; exact hL
    · have := partsTo_sub (j := j) (by omega) hL
      unfold partsTo
      split
      · exact List.mem_append_left _ this
      · exact this
theorem partsTo_all {nb : Int → List Int} {ok : Int → Prop} {n : Nat} (hb : ∀ {k q : Int}, q ∈ nb k → 0 ≤ q ∧ q < (n : Int)) {p : Int} (h0 : 0 ≤ p) (h1 : p < (n : Int)) (ho : ok p) : ∃ L ∈ partsTo nb n ok n, p ∈ L := by
  obtain ⟨i, rfl⟩ : ∃ i : Nat, p = (i : Int) := ⟨p.toNat, by omega⟩
  have key : ∃ L ∈ partsTo nb n ok (i + 1), (i : Int) ∈ L := by
    by_cases c : ok (i : Int) ∧ ∀ L ∈ partsTo nb n ok i, (i : Int) ∉ L
    · rw [parts_yes c]
      exact ⟨_, List.mem_append_right _ (List.mem_singleton.mpr rfl), (partOf_mem hb h0 h1).mpr .base⟩
    · have : ∃ L ∈ partsTo nb n ok i, (i : Int) ∈ L := by
        apply Classical.byContradiction
        intro z
        exact c ⟨ho, fun L hL hm => z ⟨L, hL, hm⟩⟩
      obtain ⟨L, hL, hm⟩ := this
      exact ⟨L, partsTo_sub (by omega) hL, hm⟩
  obtain ⟨L, hL, hm⟩ := key
  exact ⟨L, partsTo_sub (by omega) hL, hm⟩
theorem partsTo_nd {nb : Int → List Int} {ok : Int → Prop} {n : Nat} (hb : ∀ {k q : Int}, q ∈ nb k → 0 ≤ q ∧ q < (n : Int)) : ∀ i : Nat, i ≤ n → (partsTo nb n ok i).Nodup
  | 0, _ => List.nodup_nil
  | i + 1, h => by
    have ih := partsTo_nd (nb := nb) (ok := ok) hb i (by omega)
    unfold partsTo
    split
    · rename_i c
      refine List.nodup_append.mpr ⟨ih, List.pairwise_singleton _ _, fun L hL L' hL' e => ?_⟩
      rw [List.mem_singleton] at hL'
      subst e
      have := c.2 _ hL
      rw [hL'] at this
      exact this ((partOf_mem hb (by omega) (by omega)).mpr .base)
    · exact ih
theorem pts_of {nb : Int → List Int} {ok : Int → Prop} {n : Nat} (hb : ∀ {k q : Int}, q ∈ nb k → 0 ≤ q ∧ q < (n : Int)) : Ge.Pts n nb ok (partsTo nb n ok n) ∧ ∀ L ∈ partsTo nb n ok n, ∀ L' ∈ partsTo nb n ok n, (∀ q, q ∈ L ↔ q ∈ L') → L = L' := by
  refine ⟨⟨fun L hL => ?_, fun p h0 h1 ho => partsTo_all hb h0 h1 ho, partsTo_nd hb n (Nat.le_refl _)⟩, fun L hL L' hL' h => ?_⟩
  · obtain ⟨b, hbn, ob, rfl⟩ := partsTo_is hL
    have h0 : (0 : Int) ≤ (b : Int) := by omega
    have h1 : (b : Int) < (n : Int) := by omega
    exact ⟨(partOf_up _ _ _ _).imp fun h e => by omega, (b : Int), (partOf_mem hb h0 h1).mpr .base, ⟨h0, h1⟩, ob, fun p => (partOf_mem hb h0 h1).trans rch_rc⟩
  · obtain ⟨b, _, _, rfl⟩ := partsTo_is hL
    obtain ⟨b', _, _, rfl⟩ := partsTo_is hL'
    exact up_one (partOf_up _ _ _ _) (partOf_up _ _ _ _) h
theorem fence_ok {n : Nat} {ts : List Pr} {E : Int → Prop} {F : List Int} (tie : ∀ p ∈ ts, Tie (n : Int) p) (h : IsFence n ts E F) : okOf F = fun y => ¬ Ge.Bes (nbr ts) E y := funext fun y => propext (by
  unfold okOf
  constructor
  · intro z b
    obtain ⟨_, u, _, hu⟩ := id b
    exact z ((h.2 y).mpr ⟨nbr_rng tie hu, b⟩)
  · intro z m
    exact z ((h.2 y).mp m).2)
/-- as many odd parts as the fence has places, and places are alone -/
theorem fence_count {n : Nat} {ts qs : List Pr} {E : Int → Prop} {F : List Int} (g : Pg n ts qs) (B : Ge.Big n (nbr ts) (mo qs) E) (h : IsFence n ts E F) :
    ((partsTo (nbr ts) n (okOf F) n).filter fun L => decide (L.length % 2 = 1)).length + 2 * qs.length = n + F.length := by
  have hn : ∀ {p q : Int}, q ∈ nbr ts p → 0 ≤ q ∧ q < (n : Int) := nbr_rg g.tie
  have G := gr_nbr g.tie
  obtain ⟨P1, P2⟩ := pts_of (ok := okOf F) hn
  rw [fence_ok g.tie h] at P1 P2 ⊢
  have c1 := Ge.Big.odd_parts (nb := nbr ts) G g.mt hn B P1 P2
  have c2 := Ge.Big.count (nb := nbr ts) G g.mt hn B
  have c3 := g.count
  have nF : F.Nodup := h.1.imp fun h e => by omega
  have l1 : F.length ≤ (Ge.Ol n (nbr ts) E).length := Ge.sub_len nF fun v hv => by
    obtain ⟨r, b⟩ := (h.2 v).mp hv
    exact Ge.pl_mem.mpr ⟨r, b⟩
  have l2 : (Ge.Ol n (nbr ts) E).length ≤ F.length := Ge.sub_len Ge.pl_nd fun v hv => by
    obtain ⟨r, b⟩ := Ge.pl_mem.mp hv
    exact (h.2 v).mpr ⟨r, b⟩
  have c4 : (Ge.Ol n (nbr ts) E).length = F.length := Nat.le_antisymm l2 l1
  rw [c1, c2, c4]
  omega
theorem fence_few {n : Nat} {ts : List Pr} {E : Int → Prop} {F : List Int} (h : IsFence n ts E F) : F.length ≤ n := int_few (fun q hq => ((h.2 q).mp hq).1) (h.1.imp fun h e => by omega)
def spFenced : Sp := fun vs H Q _ => ∃ (n : Nat) (l r : Addr) (k : Int) (us : List V) (tu ts qs : List Pr) (E : Int → Prop) (F : List Int), vs = [.int n, .ref l, .ref r, .int k] ∧ 1 ≤ n ∧ n ≤ 40 ∧ H l = some (.lst us) ∧ Prs H us tu ∧ tu.Perm ts ∧ ts.Pairwise plt ∧ H r = some (.lst (F.map V.int)) ∧ IsFence n ts E F ∧ Pg n ts qs ∧ Ge.Big n (nbr ts) (mo qs) E ∧ k + 2 * (qs.length : Int) = n ∧
  ∀ H', Same H H' → Q (.bl true) H'
section
variable {P : Program} {w : World} {K : PySem.W.Frag} {mg : Str → Option Value} {c : Cs} {base : Heap}
theorem ok_fenced (T : Top K mg c) : Fd.Has P w K mg base CX0 3 "_law_fenced" ["_law_size", "_law_ties", "_law_row", "_law_many"] spFenced := by
  have G__law_whole : Fd.Has P w K mg base CX0 1 "_law_whole" ["_law_found"] spWhole := ok_whole T
  have G__law_parts : Fd.Has P w K mg base CX0 2 "_law_parts" ["_law_size", "_law_ties", "_law_taken"] spPartsL := ok_partsL T
  refine T.d__law_fenced.ok sc__law_fenced (fun vs H Q E h => ?_) (fun f cdv A outer s H vs Q E hr h => ?_)
  · obtain ⟨n, l, r, k, us, tu, ts, qs, E, F, rfl, _⟩ := h; rfl
  · obtain ⟨n, l, r, k, us, tu, ts, qs, E, F, rfl, n1, n40, hl, pl, pmU, up, hF, fe, g, B, hk, q⟩ := h
    have hr__law_whole := hr.mono (show 1 ≤ 2 by decide)
    have hr__law_parts := hr
    have lF := fence_few fe
    have lFm : (F.map V.int).length = F.length := List.length_map _
    have fewt := few_ties (n := (n : Int)) (by omega) g.tie (plt_nodup up)
    refine ⟨_, (pss_cons (ps_if (PW.pt (pw_or (pt_not (pt_val (pe_callB (r := rIsi K) call_isi (by rfl) T.n_isinstance boot_isinstance (pa_cons (pv 2) (pa_cons (pe_bltn (v := .ty "list") (by rfl) T.n_list boot_list rfl) pa_nil))))) (pw_or1 (pt_not (pt_val (pe_callB (cr_all rfl) (by rfl) T.n_all boot_all (pa_cons (pe_lc (own := [("_law_place", 6)]) (g := gName 6) rfl sc__law_fenced.nd (pi_list (pv 2)) (blkOk_by (own := [("_law_place", 6)]) (N := N__law_fenced) (sc := defScope S__law_fenced) (by decide +kernel)) (fun _ _ _ _ _ => pg_name (i := 6) sc__law_fenced.nd rfl (Or.inl rfl)) (fun _ _ _ _ _ => pts_nil) (fun _ _ _ _ _ => (Fd.pe_f G__law_whole hr__law_whole (by rfl) (pa_cons (pv 6) pa_nil)))) pa_nil)))))))
      (pss_one (ps_ret pe_bl))
      pss_nil)
      (pss_cons (ps_if (PW.pt (pw_or (pt_cmpR (op_neD hr.units) (pv 2) (pe_callB (cr_sortedSet rfl) (by rfl) T.n_sorted boot_sorted (pa_cons (pe_callTy (Ls.cr_setL rfl) (by rfl) T.n_set boot_set (pa_cons (pv 2) pa_nil)) pa_nil)) (nomark _)) (pw_or1 (PW.pt (pw_and (pt_cmpR (op_neD hr.units) (pv 2) (pe_lst pa_nil) (nomark _)) (pw_and1 (PW.pt (pw_or (pt_cmpR op_lt (pe_ix ix_list (pv 2) pe_int (fun _ _ => rfl)) pe_int (nomark _)) (pw_or1 (pt_cmpR op_ge (pe_ix ix_list (pv 2) (pe_un un_neg pe_int) (fun _ _ => rfl)) (pv 0) (nomark _)))))))))))
      (pss_one (ps_ret pe_bl))
      pss_nil)
      (pss_cons (ps_setLc (i := 4) (own := [("_law_part_here", 5)]) (g := gName 5) rfl sc__law_fenced.nd rfl rfl (sw_true rfl rfl rfl (by decide +kernel)) (pi_list (Fd.pe_f G__law_parts hr__law_parts (by rfl) (pa_cons (pv 0) (pa_cons (pv 1) (pa_cons (pv 2) pa_nil))))) (blkOk_by (own := [("_law_part_here", 5)]) (N := N__law_fenced) (sc := defScope S__law_fenced) (by decide +kernel)) (fun _ _ _ _ _ => pg_name (i := 5) sc__law_fenced.nd rfl (Or.inl rfl)) (fun _ _ _ _ _ => (pts_one (pt_cmpR op_eq (pe_op op_mod (pe_callB (r := Sd.rLen K) call_len_seq (by rfl) T.n_len boot_len (pa_cons (pv 5) pa_nil)) pe_int) pe_int (nomark _)))) (fun _ _ _ _ _ => (pv 5)))
      (pss_one (ps_ret (pe_cmpR op_eq (pv 3) (pe_op op_sub (pe_callB call_len_seq (by rfl) T.n_len boot_len (pa_cons (pv 4) pa_nil)) (pe_callB call_len_seq (by rfl) T.n_len boot_len (pa_cons (pv 2) pa_nil))) (nomark _))))))), ?_⟩
    dsimp only [cxOf, Cx.nox]
    -- a list of whole numbers
    refine tsq (if_no (R := Same H) (fun Q' hq => ?_) fun H1 s1 => ?_)
    · refine ⟨_, rfl, _, _, _, _, _, rfl, ClsV.ty _, (Kd.lst hF).tyx, kit_ty (kit_list _), _, rfl, ?_⟩
      rw [decide_eq_true rfl]
      refine iteF ⟨_, rfl, r, rfl, ⟨_, SqL.of hF⟩, fun D hD => ?_⟩
      refine lc_list (xs := F.map V.int) (fun j Hc => Same H Hc ∧ Hc D = some (.lst ((List.replicate j true).map V.bl))) ⟨Same.new hD, upd_same⟩ (fun j Hc _ e => SqL.of (e.1 _ _ hF)) ?_ ?_
      · rintro j y Hc hj ⟨s7, hDc⟩
        have jl := (List.getElem?_eq_some_iff.mp hj).1
        rw [List.getElem?_map] at hj
        obtain ⟨z, _, rfl⟩ := Option.map_eq_some_iff.mp hj
        refine ⟨rfl, tyes (iteT ?_)⟩
        refine ⟨_, rfl, V.int z, _, rfl, .int _, _, hDc, by rw [List.length_map, List.length_replicate, sizeLine_eq]; omega, Same.mut s7 hD, ?_⟩
        rw [upd_same, List.replicate_succ', List.map_append]; rfl
      · rintro Hc ⟨s7, hDc⟩
        refine ⟨D, _, rfl, SqL.of hDc, _, rfl, ?_⟩
        rw [all_rep]
        exact hq _ s7
    have hF1 := s1 _ _ hF
    -- rising, within the net
    refine tnx ?_
    dsimp only
    refine tsq (if_no (R := Same H1) (fun Q' hq => ?_) fun H2 s2 => ?_)
    · refine ⟨_, rfl, _, rfl, r, F, rfl, SqL.of hF1, by omega, fun p cc hp hc => ?_⟩
      have b1 := Same.new (o := SetO w p (fun j => decide (j ∈ F)) cc) hp
      refine ⟨p, _, cc, rfl, upd_same, by omega, fun ns p2 upn mem ln hp2 => ?_⟩
      have e : ns = F := up_one upn fe.1 fun x => by rw [mem x, decide_eq_true_eq]
      subst e
      have b2 := Same.new (o := .lst (ns.map V.int)) hp2
      have b12 := Same.trans b1 b2
      refine ⟨dIs ns, dIs ns, dp_ints (SqL.of (b12 _ _ hF1)), dp_ints (SqL.of upd_same), shaped_dIs _, shaped_dIs _, _, rfl, ?_⟩
      rw [eqv_dIs, decide_eq_true rfl]
      refine iteF ⟨_, rfl, Nat.zero_le _, fun p3 hp3 => ?_⟩
      have b3 := Same.new (o := .lst []) hp3
      have b13 := Same.trans b12 b3
      have hF3 := b13 _ _ hF1
      refine ⟨dIs ns, dIs [], dp_ints (SqL.of hF3), dp_ints (SqL.of upd_same), shaped_dIs _, shaped_dIs _, _, rfl, ?_⟩
      rw [eqv_dIs]
      by_cases ce : ns = []
      · rw [decide_eq_true ce]
        exact iteF (hq _ b13)
      · rw [decide_eq_false ce]
        have pos : 0 < ns.length := List.length_pos_iff.mpr ce
        obtain ⟨a0, h0⟩ : ∃ a, ns[0]? = some a := ⟨_, List.getElem?_eq_getElem (by omega)⟩
        obtain ⟨a9, h9⟩ : ∃ a, ns[ns.length - 1]? = some a := ⟨_, List.getElem?_eq_getElem (by omega)⟩
        have r0 := ((fe.2 a0).mp (List.mem_of_getElem? h0)).1
        have r9 := ((fe.2 a9).mp (List.mem_of_getElem? h9)).1
        have at9 : atI (ns.map V.int) (-1) = some (V.int a9) := by
          unfold atI ixN
          rw [List.length_map, if_neg (by decide), if_pos (by omega)]
          rw [show (-1 + ((ns.length : Nat) : Int)).toNat = ns.length - 1 by omega]
          show (ns.map V.int)[ns.length - 1]? = _
          rw [List.getElem?_map, h9]; rfl
        refine iteT ⟨_, rfl, r, _, (0 : Int), V.int a0, rfl, rfl, SqL.of hF3, atI_nat (j := 0) (by rw [List.getElem?_map, h0]; rfl), _, _, rfl, rfl, _, rfl, ?_⟩
        rw [decide_eq_false (show ¬ a0 < 0 by omega)]
        refine iteF ⟨_, rfl, _, rfl, r, _, (-1 : Int), V.int a9, rfl, rfl, SqL.of hF3, at9, _, rfl, _, _, rfl, rfl, _, rfl, ?_⟩
        rw [decide_eq_false (show ¬ (n : Int) ≤ a9 by omega)]
        exact hq _ b13
    have s02 := Same.trans s1 s2
    have hF2 := s2 _ _ hF1
    -- the odd parts
    refine tnx ?_
    dsimp only
    refine ⟨_, rfl, _, rfl, _, rfl, n, l, r, us, tu, ts, F, rfl, n1, n40, s02 _ _ hl, pl.ex s02, pmU, g.tie, up, by omega, hF2, fun p rs H3 s3 R => ?_⟩
    have s03 := Same.trans s02 s3
    have cnt := fence_count g B fe
    have lP := partsTo_len (nb := nbr ts) (ok := okOf F) (n := n) n
    have prowAt : ∀ j, j < (partsTo (nbr ts) n (okOf F) n).length → (partsTo (nbr ts) n (okOf F) n)[j]? = some (prow ts n F n j) := fun j hj => by
      unfold prow
      rw [List.getD_eq_getElem?_getD, List.getElem?_eq_getElem hj]; rfl
    generalize partsTo (nbr ts) n (okOf F) n = PP at R cnt lP prowAt
    refine ⟨p, rfl, ⟨_, SqL.of R.at_⟩, fun D hD => ?_⟩
    refine lc_list (xs := rs.map V.ref) (fun j Hc => ∃ vs : List V, Same H3 Hc ∧ Hc D = some (.lst vs) ∧ vs.length = ((PP.take j).filter fun L => decide (L.length % 2 = 1)).length) ⟨[], Same.new hD, upd_same, by rw [List.take_zero]; rfl⟩ (fun j Hc _ ⟨_, e, _⟩ => SqL.of (e _ _ R.at_)) ?_ ?_
    · rintro j y Hc hj ⟨vs, s4, hDc, lv⟩
      rw [List.getElem?_map] at hj
      obtain ⟨b, hb, rfl⟩ := Option.map_eq_some_iff.mp hj
      have jl := (List.getElem?_eq_some_iff.mp hb).1
      rw [R.len] at jl
      have pj := prowAt j jl
      have row := s4 _ _ (R.row j b hb)
      have tk : PP.take (j + 1) = PP.take j ++ [prow ts n F n j] := by rw [List.take_succ, pj]; rfl
      have lv2 : vs.length ≤ 40 := by
        rw [lv]
        refine Nat.le_trans (List.length_filter_le _ _) ?_
        rw [List.length_take]; omega
      refine ⟨rfl, _, rfl, b, _, rfl, .inl (SqL.of row), _, _, rfl, rfl, (by show (0 : Int) < 2; decide), rfl, _, rfl, ?_⟩
      rw [vint, List.length_map]
      by_cases co : (prow ts n F n j).length % 2 = 1
      · rw [decide_eq_true (by omega)]
        refine iteT ⟨_, rfl, vs, hDc, by rw [sizeLine_eq]; omega, vs ++ [.ref b], Same.mut s4 hD, upd_same, ?_⟩
        rw [tk, List.filter_append, List.length_append, List.length_append, lv, List.filter_cons, if_pos (decide_eq_true co)]; rfl
      · rw [decide_eq_false (by omega)]
        refine iteF ⟨vs, s4, hDc, ?_⟩
        rw [tk, List.filter_append, List.length_append, lv, List.filter_cons, if_neg (by rw [decide_eq_true_eq]; exact co)]; rfl
    · rintro Hc ⟨vs, s4, hDc, lv⟩
      rw [List.length_map, R.len, List.take_length] at lv
      have hFc := (Same.trans s3 s4) _ _ hF2
      refine ⟨_, rfl, _, rfl, D, vs, rfl, .inl (SqL.of hDc), _, rfl, r, _, rfl, .inl (SqL.of hFc), _, _, rfl, rfl, rfl, ?_⟩
      rw [vint, lFm, decide_eq_true (by omega)]
      exact q Hc (Same.trans s03 s4)
end
end Od

namespace Od
open PySem PySem.Spec PyProof.Rows L2
theorem Pg.tsPerm {n : Nat} {ts tu qs : List Pr} (g : Pg n ts qs) (h : tu.Perm ts) : Pg n tu qs := ⟨fun p hp => g.tie p (h.mem_iff.mp hp), fun p hp => h.mem_iff.mpr (g.sub p hp), g.nd⟩
def spStands (c : Cs) : Sp := fun vs H Q _ => ∃ (k l : Addr) (n : Nat) (us : List V) (tu ts qs : List Pr), vs = [.ref k, .int n, .ref l] ∧ KeptAt c H k n ts qs ∧ H l = some (.lst us) ∧ Prs H us tu ∧ tu.Perm ts ∧ ∀ H', Same H H' → Q (.int (qs.length : Nat)) H'
section
variable {P : Program} {w : World} {K : PySem.W.Frag} {mg : Str → Option Value} {c : Cs} {base : Heap}
theorem ok_stands (T : Top K mg c) : Fd.Has P w K mg base CX0 10 "_law_stands" ["_law_kept", "_law_size", "_law_ties"] (spStands c) := by
  have G_Kept_net : Fd.MHas P w K mg base CX0 8 c.Kept "net" ["self"] (spKNet c) := ok_knet T
  have G_Kept_pairs : Fd.MHas P w K mg base CX0 1 c.Kept "pairs" ["self"] (spKPairs c) := ok_kpairs T
  have G_Net_ties : Fd.MHas P w K mg base CX0 1 c.Net "ties" ["self"] (spTies c.Net) := ok_ties T
  have G_Net_beside : Fd.MHas P w K mg base (L2N.CX P w) 3 c.Net "beside" ["self", "place"] (spBeside c.Net c.NoPlace) := ok_beside T
  have G__law_alone : Fd.Has P w K mg base CX0 2 "_law_alone" ["_law_size", "_law_ties", "_law_pairs"] spAloneL := ok_aloneL T
  have G__law_fenced : Fd.Has P w K mg base CX0 3 "_law_fenced" ["_law_size", "_law_ties", "_law_row", "_law_many"] spFenced := ok_fenced T
  have G_fence : Fd.Has P w K mg base CX0 9 "fence" ["net"] (spFence c.Net) := ok_fence T
  refine T.d__law_stands.ok sc__law_stands (fun vs H Q E h => ?_) (fun f cdv A outer s H vs Q E hr h => ?_)
  · obtain ⟨k, l, n, us, tu, ts, qs, rfl, _⟩ := h; rfl
  · obtain ⟨k, l, n, us, tu, ts, qs, rfl, AK, hl, pl, pmU, q⟩ := h
    have hr_Kept_net := hr.mono (show 8 ≤ 9 by decide)
    have hr_Kept_pairs := hr.mono (show 1 ≤ 9 by decide)
    have hr_Net_ties := hr.mono (show 1 ≤ 9 by decide)
    have hr_Net_beside := hr.mono (show 3 ≤ 9 by decide)
    have hr__law_alone := hr.mono (show 2 ≤ 9 by decide)
    have hr__law_fenced := hr.mono (show 3 ≤ 9 by decide)
    have hr_fence := hr
    obtain ⟨dk, xk, p0, uq, hk, NK, _, _⟩ := AK.at_
    have n40 := NK.hi
    have n1 := NK.lo
    have fewt := NK.few
    have G := AK.grt
    have cnt := G.pg.count
    have lus := pl.len
    have ltu := pmU.length_eq
    refine ⟨_, (pss_cons (ps_set (i := 3) sc__law_stands.nd rfl (Or.inl rfl) (Fd.pe_m0 G_Kept_net (pv 0) T.cl_Kept hr_Kept_net))
      (pss_cons (ps_set (i := 4) sc__law_stands.nd rfl (Or.inl rfl) (Fd.pe_m0 G_Kept_pairs (pv 0) T.cl_Kept hr_Kept_pairs))
      (pss_cons (ps_if (PW.pt (pw_or (pt_cmpR op_ne (pe_fld (pv 3) rfl) (pv 1) (nomark _)) (pw_or1 (pt_cmpR (op_neD hr.units) (Fd.pe_m0 G_Net_ties (pv 3) T.cl_Net hr_Net_ties) (pe_callB cr_sortedPO (by rfl) T.n_sorted boot_sorted (pa_cons (pv 2) pa_nil)) (nomark _)))))
      (pss_one (ps_ret pe_non))
      pss_nil)
      (pss_cons (ps_set (i := 5) sc__law_stands.nd rfl (Or.inr rfl) (pe_op op_modN (pe_op op_mul (pe_callB call_len_seq (by rfl) T.n_len boot_len (pa_cons (pv 2) pa_nil)) pe_int) (pv 1)))
      (pss_cons (ps_if (pt_cmpR (op_neD hr.units) (Fd.pe_mN G_Net_beside (pv 3) T.cl_Net hr_Net_beside Fd.pass00 (pa_cons (pv 5) pa_nil)) (pe_callB cr_sortedI (by rfl) T.n_sorted boot_sorted (pa_cons (pe_lc (own := [("_law_tie", 8)]) (g := gName 8) rfl sc__law_stands.nd (pi_list (pv 2)) (blkOk_by (own := [("_law_tie", 8)]) (N := N__law_stands) (sc := defScope S__law_stands) (by decide +kernel)) (fun _ _ _ _ _ => pg_name (i := 8) sc__law_stands.nd rfl (Or.inl rfl)) (fun _ _ _ _ _ => (pts_one (pt_cmpR (r := rIn K false) op_in_seq (pv 5) (pv 8) (by rfl)))) (fun _ _ _ _ _ => (pe_op op_sub (pe_op op_add (pe_ix (r := rIxT K) ix_tup (pv 8) pe_int (fun _ _ => rfl)) (pe_ix (r := rIxT K) ix_tup (pv 8) pe_int (fun _ _ => rfl))) (pv 5)))) pa_nil)) (nomark _))
      (pss_one (ps_ret pe_non))
      pss_nil)
      (pss_cons (ps_set (i := 6) sc__law_stands.nd rfl (Or.inl rfl) (Fd.pe_f G__law_alone hr__law_alone (by rfl) (pa_cons (pv 1) (pa_cons (pv 2) (pa_cons (pv 4) pa_nil)))))
      (pss_cons (ps_if (PW.pt (pw_or (pt_cmpR op_isN (pv 6) pe_non (nomark _)) (pw_or1 (pt_not (pt_val (Fd.pe_f G__law_fenced hr__law_fenced (by rfl) (pa_cons (pv 1) (pa_cons (pv 2) (pa_cons (Fd.pe_f G_fence hr_fence (by rfl) (pa_cons (pv 3) pa_nil)) (pa_cons (pe_callB call_len_seq (by rfl) T.n_len boot_len (pa_cons (pv 6) pa_nil)) pa_nil))))))))))
      (pss_one (ps_ret pe_non))
      pss_nil)
      (pss_cons (ps_set (i := 7) sc__law_stands.nd rfl (Or.inl rfl) (pe_callB call_len_seq (by rfl) T.n_len boot_len (pa_cons (pv 4) pa_nil)))
      (pss_cons (ps_expr (pe_bm PySem.F.plainAttrs_list PySem.F.slot_list_append PySem.F.type_list_append mt_append (pv 4) (pa_cons (pe_tup (pa_cons pe_int (pa_cons pe_int pa_nil))) pa_nil)))
      (pss_cons (ps_expr (pe_bm PySem.F.plainAttrs_list PySem.F.slot_list_append PySem.F.type_list_append mt_append (Fd.pe_m0 G_Net_ties (pv 3) T.cl_Net hr_Net_ties) (pa_cons (pe_tup (pa_cons pe_int (pa_cons pe_int pa_nil))) pa_nil)))
      (pss_one (ps_ret (pv 7))))))))))))), ?_⟩
    refine ⟨_, rfl, k, dk, _, rfl, hk, kf_m_net _ _, k, n, ts, qs, rfl, AK, fun x H1 hx s1 N1 => ?_⟩
    have N := N1.ex newp_same
    refine tnx ?_
    dsimp only
    refine ⟨_, rfl, k, dk, _, rfl, s1 _ _ hk, kf_m_pairs _ _, k, n, ts, qs, rfl, AK.ex s1, fun p uq' hp prq => ?_⟩
    have b2 := Same.new (o := .lst uq') hp
    have e2 : upd H1 p (.lst uq') p = some (.lst uq') := upd_same
    have prq2 := prq.ex b2
    have luq := prq.len
    generalize upd H1 p (.lst uq') = H2 at b2 e2 prq2 ⊢
    have s02 := Same.trans s1 b2
    have N2 := N.ex b2
    have newP : H p = none := s1.free hp
    obtain ⟨dx, lt, ln, us', rs, a1, _⟩ := id N2.at_
    refine tnx ?_
    dsimp only
    refine tsq (if_no (R := Same H2) (fun Q' hq => ?_) fun H3 s3 => ?_)
    · refine ⟨_, rfl, x, c.Net, dx, _, _, rfl, a1, T.cl_Net, T.a_Net_size, nf_size _ _ _, _, rfl, rfl, _, rfl, ?_⟩
      rw [vint, decide_eq_true rfl]
      refine iteF ⟨_, rfl, x, dx, _, rfl, a1, nf_m_ties _ _ _, x, n, ts, rfl, N2, fun p2 u2 hp2 pr2 => ?_⟩
      have b3 := Same.new (o := .lst u2) hp2
      have e3 : upd H2 p2 (.lst u2) p2 = some (.lst u2) := upd_same
      have pr3 := pr2.ex b3
      generalize upd H2 p2 (.lst u2) = H3 at b3 e3 pr3 ⊢
      have s03 := Same.trans s02 b3
      have plU := pl.ex s03
      refine ⟨_, rfl, l, _, prOf H3, rfl, SqL.of (s03 _ _ hl), prs_each plU, fun ys r sd sb hr' => ?_⟩
      obtain ⟨pm2, up2, prz⟩ := srt_prs plU (pmU.nodup_iff.mpr (plt_nodup NK.up)) sd sb
      have e9 : ys.map (prOf H3) = ts := plt_one (pm2.trans pmU) up2 NK.up
      rw [e9] at prz
      have b4 := Same.new (o := .lst ys) hr'
      refine ⟨dPs ts, dPs ts, dp_prs (SqL.of (b4 _ _ e3)) (pr3.ex b4), dp_prs (SqL.of upd_same) (prz.ex b4), shaped_dPs _, shaped_dPs _, _, rfl, ?_⟩
      rw [eqv_dPs, decide_eq_true rfl]
      exact hq _ (Same.trans b3 b4)
    have s03 := Same.trans s02 s3
    refine tnx ?_
    dsimp only
    refine ⟨_, rfl, l, us, rfl, .inl (SqL.of (s03 _ _ hl)), _, _, rfl, rfl, .inr ⟨by decide, by decide⟩, _, rfl, _, _, rfl, rfl, (by show (n : Int) ≠ 0; omega), ?_⟩
    obtain ⟨v, ev, v0, v1⟩ : ∃ v : Int, (((us.length : Nat) : Int) * 7).fmod (n : Int) = v ∧ 0 ≤ v ∧ v < (n : Int) := ⟨_, rfl, Int.fmod_nonneg_of_pos _ (by omega), Int.fmod_lt_of_pos _ (by omega)⟩
    refine tnx ?_
    dsimp only
    rw [ev]
    obtain ⟨vn, rfl⟩ : ∃ vn : Nat, v = (vn : Int) := ⟨v.toNat, by omega⟩
    have N3 := N2.ex s3
    refine tsq (if_no (R := Same H3) (fun Q' hq => ?_) fun H4 s4 => ?_)
    · refine ⟨_, rfl, x, dx, _, rfl, s3 _ _ a1, nf_beside _ _ _, _, rfl, x, n, ts, _, _, rfl, N3, .int _, fun i e hi p2 hp2 => ?_, fun no => ?_⟩
      rotate_left
      · have : isPl (.int (vn : Int)) n = true := decide_eq_true ⟨v0, v1⟩
        rw [no] at this; cases this
      obtain rfl : vn = i := by injection e with e; omega
      have b4 := Same.new (o := .lst ((nbr ts (vn : Int)).map V.int)) hp2
      have e4 : upd H3 p2 (.lst ((nbr ts (vn : Int)).map V.int)) p2 = some (.lst ((nbr ts (vn : Int)).map V.int)) := upd_same
      generalize upd H3 p2 (.lst ((nbr ts (vn : Int)).map V.int)) = H4 at b4 e4 ⊢
      have s04 := Same.trans s03 b4
      refine ⟨_, rfl, l, rfl, ⟨us, SqL.of (s04 _ _ hl)⟩, fun D hD => ?_⟩
      refine lc_list (xs := us) (fun i Hc => Same H4 Hc ∧ Hc D = some (.lst ((nbr (tu.take i) (vn : Int)).map V.int))) ⟨Same.new hD, upd_same⟩ (fun i Hc _ e => SqL.of (e.1 _ _ (s04 _ _ hl))) ?_ ?_
      · rintro i y Hc hi ⟨s5, hDc⟩
        obtain ⟨z, a, hz, rfl, ea⟩ := pl.get hi
        have ea5 := (Same.trans s04 s5) _ _ ea
        have il := (List.getElem?_eq_some_iff.mp hi).1
        have tk : tu.take (i + 1) = tu.take i ++ [z] := by rw [List.take_succ, hz]; rfl
        have lz := (NK.tie z (pmU.mem_iff.mp (List.mem_of_getElem? hz))).2.1
        refine ⟨rfl, _, rfl, _, rfl, a, _, rfl, .inr (SqT.of ea5), rfl, flat_ints [z.1, z.2], _, rfl, ?_⟩
        rw [show [V.int z.1, V.int z.2] = [z.1, z.2].map V.int from rfl, inV_ints, tk, nbr_snoc]
        have small : (nbr (tu.take i) (vn : Int)).length ≤ 1000 := by
          have := nbr_len (vn : Int) (tu.take i) []
          rw [List.length_nil, List.length_take] at this
          unfold nbr; omega
        by_cases cm : (vn : Int) ∈ [z.1, z.2]
        · rw [decide_eq_true cm]
          have ez : nbs (vn : Int) (nbr (tu.take i) (vn : Int)) z = nbr (tu.take i) (vn : Int) ++ [z.1 + z.2 - (vn : Int)] := by
            unfold nbs
            by_cases c1 : z.1 = (vn : Int)
            · rw [if_pos c1, show z.1 + z.2 - (vn : Int) = z.2 by omega]
            · have c2 : z.2 = (vn : Int) := by
                rcases List.mem_cons.mp cm with h | h
                · exact absurd h.symm c1
                · exact (List.mem_singleton.mp h).symm
              rw [if_neg c1, if_pos c2, show z.1 + z.2 - (vn : Int) = z.1 by omega]
          rw [ez]
          refine iteT ⟨_, rfl, a, _, (0 : Int), .int z.1, rfl, rfl, SqT.of ea5, rfl, _, rfl, a, _, (1 : Int), .int z.2, rfl, rfl, SqT.of ea5, rfl, _, _, rfl, rfl, _, rfl, _, _, rfl, rfl, _, hDc, by rw [List.length_map, sizeLine_eq]; omega, Same.mut s5 hD, ?_⟩
          rw [upd_same, List.map_append]; rfl
        · rw [decide_eq_false cm]
          refine iteF ⟨s5, ?_⟩
          have ez : nbs (vn : Int) (nbr (tu.take i) (vn : Int)) z = nbr (tu.take i) (vn : Int) := by
            unfold nbs
            rw [if_neg fun h => cm (by rw [← h]; exact List.mem_cons_self), if_neg fun h => cm (by rw [← h]; exact List.mem_cons_of_mem _ List.mem_cons_self)]
          rw [ez]; exact hDc
      · rintro Hc ⟨s5, hDc⟩
        rw [lus, List.take_length] at hDc
        refine ⟨D, nbr tu (vn : Int), rfl, SqL.of hDc, fun ns r pm up hr' => ?_⟩
        obtain rfl : ns = nbr ts (vn : Int) := sorted_one (pm.trans (nbr_perm pmU _)) up (nbr_up NK.tie NK.up _)
        have b6 := Same.new (o := .lst ((nbr ts (vn : Int)).map V.int)) hr'
        refine ⟨dIs (nbr ts (vn : Int)), dIs (nbr ts (vn : Int)), dp_ints (SqL.of (b6 _ _ (s5 _ _ e4))), dp_ints (SqL.of upd_same), shaped_dIs _, shaped_dIs _, _, rfl, ?_⟩
        rw [eqv_dIs, decide_eq_true rfl]
        exact hq _ (Same.trans (Same.trans b4 s5) b6)
    have s04 := Same.trans s03 s4
    have N4 := N3.ex s4
    have e24 := (Same.trans s3 s4) _ _ e2
    refine tnx ?_
    dsimp only
    refine ⟨_, rfl, _, rfl, _, rfl, n, l, p, us, uq', tu, qs, rfl, n40, s04 _ _ hl, pl.ex s04, e24, prq2.ex (Same.trans s3 s4), G.pg.tsPerm pmU, G.up, fun ls r H5 lsl memL hr5 s5 e5 => ?_⟩
    have s05 := Same.trans s04 s5
    have e25 := s5 _ _ e24
    refine tnx ?_
    dsimp only
    refine tsq (if_no (R := Same H5) (fun Q' hq => ?_) fun H6 s6 => ?_)
    · refine ⟨_, rfl, rfl, _, rfl, iteF ?_⟩
      refine ⟨_, rfl, _, rfl, _, rfl, x, n, ts, rfl, N4.ex s5, fun E F pf H6 fr fe hpf s6 e6 => ?_⟩
      obtain ⟨q0, g0, _, B0⟩ := fr
      have h1 := G.big q0 g0
      have h2 := big_ge g0 B0 G.pg
      refine ⟨_, rfl, r, _, rfl, .inl (SqL.of (s6 _ _ e5)), n, l, pf, _, us, tu, ts, q0, E, F, rfl, n1, n40, (Same.trans s05 s6) _ _ hl, pl.ex (Same.trans s05 s6), pmU, NK.up, e6, fe, g0, B0, ?_, fun H' s' => ⟨_, rfl, hq _ (Same.trans s6 s')⟩⟩
      rw [List.length_map]; omega
    have e26 := s6 _ _ e25
    have s06 := Same.trans s05 s6
    refine tnx ?_
    dsimp only
    refine ⟨_, rfl, p, uq', rfl, .inl (SqL.of e26), ?_⟩
    rw [luq]
    refine tnx ?_
    dsimp only
    refine ⟨_, rfl, .inl ⟨rfl, _, SqL.of e26⟩, (by show 2 ≤ sizeLine; decide), fun t ht => ?_⟩
    have b7 := Same.new (o := .tup [V.int 0, .int 0]) ht
    refine ⟨p, uq', _, rfl, rfl, b7 _ _ e26, by rw [sizeLine_eq]; omega, ?_⟩
    have s08 : Same H (upd (upd H6 t (.tup [V.int 0, .int 0])) p (.lst (uq' ++ [.ref t]))) := Same.mut (Same.trans s06 b7) newP
    have s18 : Same H1 (upd (upd H6 t (.tup [V.int 0, .int 0])) p (.lst (uq' ++ [.ref t]))) := Same.mut (Same.trans (Same.trans (Same.trans (Same.trans b2 (Same.trans s3 s4)) s5) s6) b7) hp
    generalize upd (upd H6 t (.tup [V.int 0, .int 0])) p (.lst (uq' ++ [.ref t])) = H8 at s08 s18 ⊢
    have N8 := N.ex s18
    obtain ⟨dx8, lt8, ln8, us8, rs8, a8, _⟩ := id N8.at_
    refine tnx ?_
    dsimp only
    refine ⟨_, rfl, x, dx8, _, rfl, a8, nf_m_ties _ _ _, x, n, ts, rfl, N8, fun p9 u9 hp9 pr9 => ?_⟩
    have b9 := Same.new (o := .lst u9) hp9
    have lu9 := pr9.len
    refine ⟨.inl ⟨rfl, _, SqL.of upd_same⟩, (by show 2 ≤ sizeLine; decide), fun t2 ht2 => ?_⟩
    have b10 := Same.new (o := .tup [V.int 0, .int 0]) ht2
    refine ⟨p9, u9, _, rfl, rfl, b10 _ _ upd_same, by rw [sizeLine_eq]; omega, ?_⟩
    refine tnx ?_
    dsimp only
    exact ⟨_, rfl, q _ (Same.trans s08 (Same.mut (Same.trans b9 b10) hp9))⟩
end
end Od

namespace Od
open PySem PySem.Spec PyProof.Rows L2
/-! ### the law's state of a Kept -/
abbrev stL (n : Nat) (tl : Addr) (q : Nat) : List V := [.int (n : Int), .ref tl, .int (q : Int)]
structure KS (c : Cs) (H : Hp) (W : List Addr) (k st tl : Addr) (n : Nat) (ts qs : List Pr) : Prop where
  inW : ∀ b ∈ W, ∃ o, H b = some o
  st_ : st ∈ W
  tl_ : tl ∈ W
  kept : KeptAt c (rmL H W) k n ts qs
  sts : H st = some (.lst (stL n tl qs.length))
  tls : ∃ us tu, H tl = some (.lst us) ∧ Prs H us tu ∧ tu.Perm ts
theorem KS.ex {c : Cs} {H H' : Hp} {W : List Addr} {k st tl : Addr} {n : Nat} {ts qs : List Pr} (S : KS c H W k st tl n ts qs) (s : Same H H') : KS c H' W k st tl n ts qs := by
  obtain ⟨us, tu, h1, h2, h3⟩ := S.tls
  exact ⟨inW_ext S.inW s, S.st_, S.tl_, S.kept.ex (rmL_ext s), s _ _ S.sts, us, tu, s _ _ h1, h2.ex s, h3⟩
theorem st_ne {H : Hp} {st tl : Addr} {n q : Nat} {us : List V} {tu : List Pr} (e1 : H st = some (.lst (stL n tl q))) (e2 : H tl = some (.lst us)) (p : Prs H us tu) : st ≠ tl := fun z => by
  subst z
  rw [e1] at e2
  cases e2
  cases p with
  | cons r _ => obtain ⟨a, h, _⟩ := r; cases h
theorem rmL_upd {H : Hp} {W : List Addr} {b : Addr} {o : HO} (m : b ∈ W) : Same (rmL H W) (rmL (upd H b o) W) := fun a x e => by
  obtain ⟨m1, e⟩ := rmL_off e
  have ab : a ≠ b := fun z => m1 (by rw [z]; exact m)
  exact rmL_at (by rw [upd_ne ab]; exact e) m1
theorem Prs.eraseIdx {H : Hp} : ∀ {us : List V} {ts : List Pr} (j : Nat), Prs H us ts → Prs H (us.eraseIdx j) (ts.eraseIdx j)
  | _, _, _, .nil => .nil
  | _, _, 0, .cons _ t => t
  | _, _, j + 1, .cons r t => .cons r (Prs.eraseIdx j t)
theorem place_ex {z : Pr} : ∀ {tu : List Pr}, z ∈ tu → tu.Nodup → ∃ j, SeqAt.dataPlace (tu.map dP) (dP z) = some j ∧ tu.eraseIdx j = lss z tu
  | [], h, _ => by cases h
  | p :: tu, h, nd => by
    rw [List.nodup_cons] at nd
    by_cases e : p = z
    · subst e
      refine ⟨0, ?_, ?_⟩
      · unfold SeqAt.dataPlace
        rw [List.map_cons, List.findIdx?_cons, eqv_dP, decide_eq_true rfl, if_pos rfl]
      · show tu = lss p (p :: tu)
        unfold lss
        rw [List.filter_cons, if_neg (by rw [decide_eq_true_eq]; exact fun z => z rfl)]
        exact (List.filter_eq_self.mpr fun q hq => decide_eq_true (show q ≠ p from fun z => nd.1 (by rw [← z]; exact hq))).symm
    · obtain ⟨j, h1, h2⟩ := place_ex ((List.mem_cons.mp h).resolve_left fun x => e x.symm) nd.2
      refine ⟨j + 1, ?_, ?_⟩
      · unfold SeqAt.dataPlace at h1 ⊢
        rw [List.map_cons, List.findIdx?_cons, eqv_dP, decide_eq_false e, if_neg Bool.false_ne_true, h1]; rfl
      · rw [List.eraseIdx_cons_succ, h2]
        unfold lss
        rw [List.filter_cons, if_pos (decide_eq_true e)]
theorem plain_dP (p : Pr) : (dP p).plain = true ∧ (dP p).depth ≤ 64 := by unfold dP; simp [PyData.plain, PyData.plainAll, PyData.depth, PyData.depthAll]
theorem plain_dPs : ∀ ts : List Pr, PyData.plainAll (ts.map dP) = true
  | [] => by simp [PyData.plainAll]
  | p :: ts => by simp [PyData.plainAll, (plain_dP p).1, plain_dPs ts]
theorem due_three {one other : V} {n : Int} {ts : List Pr} {cut : Bool} {s : Str} (e : dueOf one other n ts cut = s) (ne : s ≠ Str.empty) : SeqAt.shaped (.str s) = true := by
  have h : s = "no place" ∨ s = "no tie" ∨ s = "there" := by
    cases h : twoPl one other n with
    | none => unfold dueOf at e; rw [h] at e; exact .inl e.symm
    | some z =>
      rw [dueOf_some h] at e
      by_cases c1 : decide (z ∈ ts) = cut
      · rw [if_pos c1] at e; exact absurd e.symm ne
      · rw [if_neg c1] at e
        by_cases c2 : cut = true
        · rw [if_pos c2] at e; exact .inr (.inl e.symm)
        · rw [if_neg c2] at e; exact .inr (.inr e.symm)
  rcases h with rfl | rfl | rfl <;> decide +kernel
theorem midN {X : TS} {D : Ends} {σ : St} {H : Hp} (R : St → Hp → Prop) (h : ∀ N : St → Hp → Prop, (∀ σ' H', R σ' H' → N σ' H') → X { D with nx := N } σ H) (k : ∀ σ' H', R σ' H' → D.nx σ' H') : X D σ H := h D.nx k
def spGoes (c : Cs) : Sp := fun vs H Q _ => ∃ (W : List Addr) (k st tl : Addr) (n : Nat) (ts qs : List Pr) (cut : Bool) (one other : V) (t1 t2 : Ty), vs = [.ref k, .ref st, .bl cut, one, other] ∧ KS c H W k st tl n ts qs ∧ Kd H one t1 ∧ Kd H other t2 ∧
  ∀ ts' qs' H', Same (rmL H [k, st, tl]) H' → KS c H' W k st tl n ts' qs' → Q (.bl true) H'
section
variable {P : Program} {w : World} {K : PySem.W.Frag} {mg : Str → Option Value} {c : Cs} {base : Heap}
theorem ok_goes (T : Top K mg c) : Fd.Has P w K mg base CX0 11 "_law_goes" ["_law_kept", "_law_state", "_law_is_cut", "_law_one", "_law_other"] (spGoes c) := by
  have G__law_due : Fd.Has P w K mg base CX0 2 "_law_due" ["_law_size", "_law_ties", "_law_is_cut", "_law_one", "_law_other"] spDueL := ok_dueL T
  have G__law_told : Fd.Has P w K mg base CX0 10 "_law_told" ["_law_kept", "_law_is_cut", "_law_one", "_law_other"] (spToldL c) := ok_toldL T
  have G__law_stands : Fd.Has P w K mg base CX0 10 "_law_stands" ["_law_kept", "_law_size", "_law_ties"] (spStands c) := ok_stands T
  have G__law_whole : Fd.Has P w K mg base CX0 1 "_law_whole" ["_law_found"] spWhole := ok_whole T
  refine T.d__law_goes.ok sc__law_goes (fun vs H Q E h => ?_) (fun f cdv A outer s H vs Q E hr h => ?_)
  · obtain ⟨W, k, st, tl, n, ts, qs, cut, one, other, t1, t2, rfl, _⟩ := h; rfl
  · obtain ⟨W, k, st, tl, n, ts, qs, cut, one, other, t1, t2, rfl, S, ka, kb, q⟩ := h
    have hr__law_due := hr.mono (show 2 ≤ 10 by decide)
    have hr__law_told := hr
    have hr__law_stands := hr
    have hr__law_whole := hr.mono (show 1 ≤ 10 by decide)
    obtain ⟨us, tu, hl, pl, pmU⟩ := S.tls
    have hst := S.sts
    have nst := st_ne hst hl pl
    have G := S.kept.grt
    have kW := S.kept.off
    have at0 : atI (stL n tl qs.length) 0 = some (.int (n : Int)) := atI_nat (j := 0) rfl
    have at1 : atI (stL n tl qs.length) 1 = some (.ref tl) := atI_nat (j := 1) rfl
    have at2 : atI (stL n tl qs.length) 2 = some (.int (qs.length : Nat)) := atI_nat (j := 2) rfl
    refine ⟨_, (pss_cons (ps_set (i := 5) sc__law_goes.nd rfl (Or.inl rfl) (Fd.pe_f G__law_due hr__law_due (by rfl) (pa_cons (pe_ix ix_list (pv 1) pe_int (fun _ _ => rfl)) (pa_cons (pe_ix ix_list (pv 1) pe_int (fun _ _ => rfl)) (pa_cons (pv 2) (pa_cons (pv 3) (pa_cons (pv 4) pa_nil)))))))
      (pss_cons (ps_set (i := 6) sc__law_goes.nd rfl (Or.inl rfl) (Fd.pe_f G__law_told hr__law_told (by rfl) (pa_cons (pv 0) (pa_cons (pv 2) (pa_cons (pv 3) (pa_cons (pv 4) pa_nil))))))
      (pss_cons (ps_if (pt_cmpR op_ne (pv 5) pe_str (nomark _))
      (pss_one (ps_ret (pe_and (pe_cmpR (op_eqD hr.units) (pv 6) (pv 5) (nomark _)) (pe_one (pe_cmpR op_eq (Fd.pe_f G__law_stands hr__law_stands (by rfl) (pa_cons (pv 0) (pa_cons (pe_ix ix_list (pv 1) pe_int (fun _ _ => rfl)) (pa_cons (pe_ix ix_list (pv 1) pe_int (fun _ _ => rfl)) pa_nil)))) (pe_ix ix_list (pv 1) pe_int (fun _ _ => rfl)) (nomark _))))))
      pss_nil)
      (pss_cons (ps_set (i := 7) sc__law_goes.nd rfl (Or.inl rfl) (pe_tup (pa_cons (pe_callB (call_min2 rfl) (by rfl) T.n_min boot_min (pa_cons (pv 3) (pa_cons (pv 4) pa_nil))) (pa_cons (pe_callB (call_max2 rfl) (by rfl) T.n_max boot_max (pa_cons (pv 3) (pa_cons (pv 4) pa_nil))) pa_nil))))
      (pss_cons (ps_if (pt_val (pv 2))
      (pss_one (ps_expr (pe_bm PySem.F.plainAttrs_list PySem.F.slot_list_remove PySem.F.type_list_remove (Mu.mt_remD (Sd.u65 hr)) (pe_ix ix_list (pv 1) pe_int (fun _ _ => rfl)) (pa_cons (pv 7) pa_nil))))
      (pss_one (ps_expr (pe_bm PySem.F.plainAttrs_list PySem.F.slot_list_append PySem.F.type_list_append mt_append (pe_ix ix_list (pv 1) pe_int (fun _ _ => rfl)) (pa_cons (pv 7) pa_nil)))))
      (pss_cons (ps_set (i := 8) sc__law_goes.nd rfl (Or.inl rfl) (Fd.pe_f G__law_stands hr__law_stands (by rfl) (pa_cons (pv 0) (pa_cons (pe_ix ix_list (pv 1) pe_int (fun _ _ => rfl)) (pa_cons (pe_ix ix_list (pv 1) pe_int (fun _ _ => rfl)) pa_nil)))))
      (pss_cons (ps_if (PW.pt (pw_or (pt_cmpR op_isN (pv 8) pe_non (nomark _)) (pw_or (pt_not (pt_val (Fd.pe_f G__law_whole hr__law_whole (by rfl) (pa_cons (pv 6) pa_nil)))) (pw_or (pt_cmpR (op_neD hr.units) (pv 6) (pe_op op_sub (pv 8) (pe_ix ix_list (pv 1) pe_int (fun _ _ => rfl))) (nomark _)) (pw_or1 (pt_not (pt_chain op_le op_le (pe_un un_neg pe_int) (pv 6) pe_int)))))))
      (pss_one (ps_ret pe_bl))
      pss_nil)
      (pss_cons (ps_asg (pv 8) (pg_sub (pv 1) pe_int set_list))
      (pss_one (ps_ret pe_bl)))))))))), ?_⟩
    refine ⟨_, rfl, st, _, (0 : Int), _, rfl, rfl, SqL.of hst, at0, _, rfl, st, _, (1 : Int), _, rfl, rfl, SqL.of hst, at1, _, rfl, _, rfl, _, rfl, n, tl, us, tu, ts, cut, one, other, t1, t2, rfl, hl, pl, pmU, ka, kb, fun H1 s1 => ?_⟩
    have S1 := S.ex s1
    have hst1 := s1 _ _ hst
    refine tnx ?_
    dsimp only
    refine ⟨_, rfl, _, rfl, _, rfl, _, rfl, W, k, cut, one, other, t1, t2, n, ts, qs, rfl, S1.inW, S1.kept, ka.ex s1, kb.ex s1, fun s H2 es ne s2 => ?_, fun z ez dz ts' qs' H2 pm up s2 A2 near => ?_⟩
    · -- what is refused
      have S2 := S1.ex s2
      have hst2 := s2 _ _ hst1
      obtain ⟨us2, tu2, hl2, pl2, pm2⟩ := S2.tls
      have sh := due_three es ne
      refine tnx ?_
      dsimp only
      rw [es]
      refine ⟨_, rfl, rfl, _, rfl, ?_⟩
      rw [decide_eq_false (fun z => ne (by injection z))]
      refine iteT ?_
      refine ⟨_, rfl, _, rfl, .str s, .str s, .str _, .str _, sh, sh, _, rfl, ?_⟩
      have eq : PyData.eqv (.str s) (.str s) = true := by simp [PyData.eqv]
      rw [eq]
      refine iteT ?_
      refine ⟨_, rfl, _, rfl, st, _, (0 : Int), _, rfl, rfl, SqL.of hst2, at0, _, rfl, st, _, (1 : Int), _, rfl, rfl, SqL.of hst2, at1, k, tl, n, us2, tu2, ts, qs, rfl, S2.kept.out, hl2, pl2, pm2, fun H3 s3 => ?_⟩
      refine ⟨_, rfl, st, _, (2 : Int), _, rfl, rfl, SqL.of (s3 _ _ hst2), at2, rfl, ?_⟩
      rw [vint, decide_eq_true rfl]
      have s03 := Same.trans (Same.trans s1 s2) s3
      exact q ts qs H3 (rmL_nil s03) (S.ex s03)
    · -- a deed
      have stk : st ≠ k := fun z => kW (z ▸ S.st_)
      have tlk : tl ≠ k := fun z => kW (z ▸ S.tl_)
      obtain ⟨dk, xk, pk, uk, hk', _⟩ := S.kept.at_
      have hk := rmL_same _ _ hk'
      have in1 : ∀ {b : Addr}, b ≠ k → b ∉ [k] := fun {b} h z => h (List.mem_singleton.mp z)
      have hst2 := s2 _ _ (rmL_at hst1 (in1 stk))
      have hl2 := s2 _ _ (rmL_at (s1 _ _ hl) (in1 tlk))
      have pl2 : Prs H2 us tu := pl.tups fun b xs e => s2 _ _ (rmL_at (s1 _ _ e) (in1 (ne_of e hk (fun z => nomatch z))))
      have sB2 : Same (rmL H [k, st, tl]) H2 := fun b o e => by
        obtain ⟨m, e⟩ := rmL_off e
        exact s2 b o (rmL_at (s1 _ _ e) (in1 fun z => m (by rw [z]; exact List.mem_cons_self)))
      have due : dueOf one other n ts cut = Str.empty := by rw [dueOf_some ez, if_pos dz]
      refine tnx ?_
      dsimp only
      rw [due]
      refine ⟨_, rfl, rfl, _, rfl, ?_⟩
      rw [decide_eq_true (show V.str Str.empty = V.str "" from rfl)]
      refine iteF ?_
      refine tnx ?_
      dsimp only
      obtain ⟨i, j, rfl, rfl, _, _, nij, rfl⟩ := twoPl_some ez
      refine ⟨_, rfl, _, rfl, i, j, rfl, _, rfl, _, rfl, i, j, rfl, (by show 2 ≤ sizeLine; decide), fun t ht => ?_⟩
      have b3 := Same.new (o := .tup [V.int (mm i j).1, .int (mm i j).2]) ht
      have e3 : upd H2 t (.tup [V.int (mm i j).1, .int (mm i j).2]) t = some (.tup [.int (mm i j).1, .int (mm i j).2]) := upd_same
      refine tnx ?_
      show tNext _ _ (upd H2 t (.tup [V.int (mm i j).1, .int (mm i j).2]))
      generalize upd H2 t (.tup [V.int (mm i j).1, .int (mm i j).2]) = H3 at b3 e3 ⊢
      have sB3 := Same.trans sB2 b3
      have A3 := A2.ex (rmL_ext b3)
      have hst3 := b3 _ _ hst2
      have hl3 := b3 _ _ hl2
      have pl3 := pl2.ex b3
      have lus := pl.len
      have fewt : ts.length ≤ 800 := by
        obtain ⟨_, x, _, _, _, N, _⟩ := S.kept.at_
        exact N.few
      have ltu := pmU.length_eq
      refine tnx ?_
      dsimp only
      refine tsq (midN (fun σ' H' => σ' = [some (.ref k), some (.ref st), some (.bl cut), some (.int i), some (.int j), some (.str Str.empty), some (.int ((qs'.length : Int) - qs.length)), some (.ref t), none] ∧ Same (rmL H [k, st, tl]) H' ∧ KeptAt c (rmL H' W) k n ts' qs' ∧
        H' st = some (.lst (stL n tl qs.length)) ∧ ∃ us' tu', H' tl = some (.lst us') ∧ Prs H' us' tu' ∧ tu'.Perm ts') (fun Nx hN => ?_) ?_)
      · have tlM : tl ∈ [k, st, tl] := by simp
        have fin : ∀ (us' : List V) (tu' : List Pr), Prs H3 us' tu' → tu'.Perm ts' → Nx [some (.ref k), some (.ref st), some (.bl cut), some (.int i), some (.int j), some (.str Str.empty), some (.int ((qs'.length : Int) - qs.length)), some (.ref t), none] (upd H3 tl (.lst us')) := fun us' tu' pr pm' =>
          hN _ _ ⟨rfl, rmL_mut sB3 tlM, A3.ex (rmL_upd S.tl_), by rw [upd_ne nst]; exact hst3, us', tu', upd_same, pr.tups fun b xs e => by rw [upd_ne (ne_of e hl3 (fun z => nomatch z))]; exact e, pm'⟩
        cases cut with
        | true =>
          have zin : mm i j ∈ tu := pmU.mem_iff.mpr (of_decide_eq_true dz)
          have ndu : tu.Nodup := pmU.nodup_iff.mpr (by
            obtain ⟨_, x, _, _, _, N, _⟩ := S.kept.at_
            exact plt_nodup N.up)
          obtain ⟨jj, hj, ej⟩ := place_ex zin ndu
          have pm' : (tu.eraseIdx jj).Perm ts' := by
            rw [ej]
            have h1 : (lss (mm i j) tu).Perm (lss (mm i j) ts) := pmU.filter _
            exact h1.trans pm.symm
          refine ⟨_, rfl, true, rfl, iteT ?_⟩
          refine ⟨_, rfl, st, _, (1 : Int), _, rfl, rfl, SqL.of hst3, at1, .inl ⟨rfl, _, SqL.of hl3⟩, _, rfl, tl, us, .ref t, dP (mm i j), tu.map dP, jj, rfl, rfl, hl3, dpAll_prs pl3, dp_pr e3, plain_dPs _, (plain_dP _).1, (plain_dP _).2, hj, ?_⟩
          exact fin _ _ (pl3.eraseIdx jj) pm'
        | false =>
          refine ⟨_, rfl, false, rfl, iteF ?_⟩
          refine ⟨_, rfl, st, _, (1 : Int), _, rfl, rfl, SqL.of hst3, at1, .inl ⟨rfl, _, SqL.of hl3⟩, _, rfl, tl, us, .ref t, rfl, rfl, hl3, by rw [sizeLine_eq]; omega, ?_⟩
          exact fin _ _ (pl3.app (.cons ⟨t, rfl, e3⟩ .nil)) ((pmU.append_right _).trans pm.symm)
      rintro σ' H4 ⟨rfl, sB4, A4, hst4, us', tu', hl4, pl4, pm4⟩
      refine tnx ?_
      dsimp only
      refine ⟨_, rfl, _, rfl, st, _, (0 : Int), _, rfl, rfl, SqL.of hst4, at0, _, rfl, st, _, (1 : Int), _, rfl, rfl, SqL.of hst4, at1, k, tl, n, us', tu', ts', qs', rfl, A4.out, hl4, pl4, pm4, fun H5 s5 => ?_⟩
      have sB5 := rmL_up sB4 s5
      have A5 := A4.ex (rmL_ext s5)
      have hst5 := s5 _ _ hst4
      have hl5 := s5 _ _ hl4
      have pl5 := pl4.ex s5
      refine tnx ?_
      dsimp only
      refine tsq (if_no (R := fun Hx => H5 = Hx) (fun Q' hq => ?_) fun H6 s6 => ?_)
      · refine ⟨_, rfl, rfl, _, rfl, iteF ?_⟩
        refine ⟨_, rfl, .int _, _, rfl, .int _, _, rfl, iteF ?_⟩
        refine ⟨_, rfl, _, rfl, _, rfl, st, _, (2 : Int), _, rfl, rfl, SqL.of hst5, at2, _, _, rfl, rfl, .int _, .int _, .int _, .int _, (by show SeqAt.shaped (PyData.int _) = true; unfold SeqAt.shaped; simp [PyData.canLay0, PyData.depth]), (by show SeqAt.shaped (PyData.int _) = true; unfold SeqAt.shaped; simp [PyData.canLay0, PyData.depth]), _, rfl, ?_⟩
        rw [eqv_int, decide_eq_true rfl]
        obtain ⟨n1, n2⟩ := near
        refine iteF ⟨_, rfl, _, rfl, -1, _, rfl, rfl, _, rfl, ?_⟩
        rw [decide_eq_true (show (-1 : Int) ≤ (qs'.length : Int) - qs.length by omega)]
        refine iteT ⟨_, _, rfl, rfl, _, rfl, ?_⟩
        rw [decide_eq_true (show (qs'.length : Int) - qs.length ≤ 1 by omega)]
        exact hq _ rfl
      subst s6
      refine tnx ?_
      dsimp only
      refine ⟨_, rfl, _, rfl, st, _, (2 : Int), 2, rfl, rfl, hst5, rfl, ?_⟩
      refine tnx ?_
      dsimp only
      have stM : st ∈ [k, st, tl] := by simp
      refine q ts' qs' _ (rmL_mut sB5 stM) ⟨fun b m => ?_, S.st_, S.tl_, A5.ex (rmL_upd S.st_), upd_same, us', tu', by rw [upd_ne nst.symm]; exact hl5, pl5.tups fun b xs e => by rw [upd_ne (ne_of e hst5 (fun z => nomatch z))]; exact e, pm4⟩
      by_cases c1 : b = st
      · rw [c1]; exact ⟨_, upd_same⟩
      rw [upd_ne c1]
      by_cases c2 : b = tl
      · rw [c2]; exact ⟨_, hl5⟩
      obtain ⟨o, e⟩ := S.inW b m
      have bk : b ≠ k := fun z => kW (z ▸ m)
      exact ⟨o, sB5 _ _ (rmL_at e (by simp [c1, c2, bk]))⟩
end
end Od

namespace Od
open PySem PySem.Spec PyProof.Rows L2
theorem Prs.rmL {H : Hp} {M : List Addr} (h : ∀ b ∈ M, ∀ xs, H b ≠ some (.tup xs)) {us : List V} {ts : List Pr} (p : Prs H us ts) : Prs (rmL H M) us ts :=
  p.tups fun b xs e => rmL_at e fun m => h b m xs e
section
variable {P : Program} {w : World} {K : PySem.W.Frag} {mg : Str → Option Value} {c : Cs} {base : Heap}
theorem ok_done (T : Top K mg c) : Fd.Has P w K mg base CX0 12 "_law_done" ["_law_kept", "_law_state", "_law_is_cut", "_law_one", "_law_other"] (spGoes c) := by
  have G_Kept_net : Fd.MHas P w K mg base CX0 8 c.Kept "net" ["self"] (spKNet c) := ok_knet T
  have G_Kept_pairs : Fd.MHas P w K mg base CX0 1 c.Kept "pairs" ["self"] (spKPairs c) := ok_kpairs T
  have G_Net_ties : Fd.MHas P w K mg base CX0 1 c.Net "ties" ["self"] (spTies c.Net) := ok_ties T
  have G__law_goes : Fd.Has P w K mg base CX0 11 "_law_goes" ["_law_kept", "_law_state", "_law_is_cut", "_law_one", "_law_other"] (spGoes c) := ok_goes T
  refine T.d__law_done.ok sc__law_done (fun vs H Q E h => ?_) (fun f cdv A outer s H vs Q E hr h => ?_)
  · obtain ⟨W, k, st, tl, n, ts, qs, cut, one, other, t1, t2, rfl, _⟩ := h; rfl
  · obtain ⟨W, k, st, tl, n, ts, qs, cut, one, other, t1, t2, rfl, S, ka, kb, q⟩ := h
    have hr_Kept_net := hr.mono (show 8 ≤ 11 by decide)
    have hr_Kept_pairs := hr.mono (show 1 ≤ 11 by decide)
    have hr_Net_ties := hr.mono (show 1 ≤ 11 by decide)
    have hr__law_goes := hr
    obtain ⟨us, tu, hl, pl, pmU⟩ := S.tls
    have hst := S.sts
    have AK := S.kept.out
    obtain ⟨dk, xk, p0, uq, hk, NK, _, _⟩ := AK.at_
    have mIn : ∀ b ∈ [k, st, tl], ∃ o, H b = some o ∧ ∀ xs, o ≠ .tup xs := fun b m => by
      rcases List.mem_cons.mp m with rfl | m
      · exact ⟨_, hk, fun _ z => nomatch z⟩
      rcases List.mem_cons.mp m with rfl | m
      · exact ⟨_, hst, fun _ z => nomatch z⟩
      rw [List.mem_singleton.mp m]
      exact ⟨_, hl, fun _ z => nomatch z⟩
    have noM : ∀ {H' : Hp} {b : Addr}, Same H H' → H' b = none → b ∉ [k, st, tl] := fun {H' b} s e m => by
      obtain ⟨o, h, _⟩ := mIn b m
      rw [s _ _ h] at e; cases e
    have noT : ∀ {H' : Hp}, Same H H' → ∀ b ∈ [k, st, tl], ∀ xs, H' b ≠ some (.tup xs) := fun {H'} s b m xs e => by
      obtain ⟨o, h, z⟩ := mIn b m
      rw [s _ _ h] at e; cases e
      exact z _ rfl
    refine ⟨_, (pss_cons (ps_set (i := 5) sc__law_done.nd rfl (Or.inl rfl) (Fd.pe_m0 G_Kept_pairs (pv 0) T.cl_Kept hr_Kept_pairs))
      (pss_cons (ps_set (i := 6) sc__law_done.nd rfl (Or.inl rfl) (pe_callTy call_list_of (by rfl) T.n_list boot_list (pa_cons (pv 5) pa_nil)))
      (pss_cons (ps_set (i := 7) sc__law_done.nd rfl (Or.inl rfl) (Fd.pe_m0 G_Kept_net (pv 0) T.cl_Kept hr_Kept_net))
      (pss_cons (ps_set (i := 8) sc__law_done.nd rfl (Or.inl rfl) (pe_callB cr_sortedPO (by rfl) T.n_sorted boot_sorted (pa_cons (pe_ix ix_list (pv 1) pe_int (fun _ _ => rfl)) pa_nil)))
      (pss_cons (ps_if (pt_not (pt_val (Fd.pe_f G__law_goes hr__law_goes (by rfl) (pa_cons (pv 0) (pa_cons (pv 1) (pa_cons (pv 2) (pa_cons (pv 3) (pa_cons (pv 4) pa_nil))))))))
      (pss_one (ps_ret pe_bl))
      pss_nil)
      (pss_one (ps_ret (pe_and (pe_cmpR (op_eqD hr.units) (pv 5) (pv 6) (nomark _)) (pe_one (pe_cmpR (op_eqD hr.units) (Fd.pe_m0 G_Net_ties (pv 7) T.cl_Net hr_Net_ties) (pv 8) (nomark _))))))))))), ?_⟩
    refine ⟨_, rfl, k, dk, _, rfl, hk, kf_m_pairs _ _, k, n, ts, qs, rfl, AK, fun r1 u1 hr1 pr1 => ?_⟩
    have b1 := Same.new (o := .lst u1) hr1
    have e1 : upd H r1 (.lst u1) r1 = some (.lst u1) := upd_same
    have r1M := noM (Same.refl H) hr1
    refine tnx ?_
    show tNext _ _ (upd H r1 (.lst u1))
    generalize upd H r1 (.lst u1) = H1 at b1 e1 ⊢
    have prA := pr1.ex b1
    refine tnx ?_
    dsimp only
    refine ⟨_, rfl, r1, u1, rfl, .inl (SqL.of e1), fun r2 hr2 => ?_⟩
    have b2 := Same.new (o := .lst u1) hr2
    have e2 : upd H1 r2 (.lst u1) r2 = some (.lst u1) := upd_same
    have r2M := noM b1 hr2
    refine tnx ?_
    show tNext _ _ (upd H1 r2 (.lst u1))
    generalize upd H1 r2 (.lst u1) = H2 at b2 e2 ⊢
    have s02 := Same.trans b1 b2
    refine tnx ?_
    dsimp only
    refine ⟨_, rfl, k, dk, _, rfl, s02 _ _ hk, kf_m_net _ _, k, n, ts, qs, rfl, AK.ex s02, fun x H3 hx s3 N3 => ?_⟩
    have s03 := Same.trans s02 s3
    have plU := pl.ex s03
    refine tnx ?_
    dsimp only
    refine ⟨_, rfl, st, _, (1 : Int), _, rfl, rfl, SqL.of (s03 _ _ hst), atI_nat (j := 1) rfl, tl, _, prOf H3, rfl, SqL.of (s03 _ _ hl), prs_each plU, fun ys r3 sd sb hr3 => ?_⟩
    obtain ⟨pm2, up2, prz⟩ := srt_prs plU (pmU.nodup_iff.mpr (plt_nodup NK.up)) sd sb
    have e9 : ys.map (prOf H3) = ts := plt_one (pm2.trans pmU) up2 NK.up
    rw [e9] at prz
    have b4 := Same.new (o := .lst ys) hr3
    have e4 : upd H3 r3 (.lst ys) r3 = some (.lst ys) := upd_same
    have r3M := noM s03 hr3
    refine tnx ?_
    show tNext _ _ (upd H3 r3 (.lst ys))
    generalize upd H3 r3 (.lst ys) = H4 at b4 e4 ⊢
    have s04 := Same.trans s03 b4
    have pr4 := prz.ex b4
    refine tnx ?_
    dsimp only
    have prB := (prA.ex (Same.trans b2 (Same.trans s3 b4))).rmL (noT s04)
    have prC := pr4.rmL (noT s04)
    have eA := rmL_at ((Same.trans b2 (Same.trans s3 b4)) _ _ e1) r1M
    have eB := rmL_at ((Same.trans s3 b4) _ _ e2) r2M
    have eC := rmL_at e4 r3M
    have sN : Same (newp H2 H3) (rmL H4 [k, st, tl]) := fun b o e => rmL_at (b4 _ _ (newp_same _ _ e)) (noM s02 (newp_off e))
    refine ⟨_, rfl, _, rfl, _, rfl, _, rfl, _, rfl, W, k, st, tl, n, ts, qs, cut, one, other, t1, t2, rfl, S.ex s04, ka.ex s04, kb.ex s04, fun ts' qs' H5 s5 S5 => ?_⟩
    refine ⟨_, rfl, iteF ?_⟩
    refine tnx ?_
    dsimp only
    refine ⟨_, rfl, _, rfl, dPs qs, dPs qs, dp_prs (SqL.of (s5 _ _ eA)) (prB.ex s5), dp_prs (SqL.of (s5 _ _ eB)) (prB.ex s5), shaped_dPs _, shaped_dPs _, _, rfl, ?_⟩
    rw [eqv_dPs, decide_eq_true rfl]
    refine iteT ?_
    have N5 := N3.ex (Same.trans sN s5)
    obtain ⟨dx, lt, ln, us', rs, a1, _⟩ := id N5.at_
    refine ⟨_, rfl, x, dx, _, rfl, a1, nf_m_ties _ _ _, x, n, ts, rfl, N5, fun p2 u2 hp2 pr2 => ?_⟩
    have b6 := Same.new (o := .lst u2) hp2
    refine ⟨_, rfl, dPs ts, dPs ts, dp_prs (SqL.of upd_same) (pr2.ex b6), dp_prs (SqL.of (b6 _ _ (s5 _ _ eC))) ((prC.ex s5).ex b6), shaped_dPs _, shaped_dPs _, ?_⟩
    rw [eqv_dPs, decide_eq_true rfl]
    exact q ts' qs' _ (rmL_up (Same.trans (rmL_ext s04) s5) b6) (S5.ex b6)
end
end Od

namespace Od
open PySem PySem.Spec PyProof.Rows L2
/-! ### the two of them -/
theorem KS.noTup {c : Cs} {H : Hp} {W : List Addr} {k st tl : Addr} {n : Nat} {ts qs : List Pr} (S : KS c H W k st tl n ts qs) : ∀ b ∈ [k, st, tl], ∀ xs, H b ≠ some (.tup xs) := fun b m xs e => by
  obtain ⟨us, tu, hl, _⟩ := S.tls
  obtain ⟨dk, xk, p0, uq, hk, _⟩ := S.kept.at_
  have hk := rmL_same _ _ hk
  rcases List.mem_cons.mp m with rfl | m
  · rw [hk] at e; cases e
  rcases List.mem_cons.mp m with rfl | m
  · rw [S.sts] at e; cases e
  rw [List.mem_singleton.mp m, hl] at e; cases e
theorem KS.other {c : Cs} {H H' : Hp} {W0 : List Addr} {k0 st0 tl0 k1 st1 tl1 : Addr} {n0 n1 : Nat} {ts0 qs0 ts' qs' ts1 qs1 : List Pr} (S1 : KS c H [k0, st1, tl1, st0, tl0] k1 st1 tl1 n1 ts1 qs1) (S0 : KS c H W0 k0 st0 tl0 n0 ts0 qs0)
    (s : Same (rmL H [k0, st0, tl0]) H') (S' : KS c H' W0 k0 st0 tl0 n0 ts' qs') (h1 : st1 ∉ [k0, st0, tl0]) (h2 : tl1 ∉ [k0, st0, tl0]) : KS c H' [k0, st1, tl1, st0, tl0] k1 st1 tl1 n1 ts1 qs1 := by
  obtain ⟨us, tu, hl, pl, pm⟩ := S1.tls
  obtain ⟨us', tu', hl', _⟩ := S'.tls
  obtain ⟨dk, xk, p0, uq, hk, _⟩ := S'.kept.at_
  have hs := s _ _ (rmL_at S1.sts h1)
  have ht := s _ _ (rmL_at hl h2)
  refine ⟨fun b m => ?_, by simp, by simp, S1.kept.ex (rmL_mono s fun b m => ?_), hs, us, tu, ht, (pl.rmL S0.noTup).ex s, pm⟩
  · rcases List.mem_cons.mp m with rfl | m
    · exact ⟨_, rmL_same _ _ hk⟩
    rcases List.mem_cons.mp m with rfl | m
    · exact ⟨_, hs⟩
    rcases List.mem_cons.mp m with rfl | m
    · exact ⟨_, ht⟩
    rcases List.mem_cons.mp m with rfl | m
    · exact ⟨_, S'.sts⟩
    rw [List.mem_singleton.mp m]
    exact ⟨_, hl'⟩
  · rcases List.mem_cons.mp m with rfl | m
    · simp
    rcases List.mem_cons.mp m with rfl | m
    · simp
    rw [List.mem_singleton.mp m]; simp
abbrev Mb (k st tl : Bool → Addr) (b : Bool) : List Addr := [k b, st b, tl b]
abbrev Wb (k st tl : Bool → Addr) (b : Bool) : List Addr := [k (!b), st b, tl b, st (!b), tl (!b)]
structure LI (c : Cs) (B H : Hp) (lk ls : Addr) (k st tl : Bool → Addr) (sz : Bool → Nat) (x : Addr) : Prop where
  base : Same B H
  fresh : ∀ b, ∀ y ∈ Mb k st tl b, B y = none
  apart : ∀ b, ∀ y ∈ Mb k st tl b, y ∉ Mb k st tl (!b)
  lkM : ∀ b, lk ∉ Mb k st tl b
  lsM : ∀ b, ls ∉ Mb k st tl b
  lk_ : H lk = some (.lst [.ref (k false), .ref (k true)])
  ls_ : H ls = some (.lst [.ref (st false), .ref (st true)])
  ks : ∀ b, ∃ ts qs, KS c H (Wb k st tl b) (k b) (st b) (tl b) (sz b) ts qs
  net : NetAt c.Net (rmL H (Mb k st tl false ++ Mb k st tl true)) x (sz false) []
  szs : ∀ b, 1 ≤ sz b ∧ sz b ≤ 40
section
variable {c : Cs} {B H H' : Hp} {lk ls : Addr} {k st tl : Bool → Addr} {sz : Bool → Nat} {x : Addr}
theorem LI.ex (L : LI c B H lk ls k st tl sz x) (s : Same H H') : LI c B H' lk ls k st tl sz x :=
  ⟨Same.trans L.base s, L.fresh, L.apart, L.lkM, L.lsM, s _ _ L.lk_, s _ _ L.ls_, fun b => by
    obtain ⟨ts, qs, S⟩ := L.ks b
    exact ⟨ts, qs, S.ex s⟩, L.net.ex (rmL_ext s), L.szs⟩
theorem LI.step {b : Bool} {ts' qs' : List Pr} (L : LI c B H lk ls k st tl sz x) (s : Same (rmL H (Mb k st tl b)) H') (S' : KS c H' (Wb k st tl b) (k b) (st b) (tl b) (sz b) ts' qs') : LI c B H' lk ls k st tl sz x := by
  refine ⟨rmL_new L.base (L.fresh b) s, L.fresh, L.apart, L.lkM, L.lsM, s _ _ (rmL_at L.lk_ (L.lkM b)), s _ _ (rmL_at L.ls_ (L.lsM b)), fun d => ?_, L.net.ex (rmL_mono s fun y m => ?_), L.szs⟩
  · by_cases e : d = b
    · subst e; exact ⟨ts', qs', S'⟩
    · obtain rfl : d = !b := by cases d <;> cases b <;> first | rfl | exact absurd rfl e
      obtain ⟨t0, q0, S0⟩ := L.ks b
      obtain ⟨t1, q1, S1⟩ := L.ks (!b)
      have ap := fun y m => L.apart (!b) y m
      rw [Bool.not_not] at ap
      refine ⟨t1, q1, ?_⟩
      unfold Wb at S1 ⊢
      rw [Bool.not_not] at S1 ⊢
      exact S1.other S0 s S' (ap _ (by simp)) (ap _ (by simp))
  · cases b
    · exact List.mem_append_left _ m
    · exact List.mem_append_right _ m
end
end Od

namespace Od
open PySem PySem.Spec PyProof.Rows L2
theorem newp_no {H H' : Hp} {b : Addr} (h : H' b = none) : newp H H' b = none := by
  unfold newp
  by_cases cb : (H b).isSome
  · rw [if_pos cb]
  · rw [if_neg cb, h]
theorem rg_two {j : Int} (h0 : -100 ≤ j) (h1 : j ≤ 100) : ∃ m : Nat, RgC 2 j 2 m ∧ ∀ i : Nat, i < m → 2 + (i : Int) * 2 < j := by
  have e : ∃ m : Nat, Builtin.Range.rangeSize 2 j 2 = (m : Int) ∧ ∀ i : Nat, i < m → 2 + (i : Int) * 2 < j := by
    unfold Builtin.Range.rangeSize
    rw [if_pos (by decide)]
    by_cases d : 2 < j
    · rw [if_pos d]
      exact ⟨((j - 2 - 1) / 2 + 1).toNat, by omega, fun i hi => by omega⟩
    · rw [if_neg d]
      exact ⟨0, rfl, fun i hi => by omega⟩
  obtain ⟨m, e, l⟩ := e
  have m0 : (m : Int) ≤ 200 := by
    unfold Builtin.Range.rangeSize at e
    rw [if_pos (by decide)] at e
    split at e <;> omega
  refine ⟨m, ⟨by decide, by decide, ?_, e⟩, l⟩
  unfold Builtin.Range.small
  rw [e]
  simp only [Builtin.Range.rangeFitsLong, Bool.and_eq_true, Bool.or_eq_true, decide_eq_true_eq, beq_iff_eq, show (2 : Int) > 0 by decide, if_true]
  omega
/-- a new Kept, and the law's state of it -/
theorem KS.first {c : Cs} {H0 H1 H : Hp} {W : List Addr} {k st tl : Addr} {n : Nat} (A : KeptAt c (newp H0 H1) k n [] []) (s : Same H1 H) (hW : ∀ b ∈ W, newp H0 H1 b = none) (inW : ∀ b ∈ W, ∃ o, H b = some o) (m1 : st ∈ W) (m2 : tl ∈ W) (e1 : H st = some (.lst (stL n tl 0))) (e2 : H tl = some (.lst [])) :
    KS c H W k st tl n [] [] := ⟨inW, m1, m2, A.ex (rmL_to (Same.trans newp_same s) hW), e1, [], [], e2, .nil, List.Perm.refl _⟩
section
variable {P : Program} {w : World} {K : PySem.W.Frag} {mg : Str → Option Value} {c : Cs} {base : Heap}
theorem ok_law {fa : Addr} {fd : FuncData} (T : Top K mg c) (F : Fun K "law" "law" S_law fa fd) : FnOk P w K mg base CX0 13 fa fd ["_law_script"] (spLaw K) := by
  have G__law_cell_at : Fd.Has P w K mg base CX0 1 "_law_cell_at" ["_law_script", "_law_k"] (spCell K) := ok_cell T
  have G_Kept : Fd.IHas P w K mg base (L2N.CX P w) 8 c.Kept ["self", "size"] (spKInit c) := ok_kinit T
  have G_Kept_net : Fd.MHas P w K mg base CX0 8 c.Kept "net" ["self"] (spKNet c) := ok_knet T
  have G__law_no_size : Fd.Has P w K mg base CX0 10 "_law_no_size" ["_law_size"] spNoSize := ok_nosize T
  have G__law_done : Fd.Has P w K mg base CX0 12 "_law_done" ["_law_kept", "_law_state", "_law_is_cut", "_law_one", "_law_other"] (spGoes c) := ok_done T
  have G__law_places : Fd.Has P w K mg base CX0 1 "_law_places" ["_law_cell", "_law_more", "_law_size"] spPlacesL := ok_placesL T
  have G__law_stands : Fd.Has P w K mg base CX0 10 "_law_stands" ["_law_kept", "_law_size", "_law_ties"] (spStands c) := ok_stands T
  have G_Net_ties : Fd.MHas P w K mg base CX0 1 c.Net "ties" ["self"] (spTies c.Net) := ok_ties T
  have G_Net_beside : Fd.MHas P w K mg base (L2N.CX P w) 3 c.Net "beside" ["self", "place"] (spBeside c.Net c.NoPlace) := ok_beside T
  refine F.ok sc_law (fun vs H Q E h => ?_) fun cdv A outer s H vs Q E hr h => ?_
  · obtain ⟨a, ns, rfl, _⟩ := h; rfl
  · obtain ⟨a, ns, rfl, hs, l63, q⟩ := h
    have hr__law_cell_at := hr.mono (show 1 ≤ 12 by decide)
    have hr_Kept := hr.mono (show 9 ≤ 12 by decide)
    have hr_Kept_net := hr.mono (show 8 ≤ 12 by decide)
    have hr__law_no_size := hr.mono (show 10 ≤ 12 by decide)
    have hr__law_done := hr
    have hr__law_places := hr.mono (show 1 ≤ 12 by decide)
    have hr__law_stands := hr.mono (show 10 ≤ 12 by decide)
    have hr_Net_ties := hr.mono (show 1 ≤ 12 by decide)
    have hr_Net_beside := hr.mono (show 3 ≤ 12 by decide)
    have t1 := Int.emod_nonneg (cell ns 0) (show (9 : Int) ≠ 0 by decide)
    have t2 := Int.emod_lt_of_pos (cell ns 0) (show (0 : Int) < 9 by decide)
    obtain ⟨n, en⟩ : ∃ n : Nat, 1 + cell ns 0 % 9 = (n : Int) := ⟨(1 + cell ns 0 % 9).toNat, by omega⟩
    have n1 : 1 ≤ n := by omega
    have n9 : n ≤ 9 := by omega
    refine ⟨_, (pss_cons (ps_set (i := 1) sc_law.nd rfl (Or.inl rfl) (pe_op op_add pe_int (pe_op op_mod (Fd.pe_f G__law_cell_at hr__law_cell_at (by rfl) (pa_cons (pv 0) (pa_cons pe_int pa_nil))) pe_int)))
      (pss_cons (ps_set (i := 2) sc_law.nd rfl (Or.inl rfl) (pe_ix ix_list (pe_lst (pa_cons (pv 1) (pa_cons pe_int pa_nil))) (pe_callTy call_int1 (by rfl) T.n_int boot_int (pa_cons (pe_cmpR op_eq (pe_op op_mod (Fd.pe_f G__law_cell_at hr__law_cell_at (by rfl) (pa_cons (pv 0) (pa_cons pe_int pa_nil))) pe_int) pe_int (nomark _)) pa_nil)) (fun _ _ => rfl)))
      (pss_cons (ps_set (i := 3) sc_law.nd rfl (Or.inl rfl) (pe_lst (pa_cons (Fd.pe_mk G_Kept hr_Kept (by rfl) T.c_Kept Fd.pass00 (pa_cons (pv 1) pa_nil)) (pa_cons (Fd.pe_mk G_Kept hr_Kept (by rfl) T.c_Kept Fd.pass00 (pa_cons (pv 2) pa_nil)) pa_nil))))
      (pss_cons (ps_set (i := 4) sc_law.nd rfl (Or.inl rfl) (pe_lst (pa_cons (pe_lst (pa_cons (pv 1) (pa_cons (pe_lst pa_nil) (pa_cons pe_int pa_nil)))) (pa_cons (pe_lst (pa_cons (pv 2) (pa_cons (pe_lst pa_nil) (pa_cons pe_int pa_nil)))) pa_nil))))
      (pss_cons (ps_set (i := 5) sc_law.nd rfl (Or.inl rfl) (Fd.pe_m0 G_Kept_net (pe_ix ix_list (pv 3) pe_int (fun _ _ => rfl)) T.cl_Kept hr_Kept_net))
      (pss_cons (ps_if (pt_not (pt_val (Fd.pe_f G__law_no_size hr__law_no_size (by rfl) (pa_cons (pe_ix ix_list (pe_lst (pa_cons pe_int (pa_cons (pe_un un_neg pe_int) (pa_cons pe_int (pa_cons pe_bl (pa_cons pe_str (pa_cons pe_non pa_nil))))))) (pe_op op_mod (pe_op op_fdiv (Fd.pe_f G__law_cell_at hr__law_cell_at (by rfl) (pa_cons (pv 0) (pa_cons pe_int pa_nil))) pe_int) pe_int) (fun _ _ => rfl)) pa_nil))))
      (pss_one (ps_ret pe_bl))
      pss_nil)
      (pss_cons (ps_if (pt_cmpR op_eq (pe_op op_mod (pe_op op_fdiv (Fd.pe_f G__law_cell_at hr__law_cell_at (by rfl) (pa_cons (pv 0) (pa_cons pe_int pa_nil))) pe_int) pe_int) pe_int (nomark _))
      (pss_cons (ps_for PassesOwn.never rfl (pi_range1 (by rfl) T.n_range (pa_cons (pe_op op_sub (pv 1) pe_int) pa_nil)) (pg_name (i := 6) sc_law.nd rfl (Or.inl rfl))
        (pss_one (ps_if (pt_not (pt_val (Fd.pe_f G__law_done hr__law_done (by rfl) (pa_cons (pe_ix ix_list (pv 3) pe_int (fun _ _ => rfl)) (pa_cons (pe_ix ix_list (pv 4) pe_int (fun _ _ => rfl)) (pa_cons pe_bl (pa_cons (pe_op op_add (pv 6) pe_int) (pa_cons (pv 6) pa_nil))))))))
          (pss_one (ps_ret pe_bl))
          pss_nil)))
        (pss_one (ps_if (PW.pt (pw_and (pt_cmpR op_gt (pv 1) pe_int (nomark _)) (pw_and1 (pt_not (pt_val (Fd.pe_f G__law_done hr__law_done (by rfl) (pa_cons (pe_ix ix_list (pv 3) pe_int (fun _ _ => rfl)) (pa_cons (pe_ix ix_list (pv 4) pe_int (fun _ _ => rfl)) (pa_cons pe_bl (pa_cons pe_int (pa_cons (pe_op op_sub (pv 1) pe_int) pa_nil)))))))))))
        (pss_one (ps_ret pe_bl))
        pss_nil)))
      pss_nil)
      (pss_cons (ps_for PassesOwn.never rfl (pi_range3 (by rfl) T.n_range (pa_cons pe_int (pa_cons (pe_callB (call_min2 rfl) (by rfl) T.n_min boot_min (pa_cons (pe_op op_sub (pe_callB call_len_seq (by rfl) T.n_len boot_len (pa_cons (pv 0) pa_nil)) pe_int) (pa_cons pe_int pa_nil))) (pa_cons pe_int pa_nil)))) (pg_name (i := 7) sc_law.nd rfl (Or.inl rfl))
      (pss_cons (ps_set (i := 8) sc_law.nd rfl (Or.inl rfl) (pe_callTy call_int1 (by rfl) T.n_int boot_int (pa_cons (pe_cmpR op_eq (pe_op op_mod (pe_op op_fdiv (pe_ix ix_list (pv 0) (pv 7) (fun _ _ => rfl)) pe_int) pe_int) pe_int (nomark _)) pa_nil)))
        (pss_cons (ps_asg (Fd.pe_f G__law_places hr__law_places (by rfl) (pa_cons (pe_op op_fdiv (pe_ix ix_list (pv 0) (pv 7) (fun _ _ => rfl)) pe_int) (pa_cons (pe_ix ix_list (pv 0) (pe_op op_add (pv 7) pe_int) (fun _ _ => rfl)) (pa_cons (pe_ix ix_list (pe_ix ix_list (pv 4) (pv 8) (fun _ _ => rfl)) pe_int (fun _ _ => rfl)) pa_nil)))) (pg_tup rfl (pgs_cons (pg_name (i := 9) sc_law.nd rfl (Or.inl rfl)) (pgs_cons (pg_name (i := 10) sc_law.nd rfl (Or.inl rfl)) pgs_nil))))
        (pss_one (ps_if (pt_not (pt_val (Fd.pe_f G__law_done hr__law_done (by rfl) (pa_cons (pe_ix ix_list (pv 3) (pv 8) (fun _ _ => rfl)) (pa_cons (pe_ix ix_list (pv 4) (pv 8) (fun _ _ => rfl)) (pa_cons (pe_cmpR op_eq (pe_op op_mod (pe_ix ix_list (pv 0) (pv 7) (fun _ _ => rfl)) pe_int) pe_int (nomark _)) (pa_cons (pv 9) (pa_cons (pv 10) pa_nil))))))))
        (pss_one (ps_ret pe_bl))
        pss_nil)))))
      (pss_cons (ps_for PassesOwn.never rfl (pi_range1 (by rfl) T.n_range (pa_cons pe_int pa_nil)) (pg_name (i := 8) sc_law.nd rfl (Or.inl rfl))
      (pss_one (ps_if (pt_cmpR op_ne (Fd.pe_f G__law_stands hr__law_stands (by rfl) (pa_cons (pe_ix ix_list (pv 3) (pv 8) (fun _ _ => rfl)) (pa_cons (pe_ix ix_list (pe_ix ix_list (pv 4) (pv 8) (fun _ _ => rfl)) pe_int (fun _ _ => rfl)) (pa_cons (pe_ix ix_list (pe_ix ix_list (pv 4) (pv 8) (fun _ _ => rfl)) pe_int (fun _ _ => rfl)) pa_nil)))) (pe_ix ix_list (pe_ix ix_list (pv 4) (pv 8) (fun _ _ => rfl)) pe_int (fun _ _ => rfl)) (nomark _))
        (pss_one (ps_ret pe_bl))
        pss_nil)))
      (pss_one (ps_ret (pe_and (pe_cmpR (op_eqD hr.units) (Fd.pe_m0 G_Net_ties (pv 5) T.cl_Net hr_Net_ties) (pe_lst pa_nil) (nomark _)) (pe_one (pe_cmpR (op_eqD hr.units) (Fd.pe_mN G_Net_beside (pv 5) T.cl_Net hr_Net_beside Fd.pass00 (pa_cons pe_int pa_nil)) (pe_lst pa_nil) (nomark _))))))))))))))), ?_⟩
    refine ⟨_, rfl, a, ns, 0, rfl, hs, by decide, _, _, rfl, rfl, (by show (0 : Int) < 9; decide), _, _, rfl, rfl, ?_⟩
    dsimp only [gName]
    rw [en]
    -- the greater size
    refine ⟨_, rfl, (by show 2 ≤ sizeLine; decide), fun e0 f0 => ?_⟩
    have b1 := Same.new (o := .lst [V.int n, V.int 40]) f0
    refine ⟨_, rfl, a, ns, 1, rfl, b1.seq hs, by decide, _, _, rfl, rfl, (by show (0 : Int) < 5; decide), rfl, .inr ⟨_, rfl, ?_⟩⟩
    obtain ⟨g, eg, g1, g40⟩ : ∃ g : Nat, atI [V.int n, V.int 40] (if (decide (V.int (cell ns 1 % 5) = V.int 3)) = true then 1 else 0) = some (.int g) ∧ 1 ≤ g ∧ g ≤ 40 := by
      by_cases d : decide (V.int (cell ns 1 % 5) = V.int 3) = true
      · rw [if_pos d]; exact ⟨40, rfl, by decide, by decide⟩
      · rw [if_neg d]; exact ⟨n, rfl, n1, by omega⟩
    refine ⟨e0, _, _, .int g, rfl, rfl, SqL.of upd_same, eg, ?_⟩
    refine tnx ?_
    show tNext _ _ (upd H e0 (.lst [V.int n, V.int 40]))
    generalize upd H e0 (.lst [V.int n, V.int 40]) = H1 at b1 ⊢
    refine tnx ?_
    dsimp only
    -- the two
    refine ⟨_, rfl, fun k0 d0 hk0 hd0 ne0 => ⟨H1, k0, d0, _, _, rfl, fun b o e => by rw [upd_ne (ne_of_none e hk0), upd_ne (ne_of_none e hd0)]; exact e, hk0, upd_same, .int _, fun n' e1 _ _ H2 s2 A2 => ⟨rfl, ?_⟩, fun z => absurd ⟨n1, by omega⟩ (z n rfl)⟩⟩
    obtain rfl : n = n' := by injection e1 with e1; omega
    refine ⟨_, rfl, fun k1 d1 hk1 hd1 ne1 => ⟨H2, k1, d1, _, _, rfl, fun b o e => by rw [upd_ne (ne_of_none e hk1), upd_ne (ne_of_none e hd1)]; exact e, hk1, upd_same, .int _, fun g' e1 _ _ H3 s3 A3 => ⟨rfl, ?_⟩, fun z => absurd ⟨g1, g40⟩ (z g rfl)⟩⟩
    obtain rfl : g = g' := by injection e1 with e1; omega
    refine ⟨(by show 2 ≤ sizeLine; decide), fun lk flk => ?_⟩
    have b4 := Same.new (o := .lst [V.ref k0, V.ref k1]) flk
    have e4 : upd H3 lk (.lst [V.ref k0, V.ref k1]) lk = some (.lst [.ref k0, .ref k1]) := upd_same
    refine tnx ?_
    show tNext _ _ (upd H3 lk (.lst [V.ref k0, V.ref k1]))
    generalize upd H3 lk (.lst [V.ref k0, V.ref k1]) = H4 at b4 e4 ⊢
    refine tnx ?_
    dsimp only
    refine ⟨_, rfl, Nat.zero_le _, fun tl0 f1 => ⟨(by show 3 ≤ sizeLine; decide), fun st0 f2 => ⟨_, rfl, Nat.zero_le _, fun tl1 f3 => ⟨(by show 3 ≤ sizeLine; decide), fun st1 f4 => ⟨(by show 2 ≤ sizeLine; decide), fun ls f5 => ?_⟩⟩⟩⟩⟩
    have b5 := Same.new (o := .lst []) f1
    have e5 : upd H4 tl0 (.lst []) tl0 = some (.lst []) := upd_same
    generalize upd H4 tl0 (.lst []) = H5 at b5 e5 f2 f3 f4 f5 ⊢
    have b6 := Same.new (o := .lst [V.int n, V.ref tl0, V.int 0]) f2
    have e6 : upd H5 st0 (.lst [V.int n, V.ref tl0, V.int 0]) st0 = some (.lst (stL n tl0 0)) := upd_same
    generalize upd H5 st0 (.lst [V.int n, V.ref tl0, V.int 0]) = H6 at b6 e6 f3 f4 f5 ⊢
    have b7 := Same.new (o := .lst []) f3
    have e7 : upd H6 tl1 (.lst []) tl1 = some (.lst []) := upd_same
    generalize upd H6 tl1 (.lst []) = H7 at b7 e7 f4 f5 ⊢
    have b8 := Same.new (o := .lst [V.int g, V.ref tl1, V.int 0]) f4
    have e8 : upd H7 st1 (.lst [V.int g, V.ref tl1, V.int 0]) st1 = some (.lst (stL g tl1 0)) := upd_same
    generalize upd H7 st1 (.lst [V.int g, V.ref tl1, V.int 0]) = H8 at b8 e8 f5 ⊢
    have b9 := Same.new (o := .lst [V.ref st0, V.ref st1]) f5
    have e9 : upd H8 ls (.lst [V.ref st0, V.ref st1]) ls = some (.lst [.ref st0, .ref st1]) := upd_same
    refine tnx ?_
    show tNext _ _ (upd H8 ls (.lst [V.ref st0, V.ref st1]))
    generalize upd H8 ls (.lst [V.ref st0, V.ref st1]) = H9 at b9 e9 ⊢
    have s89 := b9
    have s79 := Same.trans b8 s89
    have s69 := Same.trans b7 s79
    have s59 := Same.trans b6 s69
    have s49 := Same.trans b5 s59
    have s39 := Same.trans b4 s49
    have s29 := Same.trans s3 s39
    have s19 := Same.trans s2 s29
    -- an early net
    obtain ⟨dk0, x0, p0, u0, a0, _⟩ := id A2.at_
    have c0 := newp_same _ _ a0
    refine tnx ?_
    dsimp only
    refine ⟨_, rfl, lk, _, (0 : Int), .ref k0, rfl, rfl, SqL.of (s49 _ _ e4), atI_nat (j := 0) rfl, k0, dk0, _, rfl, s29 _ _ c0, kf_m_net _ _, k0, n, [], [], rfl, A2.ex (Same.trans newp_same s29), fun x H10 hx s10 N10 => ?_⟩
    obtain ⟨dk1, x1, p1, u1, a1, _⟩ := id A3.at_
    have c1 := newp_same _ _ a1
    have s01 := b1
    have s02 := Same.trans s01 s2
    have s03 := Same.trans s02 s3
    have s04 := Same.trans s03 b4
    have s05 := Same.trans s04 b5
    have s06 := Same.trans s05 b6
    have s07 := Same.trans s06 b7
    have s08 := Same.trans s07 b8
    have c04 := (Same.trans s3 b4) _ _ c0
    have c14 := b4 _ _ c1
    -- which is which
    have n01 : k0 ≠ k1 := ne_of_none c0 hk1
    have n02 : k0 ≠ tl0 := ne_of_none c04 f1
    have n03 : k0 ≠ st0 := ne_of_none (b5 _ _ c04) f2
    have n04 : k0 ≠ tl1 := ne_of_none (b6 _ _ (b5 _ _ c04)) f3
    have n05 : k0 ≠ st1 := ne_of_none (b7 _ _ (b6 _ _ (b5 _ _ c04))) f4
    have n12 : k1 ≠ tl0 := ne_of_none c14 f1
    have n13 : k1 ≠ st0 := ne_of_none (b5 _ _ c14) f2
    have n14 : k1 ≠ tl1 := ne_of_none (b6 _ _ (b5 _ _ c14)) f3
    have n15 : k1 ≠ st1 := ne_of_none (b7 _ _ (b6 _ _ (b5 _ _ c14))) f4
    have n24 : tl0 ≠ tl1 := ne_of_none (b6 _ _ e5) f3
    have n25 : tl0 ≠ st1 := ne_of_none (b7 _ _ (b6 _ _ e5)) f4
    have n34 : st0 ≠ tl1 := ne_of_none e6 f3
    have n35 : st0 ≠ st1 := ne_of_none (b7 _ _ e6) f4
    have m0 : lk ≠ k0 := (ne_of_none ((s3) _ _ c0) flk).symm
    have m1 : lk ≠ k1 := (ne_of_none c1 flk).symm
    have m2 : lk ≠ tl0 := ne_of_none e4 f1
    have m3 : lk ≠ st0 := ne_of_none (b5 _ _ e4) f2
    have m4 : lk ≠ tl1 := ne_of_none (b6 _ _ (b5 _ _ e4)) f3
    have m5 : lk ≠ st1 := ne_of_none (b7 _ _ (b6 _ _ (b5 _ _ e4))) f4
    have s48 := Same.trans (Same.trans (Same.trans b5 b6) b7) b8
    have o0 : ls ≠ k0 := (ne_of_none (s48 _ _ c04) f5).symm
    have o1 : ls ≠ k1 := (ne_of_none (s48 _ _ c14) f5).symm
    have o2 : ls ≠ tl0 := (ne_of_none (b8 _ _ (b7 _ _ (b6 _ _ e5))) f5).symm
    have o3 : ls ≠ st0 := (ne_of_none (b8 _ _ (b7 _ _ e6)) f5).symm
    have o4 : ls ≠ tl1 := (ne_of_none (b8 _ _ e7) f5).symm
    have o5 : ls ≠ st1 := (ne_of_none e8 f5).symm
    have g2 : H2 tl0 = none := (Same.trans s3 b4).free f1
    have g3 : H2 st0 = none := (Same.trans (Same.trans s3 b4) b5).free f2
    have s36 := Same.trans (Same.trans b4 b5) b6
    have g4 : H2 tl1 = none := (Same.trans s3 s36).free f3
    have g5 : H2 st1 = none := (Same.trans s3 (Same.trans s36 b7)).free f4
    have all9 : ∀ b ∈ [k0, k1, tl0, st0, tl1, st1], ∃ o, H9 b = some o := fun b m => by
      simp only [List.mem_cons, List.not_mem_nil, or_false] at m
      rcases m with rfl | rfl | rfl | rfl | rfl | rfl
      · exact ⟨_, s29 _ _ c0⟩
      · exact ⟨_, s39 _ _ c1⟩
      · exact ⟨_, s59 _ _ e5⟩
      · exact ⟨_, s69 _ _ e6⟩
      · exact ⟨_, s79 _ _ e7⟩
      · exact ⟨_, s89 _ _ e8⟩
    have K0 : KS c H9 [k1, st0, tl0, st1, tl1] k0 st0 tl0 n [] [] := KS.first A2 s29 (fun b m => by
        simp only [List.mem_cons, List.not_mem_nil, or_false] at m
        refine newp_no ?_
        rcases m with rfl | rfl | rfl | rfl | rfl
        · exact hk1
        · exact g3
        · exact g2
        · exact g5
        · exact g4) (fun b m => all9 b (by
        simp only [List.mem_cons, List.not_mem_nil, or_false] at m ⊢
        rcases m with rfl | rfl | rfl | rfl | rfl <;> simp)) (by simp) (by simp) (s69 _ _ e6) (s59 _ _ e5)
    have K1 : KS c H9 [k0, st1, tl1, st0, tl0] k1 st1 tl1 g [] [] := KS.first A3 s39 (fun b m => by
        simp only [List.mem_cons, List.not_mem_nil, or_false] at m
        rcases m with rfl | rfl | rfl | rfl | rfl
        · exact newp_old c0
        · exact newp_no ((Same.trans s36 b7).free f4)
        · exact newp_no (s36.free f3)
        · exact newp_no ((Same.trans b4 b5).free f2)
        · exact newp_no (b4.free f1)) (fun b m => all9 b (by
        simp only [List.mem_cons, List.not_mem_nil, or_false] at m ⊢
        rcases m with rfl | rfl | rfl | rfl | rfl <;> simp)) (by simp) (by simp) (s89 _ _ e8) (s79 _ _ e7)
    have LI0 : LI c H H10 lk ls (fun b => cond b k1 k0) (fun b => cond b st1 st0) (fun b => cond b tl1 tl0) (fun b => cond b g n) x := by
      refine ⟨Same.trans (Same.trans s08 b9) s10, fun b y m => ?_, fun b y m => ?_, fun b => ?_, fun b => ?_, s10 _ _ (s49 _ _ e4), s10 _ _ e9, fun b => ?_, N10.ex (rmL_to newp_same fun y m => ?_), fun b => ?_⟩
      · cases b
        · simp only [cond, List.mem_cons, List.not_mem_nil, or_false] at m
          rcases m with rfl | rfl | rfl
          · exact s01.free hk0
          · exact s05.free f2
          · exact s04.free f1
        · simp only [cond, List.mem_cons, List.not_mem_nil, or_false] at m
          rcases m with rfl | rfl | rfl
          · exact s02.free hk1
          · exact s07.free f4
          · exact s06.free f3
      · cases b
        · simp only [cond, List.mem_cons, List.not_mem_nil, or_false] at m
          rcases m with rfl | rfl | rfl <;> simp [n01, n05, n04, n35, n34, n13.symm, n12.symm, n25, n24]
        · simp only [cond, List.mem_cons, List.not_mem_nil, or_false] at m
          rcases m with rfl | rfl | rfl <;> simp [n01.symm, n05.symm, n04.symm, n35.symm, n34.symm, n13, n12, n25.symm, n24.symm]
      · cases b <;> simp [m0, m1, m2, m3, m4, m5]
      · cases b <;> simp [o0, o1, o2, o3, o4, o5]
      · cases b
        · exact ⟨[], [], K0.ex s10⟩
        · exact ⟨[], [], K1.ex s10⟩
      · obtain ⟨o, e⟩ := all9 y (by
          simp only [cond, List.mem_append, List.mem_cons, List.not_mem_nil, or_false] at m ⊢
          rcases m with (rfl | rfl | rfl) | (rfl | rfl | rfl) <;> simp)
        exact newp_old e
      · cases b
        · exact ⟨n1, by show n ≤ 40; omega⟩
        · exact ⟨g1, g40⟩
    obtain ⟨k, st, tl, sz, hsz, L10⟩ : ∃ (k st tl : Bool → Addr) (sz : Bool → Nat), sz false = n ∧ LI c H H10 lk ls k st tl sz x := ⟨_, _, _, _, rfl, LI0⟩
    clear LI0 K0 K1 all9
    have atk : ∀ {f : Bool → Addr} {b : Bool}, atI [V.ref (f false), .ref (f true)] (if b = true then 1 else 0) = some (.ref (f b)) := fun {f b} => by cases b <;> rfl
    -- no size
    refine tnx ?_
    dsimp only
    refine tsq (if_no (R := Same H10) (fun Q' hq => ?_) fun H11 s11 => ?_)
    · refine ⟨_, rfl, (by show 6 ≤ sizeLine; decide), fun e1 f1 => ?_⟩
      have b1 := Same.new (o := .lst [V.int 0, .int (-1), .int 41, .bl true, .str "3", .non]) f1
      obtain ⟨w, hw1, hw2⟩ := atModL (xs := [V.int 0, .int (-1), .int 41, .bl true, .str "3", .non]) (k := cell ns 1 / 15) (m := 6) rfl (by decide)
      have kw : ∃ t, (∀ H' : Hp, Kd H' w t) ∧ ∀ m : Nat, w = .int m → ¬ (1 ≤ m ∧ m ≤ 40) := by
        simp only [List.mem_cons, List.not_mem_nil, or_false] at hw2
        rcases hw2 with rfl | rfl | rfl | rfl | rfl | rfl
        · exact ⟨_, fun _ => .int _, fun m e => by injection e with e; omega⟩
        · exact ⟨_, fun _ => .int _, fun m e => by injection e with e; omega⟩
        · exact ⟨_, fun _ => .int _, fun m e => by injection e with e; omega⟩
        · exact ⟨_, fun _ => .bl _, fun m e => by cases e⟩
        · exact ⟨_, fun _ => .str _, fun m e => by cases e⟩
        · exact ⟨_, fun _ => .non, fun m e => by cases e⟩
      obtain ⟨tw, kw, no⟩ := kw
      refine ⟨_, rfl, a, ns, 1, rfl, (Same.trans L10.base b1).seq hs, by decide, _, _, rfl, rfl, ⟨by decide, by decide⟩, _, _, rfl, rfl, (by show (0 : Int) < 6; decide), e1, _, _, w, rfl, rfl, SqL.of upd_same, hw1, ?_⟩
      exact ⟨w, tw, rfl, kw _, no, fun H' s' => ⟨_, rfl, hq _ (Same.trans b1 s')⟩⟩
    have L11 := L10.ex s11
    -- the ring
    refine tnx ?_
    dsimp only
    refine tsq (midN (fun σ' H' => ∃ v6, σ' = [some (.ref a), some (.int n), some (.int g), some (.ref lk), some (.ref ls), some (.ref x), v6, none, none, none, none] ∧ LI c H H' lk ls k st tl sz x) (fun Nx hN => ?_) ?_)
    · refine ⟨_, rfl, a, ns, 1, rfl, L11.base.seq hs, by decide, _, _, rfl, rfl, ⟨by decide, by decide⟩, _, _, rfl, rfl, (by show (0 : Int) < 3; decide), rfl, _, rfl, ?_⟩
      rw [vint]
      by_cases c1 : cell ns 1 / 5 % 3 = 1
      rotate_left
      · rw [decide_eq_false c1]
        exact iteF (hN _ _ ⟨none, rfl, L11⟩)
      rw [decide_eq_true c1]
      refine iteT ?_
      refine ⟨_, rfl, _, _, rfl, rfl, _, rfl, by omega, by omega, for_range (lo := 0) (n := ((n : Int) - 1).toNat) (fun i σ H' => ∃ v6, σ = [some (.ref a), some (.int n), some (.int g), some (.ref lk), some (.ref ls), some (.ref x), v6, none, none, none, none] ∧ LI c H H' lk ls k st tl sz x)
        ⟨none, rfl, L11⟩ ?_ ?_⟩
      · rintro i σ Hx hi ⟨v6, rfl, Lx⟩
        dsimp only [gName]
        refine if_no (R := fun Hy => LI c H Hy lk ls k st tl sz x) (fun Q' hq => ?_) fun Hy Ly => ⟨_, rfl, Ly⟩
        refine ⟨_, rfl, lk, _, (0 : Int), _, rfl, rfl, SqL.of Lx.lk_, atk (b := false), _, rfl, ls, _, (0 : Int), _, rfl, rfl, SqL.of Lx.ls_, atk (b := false), _, rfl, _, _, rfl, rfl, _, rfl, ?_⟩
        obtain ⟨ts, qs, S⟩ := Lx.ks false
        exact ⟨_, k false, st false, tl false, sz false, ts, qs, false, _, _, _, _, rfl, S, .int _, .int _, fun ts' qs' H' s' S' => ⟨_, rfl, hq _ (Lx.step s' S')⟩⟩
      · rintro σ Hx ⟨v6, rfl, Lx⟩
        refine tnx ?_
        dsimp only
        refine if_no (R := fun Hy => LI c H Hy lk ls k st tl sz x) (fun Q' hq => ?_) fun Hy Ly => hN _ _ ⟨v6, rfl, Ly⟩
        refine ⟨_, rfl, _, _, rfl, rfl, _, rfl, ?_⟩
        by_cases c2 : (2 : Int) < (n : Int)
        · rw [decide_eq_true c2]
          refine iteT ⟨_, rfl, lk, _, (0 : Int), _, rfl, rfl, SqL.of Lx.lk_, atk (b := false), _, rfl, ls, _, (0 : Int), _, rfl, rfl, SqL.of Lx.ls_, atk (b := false), _, rfl, _, _, rfl, rfl, ?_⟩
          obtain ⟨ts, qs, S⟩ := Lx.ks false
          exact ⟨_, k false, st false, tl false, sz false, ts, qs, false, _, _, _, _, rfl, S, .int _, .int _, fun ts' qs' H' s' S' => ⟨_, rfl, hq _ (Lx.step s' S')⟩⟩
        · rw [decide_eq_false c2]
          exact iteF (hq _ Lx)
    rintro σ' H12 ⟨v6, rfl, L12⟩
    -- the deeds
    refine tnx ?_
    dsimp only
    have s12 := L12.base
    obtain ⟨m, rg, rl⟩ := rg_two (j := if (50 : Int) < ((ns.length : Nat) : Int) - 1 then 50 else ((ns.length : Nat) : Int) - 1) (by split <;> omega) (by split <;> omega)
    refine ⟨_, rfl, a, _, rfl, .inl (s12.seq hs), ?_⟩
    rw [List.length_map]
    refine ⟨_, _, rfl, rfl, _, _, rfl, 2, _, 2, m, rfl, rg, for_rangeC (lo := 2) (c := 2) (n := m) (fun i σ H' => ∃ v6 v7 v8 v9 v10, σ = [some (.ref a), some (.int n), some (.int g), some (.ref lk), some (.ref ls), some (.ref x), v6, v7, v8, v9, v10] ∧ LI c H H' lk ls k st tl sz x)
        ⟨v6, none, none, none, none, rfl, L12⟩ ?_ ?_⟩
    · rintro i σ Hx hi ⟨v6, v7, v8, v9, v10, rfl, Lx⟩
      have hlt := rl i hi
      have hlen : 2 + (i : Int) * 2 < ((ns.length : Nat) : Int) - 1 := by revert hlt; split <;> omega
      have sx := Lx.base.seq hs
      obtain ⟨z1, hz1⟩ : ∃ z, ns[2 + i * 2]? = some z := ⟨_, List.getElem?_eq_getElem (by omega)⟩
      obtain ⟨z2, hz2⟩ : ∃ z, ns[2 + i * 2 + 1]? = some z := ⟨_, List.getElem?_eq_getElem (by omega)⟩
      have at1 : atI (ns.map V.int) (2 + (i : Int) * 2) = some (.int z1) := atI_nat (j := 2 + i * 2) (by rw [List.getElem?_map, hz1]; rfl)
      have at2 : atI (ns.map V.int) (2 + (i : Int) * 2 + 1) = some (.int z2) := atI_nat (j := 2 + i * 2 + 1) (by rw [List.getElem?_map, hz2]; rfl)
      refine ⟨_, rfl, _, rfl, a, _, _, _, rfl, rfl, sx, at1, _, _, rfl, rfl, ⟨by decide, by decide⟩, _, _, rfl, rfl, (by show (0 : Int) < 8; decide), rfl, .inr ⟨_, rfl, ?_⟩⟩
      generalize decide (V.int (z1 / 3 % 8) = V.int 5) = b
      obtain ⟨ts, qs, S⟩ := Lx.ks b
      have z40 := Lx.szs b
      refine tnx ?_
      dsimp only
      refine ⟨_, rfl, _, rfl, a, _, _, _, rfl, rfl, sx, at1, _, _, rfl, rfl, ⟨by decide, by decide⟩, _, rfl, _, rfl, _, _, rfl, rfl, a, _, _, _, rfl, rfl, sx, at2, _, rfl, _, rfl, ls, _, _, _, rfl, rfl, SqL.of Lx.ls_, atk, st b, _, (0 : Int), _, rfl, rfl, SqL.of S.sts, atI_nat (j := 0) rfl, z1 / 24, z2, sz b, rfl, by omega, z40.2, fun u v t1 t2 t H' s' et ku kv => ?_⟩
      refine ⟨t, _, rfl, SqT.of et, rfl, _, _, rfl, _, _, rfl, rfl, ?_⟩
      have Ly := Lx.ex s'
      have sy := Ly.base.seq hs
      refine tnx ?_
      dsimp only
      refine if_no (R := fun Hy => LI c H Hy lk ls k st tl sz x) (fun Q' hq => ?_) fun Hy Ly => ⟨_, _, _, _, _, rfl, Ly⟩
      refine ⟨_, rfl, _, rfl, lk, _, _, _, rfl, rfl, SqL.of Ly.lk_, atk, _, rfl, _, rfl, ls, _, _, _, rfl, rfl, SqL.of Ly.ls_, atk, _, rfl, _, rfl, a, _, _, _, rfl, rfl, sy, at1, _, _, rfl, rfl, (by show (0 : Int) < 3; decide), rfl, _, rfl, _, rfl, ?_⟩
      exact ⟨_, k b, st b, tl b, sz b, ts, qs, _, u, v, t1, t2, rfl, S.ex s', ku, kv, fun ts' qs' H' s' S' => ⟨_, rfl, hq _ (Ly.step s' S')⟩⟩
    · rintro σ H13 ⟨v6, v7, v8, v9, v10, rfl, L13⟩
      -- both stand
      refine tnx ?_
      dsimp only
      refine ⟨2, rfl, by decide, by decide, for_range (lo := 0) (n := (2 : Int).toNat) (fun i σ H' => ∃ v8, σ = [some (.ref a), some (.int n), some (.int g), some (.ref lk), some (.ref ls), some (.ref x), v6, v7, v8, v9, v10] ∧ LI c H H' lk ls k st tl sz x)
        ⟨v8, rfl, L13⟩ ?_ ?_⟩
      · rintro i σ Hx hi ⟨v8, rfl, Lx⟩
        have hi : i < 2 := hi
        dsimp only [gName]
        obtain ⟨b, eb⟩ : ∃ b : Bool, (0 : Int) + (i : Int) = if b = true then 1 else 0 := by
          match i, hi with
          | 0, _ => exact ⟨false, rfl⟩
          | 1, _ => exact ⟨true, rfl⟩
        rw [eb]
        obtain ⟨ts, qs, S⟩ := Lx.ks b
        obtain ⟨us, tu, hl, pl, pm⟩ := S.tls
        refine if_no (R := fun Hy => LI c H Hy lk ls k st tl sz x) (fun Q' hq => ?_) fun Hy Ly => ⟨_, rfl, Ly⟩
        refine ⟨_, rfl, _, rfl, lk, _, _, _, rfl, rfl, SqL.of Lx.lk_, atk, _, rfl, _, rfl, ls, _, _, _, rfl, rfl, SqL.of Lx.ls_, atk, st b, _, (0 : Int), _, rfl, rfl, SqL.of S.sts, atI_nat (j := 0) rfl, _, rfl, _, rfl, ls, _, _, _, rfl, rfl, SqL.of Lx.ls_, atk, st b, _, (1 : Int), _, rfl, rfl, SqL.of S.sts, atI_nat (j := 1) rfl, ?_⟩
        refine ⟨k b, tl b, sz b, us, tu, ts, qs, rfl, S.kept.out, hl, pl, pm, fun Hy sy => ?_⟩
        have Ly := Lx.ex sy
        refine ⟨_, rfl, _, rfl, ls, _, _, _, rfl, rfl, SqL.of Ly.ls_, atk, st b, _, (2 : Int), _, rfl, rfl, SqL.of (sy _ _ S.sts), atI_nat (j := 2) rfl, rfl, _, rfl, ?_⟩
        rw [vint, decide_eq_true rfl]
        exact hq _ Ly
      · rintro σ H14 ⟨v8, rfl, L14⟩
        refine tnx ?_
        dsimp only
        have N14 := L14.net.ex rmL_same
        obtain ⟨dx, lt, ln, us', rs, a9, _⟩ := id N14.at_
        have z0 := (L14.szs false).1
        refine ⟨_, rfl, x, dx, _, rfl, a9, nf_m_ties _ _ _, x, sz false, [], rfl, N14, fun p1 w1 hp1 pr1 => ⟨Nat.zero_le _, fun p2 hp2 => ?_⟩⟩
        have b1 := Same.new (o := .lst w1) hp1
        have b2 := Same.new (o := .lst []) hp2
        refine ⟨dPs [], dPs [], dp_prs (SqL.of (b2 _ _ upd_same)) (pr1.ex (Same.trans b1 b2)), dp_prs (SqL.of upd_same) .nil, shaped_dPs _, shaped_dPs _, _, rfl, ?_⟩
        rw [eqv_dPs, decide_eq_true rfl]
        refine iteT ?_
        have N15 := N14.ex (Same.trans b1 b2)
        refine ⟨_, rfl, x, dx, _, rfl, (Same.trans b1 b2) _ _ a9, nf_beside _ _ _, x, sz false, [], _, _, rfl, N15, .int 0, fun i ei hi p3 hp3 => ⟨Nat.zero_le _, fun p4 hp4 => ?_⟩, fun no => ?_⟩
        · have b3 := Same.new (o := .lst ((nbr [] (i : Int)).map V.int)) hp3
          have b4 := Same.new (o := .lst []) hp4
          refine ⟨dIs (nbr [] (i : Int)), dIs [], dp_ints (SqL.of (b4 _ _ upd_same)), dp_ints (SqL.of upd_same), shaped_dIs _, shaped_dIs _, ?_⟩
          rw [eqv_dIs, decide_eq_true (show nbr [] (i : Int) = [] from rfl)]
          exact q _
        · have : isPl (.int 0) (sz false) = true := decide_eq_true ⟨Int.le_refl 0, by omega⟩
          rw [no] at this; cases this
end
end Od

namespace Od
open PySem PySem.Spec PyProof.Rows L2
theorem kit_self {K : PySem.W.Frag} {D : Addr} : PySem.W.kitOne K (.ref D) (.ref D) = some true := if_pos (beq_self_eq_true _)
theorem kit_own {K : PySem.W.Frag} {D C : Addr} {b : Bool} (i : PySem.W.isClsIn K C = true) (t : PySem.W.typeIn K (.ref C) = some (.type "type")) (s : PySem.W.subIn K (.ref D) (.ref C) = some b) (sd : PySem.W.subIn K (.ref D) (.ref D) = some true) :
    PySem.W.kitOne K (.ref D) (.ref C) = some b := by
  unfold PySem.W.kitOne
  by_cases c : D = C
  · subst c
    rw [if_pos (beq_self_eq_true _), ← s, sd]
  · rw [if_neg (by rw [beq_iff_eq]; intro z; injection z with z; exact c z)]
    unfold PySem.W.kitCls
    have h : ((PySem.W.clsIn K C).isSome && PySem.W.typeIn K (.ref C) == some (.type "type")) = true := by
      rw [t, show (PySem.W.clsIn K C).isSome = true from i]; rfl
    simp only [h, if_true]
    exact s
theorem kit_val {K : PySem.W.Frag} {D : Addr} (s : PySem.W.subIn K (.ref D) (.type "ValueError") = some true) : PySem.W.kitOne K (.ref D) (.type "ValueError") = some true := by
  unfold PySem.W.kitOne
  rw [if_neg (by rw [beq_iff_eq]; intro z; cases z)]
  unfold PySem.W.kitCls
  have h : PySem.W.kitMeta "ValueError" = true := by decide +kernel
  simp only [h, if_true]
  exact s
end Od

set_option maxRecDepth 120000
namespace Od
open PySem PySem.Spec PyProof.Rows L2
open PySem.W (mg_of mg_none_of)
theorem all_mk {l : PySem.W.OpenLaw} {w : World} {K : PySem.W.Frag} {h : Heap} {mg : Str → Option Value} {fa : Addr} (X : K.In h) (G : h.Ns mainGlobals mg) (hfa : mg "law" = some (.ref fa))
    {CNetError CBadNet CNoPlace CBadPairs CBadWay CTieThere CNoTie COddRing CNet CKept : Addr} {tkMOST_PLACES : Tok} {f1 f2 f3 f4 f5 f6 f7 f8 f9 f10 f11 f12 f13 f14 f15 f16 f17 f18 f19 f20 f21 f22 f23 f24 f25 f26 f27 f28 f29 f30 f31 f32 f33 f34 f35 f36 f37 f38 f39 f40 f41 f42 f43 f44 f45 : Addr} {od1 an1 od2 an2 od3 an3 od4 an4 od5 an5 od6 an6 od7 an7 od8 an8 od9 an9 od10 an10 od11 an11 od12 an12 od13 an13 od14 an14 od15 an15 od16 an16 od17 an17 od18 an18 od19 an19 od20 an20 od21 an21 od22 an22 od23 an23 od24 an24 od25 an25 od26 an26 od27 an27 od28 an28 od29 an29 od30 an30 od31 an31 od32 an32 od33 an33 od34 an34 od35 an35 od36 an36 od37 an37 od38 an38 od39 an39 od40 an40 od41 an41 od42 an42 od43 an43 od44 an44 od45 an45 : Option Addr} {sl1 sl2 sl3 sl4 sl5 sl6 sl7 sl8 sl9 sl10 sl11 sl12 sl13 sl14 sl15 sl16 sl17 sl18 sl19 sl20 sl21 sl22 sl23 sl24 sl25 sl26 sl27 sl28 sl29 sl30 sl31 sl32 sl33 sl34 sl35 sl36 sl37 sl38 sl39 sl40 sl41 sl42 sl43 sl44 sl45 : Array (Option Value)} {oc1 kV1 dc1 pm1 cd1 ct1 oc2 kV2 dc2 pm2 cd2 ct2 oc3 kV3 dc3 pm3 cd3 ct3 oc4 kV4 dc4 pm4 cd4 ct4 oc5 kV5 dc5 pm5 cd5 ct5 oc6 kV6 dc6 pm6 cd6 ct6 oc7 kV7 dc7 pm7 cd7 ct7 oc8 kV8 dc8 pm8 cd8 ct8 oc9 kV9 dc9 pm9 cd9 ct9 oc10 kV10 dc10 pm10 cd10 ct10 oc11 kV11 dc11 pm11 cd11 ct11 oc12 kV12 dc12 pm12 cd12 ct12 oc13 kV13 dc13 pm13 cd13 ct13 oc14 kV14 dc14 pm14 cd14 ct14 oc15 kV15 dc15 pm15 cd15 ct15 oc16 kV16 dc16 pm16 cd16 ct16 oc17 kV17 dc17 pm17 cd17 ct17 oc18 kV18 dc18 pm18 cd18 ct18 oc19 kV19 dc19 pm19 cd19 ct19 oc20 kV20 dc20 pm20 cd20 ct20 oc21 kV21 dc21 pm21 cd21 ct21 oc22 kV22 dc22 pm22 cd22 ct22 oc23 kV23 dc23 pm23 cd23 ct23 oc24 kV24 dc24 pm24 cd24 ct24 oc25 kV25 dc25 pm25 cd25 ct25 oc26 kV26 dc26 pm26 cd26 ct26 oc27 kV27 dc27 pm27 cd27 ct27 oc28 kV28 dc28 pm28 cd28 ct28 oc29 kV29 dc29 pm29 cd29 ct29 oc30 kV30 dc30 pm30 cd30 ct30 oc31 kV31 dc31 pm31 cd31 ct31 oc32 kV32 dc32 pm32 cd32 ct32 oc33 kV33 dc33 pm33 cd33 ct33 oc34 kV34 dc34 pm34 cd34 ct34 oc35 kV35 dc35 pm35 cd35 ct35 oc36 kV36 dc36 pm36 cd36 ct36 oc37 kV37 dc37 pm37 cd37 ct37 oc38 kV38 dc38 pm38 cd38 ct38 oc39 kV39 dc39 pm39 cd39 ct39 oc40 kV40 dc40 pm40 cd40 ct40 oc41 kV41 dc41 pm41 cd41 ct41 oc42 kV42 dc42 pm42 cd42 ct42 oc43 kV43 dc43 pm43 cd43 ct43 oc44 kV44 dc44 pm44 cd44 ct44 oc45 kV45 dc45 pm45 cd45 ct45 : Value}
    (gNetError : PySem.W.nsIn K mainGlobals "NetError" = some (some (.ref CNetError)))
    (gBadNet : PySem.W.nsIn K mainGlobals "BadNet" = some (some (.ref CBadNet)))
    (gNoPlace : PySem.W.nsIn K mainGlobals "NoPlace" = some (some (.ref CNoPlace)))
    (gBadPairs : PySem.W.nsIn K mainGlobals "BadPairs" = some (some (.ref CBadPairs)))
    (gBadWay : PySem.W.nsIn K mainGlobals "BadWay" = some (some (.ref CBadWay)))
    (gTieThere : PySem.W.nsIn K mainGlobals "TieThere" = some (some (.ref CTieThere)))
    (gNoTie : PySem.W.nsIn K mainGlobals "NoTie" = some (some (.ref CNoTie)))
    (gOddRing : PySem.W.nsIn K mainGlobals "OddRing" = some (some (.ref COddRing)))
    (gNet : PySem.W.nsIn K mainGlobals "Net" = some (some (.ref CNet)))
    (gKept : PySem.W.nsIn K mainGlobals "Kept" = some (some (.ref CKept)))
    (xNetError : PySem.W.excIn K CNetError [.type "ValueError", .type "Exception", .type "BaseException", .type "object"] "ValueError.__new__" = true)
    (pNetError : PySem.W.keepIn K (.ref CNetError) = true)
    (bNetError : PySem.W.subIn K (.ref CNetError) (.type "BaseException") = some true)
    (tNetError : PySem.W.typeIn K (.ref CNetError) = some (.type "type"))
    (hNetError : PySem.W.hasDictIn K CNetError = true)
    (iNetError : PySem.W.isClsIn K CNetError = true)
    (sNetError : PySem.W.subIn K (.ref CNetError) (.ref CNetError) = some true)
    (xBadNet : PySem.W.excIn K CBadNet [.type "ValueError", .type "Exception", .type "BaseException", .type "object"] "ValueError.__new__" = true)
    (pBadNet : PySem.W.keepIn K (.ref CBadNet) = true)
    (bBadNet : PySem.W.subIn K (.ref CBadNet) (.type "BaseException") = some true)
    (tBadNet : PySem.W.typeIn K (.ref CBadNet) = some (.type "type"))
    (hBadNet : PySem.W.hasDictIn K CBadNet = true)
    (iBadNet : PySem.W.isClsIn K CBadNet = true)
    (sBadNet : PySem.W.subIn K (.ref CBadNet) (.ref CBadNet) = some true)
    (xNoPlace : PySem.W.excIn K CNoPlace [.type "ValueError", .type "Exception", .type "BaseException", .type "object"] "ValueError.__new__" = true)
    (pNoPlace : PySem.W.keepIn K (.ref CNoPlace) = true)
    (bNoPlace : PySem.W.subIn K (.ref CNoPlace) (.type "BaseException") = some true)
    (tNoPlace : PySem.W.typeIn K (.ref CNoPlace) = some (.type "type"))
    (hNoPlace : PySem.W.hasDictIn K CNoPlace = true)
    (iNoPlace : PySem.W.isClsIn K CNoPlace = true)
    (sNoPlace : PySem.W.subIn K (.ref CNoPlace) (.ref CNoPlace) = some true)
    (xBadPairs : PySem.W.excIn K CBadPairs [.type "ValueError", .type "Exception", .type "BaseException", .type "object"] "ValueError.__new__" = true)
    (pBadPairs : PySem.W.keepIn K (.ref CBadPairs) = true)
    (bBadPairs : PySem.W.subIn K (.ref CBadPairs) (.type "BaseException") = some true)
    (tBadPairs : PySem.W.typeIn K (.ref CBadPairs) = some (.type "type"))
    (hBadPairs : PySem.W.hasDictIn K CBadPairs = true)
    (iBadPairs : PySem.W.isClsIn K CBadPairs = true)
    (sBadPairs : PySem.W.subIn K (.ref CBadPairs) (.ref CBadPairs) = some true)
    (xBadWay : PySem.W.excIn K CBadWay [.type "ValueError", .type "Exception", .type "BaseException", .type "object"] "ValueError.__new__" = true)
    (pBadWay : PySem.W.keepIn K (.ref CBadWay) = true)
    (bBadWay : PySem.W.subIn K (.ref CBadWay) (.type "BaseException") = some true)
    (tBadWay : PySem.W.typeIn K (.ref CBadWay) = some (.type "type"))
    (hBadWay : PySem.W.hasDictIn K CBadWay = true)
    (iBadWay : PySem.W.isClsIn K CBadWay = true)
    (sBadWay : PySem.W.subIn K (.ref CBadWay) (.ref CBadWay) = some true)
    (xTieThere : PySem.W.excIn K CTieThere [.type "ValueError", .type "Exception", .type "BaseException", .type "object"] "ValueError.__new__" = true)
    (pTieThere : PySem.W.keepIn K (.ref CTieThere) = true)
    (bTieThere : PySem.W.subIn K (.ref CTieThere) (.type "BaseException") = some true)
    (tTieThere : PySem.W.typeIn K (.ref CTieThere) = some (.type "type"))
    (hTieThere : PySem.W.hasDictIn K CTieThere = true)
    (iTieThere : PySem.W.isClsIn K CTieThere = true)
    (sTieThere : PySem.W.subIn K (.ref CTieThere) (.ref CTieThere) = some true)
    (xNoTie : PySem.W.excIn K CNoTie [.type "ValueError", .type "Exception", .type "BaseException", .type "object"] "ValueError.__new__" = true)
    (pNoTie : PySem.W.keepIn K (.ref CNoTie) = true)
    (bNoTie : PySem.W.subIn K (.ref CNoTie) (.type "BaseException") = some true)
    (tNoTie : PySem.W.typeIn K (.ref CNoTie) = some (.type "type"))
    (hNoTie : PySem.W.hasDictIn K CNoTie = true)
    (iNoTie : PySem.W.isClsIn K CNoTie = true)
    (sNoTie : PySem.W.subIn K (.ref CNoTie) (.ref CNoTie) = some true)
    (xOddRing : PySem.W.excIn K COddRing [.type "ValueError", .type "Exception", .type "BaseException", .type "object"] "ValueError.__new__" = true)
    (pOddRing : PySem.W.keepIn K (.ref COddRing) = true)
    (bOddRing : PySem.W.subIn K (.ref COddRing) (.type "BaseException") = some true)
    (tOddRing : PySem.W.typeIn K (.ref COddRing) = some (.type "type"))
    (hOddRing : PySem.W.hasDictIn K COddRing = true)
    (iOddRing : PySem.W.isClsIn K COddRing = true)
    (sOddRing : PySem.W.subIn K (.ref COddRing) (.ref COddRing) = some true)
    (oG : PySem.W.specialIn K (.builtin "object.__class__") "__get__" = some (some (.builtin "getset_descriptor.__get__")))
    (oT : PySem.W.takesIn K (.builtin "object.__class__") = some true)
    (e1BadNet : PySem.W.findIn K (.ref CBadNet) "__getattribute__" = some (some (.builtin "BaseException.__getattribute__")))
    (e2BadNet : PySem.W.findIn K (.ref CBadNet) "__getattr__" = some none)
    (e3BadNet : PySem.W.findIn K (.ref CBadNet) "__class__" = some (some (.builtin "object.__class__")))
    (e4BadNet : PySem.W.mroIn K CBadNet (.type "object") = some true)
    (e5BadNet : PySem.W.subIn K (.ref CBadNet) (.type "ValueError") = some true)
    (e6BadNet : PySem.W.subIn K (.ref CBadNet) (.ref CNetError) = some true)
    (uBadNet_NoPlace : PySem.W.subIn K (.ref CBadNet) (.ref CNoPlace) = some false)
    (uBadNet_BadPairs : PySem.W.subIn K (.ref CBadNet) (.ref CBadPairs) = some false)
    (uBadNet_BadWay : PySem.W.subIn K (.ref CBadNet) (.ref CBadWay) = some false)
    (uBadNet_TieThere : PySem.W.subIn K (.ref CBadNet) (.ref CTieThere) = some false)
    (uBadNet_NoTie : PySem.W.subIn K (.ref CBadNet) (.ref CNoTie) = some false)
    (uBadNet_OddRing : PySem.W.subIn K (.ref CBadNet) (.ref COddRing) = some false)
    (e1NoPlace : PySem.W.findIn K (.ref CNoPlace) "__getattribute__" = some (some (.builtin "BaseException.__getattribute__")))
    (e2NoPlace : PySem.W.findIn K (.ref CNoPlace) "__getattr__" = some none)
    (e3NoPlace : PySem.W.findIn K (.ref CNoPlace) "__class__" = some (some (.builtin "object.__class__")))
    (e4NoPlace : PySem.W.mroIn K CNoPlace (.type "object") = some true)
    (e5NoPlace : PySem.W.subIn K (.ref CNoPlace) (.type "ValueError") = some true)
    (e6NoPlace : PySem.W.subIn K (.ref CNoPlace) (.ref CNetError) = some true)
    (uNoPlace_BadNet : PySem.W.subIn K (.ref CNoPlace) (.ref CBadNet) = some false)
    (uNoPlace_BadPairs : PySem.W.subIn K (.ref CNoPlace) (.ref CBadPairs) = some false)
    (uNoPlace_BadWay : PySem.W.subIn K (.ref CNoPlace) (.ref CBadWay) = some false)
    (uNoPlace_TieThere : PySem.W.subIn K (.ref CNoPlace) (.ref CTieThere) = some false)
    (uNoPlace_NoTie : PySem.W.subIn K (.ref CNoPlace) (.ref CNoTie) = some false)
    (uNoPlace_OddRing : PySem.W.subIn K (.ref CNoPlace) (.ref COddRing) = some false)
    (e1BadPairs : PySem.W.findIn K (.ref CBadPairs) "__getattribute__" = some (some (.builtin "BaseException.__getattribute__")))
    (e2BadPairs : PySem.W.findIn K (.ref CBadPairs) "__getattr__" = some none)
    (e3BadPairs : PySem.W.findIn K (.ref CBadPairs) "__class__" = some (some (.builtin "object.__class__")))
    (e4BadPairs : PySem.W.mroIn K CBadPairs (.type "object") = some true)
    (e5BadPairs : PySem.W.subIn K (.ref CBadPairs) (.type "ValueError") = some true)
    (e6BadPairs : PySem.W.subIn K (.ref CBadPairs) (.ref CNetError) = some true)
    (uBadPairs_BadNet : PySem.W.subIn K (.ref CBadPairs) (.ref CBadNet) = some false)
    (uBadPairs_NoPlace : PySem.W.subIn K (.ref CBadPairs) (.ref CNoPlace) = some false)
    (uBadPairs_BadWay : PySem.W.subIn K (.ref CBadPairs) (.ref CBadWay) = some false)
    (uBadPairs_TieThere : PySem.W.subIn K (.ref CBadPairs) (.ref CTieThere) = some false)
    (uBadPairs_NoTie : PySem.W.subIn K (.ref CBadPairs) (.ref CNoTie) = some false)
    (uBadPairs_OddRing : PySem.W.subIn K (.ref CBadPairs) (.ref COddRing) = some false)
    (e1BadWay : PySem.W.findIn K (.ref CBadWay) "__getattribute__" = some (some (.builtin "BaseException.__getattribute__")))
    (e2BadWay : PySem.W.findIn K (.ref CBadWay) "__getattr__" = some none)
    (e3BadWay : PySem.W.findIn K (.ref CBadWay) "__class__" = some (some (.builtin "object.__class__")))
    (e4BadWay : PySem.W.mroIn K CBadWay (.type "object") = some true)
    (e5BadWay : PySem.W.subIn K (.ref CBadWay) (.type "ValueError") = some true)
    (e6BadWay : PySem.W.subIn K (.ref CBadWay) (.ref CNetError) = some true)
    (uBadWay_BadNet : PySem.W.subIn K (.ref CBadWay) (.ref CBadNet) = some false)
    (uBadWay_NoPlace : PySem.W.subIn K (.ref CBadWay) (.ref CNoPlace) = some false)
    (uBadWay_BadPairs : PySem.W.subIn K (.ref CBadWay) (.ref CBadPairs) = some false)
    (uBadWay_TieThere : PySem.W.subIn K (.ref CBadWay) (.ref CTieThere) = some false)
    (uBadWay_NoTie : PySem.W.subIn K (.ref CBadWay) (.ref CNoTie) = some false)
    (uBadWay_OddRing : PySem.W.subIn K (.ref CBadWay) (.ref COddRing) = some false)
    (e1TieThere : PySem.W.findIn K (.ref CTieThere) "__getattribute__" = some (some (.builtin "BaseException.__getattribute__")))
    (e2TieThere : PySem.W.findIn K (.ref CTieThere) "__getattr__" = some none)
    (e3TieThere : PySem.W.findIn K (.ref CTieThere) "__class__" = some (some (.builtin "object.__class__")))
    (e4TieThere : PySem.W.mroIn K CTieThere (.type "object") = some true)
    (e5TieThere : PySem.W.subIn K (.ref CTieThere) (.type "ValueError") = some true)
    (e6TieThere : PySem.W.subIn K (.ref CTieThere) (.ref CNetError) = some true)
    (uTieThere_BadNet : PySem.W.subIn K (.ref CTieThere) (.ref CBadNet) = some false)
    (uTieThere_NoPlace : PySem.W.subIn K (.ref CTieThere) (.ref CNoPlace) = some false)
    (uTieThere_BadPairs : PySem.W.subIn K (.ref CTieThere) (.ref CBadPairs) = some false)
    (uTieThere_BadWay : PySem.W.subIn K (.ref CTieThere) (.ref CBadWay) = some false)
    (uTieThere_NoTie : PySem.W.subIn K (.ref CTieThere) (.ref CNoTie) = some false)
    (uTieThere_OddRing : PySem.W.subIn K (.ref CTieThere) (.ref COddRing) = some false)
    (e1NoTie : PySem.W.findIn K (.ref CNoTie) "__getattribute__" = some (some (.builtin "BaseException.__getattribute__")))
    (e2NoTie : PySem.W.findIn K (.ref CNoTie) "__getattr__" = some none)
    (e3NoTie : PySem.W.findIn K (.ref CNoTie) "__class__" = some (some (.builtin "object.__class__")))
    (e4NoTie : PySem.W.mroIn K CNoTie (.type "object") = some true)
    (e5NoTie : PySem.W.subIn K (.ref CNoTie) (.type "ValueError") = some true)
    (e6NoTie : PySem.W.subIn K (.ref CNoTie) (.ref CNetError) = some true)
    (uNoTie_BadNet : PySem.W.subIn K (.ref CNoTie) (.ref CBadNet) = some false)
    (uNoTie_NoPlace : PySem.W.subIn K (.ref CNoTie) (.ref CNoPlace) = some false)
    (uNoTie_BadPairs : PySem.W.subIn K (.ref CNoTie) (.ref CBadPairs) = some false)
    (uNoTie_BadWay : PySem.W.subIn K (.ref CNoTie) (.ref CBadWay) = some false)
    (uNoTie_TieThere : PySem.W.subIn K (.ref CNoTie) (.ref CTieThere) = some false)
    (uNoTie_OddRing : PySem.W.subIn K (.ref CNoTie) (.ref COddRing) = some false)
    (pgNet : PySem.W.plainGet K CNet Str.empty = true)
    (hdNet : PySem.W.hasDictIn K CNet = true)
    (poNet : PySem.W.plainOver K CNet = true)
    (saNet : PySem.W.findIn K (.ref CNet) "__setattr__" = some (some (.builtin "object.__setattr__")))
    (mkNet : PySem.W.makesIn K CNet = true)
    (kcNet : PySem.W.keepIn K (.ref CNet) = true)
    (nNet_size : PySem.W.findIn K (.ref CNet) "size" = some none)
    (nNet__ties : PySem.W.findIn K (.ref CNet) "_ties" = some none)
    (nNet__near : PySem.W.findIn K (.ref CNet) "_near" = some none)
    (pgKept : PySem.W.plainGet K CKept Str.empty = true)
    (hdKept : PySem.W.hasDictIn K CKept = true)
    (poKept : PySem.W.plainOver K CKept = true)
    (saKept : PySem.W.findIn K (.ref CKept) "__setattr__" = some (some (.builtin "object.__setattr__")))
    (mkKept : PySem.W.makesIn K CKept = true)
    (kcKept : PySem.W.keepIn K (.ref CKept) = true)
    (nKept__net : PySem.W.findIn K (.ref CKept) "_net" = some none)
    (nKept__pairs : PySem.W.findIn K (.ref CKept) "_pairs" = some none)
    (zisinstance : PySem.W.nsIn K mainGlobals "isinstance" = some none)
    (zint : PySem.W.nsIn K mainGlobals "int" = some none)
    (zbool : PySem.W.nsIn K mainGlobals "bool" = some none)
    (ztuple : PySem.W.nsIn K mainGlobals "tuple" = some none)
    (zlist : PySem.W.nsIn K mainGlobals "list" = some none)
    (zstr : PySem.W.nsIn K mainGlobals "str" = some none)
    (zlen : PySem.W.nsIn K mainGlobals "len" = some none)
    (zset : PySem.W.nsIn K mainGlobals "set" = some none)
    (zdict : PySem.W.nsIn K mainGlobals "dict" = some none)
    (zsorted : PySem.W.nsIn K mainGlobals "sorted" = some none)
    (zrange : PySem.W.nsIn K mainGlobals "range" = some none)
    (zenumerate : PySem.W.nsIn K mainGlobals "enumerate" = some none)
    (zzip : PySem.W.nsIn K mainGlobals "zip" = some none)
    (zall : PySem.W.nsIn K mainGlobals "all" = some none)
    (zany : PySem.W.nsIn K mainGlobals "any" = some none)
    (zmin : PySem.W.nsIn K mainGlobals "min" = some none)
    (zmax : PySem.W.nsIn K mainGlobals "max" = some none)
    (zValueError : PySem.W.nsIn K mainGlobals "ValueError" = some none)
    (cMOST_PLACES : PySem.W.nsIn K mainGlobals "MOST_PLACES" = some (some (.int 40 tkMOST_PLACES)))
    (a1 : PySem.W.nsIn K mainGlobals "is_number" = some (some (.ref f1)))
    (l1 : K.lookup f1 = some ⟨oc1, od1, .func (PySem.W.fnOf "is_number" "is_number" (defArgs S_is_number) (defBody S_is_number) (defScope S_is_number) .none kV1 dc1 pm1 an1 cd1 ct1), sl1⟩)
    (c1 : PySem.W.codeIn K cd1 "is_number" = true)
    (k1 : PySem.W.keepIn K (.ref f1) = true)
    (a2 : PySem.W.nsIn K mainGlobals "is_place" = some (some (.ref f2)))
    (l2 : K.lookup f2 = some ⟨oc2, od2, .func (PySem.W.fnOf "is_place" "is_place" (defArgs S_is_place) (defBody S_is_place) (defScope S_is_place) .none kV2 dc2 pm2 an2 cd2 ct2), sl2⟩)
    (c2 : PySem.W.codeIn K cd2 "is_place" = true)
    (k2 : PySem.W.keepIn K (.ref f2) = true)
    (a3 : PySem.W.nsIn K mainGlobals "is_tie" = some (some (.ref f3)))
    (l3 : K.lookup f3 = some ⟨oc3, od3, .func (PySem.W.fnOf "is_tie" "is_tie" (defArgs S_is_tie) (defBody S_is_tie) (defScope S_is_tie) .none kV3 dc3 pm3 an3 cd3 ct3), sl3⟩)
    (c3 : PySem.W.codeIn K cd3 "is_tie" = true)
    (k3 : PySem.W.keepIn K (.ref f3) = true)
    (a4 : PySem.W.nsIn K mainGlobals "rising_ties" = some (some (.ref f4)))
    (l4 : K.lookup f4 = some ⟨oc4, od4, .func (PySem.W.fnOf "rising_ties" "rising_ties" (defArgs S_rising_ties) (defBody S_rising_ties) (defScope S_rising_ties) .none kV4 dc4 pm4 an4 cd4 ct4), sl4⟩)
    (c4 : PySem.W.codeIn K cd4 "rising_ties" = true)
    (k4 : PySem.W.keepIn K (.ref f4) = true)
    (a5 : PySem.W.nsIn K mainGlobals "neighbours" = some (some (.ref f5)))
    (l5 : K.lookup f5 = some ⟨oc5, od5, .func (PySem.W.fnOf "neighbours" "neighbours" (defArgs S_neighbours) (defBody S_neighbours) (defScope S_neighbours) .none kV5 dc5 pm5 an5 cd5 ct5), sl5⟩)
    (c5 : PySem.W.codeIn K cd5 "neighbours" = true)
    (k5 : PySem.W.keepIn K (.ref f5) = true)
    (a6 : PySem.W.findIn K (.ref CNet) "__init__" = some (some (.ref f6)))
    (i6 : PySem.W.isFn K (.ref f6) = true)
    (l6 : K.lookup f6 = some ⟨oc6, od6, .func (PySem.W.fnOf "__init__" "Net.__init__" (defArgs S_Net___init__) (defBody S_Net___init__) (defScope S_Net___init__) .none kV6 dc6 pm6 an6 cd6 ct6), sl6⟩)
    (c6 : PySem.W.codeIn K cd6 "Net.__init__" = true)
    (k6 : PySem.W.keepIn K (.ref f6) = true)
    (a7 : PySem.W.findIn K (.ref CNet) "ties" = some (some (.ref f7)))
    (i7 : PySem.W.isFn K (.ref f7) = true)
    (l7 : K.lookup f7 = some ⟨oc7, od7, .func (PySem.W.fnOf "ties" "Net.ties" (defArgs S_Net_ties) (defBody S_Net_ties) (defScope S_Net_ties) .none kV7 dc7 pm7 an7 cd7 ct7), sl7⟩)
    (c7 : PySem.W.codeIn K cd7 "Net.ties" = true)
    (k7 : PySem.W.keepIn K (.ref f7) = true)
    (a8 : PySem.W.findIn K (.ref CNet) "beside" = some (some (.ref f8)))
    (i8 : PySem.W.isFn K (.ref f8) = true)
    (l8 : K.lookup f8 = some ⟨oc8, od8, .func (PySem.W.fnOf "beside" "Net.beside" (defArgs S_Net_beside) (defBody S_Net_beside) (defScope S_Net_beside) .none kV8 dc8 pm8 an8 cd8 ct8), sl8⟩)
    (c8 : PySem.W.codeIn K cd8 "Net.beside" = true)
    (k8 : PySem.W.keepIn K (.ref f8) = true)
    (a9 : PySem.W.nsIn K mainGlobals "checked" = some (some (.ref f9)))
    (l9 : K.lookup f9 = some ⟨oc9, od9, .func (PySem.W.fnOf "checked" "checked" (defArgs S_checked) (defBody S_checked) (defScope S_checked) .none kV9 dc9 pm9 an9 cd9 ct9), sl9⟩)
    (c9 : PySem.W.codeIn K cd9 "checked" = true)
    (k9 : PySem.W.keepIn K (.ref f9) = true)
    (a10 : PySem.W.nsIn K mainGlobals "mates_in" = some (some (.ref f10)))
    (l10 : K.lookup f10 = some ⟨oc10, od10, .func (PySem.W.fnOf "mates_in" "mates_in" (defArgs S_mates_in) (defBody S_mates_in) (defScope S_mates_in) .none kV10 dc10 pm10 an10 cd10 ct10), sl10⟩)
    (c10 : PySem.W.codeIn K cd10 "mates_in" = true)
    (k10 : PySem.W.keepIn K (.ref f10) = true)
    (a11 : PySem.W.nsIn K mainGlobals "are_places" = some (some (.ref f11)))
    (l11 : K.lookup f11 = some ⟨oc11, od11, .func (PySem.W.fnOf "are_places" "are_places" (defArgs S_are_places) (defBody S_are_places) (defScope S_are_places) .none kV11 dc11 pm11 an11 cd11 ct11), sl11⟩)
    (c11 : PySem.W.codeIn K cd11 "are_places" = true)
    (k11 : PySem.W.keepIn K (.ref f11) = true)
    (a12 : PySem.W.nsIn K mainGlobals "is_way" = some (some (.ref f12)))
    (l12 : K.lookup f12 = some ⟨oc12, od12, .func (PySem.W.fnOf "is_way" "is_way" (defArgs S_is_way) (defBody S_is_way) (defScope S_is_way) .none kV12 dc12 pm12 an12 cd12 ct12), sl12⟩)
    (c12 : PySem.W.codeIn K cd12 "is_way" = true)
    (k12 : PySem.W.keepIn K (.ref f12) = true)
    (a13 : PySem.W.nsIn K mainGlobals "turned" = some (some (.ref f13)))
    (l13 : K.lookup f13 = some ⟨oc13, od13, .func (PySem.W.fnOf "turned" "turned" (defArgs S_turned) (defBody S_turned) (defScope S_turned) .none kV13 dc13 pm13 an13 cd13 ct13), sl13⟩)
    (c13 : PySem.W.codeIn K cd13 "turned" = true)
    (k13 : PySem.W.keepIn K (.ref f13) = true)
    (a14 : PySem.W.nsIn K mainGlobals "roads_round" = some (some (.ref f14)))
    (l14 : K.lookup f14 = some ⟨oc14, od14, .func (PySem.W.fnOf "roads_round" "roads_round" (defArgs S_roads_round) (defBody S_roads_round) (defScope S_roads_round) .none kV14 dc14 pm14 an14 cd14 ct14), sl14⟩)
    (c14 : PySem.W.codeIn K cd14 "roads_round" = true)
    (k14 : PySem.W.keepIn K (.ref f14) = true)
    (a15 : PySem.W.nsIn K mainGlobals "roads_by" = some (some (.ref f15)))
    (l15 : K.lookup f15 = some ⟨oc15, od15, .func (PySem.W.fnOf "roads_by" "roads_by" (defArgs S_roads_by) (defBody S_roads_by) (defScope S_roads_by) .none kV15 dc15 pm15 an15 cd15 ct15), sl15⟩)
    (c15 : PySem.W.codeIn K cd15 "roads_by" = true)
    (k15 : PySem.W.keepIn K (.ref f15) = true)
    (a16 : PySem.W.nsIn K mainGlobals "way_from" = some (some (.ref f16)))
    (l16 : K.lookup f16 = some ⟨oc16, od16, .func (PySem.W.fnOf "way_from" "way_from" (defArgs S_way_from) (defBody S_way_from) (defScope S_way_from) .none kV16 dc16 pm16 an16 cd16 ct16), sl16⟩)
    (c16 : PySem.W.codeIn K cd16 "way_from" = true)
    (k16 : PySem.W.keepIn K (.ref f16) = true)
    (a17 : PySem.W.nsIn K mainGlobals "better" = some (some (.ref f17)))
    (l17 : K.lookup f17 = some ⟨oc17, od17, .func (PySem.W.fnOf "better" "better" (defArgs S_better) (defBody S_better) (defScope S_better) .none kV17 dc17 pm17 an17 cd17 ct17), sl17⟩)
    (c17 : PySem.W.codeIn K cd17 "better" = true)
    (k17 : PySem.W.keepIn K (.ref f17) = true)
    (a18 : PySem.W.nsIn K mainGlobals "most" = some (some (.ref f18)))
    (l18 : K.lookup f18 = some ⟨oc18, od18, .func (PySem.W.fnOf "most" "most" (defArgs S_most) (defBody S_most) (defScope S_most) .none kV18 dc18 pm18 an18 cd18 ct18), sl18⟩)
    (c18 : PySem.W.codeIn K cd18 "most" = true)
    (k18 : PySem.W.keepIn K (.ref f18) = true)
    (a19 : PySem.W.nsIn K mainGlobals "tie_between" = some (some (.ref f19)))
    (l19 : K.lookup f19 = some ⟨oc19, od19, .func (PySem.W.fnOf "tie_between" "tie_between" (defArgs S_tie_between) (defBody S_tie_between) (defScope S_tie_between) .none kV19 dc19 pm19 an19 cd19 ct19), sl19⟩)
    (c19 : PySem.W.codeIn K cd19 "tie_between" = true)
    (k19 : PySem.W.keepIn K (.ref f19) = true)
    (a20 : PySem.W.findIn K (.ref CKept) "__init__" = some (some (.ref f20)))
    (i20 : PySem.W.isFn K (.ref f20) = true)
    (l20 : K.lookup f20 = some ⟨oc20, od20, .func (PySem.W.fnOf "__init__" "Kept.__init__" (defArgs S_Kept___init__) (defBody S_Kept___init__) (defScope S_Kept___init__) .none kV20 dc20 pm20 an20 cd20 ct20), sl20⟩)
    (c20 : PySem.W.codeIn K cd20 "Kept.__init__" = true)
    (k20 : PySem.W.keepIn K (.ref f20) = true)
    (a21 : PySem.W.findIn K (.ref CKept) "put" = some (some (.ref f21)))
    (i21 : PySem.W.isFn K (.ref f21) = true)
    (l21 : K.lookup f21 = some ⟨oc21, od21, .func (PySem.W.fnOf "put" "Kept.put" (defArgs S_Kept_put) (defBody S_Kept_put) (defScope S_Kept_put) .none kV21 dc21 pm21 an21 cd21 ct21), sl21⟩)
    (c21 : PySem.W.codeIn K cd21 "Kept.put" = true)
    (k21 : PySem.W.keepIn K (.ref f21) = true)
    (a22 : PySem.W.findIn K (.ref CKept) "cut" = some (some (.ref f22)))
    (i22 : PySem.W.isFn K (.ref f22) = true)
    (l22 : K.lookup f22 = some ⟨oc22, od22, .func (PySem.W.fnOf "cut" "Kept.cut" (defArgs S_Kept_cut) (defBody S_Kept_cut) (defScope S_Kept_cut) .none kV22 dc22 pm22 an22 cd22 ct22), sl22⟩)
    (c22 : PySem.W.codeIn K cd22 "Kept.cut" = true)
    (k22 : PySem.W.keepIn K (.ref f22) = true)
    (a23 : PySem.W.findIn K (.ref CKept) "net" = some (some (.ref f23)))
    (i23 : PySem.W.isFn K (.ref f23) = true)
    (l23 : K.lookup f23 = some ⟨oc23, od23, .func (PySem.W.fnOf "net" "Kept.net" (defArgs S_Kept_net) (defBody S_Kept_net) (defScope S_Kept_net) .none kV23 dc23 pm23 an23 cd23 ct23), sl23⟩)
    (c23 : PySem.W.codeIn K cd23 "Kept.net" = true)
    (k23 : PySem.W.keepIn K (.ref f23) = true)
    (a24 : PySem.W.findIn K (.ref CKept) "pairs" = some (some (.ref f24)))
    (i24 : PySem.W.isFn K (.ref f24) = true)
    (l24 : K.lookup f24 = some ⟨oc24, od24, .func (PySem.W.fnOf "pairs" "Kept.pairs" (defArgs S_Kept_pairs) (defBody S_Kept_pairs) (defScope S_Kept_pairs) .none kV24 dc24 pm24 an24 cd24 ct24), sl24⟩)
    (c24 : PySem.W.codeIn K cd24 "Kept.pairs" = true)
    (k24 : PySem.W.keepIn K (.ref f24) = true)
    (a25 : PySem.W.findIn K (.ref CKept) "_turn_to" = some (some (.ref f25)))
    (i25 : PySem.W.isFn K (.ref f25) = true)
    (l25 : K.lookup f25 = some ⟨oc25, od25, .func (PySem.W.fnOf "_turn_to" "Kept._turn_to" (defArgs S_Kept__turn_to) (defBody S_Kept__turn_to) (defScope S_Kept__turn_to) .none kV25 dc25 pm25 an25 cd25 ct25), sl25⟩)
    (c25 : PySem.W.codeIn K cd25 "Kept._turn_to" = true)
    (k25 : PySem.W.keepIn K (.ref f25) = true)
    (a26 : PySem.W.nsIn K mainGlobals "without" = some (some (.ref f26)))
    (l26 : K.lookup f26 = some ⟨oc26, od26, .func (PySem.W.fnOf "without" "without" (defArgs S_without) (defBody S_without) (defScope S_without) .none kV26 dc26 pm26 an26 cd26 ct26), sl26⟩)
    (c26 : PySem.W.codeIn K cd26 "without" = true)
    (k26 : PySem.W.keepIn K (.ref f26) = true)
    (a27 : PySem.W.nsIn K mainGlobals "freed" = some (some (.ref f27)))
    (l27 : K.lookup f27 = some ⟨oc27, od27, .func (PySem.W.fnOf "freed" "freed" (defArgs S_freed) (defBody S_freed) (defScope S_freed) .none kV27 dc27 pm27 an27 cd27 ct27), sl27⟩)
    (c27 : PySem.W.codeIn K cd27 "freed" = true)
    (k27 : PySem.W.keepIn K (.ref f27) = true)
    (a28 : PySem.W.nsIn K mainGlobals "is_beside_one" = some (some (.ref f28)))
    (l28 : K.lookup f28 = some ⟨oc28, od28, .func (PySem.W.fnOf "is_beside_one" "is_beside_one" (defArgs S_is_beside_one) (defBody S_is_beside_one) (defScope S_is_beside_one) .none kV28 dc28 pm28 an28 cd28 ct28), sl28⟩)
    (c28 : PySem.W.codeIn K cd28 "is_beside_one" = true)
    (k28 : PySem.W.keepIn K (.ref f28) = true)
    (a29 : PySem.W.nsIn K mainGlobals "fence" = some (some (.ref f29)))
    (l29 : K.lookup f29 = some ⟨oc29, od29, .func (PySem.W.fnOf "fence" "fence" (defArgs S_fence) (defBody S_fence) (defScope S_fence) .none kV29 dc29 pm29 an29 cd29 ct29), sl29⟩)
    (c29 : PySem.W.codeIn K cd29 "fence" = true)
    (k29 : PySem.W.keepIn K (.ref f29) = true)
    (a30 : PySem.W.nsIn K mainGlobals "_law_sole" = some (some (.ref f30)))
    (l30 : K.lookup f30 = some ⟨oc30, od30, .func (PySem.W.fnOf "_law_sole" "_law_sole" (defArgs S__law_sole) (defBody S__law_sole) (defScope S__law_sole) .none kV30 dc30 pm30 an30 cd30 ct30), sl30⟩)
    (c30 : PySem.W.codeIn K cd30 "_law_sole" = true)
    (k30 : PySem.W.keepIn K (.ref f30) = true)
    (a31 : PySem.W.nsIn K mainGlobals "_law_whole" = some (some (.ref f31)))
    (l31 : K.lookup f31 = some ⟨oc31, od31, .func (PySem.W.fnOf "_law_whole" "_law_whole" (defArgs S__law_whole) (defBody S__law_whole) (defScope S__law_whole) .none kV31 dc31 pm31 an31 cd31 ct31), sl31⟩)
    (c31 : PySem.W.codeIn K cd31 "_law_whole" = true)
    (k31 : PySem.W.keepIn K (.ref f31) = true)
    (a32 : PySem.W.nsIn K mainGlobals "_law_cell_at" = some (some (.ref f32)))
    (l32 : K.lookup f32 = some ⟨oc32, od32, .func (PySem.W.fnOf "_law_cell_at" "_law_cell_at" (defArgs S__law_cell_at) (defBody S__law_cell_at) (defScope S__law_cell_at) .none kV32 dc32 pm32 an32 cd32 ct32), sl32⟩)
    (c32 : PySem.W.codeIn K cd32 "_law_cell_at" = true)
    (k32 : PySem.W.keepIn K (.ref f32) = true)
    (a33 : PySem.W.nsIn K mainGlobals "_law_near" = some (some (.ref f33)))
    (l33 : K.lookup f33 = some ⟨oc33, od33, .func (PySem.W.fnOf "_law_near" "_law_near" (defArgs S__law_near) (defBody S__law_near) (defScope S__law_near) .none kV33 dc33 pm33 an33 cd33 ct33), sl33⟩)
    (c33 : PySem.W.codeIn K cd33 "_law_near" = true)
    (k33 : PySem.W.keepIn K (.ref f33) = true)
    (a34 : PySem.W.nsIn K mainGlobals "_law_part" = some (some (.ref f34)))
    (l34 : K.lookup f34 = some ⟨oc34, od34, .func (PySem.W.fnOf "_law_part" "_law_part" (defArgs S__law_part) (defBody S__law_part) (defScope S__law_part) .none kV34 dc34 pm34 an34 cd34 ct34), sl34⟩)
    (c34 : PySem.W.codeIn K cd34 "_law_part" = true)
    (k34 : PySem.W.keepIn K (.ref f34) = true)
    (a35 : PySem.W.nsIn K mainGlobals "_law_parts" = some (some (.ref f35)))
    (l35 : K.lookup f35 = some ⟨oc35, od35, .func (PySem.W.fnOf "_law_parts" "_law_parts" (defArgs S__law_parts) (defBody S__law_parts) (defScope S__law_parts) .none kV35 dc35 pm35 an35 cd35 ct35), sl35⟩)
    (c35 : PySem.W.codeIn K cd35 "_law_parts" = true)
    (k35 : PySem.W.keepIn K (.ref f35) = true)
    (a36 : PySem.W.nsIn K mainGlobals "_law_fenced" = some (some (.ref f36)))
    (l36 : K.lookup f36 = some ⟨oc36, od36, .func (PySem.W.fnOf "_law_fenced" "_law_fenced" (defArgs S__law_fenced) (defBody S__law_fenced) (defScope S__law_fenced) .none kV36 dc36 pm36 an36 cd36 ct36), sl36⟩)
    (c36 : PySem.W.codeIn K cd36 "_law_fenced" = true)
    (k36 : PySem.W.keepIn K (.ref f36) = true)
    (a37 : PySem.W.nsIn K mainGlobals "_law_alone" = some (some (.ref f37)))
    (l37 : K.lookup f37 = some ⟨oc37, od37, .func (PySem.W.fnOf "_law_alone" "_law_alone" (defArgs S__law_alone) (defBody S__law_alone) (defScope S__law_alone) .none kV37 dc37 pm37 an37 cd37 ct37), sl37⟩)
    (c37 : PySem.W.codeIn K cd37 "_law_alone" = true)
    (k37 : PySem.W.keepIn K (.ref f37) = true)
    (a38 : PySem.W.nsIn K mainGlobals "_law_told" = some (some (.ref f38)))
    (l38 : K.lookup f38 = some ⟨oc38, od38, .func (PySem.W.fnOf "_law_told" "_law_told" (defArgs S__law_told) (defBody S__law_told) (defScope S__law_told) .none kV38 dc38 pm38 an38 cd38 ct38), sl38⟩)
    (c38 : PySem.W.codeIn K cd38 "_law_told" = true)
    (k38 : PySem.W.keepIn K (.ref f38) = true)
    (a39 : PySem.W.nsIn K mainGlobals "_law_stands" = some (some (.ref f39)))
    (l39 : K.lookup f39 = some ⟨oc39, od39, .func (PySem.W.fnOf "_law_stands" "_law_stands" (defArgs S__law_stands) (defBody S__law_stands) (defScope S__law_stands) .none kV39 dc39 pm39 an39 cd39 ct39), sl39⟩)
    (c39 : PySem.W.codeIn K cd39 "_law_stands" = true)
    (k39 : PySem.W.keepIn K (.ref f39) = true)
    (a40 : PySem.W.nsIn K mainGlobals "_law_due" = some (some (.ref f40)))
    (l40 : K.lookup f40 = some ⟨oc40, od40, .func (PySem.W.fnOf "_law_due" "_law_due" (defArgs S__law_due) (defBody S__law_due) (defScope S__law_due) .none kV40 dc40 pm40 an40 cd40 ct40), sl40⟩)
    (c40 : PySem.W.codeIn K cd40 "_law_due" = true)
    (k40 : PySem.W.keepIn K (.ref f40) = true)
    (a41 : PySem.W.nsIn K mainGlobals "_law_done" = some (some (.ref f41)))
    (l41 : K.lookup f41 = some ⟨oc41, od41, .func (PySem.W.fnOf "_law_done" "_law_done" (defArgs S__law_done) (defBody S__law_done) (defScope S__law_done) .none kV41 dc41 pm41 an41 cd41 ct41), sl41⟩)
    (c41 : PySem.W.codeIn K cd41 "_law_done" = true)
    (k41 : PySem.W.keepIn K (.ref f41) = true)
    (a42 : PySem.W.nsIn K mainGlobals "_law_goes" = some (some (.ref f42)))
    (l42 : K.lookup f42 = some ⟨oc42, od42, .func (PySem.W.fnOf "_law_goes" "_law_goes" (defArgs S__law_goes) (defBody S__law_goes) (defScope S__law_goes) .none kV42 dc42 pm42 an42 cd42 ct42), sl42⟩)
    (c42 : PySem.W.codeIn K cd42 "_law_goes" = true)
    (k42 : PySem.W.keepIn K (.ref f42) = true)
    (a43 : PySem.W.nsIn K mainGlobals "_law_places" = some (some (.ref f43)))
    (l43 : K.lookup f43 = some ⟨oc43, od43, .func (PySem.W.fnOf "_law_places" "_law_places" (defArgs S__law_places) (defBody S__law_places) (defScope S__law_places) .none kV43 dc43 pm43 an43 cd43 ct43), sl43⟩)
    (c43 : PySem.W.codeIn K cd43 "_law_places" = true)
    (k43 : PySem.W.keepIn K (.ref f43) = true)
    (a44 : PySem.W.nsIn K mainGlobals "_law_no_size" = some (some (.ref f44)))
    (l44 : K.lookup f44 = some ⟨oc44, od44, .func (PySem.W.fnOf "_law_no_size" "_law_no_size" (defArgs S__law_no_size) (defBody S__law_no_size) (defScope S__law_no_size) .none kV44 dc44 pm44 an44 cd44 ct44), sl44⟩)
    (c44 : PySem.W.codeIn K cd44 "_law_no_size" = true)
    (k44 : PySem.W.keepIn K (.ref f44) = true)
    (a45 : PySem.W.nsIn K mainGlobals "law" = some (some (.ref f45)))
    (l45 : K.lookup f45 = some ⟨oc45, od45, .func (PySem.W.fnOf "law" "law" (defArgs S_law) (defBody S_law) (defScope S_law) .none kV45 dc45 pm45 an45 cd45 ct45), sl45⟩)
    (c45 : PySem.W.codeIn K cd45 "law" = true)
    (k45 : PySem.W.keepIn K (.ref f45) = true) :
    ∃ fd : FuncData, (∀ (s : Shared) (v : Value), BindsTo s fd ⟨[v], []⟩ [("_law_script", v)]) ∧ ∀ base : Heap, K.In base → base.Ns mainGlobals mg → FnOk l.prog w K mg base CX0 13 fa fd ["_law_script"] (spLaw K) := by
  have e := hfa.symm.trans (mg_of X G a45)
  cases e
  have F1 := fun_mk (st := S_is_number) l1 c1 k1
  have B1 := F1.binds (ps := ["thing"]) fun _ _ _ _ _ _ us hl => match us, hl with | [_], _ => rfl
  have F2 := fun_mk (st := S_is_place) l2 c2 k2
  have B2 := F2.binds (ps := ["thing", "size"]) fun _ _ _ _ _ _ us hl => match us, hl with | [_, _], _ => rfl
  have F3 := fun_mk (st := S_is_tie) l3 c3 k3
  have B3 := F3.binds (ps := ["thing", "size"]) fun _ _ _ _ _ _ us hl => match us, hl with | [_, _], _ => rfl
  have F4 := fun_mk (st := S_rising_ties) l4 c4 k4
  have B4 := F4.binds (ps := ["size", "ties"]) fun _ _ _ _ _ _ us hl => match us, hl with | [_, _], _ => rfl
  have F5 := fun_mk (st := S_neighbours) l5 c5 k5
  have B5 := F5.binds (ps := ["size", "ties"]) fun _ _ _ _ _ _ us hl => match us, hl with | [_, _], _ => rfl
  have F6 := fun_mk (st := S_Net___init__) l6 c6 k6
  have B6 := F6.binds (ps := ["self", "size", "ties"]) fun _ _ _ _ _ _ us hl => match us, hl with | [_, _, _], _ => rfl
  have F7 := fun_mk (st := S_Net_ties) l7 c7 k7
  have B7 := F7.binds (ps := ["self"]) fun _ _ _ _ _ _ us hl => match us, hl with | [_], _ => rfl
  have F8 := fun_mk (st := S_Net_beside) l8 c8 k8
  have B8 := F8.binds (ps := ["self", "place"]) fun _ _ _ _ _ _ us hl => match us, hl with | [_, _], _ => rfl
  have F9 := fun_mk (st := S_checked) l9 c9 k9
  have B9 := F9.binds (ps := ["net", "pairs"]) fun _ _ _ _ _ _ us hl => match us, hl with | [_, _], _ => rfl
  have F10 := fun_mk (st := S_mates_in) l10 c10 k10
  have B10 := F10.binds (ps := ["net", "pairs"]) fun _ _ _ _ _ _ us hl => match us, hl with | [_, _], _ => rfl
  have F11 := fun_mk (st := S_are_places) l11 c11 k11
  have B11 := F11.binds (ps := ["net", "way"]) fun _ _ _ _ _ _ us hl => match us, hl with | [_, _], _ => rfl
  have F12 := fun_mk (st := S_is_way) l12 c12 k12
  have B12 := F12.binds (ps := ["net", "mates", "way"]) fun _ _ _ _ _ _ us hl => match us, hl with | [_, _, _], _ => rfl
  have F13 := fun_mk (st := S_turned) l13 c13 k13
  have B13 := F13.binds (ps := ["net", "pairs", "way"]) fun _ _ _ _ _ _ us hl => match us, hl with | [_, _, _], _ => rfl
  have F14 := fun_mk (st := S_roads_round) l14 c14 k14
  have B14 := F14.binds (ps := ["roads", "one", "other"]) fun _ _ _ _ _ _ us hl => match us, hl with | [_, _, _], _ => rfl
  have F15 := fun_mk (st := S_roads_by) l15 c15 k15
  have B15 := F15.binds (ps := ["roads", "mates", "here", "there"]) fun _ _ _ _ _ _ us hl => match us, hl with | [_, _, _, _], _ => rfl
  have F16 := fun_mk (st := S_way_from) l16 c16 k16
  have B16 := F16.binds (ps := ["net", "mates", "root"]) fun _ _ _ _ _ _ us hl => match us, hl with | [_, _, _], _ => rfl
  have F17 := fun_mk (st := S_better) l17 c17 k17
  have B17 := F17.binds (ps := ["net", "pairs"]) fun _ _ _ _ _ _ us hl => match us, hl with | [_, _], _ => rfl
  have F18 := fun_mk (st := S_most) l18 c18 k18
  have B18 := F18.binds (ps := ["net"]) fun _ _ _ _ _ _ us hl => match us, hl with | [_], _ => rfl
  have F19 := fun_mk (st := S_tie_between) l19 c19 k19
  have B19 := F19.binds (ps := ["size", "one", "other"]) fun _ _ _ _ _ _ us hl => match us, hl with | [_, _, _], _ => rfl
  have F20 := fun_mk (st := S_Kept___init__) l20 c20 k20
  have B20 := F20.binds (ps := ["self", "size"]) fun _ _ _ _ _ _ us hl => match us, hl with | [_, _], _ => rfl
  have F21 := fun_mk (st := S_Kept_put) l21 c21 k21
  have B21 := F21.binds (ps := ["self", "one", "other"]) fun _ _ _ _ _ _ us hl => match us, hl with | [_, _, _], _ => rfl
  have F22 := fun_mk (st := S_Kept_cut) l22 c22 k22
  have B22 := F22.binds (ps := ["self", "one", "other"]) fun _ _ _ _ _ _ us hl => match us, hl with | [_, _, _], _ => rfl
  have F23 := fun_mk (st := S_Kept_net) l23 c23 k23
  have B23 := F23.binds (ps := ["self"]) fun _ _ _ _ _ _ us hl => match us, hl with | [_], _ => rfl
  have F24 := fun_mk (st := S_Kept_pairs) l24 c24 k24
  have B24 := F24.binds (ps := ["self"]) fun _ _ _ _ _ _ us hl => match us, hl with | [_], _ => rfl
  have F25 := fun_mk (st := S_Kept__turn_to) l25 c25 k25
  have B25 := F25.binds (ps := ["self", "ties", "pairs"]) fun _ _ _ _ _ _ us hl => match us, hl with | [_, _, _], _ => rfl
  have F26 := fun_mk (st := S_without) l26 c26 k26
  have B26 := F26.binds (ps := ["rows", "place"]) fun _ _ _ _ _ _ us hl => match us, hl with | [_, _], _ => rfl
  have F27 := fun_mk (st := S_freed) l27 c27 k27
  have B27 := F27.binds (ps := ["net", "pairs", "place"]) fun _ _ _ _ _ _ us hl => match us, hl with | [_, _, _], _ => rfl
  have F28 := fun_mk (st := S_is_beside_one) l28 c28 k28
  have B28 := F28.binds (ps := ["net", "place", "marked"]) fun _ _ _ _ _ _ us hl => match us, hl with | [_, _, _], _ => rfl
  have F29 := fun_mk (st := S_fence) l29 c29 k29
  have B29 := F29.binds (ps := ["net"]) fun _ _ _ _ _ _ us hl => match us, hl with | [_], _ => rfl
  have F30 := fun_mk (st := S__law_sole) l30 c30 k30
  have B30 := F30.binds (ps := ["_law_error"]) fun _ _ _ _ _ _ us hl => match us, hl with | [_], _ => rfl
  have F31 := fun_mk (st := S__law_whole) l31 c31 k31
  have B31 := F31.binds (ps := ["_law_found"]) fun _ _ _ _ _ _ us hl => match us, hl with | [_], _ => rfl
  have F32 := fun_mk (st := S__law_cell_at) l32 c32 k32
  have B32 := F32.binds (ps := ["_law_script", "_law_k"]) fun _ _ _ _ _ _ us hl => match us, hl with | [_, _], _ => rfl
  have F33 := fun_mk (st := S__law_near) l33 c33 k33
  have B33 := F33.binds (ps := ["_law_size", "_law_ties"]) fun _ _ _ _ _ _ us hl => match us, hl with | [_, _], _ => rfl
  have F34 := fun_mk (st := S__law_part) l34 c34 k34
  have B34 := F34.binds (ps := ["_law_near_here", "_law_place", "_law_there"]) fun _ _ _ _ _ _ us hl => match us, hl with | [_, _, _], _ => rfl
  have F35 := fun_mk (st := S__law_parts) l35 c35 k35
  have B35 := F35.binds (ps := ["_law_size", "_law_ties", "_law_taken"]) fun _ _ _ _ _ _ us hl => match us, hl with | [_, _, _], _ => rfl
  have F36 := fun_mk (st := S__law_fenced) l36 c36 k36
  have B36 := F36.binds (ps := ["_law_size", "_law_ties", "_law_row", "_law_many"]) fun _ _ _ _ _ _ us hl => match us, hl with | [_, _, _, _], _ => rfl
  have F37 := fun_mk (st := S__law_alone) l37 c37 k37
  have B37 := F37.binds (ps := ["_law_size", "_law_ties", "_law_pairs"]) fun _ _ _ _ _ _ us hl => match us, hl with | [_, _, _], _ => rfl
  have F38 := fun_mk (st := S__law_told) l38 c38 k38
  have B38 := F38.binds (ps := ["_law_kept", "_law_is_cut", "_law_one", "_law_other"]) fun _ _ _ _ _ _ us hl => match us, hl with | [_, _, _, _], _ => rfl
  have F39 := fun_mk (st := S__law_stands) l39 c39 k39
  have B39 := F39.binds (ps := ["_law_kept", "_law_size", "_law_ties"]) fun _ _ _ _ _ _ us hl => match us, hl with | [_, _, _], _ => rfl
  have F40 := fun_mk (st := S__law_due) l40 c40 k40
  have B40 := F40.binds (ps := ["_law_size", "_law_ties", "_law_is_cut", "_law_one", "_law_other"]) fun _ _ _ _ _ _ us hl => match us, hl with | [_, _, _, _, _], _ => rfl
  have F41 := fun_mk (st := S__law_done) l41 c41 k41
  have B41 := F41.binds (ps := ["_law_kept", "_law_state", "_law_is_cut", "_law_one", "_law_other"]) fun _ _ _ _ _ _ us hl => match us, hl with | [_, _, _, _, _], _ => rfl
  have F42 := fun_mk (st := S__law_goes) l42 c42 k42
  have B42 := F42.binds (ps := ["_law_kept", "_law_state", "_law_is_cut", "_law_one", "_law_other"]) fun _ _ _ _ _ _ us hl => match us, hl with | [_, _, _, _, _], _ => rfl
  have F43 := fun_mk (st := S__law_places) l43 c43 k43
  have B43 := F43.binds (ps := ["_law_cell", "_law_more", "_law_size"]) fun _ _ _ _ _ _ us hl => match us, hl with | [_, _, _], _ => rfl
  have F44 := fun_mk (st := S__law_no_size) l44 c44 k44
  have B44 := F44.binds (ps := ["_law_size"]) fun _ _ _ _ _ _ us hl => match us, hl with | [_], _ => rfl
  have F45 := fun_mk (st := S_law) l45 c45 k45
  have B45 := F45.binds (ps := ["_law_script"]) fun _ _ _ _ _ _ us hl => match us, hl with | [_], _ => rfl
  have T : Top K mg ⟨CNetError, CBadNet, CNoPlace, CBadPairs, CBadWay, CTieThere, CNoTie, COddRing, CNet, CKept⟩ := ⟨mg_none_of X G zisinstance,
    mg_none_of X G zint,
    mg_none_of X G zbool,
    mg_none_of X G ztuple,
    mg_none_of X G zlist,
    mg_none_of X G zstr,
    mg_none_of X G zlen,
    mg_none_of X G zset,
    mg_none_of X G zdict,
    mg_none_of X G zsorted,
    mg_none_of X G zrange,
    mg_none_of X G zenumerate,
    mg_none_of X G zzip,
    mg_none_of X G zall,
    mg_none_of X G zany,
    mg_none_of X G zmin,
    mg_none_of X G zmax,
    mg_none_of X G zValueError,
    ⟨mg_of X G gNetError, xNetError, pNetError, bNetError, tNetError, PySem.W.exm_ref bNetError hNetError tNetError sNetError⟩,
    ⟨mg_of X G gBadNet, xBadNet, pBadNet, bBadNet, tBadNet, PySem.W.exm_ref bBadNet hBadNet tBadNet sBadNet⟩,
    ⟨mg_of X G gNoPlace, xNoPlace, pNoPlace, bNoPlace, tNoPlace, PySem.W.exm_ref bNoPlace hNoPlace tNoPlace sNoPlace⟩,
    ⟨mg_of X G gBadPairs, xBadPairs, pBadPairs, bBadPairs, tBadPairs, PySem.W.exm_ref bBadPairs hBadPairs tBadPairs sBadPairs⟩,
    ⟨mg_of X G gBadWay, xBadWay, pBadWay, bBadWay, tBadWay, PySem.W.exm_ref bBadWay hBadWay tBadWay sBadWay⟩,
    ⟨mg_of X G gTieThere, xTieThere, pTieThere, bTieThere, tTieThere, PySem.W.exm_ref bTieThere hTieThere tTieThere sTieThere⟩,
    ⟨mg_of X G gNoTie, xNoTie, pNoTie, bNoTie, tNoTie, PySem.W.exm_ref bNoTie hNoTie tNoTie sNoTie⟩,
    ⟨mg_of X G gOddRing, xOddRing, pOddRing, bOddRing, tOddRing, PySem.W.exm_ref bOddRing hOddRing tOddRing sOddRing⟩,
    mg_of X G gNet,
    ⟨pgNet, hdNet, poNet, saNet⟩,
    nNet_size,
    nNet__ties,
    nNet__near,
    mg_of X G gKept,
    ⟨pgKept, hdKept, poKept, saKept⟩,
    nKept__net,
    nKept__pairs,
    ⟨⟨e1BadNet, e2BadNet, bBadNet, hBadNet, e3BadNet, oG, oT, e4BadNet⟩, kit_val e5BadNet, kit_own iNetError tNetError e6BadNet sBadNet, true, false, false, false, false, false, false, kit_self, kit_own iNoPlace tNoPlace uBadNet_NoPlace sBadNet, kit_own iBadPairs tBadPairs uBadNet_BadPairs sBadNet, kit_own iBadWay tBadWay uBadNet_BadWay sBadNet, kit_own iTieThere tTieThere uBadNet_TieThere sBadNet, kit_own iNoTie tNoTie uBadNet_NoTie sBadNet, kit_own iOddRing tOddRing uBadNet_OddRing sBadNet, by decide⟩,
    ⟨⟨e1NoPlace, e2NoPlace, bNoPlace, hNoPlace, e3NoPlace, oG, oT, e4NoPlace⟩, kit_val e5NoPlace, kit_own iNetError tNetError e6NoPlace sNoPlace, false, true, false, false, false, false, false, kit_own iBadNet tBadNet uNoPlace_BadNet sNoPlace, kit_self, kit_own iBadPairs tBadPairs uNoPlace_BadPairs sNoPlace, kit_own iBadWay tBadWay uNoPlace_BadWay sNoPlace, kit_own iTieThere tTieThere uNoPlace_TieThere sNoPlace, kit_own iNoTie tNoTie uNoPlace_NoTie sNoPlace, kit_own iOddRing tOddRing uNoPlace_OddRing sNoPlace, by decide⟩,
    ⟨⟨e1BadPairs, e2BadPairs, bBadPairs, hBadPairs, e3BadPairs, oG, oT, e4BadPairs⟩, kit_val e5BadPairs, kit_own iNetError tNetError e6BadPairs sBadPairs, false, false, true, false, false, false, false, kit_own iBadNet tBadNet uBadPairs_BadNet sBadPairs, kit_own iNoPlace tNoPlace uBadPairs_NoPlace sBadPairs, kit_self, kit_own iBadWay tBadWay uBadPairs_BadWay sBadPairs, kit_own iTieThere tTieThere uBadPairs_TieThere sBadPairs, kit_own iNoTie tNoTie uBadPairs_NoTie sBadPairs, kit_own iOddRing tOddRing uBadPairs_OddRing sBadPairs, by decide⟩,
    ⟨⟨e1BadWay, e2BadWay, bBadWay, hBadWay, e3BadWay, oG, oT, e4BadWay⟩, kit_val e5BadWay, kit_own iNetError tNetError e6BadWay sBadWay, false, false, false, true, false, false, false, kit_own iBadNet tBadNet uBadWay_BadNet sBadWay, kit_own iNoPlace tNoPlace uBadWay_NoPlace sBadWay, kit_own iBadPairs tBadPairs uBadWay_BadPairs sBadWay, kit_self, kit_own iTieThere tTieThere uBadWay_TieThere sBadWay, kit_own iNoTie tNoTie uBadWay_NoTie sBadWay, kit_own iOddRing tOddRing uBadWay_OddRing sBadWay, by decide⟩,
    ⟨⟨e1TieThere, e2TieThere, bTieThere, hTieThere, e3TieThere, oG, oT, e4TieThere⟩, kit_val e5TieThere, kit_own iNetError tNetError e6TieThere sTieThere, false, false, false, false, true, false, false, kit_own iBadNet tBadNet uTieThere_BadNet sTieThere, kit_own iNoPlace tNoPlace uTieThere_NoPlace sTieThere, kit_own iBadPairs tBadPairs uTieThere_BadPairs sTieThere, kit_own iBadWay tBadWay uTieThere_BadWay sTieThere, kit_self, kit_own iNoTie tNoTie uTieThere_NoTie sTieThere, kit_own iOddRing tOddRing uTieThere_OddRing sTieThere, by decide⟩,
    ⟨⟨e1NoTie, e2NoTie, bNoTie, hNoTie, e3NoTie, oG, oT, e4NoTie⟩, kit_val e5NoTie, kit_own iNetError tNetError e6NoTie sNoTie, false, false, false, false, false, true, false, kit_own iBadNet tBadNet uNoTie_BadNet sNoTie, kit_own iNoPlace tNoPlace uNoTie_NoPlace sNoTie, kit_own iBadPairs tBadPairs uNoTie_BadPairs sNoTie, kit_own iBadWay tBadWay uNoTie_BadWay sNoTie, kit_own iTieThere tTieThere uNoTie_TieThere sNoTie, kit_self, kit_own iOddRing tOddRing uNoTie_OddRing sNoTie, by decide⟩,
    PySem.W.exm_ref bNoPlace hNoPlace tNoPlace uNoTie_NoPlace,
    PySem.W.exm_ref bTieThere hTieThere tTieThere uNoTie_TieThere,
    PySem.W.exm_ref bNoPlace hNoPlace tNoPlace uTieThere_NoPlace,
    ⟨_, mg_of X G cMOST_PLACES⟩,
    ⟨_, _, mg_of X G a1, F1, B1⟩,
    ⟨_, _, mg_of X G a2, F2, B2⟩,
    ⟨_, _, mg_of X G a3, F3, B3⟩,
    ⟨_, _, mg_of X G a4, F4, B4⟩,
    ⟨_, _, mg_of X G a5, F5, B5⟩,
    ⟨_, _, ⟨mkNet, a6, i6, kcNet⟩, F6, B6⟩,
    ⟨_, _, ⟨a7, i7, k7⟩, F7, B7⟩,
    ⟨_, _, ⟨a8, i8, k8⟩, F8, B8⟩,
    ⟨_, _, mg_of X G a9, F9, B9⟩,
    ⟨_, _, mg_of X G a10, F10, B10⟩,
    ⟨_, _, mg_of X G a11, F11, B11⟩,
    ⟨_, _, mg_of X G a12, F12, B12⟩,
    ⟨_, _, mg_of X G a13, F13, B13⟩,
    ⟨_, _, mg_of X G a14, F14, B14⟩,
    ⟨_, _, mg_of X G a15, F15, B15⟩,
    ⟨_, _, mg_of X G a16, F16, B16⟩,
    ⟨_, _, mg_of X G a17, F17, B17⟩,
    ⟨_, _, mg_of X G a18, F18, B18⟩,
    ⟨_, _, mg_of X G a19, F19, B19⟩,
    ⟨_, _, ⟨mkKept, a20, i20, kcKept⟩, F20, B20⟩,
    ⟨_, _, ⟨a21, i21, k21⟩, F21, B21⟩,
    ⟨_, _, ⟨a22, i22, k22⟩, F22, B22⟩,
    ⟨_, _, ⟨a23, i23, k23⟩, F23, B23⟩,
    ⟨_, _, ⟨a24, i24, k24⟩, F24, B24⟩,
    ⟨_, _, ⟨a25, i25, k25⟩, F25, B25⟩,
    ⟨_, _, mg_of X G a26, F26, B26⟩,
    ⟨_, _, mg_of X G a27, F27, B27⟩,
    ⟨_, _, mg_of X G a28, F28, B28⟩,
    ⟨_, _, mg_of X G a29, F29, B29⟩,
    ⟨_, _, mg_of X G a30, F30, B30⟩,
    ⟨_, _, mg_of X G a31, F31, B31⟩,
    ⟨_, _, mg_of X G a32, F32, B32⟩,
    ⟨_, _, mg_of X G a33, F33, B33⟩,
    ⟨_, _, mg_of X G a34, F34, B34⟩,
    ⟨_, _, mg_of X G a35, F35, B35⟩,
    ⟨_, _, mg_of X G a36, F36, B36⟩,
    ⟨_, _, mg_of X G a37, F37, B37⟩,
    ⟨_, _, mg_of X G a38, F38, B38⟩,
    ⟨_, _, mg_of X G a39, F39, B39⟩,
    ⟨_, _, mg_of X G a40, F40, B40⟩,
    ⟨_, _, mg_of X G a41, F41, B41⟩,
    ⟨_, _, mg_of X G a42, F42, B42⟩,
    ⟨_, _, mg_of X G a43, F43, B43⟩,
    ⟨_, _, mg_of X G a44, F44, B44⟩,
    ⟨_, _, mg_of X G a45, F45, B45⟩⟩
  exact ⟨_, fun s v => .of_eq rfl, fun base _ _ => ok_law T F45⟩
theorem walk {l : PySem.W.OpenLaw} {q : Program} {loose : List Str} {XP : (Str → Option Value) → Heap → Prop} {YP : World → Heap → Prop} {d : DefRec} {K : Params → PySem.W.Frag} (hn : l.most = some 63) (hdf : d.params.defaults = [])
    (hY : ∀ (w : World) (h : Heap), YP w h → (K w.params).In h)
    (F : ∀ (w : World) (mg : Str → Option Value) (fa : Addr) (h : Heap), (K w.params).In h → h.Ns mainGlobals mg → mg d.name = some (.ref fa) →
      ∃ fd : FuncData, (∀ (s : Shared) (u : Value), BindsTo s fd ⟨[u], []⟩ [("_law_script", u)]) ∧ ∀ base : Heap, (K w.params).In base → base.Ns mainGlobals mg → FnOk l.prog w (K w.params) mg base CX0 13 fa fd ["_law_script"] (spLaw (K w.params))) :
    PySem.W.WalkO q loose XP YP l.row.toRowW d [] (fun f vs => PySem.call f vs) :=
  walk_of (n := 63) (k := 13) (x := "_law_script") (CX := fun _ => CX0) (sp := fun w => spLaw (K w.params)) hn (by decide) hdf ⟨rfl, by decide, by decide⟩ hY F (fun _ _ a ns hl _ hS => ⟨a, ns, rfl, hS, hl, fun _ => rfl⟩) fun _ _ _ _ _ z => z
end Od

open PySem PySem.W PyProof.Rows
set_option maxRecDepth 100000 in
set_option maxHeartbeats 0 in
theorem PySem.Challenge.cw_oddpairs_k11_whole_kept_holds : PySem.Challenge.rw_oddpairs_k11_whole_kept.Holds := by
  w_on; o_law; k_head; (case hw => w_witness2)
  k_fill
  refine Od.walk (l := PySem.Challenge.rw_oddpairs_k11_whole_kept) rfl rfl (fun w h Y => PySem.W.kIn_of Y) ?F
  case F =>
    intro w mg fa h KX G hmg
    refine' Od.all_mk KX G hmg ?gNetError ?gBadNet ?gNoPlace ?gBadPairs ?gBadWay ?gTieThere ?gNoTie ?gOddRing ?gNet ?gKept ?xNetError ?pNetError ?bNetError ?tNetError ?hNetError ?iNetError ?sNetError ?xBadNet ?pBadNet ?bBadNet ?tBadNet ?hBadNet ?iBadNet ?sBadNet ?xNoPlace ?pNoPlace ?bNoPlace ?tNoPlace ?hNoPlace ?iNoPlace ?sNoPlace ?xBadPairs ?pBadPairs ?bBadPairs ?tBadPairs ?hBadPairs ?iBadPairs ?sBadPairs ?xBadWay ?pBadWay ?bBadWay ?tBadWay ?hBadWay ?iBadWay ?sBadWay ?xTieThere ?pTieThere ?bTieThere ?tTieThere ?hTieThere ?iTieThere ?sTieThere ?xNoTie ?pNoTie ?bNoTie ?tNoTie ?hNoTie ?iNoTie ?sNoTie ?xOddRing ?pOddRing ?bOddRing ?tOddRing ?hOddRing ?iOddRing ?sOddRing ?oG ?oT ?e1BadNet ?e2BadNet ?e3BadNet ?e4BadNet ?e5BadNet ?e6BadNet ?uBadNet_NoPlace ?uBadNet_BadPairs ?uBadNet_BadWay ?uBadNet_TieThere ?uBadNet_NoTie ?uBadNet_OddRing ?e1NoPlace ?e2NoPlace ?e3NoPlace ?e4NoPlace ?e5NoPlace ?e6NoPlace ?uNoPlace_BadNet ?uNoPlace_BadPairs ?uNoPlace_BadWay ?uNoPlace_TieThere ?uNoPlace_NoTie ?uNoPlace_OddRing ?e1BadPairs ?e2BadPairs ?e3BadPairs ?e4BadPairs ?e5BadPairs ?e6BadPairs ?uBadPairs_BadNet ?uBadPairs_NoPlace ?uBadPairs_BadWay ?uBadPairs_TieThere ?uBadPairs_NoTie ?uBadPairs_OddRing ?e1BadWay ?e2BadWay ?e3BadWay ?e4BadWay ?e5BadWay ?e6BadWay ?uBadWay_BadNet ?uBadWay_NoPlace ?uBadWay_BadPairs ?uBadWay_TieThere ?uBadWay_NoTie ?uBadWay_OddRing ?e1TieThere ?e2TieThere ?e3TieThere ?e4TieThere ?e5TieThere ?e6TieThere ?uTieThere_BadNet ?uTieThere_NoPlace ?uTieThere_BadPairs ?uTieThere_BadWay ?uTieThere_NoTie ?uTieThere_OddRing ?e1NoTie ?e2NoTie ?e3NoTie ?e4NoTie ?e5NoTie ?e6NoTie ?uNoTie_BadNet ?uNoTie_NoPlace ?uNoTie_BadPairs ?uNoTie_BadWay ?uNoTie_TieThere ?uNoTie_OddRing ?pgNet ?hdNet ?poNet ?saNet ?mkNet ?kcNet ?nNet_size ?nNet__ties ?nNet__near ?pgKept ?hdKept ?poKept ?saKept ?mkKept ?kcKept ?nKept__net ?nKept__pairs ?zisinstance ?zint ?zbool ?ztuple ?zlist ?zstr ?zlen ?zset ?zdict ?zsorted ?zrange ?zenumerate ?zzip ?zall ?zany ?zmin ?zmax ?zValueError ?cMOST_PLACES ?a1 ?l1 ?c1 ?k1 ?a2 ?l2 ?c2 ?k2 ?a3 ?l3 ?c3 ?k3 ?a4 ?l4 ?c4 ?k4 ?a5 ?l5 ?c5 ?k5 ?a6 ?i6 ?l6 ?c6 ?k6 ?a7 ?i7 ?l7 ?c7 ?k7 ?a8 ?i8 ?l8 ?c8 ?k8 ?a9 ?l9 ?c9 ?k9 ?a10 ?l10 ?c10 ?k10 ?a11 ?l11 ?c11 ?k11 ?a12 ?l12 ?c12 ?k12 ?a13 ?l13 ?c13 ?k13 ?a14 ?l14 ?c14 ?k14 ?a15 ?l15 ?c15 ?k15 ?a16 ?l16 ?c16 ?k16 ?a17 ?l17 ?c17 ?k17 ?a18 ?l18 ?c18 ?k18 ?a19 ?l19 ?c19 ?k19 ?a20 ?i20 ?l20 ?c20 ?k20 ?a21 ?i21 ?l21 ?c21 ?k21 ?a22 ?i22 ?l22 ?c22 ?k22 ?a23 ?i23 ?l23 ?c23 ?k23 ?a24 ?i24 ?l24 ?c24 ?k24 ?a25 ?i25 ?l25 ?c25 ?k25 ?a26 ?l26 ?c26 ?k26 ?a27 ?l27 ?c27 ?k27 ?a28 ?l28 ?c28 ?k28 ?a29 ?l29 ?c29 ?k29 ?a30 ?l30 ?c30 ?k30 ?a31 ?l31 ?c31 ?k31 ?a32 ?l32 ?c32 ?k32 ?a33 ?l33 ?c33 ?k33 ?a34 ?l34 ?c34 ?k34 ?a35 ?l35 ?c35 ?k35 ?a36 ?l36 ?c36 ?k36 ?a37 ?l37 ?c37 ?k37 ?a38 ?l38 ?c38 ?k38 ?a39 ?l39 ?c39 ?k39 ?a40 ?l40 ?c40 ?k40 ?a41 ?l41 ?c41 ?k41 ?a42 ?l42 ?c42 ?k42 ?a43 ?l43 ?c43 ?k43 ?a44 ?l44 ?c44 ?k44 ?a45 ?l45 ?c45 ?k45
    (case gNetError => k_is)
    (case gBadNet => k_is)
    (case gNoPlace => k_is)
    (case gBadPairs => k_is)
    (case gBadWay => k_is)
    (case gTieThere => k_is)
    (case gNoTie => k_is)
    (case gOddRing => k_is)
    (case gNet => k_is)
    (case gKept => k_is)
    (case xNetError => k_exc)
    (case pNetError => k_is)
    (case bNetError => k_is)
    (case tNetError => k_is)
    (case hNetError => k_is)
    (case iNetError => k_is)
    (case sNetError => first | rfl | k_is)
    (case xBadNet => k_exc)
    (case pBadNet => k_is)
    (case bBadNet => k_is)
    (case tBadNet => k_is)
    (case hBadNet => k_is)
    (case iBadNet => k_is)
    (case sBadNet => first | rfl | k_is)
    (case xNoPlace => k_exc)
    (case pNoPlace => k_is)
    (case bNoPlace => k_is)
    (case tNoPlace => k_is)
    (case hNoPlace => k_is)
    (case iNoPlace => k_is)
    (case sNoPlace => first | rfl | k_is)
    (case xBadPairs => k_exc)
    (case pBadPairs => k_is)
    (case bBadPairs => k_is)
    (case tBadPairs => k_is)
    (case hBadPairs => k_is)
    (case iBadPairs => k_is)
    (case sBadPairs => first | rfl | k_is)
    (case xBadWay => k_exc)
    (case pBadWay => k_is)
    (case bBadWay => k_is)
    (case tBadWay => k_is)
    (case hBadWay => k_is)
    (case iBadWay => k_is)
    (case sBadWay => first | rfl | k_is)
    (case xTieThere => k_exc)
    (case pTieThere => k_is)
    (case bTieThere => k_is)
    (case tTieThere => k_is)
    (case hTieThere => k_is)
    (case iTieThere => k_is)
    (case sTieThere => first | rfl | k_is)
    (case xNoTie => k_exc)
    (case pNoTie => k_is)
    (case bNoTie => k_is)
    (case tNoTie => k_is)
    (case hNoTie => k_is)
    (case iNoTie => k_is)
    (case sNoTie => first | rfl | k_is)
    (case xOddRing => k_exc)
    (case pOddRing => k_is)
    (case bOddRing => k_is)
    (case tOddRing => k_is)
    (case hOddRing => k_is)
    (case iOddRing => k_is)
    (case sOddRing => first | rfl | k_is)
    (case oG => k_is)
    (case oT => k_is)
    (case e1BadNet => k_is)
    (case e2BadNet => k_is)
    (case e3BadNet => k_is)
    (case e4BadNet => k_is)
    (case e5BadNet => k_is)
    (case e6BadNet => k_is)
    (case uBadNet_NoPlace => k_is)
    (case uBadNet_BadPairs => k_is)
    (case uBadNet_BadWay => k_is)
    (case uBadNet_TieThere => k_is)
    (case uBadNet_NoTie => k_is)
    (case uBadNet_OddRing => k_is)
    (case e1NoPlace => k_is)
    (case e2NoPlace => k_is)
    (case e3NoPlace => k_is)
    (case e4NoPlace => k_is)
    (case e5NoPlace => k_is)
    (case e6NoPlace => k_is)
    (case uNoPlace_BadNet => k_is)
    (case uNoPlace_BadPairs => k_is)
    (case uNoPlace_BadWay => k_is)
    (case uNoPlace_TieThere => k_is)
    (case uNoPlace_NoTie => k_is)
    (case uNoPlace_OddRing => k_is)
    (case e1BadPairs => k_is)
    (case e2BadPairs => k_is)
    (case e3BadPairs => k_is)
    (case e4BadPairs => k_is)
    (case e5BadPairs => k_is)
    (case e6BadPairs => k_is)
    (case uBadPairs_BadNet => k_is)
    (case uBadPairs_NoPlace => k_is)
    (case uBadPairs_BadWay => k_is)
    (case uBadPairs_TieThere => k_is)
    (case uBadPairs_NoTie => k_is)
    (case uBadPairs_OddRing => k_is)
    (case e1BadWay => k_is)
    (case e2BadWay => k_is)
    (case e3BadWay => k_is)
    (case e4BadWay => k_is)
    (case e5BadWay => k_is)
    (case e6BadWay => k_is)
    (case uBadWay_BadNet => k_is)
    (case uBadWay_NoPlace => k_is)
    (case uBadWay_BadPairs => k_is)
    (case uBadWay_TieThere => k_is)
    (case uBadWay_NoTie => k_is)
    (case uBadWay_OddRing => k_is)
    (case e1TieThere => k_is)
    (case e2TieThere => k_is)
    (case e3TieThere => k_is)
    (case e4TieThere => k_is)
    (case e5TieThere => k_is)
    (case e6TieThere => k_is)
    (case uTieThere_BadNet => k_is)
    (case uTieThere_NoPlace => k_is)
    (case uTieThere_BadPairs => k_is)
    (case uTieThere_BadWay => k_is)
    (case uTieThere_NoTie => k_is)
    (case uTieThere_OddRing => k_is)
    (case e1NoTie => k_is)
    (case e2NoTie => k_is)
    (case e3NoTie => k_is)
    (case e4NoTie => k_is)
    (case e5NoTie => k_is)
    (case e6NoTie => k_is)
    (case uNoTie_BadNet => k_is)
    (case uNoTie_NoPlace => k_is)
    (case uNoTie_BadPairs => k_is)
    (case uNoTie_BadWay => k_is)
    (case uNoTie_TieThere => k_is)
    (case uNoTie_OddRing => k_is)
    (case pgNet => k_is)
    (case hdNet => k_is)
    (case poNet => k_is)
    (case saNet => k_is)
    (case mkNet => k_is)
    (case kcNet => k_is)
    (case nNet_size => k_is)
    (case nNet__ties => k_is)
    (case nNet__near => k_is)
    (case pgKept => k_is)
    (case hdKept => k_is)
    (case poKept => k_is)
    (case saKept => k_is)
    (case mkKept => k_is)
    (case kcKept => k_is)
    (case nKept__net => k_is)
    (case nKept__pairs => k_is)
    (case zisinstance => k_is)
    (case zint => k_is)
    (case zbool => k_is)
    (case ztuple => k_is)
    (case zlist => k_is)
    (case zstr => k_is)
    (case zlen => k_is)
    (case zset => k_is)
    (case zdict => k_is)
    (case zsorted => k_is)
    (case zrange => k_is)
    (case zenumerate => k_is)
    (case zzip => k_is)
    (case zall => k_is)
    (case zany => k_is)
    (case zmin => k_is)
    (case zmax => k_is)
    (case zValueError => k_is)
    (case cMOST_PLACES => k_is)
    (case a1 => k_is)
    (case l1 => k_is)
    (case c1 => k_is)
    (case k1 => k_is)
    (case a2 => k_is)
    (case l2 => k_is)
    (case c2 => k_is)
    (case k2 => k_is)
    (case a3 => k_is)
    (case l3 => k_is)
    (case c3 => k_is)
    (case k3 => k_is)
    (case a4 => k_is)
    (case l4 => k_is)
    (case c4 => k_is)
    (case k4 => k_is)
    (case a5 => k_is)
    (case l5 => k_is)
    (case c5 => k_is)
    (case k5 => k_is)
    (case a6 => k_is)
    (case i6 => k_is)
    (case l6 => k_is)
    (case c6 => k_is)
    (case k6 => k_is)
    (case a7 => k_is)
    (case i7 => k_is)
    (case l7 => k_is)
    (case c7 => k_is)
    (case k7 => k_is)
    (case a8 => k_is)
    (case i8 => k_is)
    (case l8 => k_is)
    (case c8 => k_is)
    (case k8 => k_is)
    (case a9 => k_is)
    (case l9 => k_is)
    (case c9 => k_is)
    (case k9 => k_is)
    (case a10 => k_is)
    (case l10 => k_is)
    (case c10 => k_is)
    (case k10 => k_is)
    (case a11 => k_is)
    (case l11 => k_is)
    (case c11 => k_is)
    (case k11 => k_is)
    (case a12 => k_is)
    (case l12 => k_is)
    (case c12 => k_is)
    (case k12 => k_is)
    (case a13 => k_is)
    (case l13 => k_is)
    (case c13 => k_is)
    (case k13 => k_is)
    (case a14 => k_is)
    (case l14 => k_is)
    (case c14 => k_is)
    (case k14 => k_is)
    (case a15 => k_is)
    (case l15 => k_is)
    (case c15 => k_is)
    (case k15 => k_is)
    (case a16 => k_is)
    (case l16 => k_is)
    (case c16 => k_is)
    (case k16 => k_is)
    (case a17 => k_is)
    (case l17 => k_is)
    (case c17 => k_is)
    (case k17 => k_is)
    (case a18 => k_is)
    (case l18 => k_is)
    (case c18 => k_is)
    (case k18 => k_is)
    (case a19 => k_is)
    (case l19 => k_is)
    (case c19 => k_is)
    (case k19 => k_is)
    (case a20 => k_is)
    (case i20 => k_is)
    (case l20 => k_is)
    (case c20 => k_is)
    (case k20 => k_is)
    (case a21 => k_is)
    (case i21 => k_is)
    (case l21 => k_is)
    (case c21 => k_is)
    (case k21 => k_is)
    (case a22 => k_is)
    (case i22 => k_is)
    (case l22 => k_is)
    (case c22 => k_is)
    (case k22 => k_is)
    (case a23 => k_is)
    (case i23 => k_is)
    (case l23 => k_is)
    (case c23 => k_is)
    (case k23 => k_is)
    (case a24 => k_is)
    (case i24 => k_is)
    (case l24 => k_is)
    (case c24 => k_is)
    (case k24 => k_is)
    (case a25 => k_is)
    (case i25 => k_is)
    (case l25 => k_is)
    (case c25 => k_is)
    (case k25 => k_is)
    (case a26 => k_is)
    (case l26 => k_is)
    (case c26 => k_is)
    (case k26 => k_is)
    (case a27 => k_is)
    (case l27 => k_is)
    (case c27 => k_is)
    (case k27 => k_is)
    (case a28 => k_is)
    (case l28 => k_is)
    (case c28 => k_is)
    (case k28 => k_is)
    (case a29 => k_is)
    (case l29 => k_is)
    (case c29 => k_is)
    (case k29 => k_is)
    (case a30 => k_is)
    (case l30 => k_is)
    (case c30 => k_is)
    (case k30 => k_is)
    (case a31 => k_is)
    (case l31 => k_is)
    (case c31 => k_is)
    (case k31 => k_is)
    (case a32 => k_is)
    (case l32 => k_is)
    (case c32 => k_is)
    (case k32 => k_is)
    (case a33 => k_is)
    (case l33 => k_is)
    (case c33 => k_is)
    (case k33 => k_is)
    (case a34 => k_is)
    (case l34 => k_is)
    (case c34 => k_is)
    (case k34 => k_is)
    (case a35 => k_is)
    (case l35 => k_is)
    (case c35 => k_is)
    (case k35 => k_is)
    (case a36 => k_is)
    (case l36 => k_is)
    (case c36 => k_is)
    (case k36 => k_is)
    (case a37 => k_is)
    (case l37 => k_is)
    (case c37 => k_is)
    (case k37 => k_is)
    (case a38 => k_is)
    (case l38 => k_is)
    (case c38 => k_is)
    (case k38 => k_is)
    (case a39 => k_is)
    (case l39 => k_is)
    (case c39 => k_is)
    (case k39 => k_is)
    (case a40 => k_is)
    (case l40 => k_is)
    (case c40 => k_is)
    (case k40 => k_is)
    (case a41 => k_is)
    (case l41 => k_is)
    (case c41 => k_is)
    (case k41 => k_is)
    (case a42 => k_is)
    (case l42 => k_is)
    (case c42 => k_is)
    (case k42 => k_is)
    (case a43 => k_is)
    (case l43 => k_is)
    (case c43 => k_is)
    (case k43 => k_is)
    (case a44 => k_is)
    (case l44 => k_is)
    (case c44 => k_is)
    (case k44 => k_is)
    (case a45 => k_is)
    (case l45 => k_is)
    (case c45 => k_is)
    (case k45 => k_is)
