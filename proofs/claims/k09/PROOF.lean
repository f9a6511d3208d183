import PyProof.Rows.All
import Wide.All
import OpenK.AllK
import Wide.FinOn
import HandS.TupSets
import HandS.SortInts
import HandS.SortRule
import HandS.Strs
import HandS.ForExc
import HandS.ForMost
import HandS.ExcCtx
import HandS.HotCalls
import HandS.ExcIs
import HandS.IsInst
import HandS.More
import HandS.Flow
import HandS.Evl
import HandS.SetIn
import HandS.Deep
import HandS.Sort
import PyProof.DictUpdate
import PyProof.ListRange
import HandS.Style
import HandS.Zip
import HandS.Walk
import HandS.Small
import HandS.Iter
import PySem.Challenge.RW_oddpairs_k09_whole_two_sides_or_a_ring
set_option Elab.async false
set_option linter.all false
set_option maxRecDepth 100000
set_option maxHeartbeats 4000000

/-! Sets of tuples of ints, up to a thousand members: the masks 7, 31, 127, 511, 2047. -/
namespace Bs
open PySem PySem.Spec PyProof.Rows L2

/-- the masks that come while a set grows one by one to a thousand -/
def Msk (m : Nat) : Prop := m = 7 ∨ m = 31 ∨ m = 127 ∨ m = 511 ∨ m = 2047

/-! ### the round of the leaps -/
def st5 (m x : Nat) : Nat := (x * 5 + 1) % (m + 1)
/-- f steps from x: where one stands, and a number whose bits tell where one was -/
def trail (m : Nat) : Nat → Nat → Nat → Nat × Nat
  | 0, x, acc => (x, acc)
  | f + 1, x, acc => trail m f (st5 m x) (acc ||| (1 <<< x))
theorem lcgI_front (m : Nat) : ∀ (k x : Nat), lcgI m x (k + 1) = lcgI m (st5 m x) k
  | 0, _ => rfl
  | k + 1, x => by
    show (lcgI m x (k + 1) * 5 + 1) % (m + 1) = (lcgI m (st5 m x) k * 5 + 1) % (m + 1)
    rw [lcgI_front m k x]
theorem trail_at (m : Nat) : ∀ (f x acc : Nat), (trail m f x acc).1 = lcgI m x f
  | 0, _, _ => rfl
  | f + 1, x, acc => (trail_at m f _ _).trans (lcgI_front m f x).symm
theorem trail_bit (m j : Nat) : ∀ (f x acc : Nat), (trail m f x acc).2.testBit j = true → acc.testBit j = true ∨ ∃ b, b < f ∧ lcgI m x b = j
  | 0, _, _, h => .inl h
  | f + 1, x, acc, h => by
    rcases trail_bit m j f _ _ h with c | ⟨b, hb, e⟩
    · rw [Nat.testBit_or, Nat.one_shiftLeft, Nat.testBit_two_pow, Bool.or_eq_true, decide_eq_true_eq] at c
      rcases c with c | c
      · exact .inl c
      · exact .inr ⟨0, Nat.succ_pos _, c⟩
    · exact .inr ⟨b + 1, Nat.succ_lt_succ hb, (lcgI_front m b x).trans e⟩
theorem trail_all {m : Nat} (h : Msk m) : trail m (m + 1) 0 0 = (0, 2 ^ (m + 1) - 1) := by
  rcases h with e | e | e | e | e <;> subst e <;> decide +kernel
theorem lcgI_plus (m x a : Nat) : ∀ k, lcgI m (lcgI m x a) k = lcgI m x (a + k)
  | 0 => rfl
  | k + 1 => congrArg (st5 m) (lcgI_plus m x a k)
theorem round_all {m : Nat} (h : Msk m) {i j : Nat} (hi : i ≤ m) (hj : j ≤ m) : ∃ k, k ≤ m ∧ lcgI m i k = j := by
  have T := trail_all h
  have back : lcgI m 0 (m + 1) = 0 := by rw [← trail_at m (m + 1) 0 0, T]
  have hit : ∀ y, y ≤ m → ∃ b, b ≤ m ∧ lcgI m 0 b = y := fun y hy => by
    have q : (trail m (m + 1) 0 0).2.testBit y = true := by
      rw [T]
      show (2 ^ (m + 1) - 1).testBit y = true
      rw [Nat.testBit_two_pow_sub_one, decide_eq_true_eq]
      omega
    rcases trail_bit m y _ _ _ q with c | ⟨b, hb, e⟩
    · rw [Nat.zero_testBit] at c; cases c
    · exact ⟨b, Nat.le_of_lt_succ hb, e⟩
  obtain ⟨a, ha, ea⟩ := hit i hi
  obtain ⟨b, hb, eb⟩ := hit j hj
  subst ea
  by_cases c : a ≤ b
  · exact ⟨b - a, by omega, by rw [lcgI_plus, Nat.add_sub_cancel' c]; exact eb⟩
  · refine ⟨m + 1 + b - a, by omega, ?_⟩
    rw [lcgI_plus, show a + (m + 1 + b - a) = m + 1 + b by omega, ← lcgI_plus m 0 (m + 1) b, back]
    exact eb
theorem begins {m : Nat} (h : Msk m) (x : Int) {j : Nat} (hj : j ≤ m) : ∃ n, n ≤ m + 12 ∧ runI m (SetTable.bits x) n = j := by
  obtain ⟨k, hk, e⟩ := round_all h (runI_le m (SetTable.bits x) 12) hj
  exact ⟨12 + k, by omega, (runI_tail (bits_lt x) k).trans e⟩
theorem way_top {m : Nat} {x : Int} {k : Nat} : way m x k ≤ m := by
  have hi : SetTable.bits x % (m + 1) ≤ m := Nat.le_of_lt_succ (Nat.mod_lt _ (Nat.succ_pos _))
  have r := runEnd_bd hi
  have q : (nth m (runAt m (SetTable.bits x % (m + 1)) (SetTable.bits x)) k).j + _ ≤ m := nth_in (m := m) k _ (by
    show SetTable.bits x % (m + 1) + (SetTable.runEnd m (SetTable.bits x % (m + 1)) - SetTable.bits x % (m + 1)) ≤ m
    omega)
  exact Nat.le_trans (Nat.le_add_right _ _) q
theorem comes {m : Nat} (h : Msk m) (x : Int) {j : Nat} (hj : j ≤ m) : ∃ k, k < 10 * SetTable.turns m ∧ way m x k = j := by
  obtain ⟨n, hn, e⟩ := begins h x hj
  obtain ⟨k, hk, e2⟩ := run_nth m (SetTable.bits x) n
  refine ⟨k, by unfold SetTable.turns; omega, ?_⟩
  show (nth m _ k).j = j
  rw [e2]
  exact e

/-! ### tables -/
/-- a table in which each hash is found again, no slot between being empty -/
structure Tab (t : SetTable) (hs : List Int) : Prop where
  up : Ris t.place.toList
  dm : t.dummies = #[]
  sz : t.place.toList.length = hs.length
  ms : Msk t.mask
  bd : ∀ x ∈ t.place.toList, x ≤ t.mask
  fd : ∀ (i : Nat) (x : Int) (j : Nat), hs[i]? = some x → t.place.toList[i]? = some j → ∃ k, way t.mask x k = j ∧ ∀ k', k' < k → way t.mask x k' ∈ t.place.toList
theorem Tab.gap {t : SetTable} {hs : List Int} (T : Tab t hs) (hl : hs.length ≤ t.mask) (x : Int) :
    ∃ K, K < 10 * SetTable.turns t.mask ∧ way t.mask x K ∉ t.place.toList ∧ ∀ k, k < K → way t.mask x k ∈ t.place.toList := by
  have z := T.sz
  obtain ⟨j, hj, hn⟩ := st_missing t.place.toList (t.mask + 1) (by omega)
  obtain ⟨k, hk, e⟩ := comes T.ms x (Nat.le_of_lt_succ hj)
  obtain ⟨K, a, b, c⟩ := st_least (p := fun k => way t.mask x k ∉ t.place.toList) k (fun q => hn (e ▸ q))
  exact ⟨K, Nat.lt_of_le_of_lt a hk, b, fun k' q => Classical.byContradiction fun y => c k' q y⟩
theorem Tab.ahead {t : SetTable} {hs : List Int} (T : Tab t hs) {x : Int} {K i j : Nat} (hK : way t.mask x K ∉ t.place.toList) (hi : hs[i]? = some x) (hj : t.place.toList[i]? = some j) : ∃ k, k < K ∧ way t.mask x k = j := by
  obtain ⟨k, e, hb⟩ := T.fd i x j hi hj
  refine ⟨k, Nat.lt_of_not_le fun c => ?_, e⟩
  rcases Nat.lt_or_eq_of_le c with c | c
  · exact hK (hb K c)
  · subst c
    exact hK (e ▸ List.mem_of_getElem? hj)
theorem Tab.place {t : SetTable} {hs : List Int} (T : Tab t hs) {x : Int} {K : Nat} (hK : way t.mask x K ∉ t.place.toList) (hb : ∀ k, k < K → way t.mask x k ∈ t.place.toList) :
    ∃ p t1, t.put (way t.mask x K) = (t1, p) ∧ p ≤ hs.length ∧ Tab t1 (hs.take p ++ x :: hs.drop p) ∧ t1.mask = t.mask ∧ t1.led = t.led ∧ t1.plain = t.plain ∧ t1.fill = hs.length + 1 := by
  obtain ⟨j, hj⟩ : ∃ j, j = way t.mask x K := ⟨_, rfl⟩
  have top : j ≤ t.mask := by rw [hj]; exact way_top
  rw [← hj] at hK ⊢
  have lo : SetTable.below t.place j ≤ t.place.toList.length := (below_cut T.up j).1
  have lh : SetTable.below t.place j ≤ hs.length := by rw [← T.sz]; exact lo
  have pp := put_place t j
  have up : ∀ {y : Nat}, y ∈ t.place.toList → y ∈ (t.put j).1.place.toList := fun hy => by rw [pp]; exact mem_ins.2 (.inr hy)
  have ln : (t.put j).1.place.toList.length = hs.length + 1 := by rw [pp, len_ins _ lo, T.sz]
  refine ⟨SetTable.below t.place j, (t.put j).1, rfl, lh, ⟨?_, put_dm T.dm j, ?_, T.ms, fun y hy => ?_, fun i x' j' a b => ?_⟩, rfl, rfl, rfl, ?_⟩
  · exact ris_insert T.up fun e => hK (List.mem_of_getElem? (by rw [Array.getElem?_toList]; exact e))
  · rw [len_ins _ lh]; exact ln
  · rw [pp] at hy
    rcases mem_ins.1 hy with z | z
    · rw [z]; exact top
    · exact T.bd y z
  · rw [tins_get hs lh] at a
    rw [pp, tins_get _ lo] at b
    show ∃ k, way t.mask x' k = j' ∧ ∀ k', k' < k → way t.mask x' k' ∈ (t.put j).1.place.toList
    have old : ∀ i', hs[i']? = some x' → t.place.toList[i']? = some j' → ∃ k, way t.mask x' k = j' ∧ ∀ k', k' < k → way t.mask x' k' ∈ (t.put j).1.place.toList := fun i' a' b' => by
      obtain ⟨k, e, z⟩ := T.fd i' x' j' a' b'
      exact ⟨k, e, fun k' q => up (z k' q)⟩
    by_cases c : i < SetTable.below t.place j
    · rw [if_pos c] at a b; exact old i a b
    · by_cases d : i = SetTable.below t.place j
      · rw [if_neg c, if_pos d] at a b
        cases a; cases b
        exact ⟨K, hj.symm, fun k' q => up (hb k' q)⟩
      · rw [if_neg c, if_neg d] at a b; exact old _ a b
  · show (t.put j).1.place.size + (t.put j).1.dummies.size = hs.length + 1
    rw [put_dm T.dm j, ← Array.length_toList, ln]; rfl

/-! ### a table laid anew -/
theorem sits {m : Nat} (hm : Msk m) (ow : Array (Option Nat)) (x : Int) {j : Nat} (hj : j ≤ m) (hf : oAt ow j = none) :
    ∃ K, SetTable.layClean.free m ow (SetTable.turns m) (SetTable.bits x % (m + 1)) (SetTable.bits x) = some (way m x K) ∧ oAt ow (way m x K) = none ∧ ∀ k, k < K → oAt ow (way m x k) ≠ none := by
  obtain ⟨n, hn, e⟩ := begins hm x hj
  have hw : way m x (off m (SetTable.bits x % (m + 1)) (SetTable.bits x) n) = j := by
    show (nth m (runAt m (SetTable.bits x % (m + 1)) (SetTable.bits x)) _).j = j
    rw [nth_off, itL_run]; exact e
  obtain ⟨K, k1, k2, k3⟩ := st_least (p := fun k => oAt ow (way m x k) = none) _ (show oAt ow (way m x _) = none from hw ▸ hf)
  refine ⟨K, free_spec m ow (SetTable.turns m) n _ _ K (by unfold SetTable.turns; omega) k1 (fun k q => ?_) ?_, k2, k3⟩
  · exact Option.isNone_eq_false_iff.mpr (Option.isSome_iff_ne_none.mpr (k3 k q))
  · exact Option.isNone_iff_eq_none.mpr k2
theorem sits_more {m : Nat} (hm : Msk m) {dn : List Int} {ow : Array (Option Nat)} (W : Own m dn ow) (hl : dn.length ≤ m) (x : Int) :
    ∃ j, SetTable.layClean.free m ow (SetTable.turns m) (SetTable.bits x % (m + 1)) (SetTable.bits x) = some j ∧ Own m (dn ++ [x]) (ow.setIfInBounds j (some dn.length)) := by
  obtain ⟨ps, hps, hin⟩ := W.ps
  obtain ⟨j0, h0, n0⟩ := st_missing ps (m + 1) (by omega)
  have f0 : oAt ow j0 = none := Classical.byContradiction fun z => n0 (hin j0 (Nat.le_of_lt_succ h0) z)
  obtain ⟨K, e1, e2, e3⟩ := sits hm ow x (Nat.le_of_lt_succ h0) f0
  have hjm : way m x K ≤ m := way_top
  have own := oAt_set_self (owner := ow) (j := way m x K) (some dn.length) (by rw [W.sz]; exact Nat.lt_succ_of_le hjm)
  have keep : ∀ {i : Nat}, oAt ow i ≠ none → oAt (ow.setIfInBounds (way m x K) (some dn.length)) i ≠ none := fun {i} hi => by
    by_cases c : i = way m x K
    · rw [c, own]; exact fun z => nomatch z
    · rw [oAt_set_ne _ c]; exact hi
  refine ⟨way m x K, e1, by rw [Array.size_setIfInBounds]; exact W.sz, fun j k hj e => ?_, fun k hk => ?_, way m x K :: ps, by rw [List.length_cons, List.length_append, hps]; rfl, fun j hj e => ?_⟩
  · by_cases c : j = way m x K
    · rw [c, own] at e
      cases e
      exact ⟨x, K, by rw [List.getElem?_append_right (Nat.le_refl _), Nat.sub_self]; rfl, c.symm, fun k' q => keep (e3 k' q)⟩
    · rw [oAt_set_ne _ c] at e
      obtain ⟨y, K', a, b, d⟩ := W.at_ j k hj e
      exact ⟨y, K', by rw [List.getElem?_append_left (List.getElem?_eq_some_iff.mp a).1]; exact a, b, fun k' q => keep (d k' q)⟩
  · rw [List.length_append, List.length_singleton] at hk
    by_cases c : k < dn.length
    · obtain ⟨j, hj, e⟩ := W.all k c
      exact ⟨j, hj, by rw [oAt_set_ne _ (fun z => by rw [z, e2] at e; cases e)]; exact e⟩
    · exact ⟨way m x K, hjm, by rw [own, show k = dn.length by omega]⟩
  · by_cases c : j = way m x K
    · exact c ▸ List.mem_cons_self
    · rw [oAt_set_ne _ c] at e
      exact List.mem_cons_of_mem _ (hin j hj e)
theorem sits_all {m : Nat} (hm : Msk m) : ∀ (rest dn : List Int) (ow : Array (Option Nat)), Own m dn ow → dn.length + rest.length ≤ m →
    ∃ ow', rest.foldl (stepF m) (some (ow, dn.length)) = some (ow', (dn ++ rest).length) ∧ Own m (dn ++ rest) ow'
  | [], dn, ow, W, _ => ⟨ow, by rw [List.append_nil]; rfl, by rw [List.append_nil]; exact W⟩
  | x :: rest, dn, ow, W, hl => by
    obtain ⟨j, e, W1⟩ := sits_more hm W (by rw [List.length_cons] at hl; omega) x
    have l1 : (dn ++ [x]).length = dn.length + 1 := List.length_append
    obtain ⟨ow', f, W2⟩ := sits_all hm rest (dn ++ [x]) _ W1 (by rw [l1]; rw [List.length_cons] at hl; omega)
    have ea : dn ++ [x] ++ rest = dn ++ x :: rest := by rw [List.append_assoc]; rfl
    rw [ea] at W2
    rw [ea, l1] at f
    exact ⟨ow', by rw [List.foldl_cons, stepF_some e]; exact f, W2⟩
theorem anew (t : SetTable) {hs : Array Int} {wanted M : Nat} (hw : SetTable.sizeAbove wanted - 1 = M) (hM : Msk M) (hn : hs.size ≤ M) :
    ∃ t' order, t.relaid hs wanted = some (t', order) ∧ order.toList.Perm (List.range hs.size) ∧ Tab t' (order.toList.map fun i => hs.getD i 0) ∧ t'.mask = M ∧ t'.led = t.led ∧ t'.plain = t.plain := by
  obtain ⟨ow, f, W⟩ := sits_all hM hs.toList [] _ (Own.init M) (by show 0 + hs.size ≤ M; omega)
  rw [List.nil_append] at W
  have lay : SetTable.layClean M hs = some ow := by
    rw [layClean_eq, show hs.toList.foldl (stepF M) (some (Array.replicate (M + 1) none, 0)) = _ from f]; rfl
  have hr : t.relaid hs wanted = some (tabOf t M ow, ((liveOf M ow).map (·.2)).toArray) := by rw [relaid_eq, hw, lay]; rfl
  obtain ⟨r1, r2⟩ := ris_live (fun j => ow.getD j none) (List.range (M + 1)) (by unfold Ris; exact List.pairwise_lt_range)
  have r1' : Ris ((liveOf M ow).map (·.1)) := r1
  have r2' : ∀ x ∈ (liveOf M ow).map (·.1), x ∈ List.range (M + 1) := r2
  have le : (liveOf M ow).length = hs.size := by
    obtain ⟨ps, p1, p2⟩ := W.ps
    have nd : ((liveOf M ow).map (·.1)).Nodup := List.Pairwise.imp (fun h => Nat.ne_of_lt h) r1'
    have a := nat_nodup_len ((liveOf M ow).map (·.1)) ps nd fun x hx => by
      obtain ⟨⟨y, k⟩, hq, rfl⟩ := List.mem_map.mp hx
      obtain ⟨b1, b2⟩ := (mem_live W.sz).1 hq
      exact p2 y b1 (by rw [b2]; exact fun z => nomatch z)
    have b := nat_nodup_len (List.range hs.size) ((liveOf M ow).map (·.2)) List.nodup_range fun k hk => by
      obtain ⟨j, b1, b2⟩ := W.all k (List.mem_range.mp hk)
      exact List.mem_map.mpr ⟨(j, k), (mem_live W.sz).2 ⟨b1, b2⟩, rfl⟩
    rw [List.length_map, p1] at a
    rw [List.length_map, List.length_range] at b
    exact Nat.le_antisymm a b
  refine ⟨_, _, hr, perm_range hs.size _ (by rw [List.toList_toArray, List.length_map]; exact le) fun k hk => ?_, ⟨r1', rfl, ?_, hM, fun x hx => ?_, fun i x j a b => ?_⟩, rfl, rfl, rfl⟩
  · obtain ⟨j, b1, b2⟩ := W.all k hk
    exact List.mem_map.mpr ⟨(j, k), (mem_live W.sz).2 ⟨b1, b2⟩, rfl⟩
  · show ((liveOf M ow).map (·.1)).length = (((liveOf M ow).map (·.2)).map fun i => hs.getD i 0).length
    rw [List.length_map, List.length_map, List.length_map]
  · exact Nat.le_of_lt_succ (List.mem_range.mp (r2' x hx))
  · have a' : (((liveOf M ow).map (·.2)).map fun i => hs.getD i 0)[i]? = some x := a
    have b' : ((liveOf M ow).map (·.1))[i]? = some j := b
    rw [List.getElem?_map, List.getElem?_map] at a'
    rw [List.getElem?_map] at b'
    cases hq : (liveOf M ow)[i]? with
    | none => rw [hq] at b'; cases b'
    | some q =>
      rw [hq] at a' b'
      cases b'
      obtain ⟨b1, b2⟩ := (mem_live W.sz).1 (List.mem_of_getElem? (show (liveOf M ow)[i]? = some (q.1, q.2) from hq))
      obtain ⟨y, K, c1, c2, c3⟩ := W.at_ q.1 q.2 b1 b2
      have ey : hs.getD q.2 0 = y := by rw [Array.getD_eq_getD_getElem?, ← Array.getElem?_toList, c1]; rfl
      have ex : y = x := ey.symm.trans (Option.some.inj a')
      subst ex
      refine ⟨K, c2, fun k' q' => ?_⟩
      show way M y k' ∈ (liveOf M ow).map (·.1)
      cases z : oAt ow (way M y k') with
      | none => exact absurd z (c3 k' q')
      | some k2 => exact List.mem_map.mpr ⟨(_, k2), (mem_live W.sz).2 ⟨way_top, z⟩, rfl⟩
end Bs

namespace Bs
open PySem PySem.Spec PyProof.Rows L2

/-- at a stands the set of the tuples L (address and ints), its entries es, its table t -/
structure At (P : Program) (w : World) (h : Heap) (a : Addr) (L : List (Addr × List Int)) (es : Array (Int × Value)) (ep : Nat) (t : SetTable) : Prop where
  ob : ∃ o, h.get? a = some o ∧ o.ExactSet ∧ o.data = .set es ep t
  rw_ : es.toList = rowsOf P w L
  tb : Tab t (L.map fun p => thash P w p.2)
  nd : (L.map (·.2)).Nodup
  tp : ∀ p ∈ L, IsT P w h p.2 p.1
  pl : t.plain = true
  ld : w.params.followText "set-order" = true ∨ t.led = true
  rm : L.length * 5 < t.mask * 3
  fw : L.length < 1200
section
variable {P : Program} {w : World} {A : Around} {E : Value → Shared → Prop} {s : Shared}
variable {a : Addr} {L : List (Addr × List Int)} {es : Array (Int × Value)} {ep : Nat} {t : SetTable}
theorem rows_len (h : es.toList = rowsOf P w L) : es.size = L.length := by
  rw [← Array.length_toList, h]; exact List.length_map _
theorem At.n (R : At P w s.heap a L es ep t) : es.size = L.length := rows_len R.rw_
theorem fits_of {n : Nat} (dm : t.dummies = #[]) (hz : t.place.toList.length = n) (hm : n ≤ t.mask) : t.fits n = true := by
  unfold SetTable.fits SetTable.fill
  rw [dm, Bool.and_eq_true, beq_iff_eq, decide_eq_true_eq]
  exact ⟨hz, by show t.place.size + 0 ≤ t.mask; rw [show t.place.size = n from hz]; exact hm⟩
theorem At.fits (R : At P w s.heap a L es ep t) : t.fits es.size = true := by
  have q := R.rm
  refine fits_of R.tb.dm ?_ (by rw [R.n]; omega)
  rw [R.tb.sz, List.length_map, R.n]
theorem At.row (R : At P w s.heap a L es ep t) {i : Nat} {p : Addr × List Int} (h : L[i]? = some p) : es[i]? = some (thash P w p.2, Value.ref p.1) := by
  rw [← Array.getElem?_toList, R.rw_]
  show (L.map _)[i]? = _
  rw [List.getElem?_map, h]; rfl
theorem no_way (hm : Msk t.mask) : ¬ t.gaveWay = true := by
  unfold SetTable.gaveWay
  rcases hm with e | e | e | e | e <;> rw [e] <;> decide
theorem nth_dummy (m : Nat) : ∀ (n : Nat) (p : SetTable.Probe), p.dummy = none → (nth m p n).dummy = none
  | 0, _, h => h
  | n + 1, p, h => nth_dummy m n (adv m p) (by unfold adv; split <;> exact h)
abbrev go0 (m : Nat) (x : Int) : SetTable.Probe := runAt m (SetTable.bits x % (m + 1)) (SetTable.bits x)

/-- the search from the c-th step of the way on, whether one is to be added or not -/
theorem seek (R : At P w s.heap a L es ep t) {x : Addr} {k : List Int} {ad : Bool} (hx : IsT P w s.heap k x) (hu : A.units < cLine) {K : Nat} (hKf : K < 10 * SetTable.turns t.mask)
    (hK : way t.mask (thash P w k) K ∉ t.place.toList) (hKb : ∀ c, c < K → way t.mask (thash P w k) c ∈ t.place.toList) {Q : SetFound → Shared → Prop}
    (hin : k ∈ L.map (·.2) → ∀ o : Option Nat, (ad = false → o.isSome = true) → Q (.there o) s) (hout : k ∉ L.map (·.2) → Q (.free (way t.mask (thash P w k) K) false) s) :
    ∀ (f c : Nat) (stand : Option SetTable.Probe), stand.getD (t.probeStart (thash P w k)) = nth t.mask (go0 t.mask (thash P w k)) c → c ≤ K → K - c < f →
      (∀ (i : Nat) p, L[i]? = some p → p.2 = k → ∃ c', c ≤ c' ∧ c' < K ∧ t.place.toList[i]? = some (way t.mask (thash P w k) c')) →
      wpAny (model P w) A (setSearchFrom a (.ref x) (thash P w k) ad f stand) Q E s
  | 0, _, _, _, _, hf, _ => absurd hf (Nat.not_lt_zero _)
  | f + 1, c, stand, hst, hc, hf, hre => by
    obtain ⟨o, ho, hex, hd⟩ := R.ob
    rw [setSearchFrom_succ]
    refine wpAny_bind (wpAny_setState_of ho hd R.fits ?_)
    dsimp only
    refine wp_if_neg (no_way R.tb.ms) ?_
    try refine wpAny_bind (wpAny_pure ?_)
    have step : ∀ q, nth t.mask (nth t.mask (go0 t.mask (thash P w k)) c) q = nth t.mask (go0 t.mask (thash P w k)) (c + q) := fun q => (nth_add t.mask c _ q).symm
    have sj : ∀ q, (nth t.mask (nth t.mask (go0 t.mask (thash P w k)) c) q).j = way t.mask (thash P w k) (c + q) := fun q => congrArg SetTable.Probe.j (step q)
    have cK : c + (K - c) = K := Nat.add_sub_cancel' hc
    have spec := go_spec t R.tb.up R.tb.dm (fun i => (es[i]?.map (·.1)).getD 0) (thash P w k) (10 * SetTable.turns t.mask) (K - c) (nth t.mask (go0 t.mask (thash P w k)) c) (nth_dummy _ c _ rfl) (by omega)
      (fun q hq => by rw [sj]; exact hKb _ (by omega)) (by rw [sj, cK]; exact hK)
    have hashAt : ∀ (i : Nat) p, L[i]? = some p → (es[i]?.map (·.1)).getD 0 = thash P w p.2 := fun i p hp => by rw [R.row hp]; rfl
    have far : ∀ (c' i0 : Nat) p0, c ≤ c' → L[i0]? = some p0 → p0.2 = k → t.place.toList[i0]? = some (way t.mask (thash P w k) c') →
        t.place.toList[i0]? = some (nth t.mask (nth t.mask (go0 t.mask (thash P w k)) c) (c' - c)).j ∧ (es[i0]?.map (·.1)).getD 0 = thash P w k := fun c' i0 p0 h1 h2 h3 h4 => by
      refine ⟨?_, (hashAt i0 p0 h2).trans (congrArg _ h3)⟩
      rw [sj, Nat.add_sub_cancel' h1]; exact h4
    rcases spec with ⟨q, i, hq, hi, hh, hno, hpr⟩ | ⟨hno, hpr⟩
    · rw [show t.probe (fun i => (es[i]?.map (·.1)).getD 0) (thash P w k) (stand.getD (t.probeStart (thash P w k))) = _ from (congrArg _ hst).trans hpr]
      dsimp only
      rw [sj] at hi ⊢
      rw [step]
      have hil : i < L.length := by
        have h1 := (List.getElem?_eq_some_iff.mp hi).1
        rw [R.tb.sz, List.length_map] at h1; exact h1
      obtain ⟨p, hp⟩ : ∃ p, L[i]? = some p := ⟨_, List.getElem?_eq_getElem hil⟩
      have hmem : p ∈ L := List.mem_of_getElem? hp
      have more : p.2 ≠ k → wpAny (model P w) A (setSearchFrom a (.ref x) (thash P w k) ad f (some (nth t.mask (go0 t.mask (thash P w k)) (c + (q + 1))))) Q E s := fun hne => by
        refine seek R hx hu hKf hK hKb hin hout f _ _ rfl (by omega) (by omega) fun i0 p0 h0 hk0 => ?_
        obtain ⟨c', a1, a2, a3⟩ := hre i0 p0 h0 hk0
        refine ⟨c', Nat.lt_of_not_le fun z => ?_, a2, a3⟩
        obtain ⟨b1, b2⟩ := far c' i0 p0 a1 h0 hk0 a3
        rcases Nat.lt_or_eq_of_le (show c' ≤ c + q from z) with y | y
        · exact hno (c' - c) i0 (by omega) b1 b2
        · rw [y] at a3
          have s0 := (slot_live R.tb.up a3).symm.trans (slot_live R.tb.up hi)
          cases s0
          rw [hp] at h0
          cases h0
          exact hne hk0
      have rest : wpAny (model P w) A (searchRest a (.ref x) (thash P w k) ad f es t (way t.mask (thash P w k) (c + q)) i (nth t.mask (go0 t.mask (thash P w k)) (c + (q + 1)))) Q E s := by
        unfold searchRest
        rw [R.row hp]
        dsimp only
        refine wpAny_bind (wpAny_holding (wpAny_eqBool_tuple hu (R.tp p hmem) hx ?_))
        refine wpAny_bind (wpAny_setState_of ho hd R.fits ?_)
        dsimp only
        have live : ∀ e : Bool, (e = true → wpAny (model P w) A (pure (SetFound.there (some i)) : Sem SetFound) Q E s) → (e = false → wpAny (model P w) A (setSearchFrom a (.ref x) (thash P w k) ad f (some (nth t.mask (go0 t.mask (thash P w k)) (c + (q + 1))))) Q E s) →
            wpAny (model P w) A (do
              let some same := t.sameMemory t.moves t.mask | unsupported "set.changed-during-lookup:is-the-new-block-at-the-old-address"
              let still ← match (if same then t.slot (way t.mask (thash P w k) (c + q)) else .empty) with
                | .live i' => match es[i']? with
                  | some (_, y') => do pure (if ← isSame y' (.ref p.1) then some i' else none)
                  | none => pure none
                | _ => pure none
              match still with
              | none => rule "set.search.anew"; setSearchFrom a (.ref x) (thash P w k) ad f none
              | some i' => if e = true then pure (SetFound.there (some i')) else setSearchFrom a (.ref x) (thash P w k) ad f (some (nth t.mask (go0 t.mask (thash P w k)) (c + (q + 1))))) Q E s := fun e he hf => by
          rw [sameMem]
          dsimp only
          simp only [if_true, slot_live R.tb.up hi, R.row hp]
          refine wpAny_bind (wpAny_isSame_ref_self (wpAny_bind (wpAny_pure ?_)))
          simp only [if_true]
          cases e with
          | true => exact wp_if_pos rfl (he rfl)
          | false => exact wp_if_neg (by decide) (hf rfl)
        by_cases hkk : p.2 = k
        · have there : ∀ o : Option Nat, (ad = false → o.isSome = true) → Q (.there o) s := hin (List.mem_map.mpr ⟨p, hmem, hkk⟩)
          cases ad with
          | true =>
            refine wp_if_pos (by simp [hkk]) ?_
            exact wpAny_pure (there none fun z => nomatch z)
          | false =>
            refine wp_if_neg (by simp) ?_
            try refine wpAny_bind (wpAny_pure ?_)
            rw [decide_eq_true hkk]
            exact live true (fun _ => wpAny_pure (there (some i) fun _ => rfl)) (fun z => nomatch z)
        · refine wp_if_neg (by simp [hkk]) ?_
          try refine wpAny_bind (wpAny_pure ?_)
          rw [decide_eq_false hkk]
          exact live false (fun z => nomatch z) (fun _ => more hkk)
      by_cases hl : t.led = true
      · refine wp_if_neg (by simp [hl]) ?_
        try refine wpAny_bind (wpAny_pure ?_)
        exact rest
      · refine wp_if_pos (by simp [hl]) ?_
        refine wpAny_bind (seen_tup hx (fun y hy => ?_) ?_)
        · obtain ⟨e, he, ee⟩ := List.mem_map.mp hy
          have he2 : e ∈ es.toList := by
            have he1 : e ∈ es ∧ e.1 = thash P w k := by simpa using he
            simpa using he1.1
          rw [R.rw_] at he2
          obtain ⟨p2, hp2, e2⟩ := List.mem_map.mp he2
          exact ⟨p2.2, p2.1, by rw [← ee, ← e2], R.tp p2 hp2⟩
        · refine wp_if_neg (by decide) ?_
          try refine wpAny_bind (wpAny_pure ?_)
          exact rest
    · rw [show t.probe (fun i => (es[i]?.map (·.1)).getD 0) (thash P w k) (stand.getD (t.probeStart (thash P w k))) = _ from (congrArg _ hst).trans hpr, sj, cK]
      dsimp only
      refine wpAny_pure (hout fun hm => ?_)
      obtain ⟨p0, h0, hk0⟩ := List.mem_map.mp hm
      obtain ⟨i0, h00⟩ := List.getElem?_of_mem h0
      obtain ⟨c', a1, a2, a3⟩ := hre i0 p0 h00 hk0
      obtain ⟨b1, b2⟩ := far c' i0 p0 a1 h00 hk0 a3
      exact hno (c' - c) i0 (by omega) b1 b2
theorem search (R : At P w s.heap a L es ep t) {x : Addr} {k : List Int} {ad : Bool} (hx : IsT P w s.heap k x) (hu : A.units < cLine) {Q : SetFound → Shared → Prop}
    (hin : k ∈ L.map (·.2) → ∀ o : Option Nat, (ad = false → o.isSome = true) → Q (.there o) s)
    (hout : ∀ K, k ∉ L.map (·.2) → way t.mask (thash P w k) K ∉ t.place.toList → (∀ c, c < K → way t.mask (thash P w k) c ∈ t.place.toList) → Q (.free (way t.mask (thash P w k) K) false) s) :
    wpAny (model P w) A (setSearch a (.ref x) (thash P w k) ad) Q E s := by
  have hr := R.rm
  obtain ⟨K, hKf, hK, hKb⟩ := R.tb.gap (by rw [List.length_map]; omega) (thash P w k)
  have big : K < 100000 := by
    have : 10 * SetTable.turns t.mask ≤ 20620 := by
      unfold SetTable.turns
      rcases R.tb.ms with e | e | e | e | e <;> omega
    omega
  unfold setSearch
  refine seek R hx hu hKf hK hKb hin (fun z => hout K z hK hKb) 100000 0 none rfl (Nat.zero_le _) (by omega) fun i p hp hk => ?_
  have hi : (L.map fun p => thash P w p.2)[i]? = some (thash P w k) := by rw [List.getElem?_map, hp, ← hk]; rfl
  have hil : i < t.place.toList.length := by rw [R.tb.sz]; exact (List.getElem?_eq_some_iff.mp hi).1
  obtain ⟨c, hc, e⟩ := R.tb.ahead hK hi (List.getElem?_eq_getElem hil)
  exact ⟨c, Nat.zero_le _, hc, by rw [List.getElem?_eq_getElem hil, e]⟩
/-- is the tuple in the set? -/
theorem find (R : At P w s.heap a L es ep t) {x : Addr} {k : List Int} (hx : IsT P w s.heap k x) (hu : A.units < cLine) {Q : Option Nat → Shared → Prop}
    (hQ : ∀ o : Option Nat, o.isSome = decide (k ∈ L.map (·.2)) → Q o s) : wpAny (model P w) A (setFind a (.ref x) (thash P w k)) Q E s := by
  obtain ⟨o, ho, hex, hd⟩ := R.ob
  unfold setFind
  rw [show (100000 : Nat) = 99999 + 1 from rfl]
  unfold setFindIn
  refine wpAny_bind (wpAny_setState_of ho hd R.fits ?_)
  dsimp only
  refine wp_if_neg (by simp [byScan, Value.scannable]) ?_
  try refine wpAny_bind (wpAny_pure ?_)
  refine wpAny_bind (search (ad := false) R hx hu (fun hm o h => ?_) fun K hm _ _ => ?_)
  · dsimp only
    exact wpAny_pure (hQ o (by rw [decide_eq_true hm]; exact h rfl))
  · dsimp only
    exact wpAny_pure (hQ none (by rw [decide_eq_false hm]; rfl))
end
end Bs

namespace Bs
open PySem PySem.Spec PyProof.Rows L2
section
variable {P : Program} {w : World} {A : Around} {E : Value → Shared → Prop} {s : Shared}
variable {a : Addr} {L : List (Addr × List Int)} {es : Array (Int × Value)} {ep : Nat} {t : SetTable}

/-- how large the next table is, and that it has room -/
theorem grows {m n : Nat} (hm : Msk m) (h1 : n * 5 < m * 3) (h2 : (n + 1) * 5 ≥ m * 3) (h3 : n + 1 < 1200) :
    ∃ M, SetTable.sizeAbove (SetTable.grown (n + 1)) - 1 = M ∧ Msk M ∧ SetTable.sizeAbove (SetTable.grown (n + 1)) ≤ 2048 ∧ (n + 1) * 5 < M * 3 ∧ n + 1 ≤ m := by
  have k5 : SetTable.sizeAbove (SetTable.grown 5) = 32 := by decide +kernel
  have k19 : SetTable.sizeAbove (SetTable.grown 19) = 128 := by decide +kernel
  have k77 : SetTable.sizeAbove (SetTable.grown 77) = 512 := by decide +kernel
  have k307 : SetTable.sizeAbove (SetTable.grown 307) = 2048 := by decide +kernel
  rcases hm with e | e | e | e | e <;> subst e
  · obtain rfl : n = 4 := by omega
    exact ⟨31, by rw [k5], .inr (.inl rfl), by rw [k5]; decide, by decide, by decide⟩
  · obtain rfl : n = 18 := by omega
    exact ⟨127, by rw [k19], .inr (.inr (.inl rfl)), by rw [k19]; decide, by decide, by decide⟩
  · obtain rfl : n = 76 := by omega
    exact ⟨511, by rw [k77], .inr (.inr (.inr (.inl rfl))), by rw [k77]; decide, by decide, by decide⟩
  · obtain rfl : n = 306 := by omega
    exact ⟨2047, by rw [k307], .inr (.inr (.inr (.inr rfl))), by rw [k307]; decide, by decide, by decide⟩
  · omega

theorem relay {o : Obj} (ho : s.heap.get? a = some o) (hex : o.ExactSet) (hd : o.data = .set es ep t) (hr : es.toList = rowsOf P w L) (T : Tab t (L.map fun p => thash P w p.2)) (hm : L.length ≤ t.mask)
    (nd : (L.map (·.2)).Nodup) (tp : ∀ p ∈ L, IsT P w s.heap p.2 p.1) (pl : t.plain = true) (ld : w.params.followText "set-order" = true ∨ t.led = true) (fw : L.length < 1200) {wanted M : Nat}
    (hw : SetTable.sizeAbove wanted - 1 = M) (hM : Msk M) (h2 : SetTable.sizeAbove wanted ≤ 2048) (hn : L.length * 5 < M * 3) {Q : Unit → Shared → Prop}
    (hQ : ∀ h' L' es' ep' t', Heap.SameBut a s.heap h' → At P w h' a L' es' ep' t' → L'.Perm L → Q () { s with heap := h' }) : wpAny (model P w) A (setRelay a wanted) Q E s := by
  have hsl := rows_len hr
  obtain ⟨t', order, e, hp, T', em, el, epl⟩ := anew t (hs := es.map (·.1)) hw hM (by rw [Array.size_map, hsl]; omega)
  rw [Array.size_map, hsl] at hp
  obtain ⟨L2, r1, r2, r3⟩ := order_rows L es order hr hp
  rw [← r3] at T'
  have hs2 : (order.filterMap (es[·]?)).size = es.size := by rw [rows_len r1, r2.length_eq, hsl]
  rw [setRelay_eq]
  refine wpAny_bind (wpAny_setState_of ho hd (fits_of T.dm (by rw [T.sz, List.length_map, hsl]) (by rw [hsl]; exact hm)) ?_)
  dsimp only
  refine wp_if_neg (by rw [sizeLine_eq]; omega) ?_
  try refine wpAny_bind (wpAny_pure ?_)
  rw [e]
  dsimp only
  refine wpAny_bind ?_
  refine wp_if_neg (by rw [hs2]; simp) ?_
  try refine wpAny_bind (wpAny_pure ?_)
  refine wpAny_pure ?_
  dsimp only
  refine wpAny_storeSet_of ho hd ?_ (by rw [hs2, hsl, sizeLine_eq]; omega)
  have sb : Heap.SameBut a s.heap (s.heap.update a (Obj.putSet (order.filterMap (es[·]?)) t')) := Heap.SameBut.update ..
  refine hQ _ L2 _ (ep + 1) t' sb ⟨⟨_, store_at ho hd, ⟨hex.1, hex.2.1, hex.2.2⟩, rfl⟩, r1, T', (r2.map (·.2)).nodup_iff.mpr nd, fun p q => isT_same (tp p (r2.mem_iff.mp q)) ho hd sb, by rw [epl]; exact pl, by rw [el]; exact ld, ?_, by rw [r2.length_eq]; exact fw⟩ r2
  rw [r2.length_eq, em]; exact hn

/-- one more, or none where it is there -/
theorem add (R : At P w s.heap a L es ep t) {x : Addr} {k : List Int} (hx : IsT P w s.heap k x) (hu : A.units < cLine) (hf : L.length + 1 < 1200) {Q : Bool → Shared → Prop}
    (hQ : ∀ b h' L' es' ep' t', Heap.SameBut a s.heap h' → At P w h' a L' es' ep' t' → (k ∈ L.map (·.2) → L' = L) → (k ∉ L.map (·.2) → L'.Perm ((x, k) :: L)) → Q b { s with heap := h' }) :
    wpAny (model P w) A (setAddHashed a (.ref x) (thash P w k)) Q E s := by
  obtain ⟨o, ho, hex, hd⟩ := R.ob
  have hrm := R.rm
  unfold setAddHashed
  refine wpAny_holding ?_
  rw [show (100000 : Nat) = 99999 + 1 from rfl, setAddHashedIn_succ]
  refine wpAny_bind (wpAny_setState_of ho hd R.fits ?_)
  dsimp only
  refine wp_if_neg (by simp [byScan, Value.scannable]) ?_
  try refine wpAny_bind (wpAny_pure ?_)
  refine wpAny_bind (search (ad := true) R hx hu (fun hm oo _ => ?_) fun K hm hK hb => ?_)
  · dsimp only
    exact wpAny_pure (hQ false s.heap L es ep t (Heap.SameBut.refl a s.heap) R (fun _ => rfl) fun z => absurd hm z)
  · dsimp only
    refine wpAny_bind (wpAny_setState_of ho hd R.fits ?_)
    dsimp only
    obtain ⟨p, t1, ep1, q2, q3, q4, q5, q6, q9⟩ := R.tb.place hK hb
    rw [ep1]
    have hp1 : t1.plain = true := q6.trans R.pl
    dsimp only
    first
      | (refine wpAny_bind ?_; refine wp_if_pos hp1 ?_; refine hashBy_tup hx ?_)
      | refine wp_if_pos hp1 (wpAny_bind (hashBy_tup hx ?_))
    simp only [if_true]
    have hin : (SetTable.insertAt es p (thash P w k, Value.ref x)).toList = rowsOf P w (L.take p ++ (x, k) :: L.drop p) := by
      rw [SetTable.toList_insertAt, rows_put, R.rw_]
    have pm := put_perm L p (x, k)
    have hhs : (L.take p ++ (x, k) :: L.drop p).map (fun p => thash P w p.2) = (L.map fun p => thash P w p.2).take p ++ thash P w k :: (L.map fun p => thash P w p.2).drop p := by
      rw [List.map_append, List.map_cons, List.map_take, List.map_drop]
    rw [← hhs] at q3
    generalize SetTable.insertAt es p (thash P w k, Value.ref x) = es1 at hin ⊢
    generalize L.take p ++ (x, k) :: L.drop p = L1 at pm q3 hin
    have ln : L1.length = L.length + 1 := pm.length_eq
    have nd1 : (L1.map (·.2)).Nodup := (pm.map (·.2)).nodup_iff.mpr (List.nodup_cons.mpr ⟨hm, R.nd⟩)
    have n1 : es1.size = L.length + 1 := (rows_len hin).trans ln
    refine wpAny_bind (wpAny_storeSet_of ho hd ?_ (by rw [n1, sizeLine_eq]; omega))
    have sb : Heap.SameBut a s.heap (s.heap.update a (Obj.putSet es1 t1)) := Heap.SameBut.update ..
    have ho1 := store_at (es' := es1) (t' := t1) ho hd
    generalize s.heap.update a (Obj.putSet es1 t1) = h1 at sb ho1 ⊢
    have tp1 : ∀ p ∈ L1, IsT P w h1 p.2 p.1 := fun p hp => by
      rcases List.mem_cons.mp (pm.mem_iff.mp hp) with e | hp
      · rw [e]; exact isT_same hx ho hd sb
      · exact isT_same (R.tp p hp) ho hd sb
    have ld1 : w.params.followText "set-order" = true ∨ t1.led = true := by rw [q5]; exact R.ld
    have full : t1.tooFull = decide ((L.length + 1) * 5 ≥ t.mask * 3) := by
      unfold SetTable.tooFull
      rw [q9, q4, List.length_map]
    by_cases hfu : t1.tooFull = true
    · first
        | (refine wpAny_bind ?_; refine wp_if_pos (by simp [hfu]) ?_)
        | (refine wp_if_pos (by simp [hfu]) ?_; refine wpAny_bind ?_)
      rw [full, decide_eq_true_eq] at hfu
      obtain ⟨M, g1, g2, g3, g4, g5⟩ := grows R.tb.ms hrm hfu hf
      rw [R.n]
      refine relay (s := { s with heap := h1 }) ho1 ⟨hex.1, hex.2.1, hex.2.2⟩ rfl hin q3 (by rw [ln, q4]; exact g5) nd1 tp1 hp1 ld1 (by rw [ln]; exact hf) g1 g2 g3 (by rw [ln]; exact g4) ?_
      intro h2 L2 es2 ep2 t2 sb2 R2 pm2
      exact wpAny_pure (hQ true h2 L2 es2 ep2 t2 (sb.trans sb2) R2 (fun z => absurd z hm) fun _ => pm2.trans pm)
    · first
        | refine wp_if_neg (by simp [hfu]) ?_
        | (refine wpAny_bind ?_; refine wp_if_neg (by simp [hfu]) ?_; refine wpAny_pure ?_)
      refine wpAny_pure (hQ true h1 L1 es1 (ep + 1) t1 sb ⟨⟨_, ho1, ⟨hex.1, hex.2.1, hex.2.2⟩, rfl⟩, hin, q3, nd1, tp1, hp1, ld1, ?_, by rw [ln]; exact hf⟩ (fun z => absurd z hm) fun _ => pm)
      rw [full, decide_eq_true_eq] at hfu
      rw [ln, q4]; omega
theorem fresh {h : Heap} {b : Addr} (ho : h.get? b = some { cls := .type "set", dict := none, data := .set #[] 0 (.fresh 0 0 (!w.params.followText "set-order")) }) : At P w h b [] #[] 0 (.fresh 0 0 (!w.params.followText "set-order")) := by
  refine ⟨⟨_, ho, ⟨rfl, rfl, rfl⟩, rfl⟩, rfl, ⟨List.Pairwise.nil, rfl, rfl, .inl rfl, fun x hx => (by cases hx), fun i x j hi => (by simp at hi)⟩, List.nodup_nil, fun p hp => (by cases hp), rfl, ?_, (by show 0 * 5 < 7 * 3; decide), (by show 0 < 1200; decide)⟩
  show _ ∨ (!w.params.followText "set-order") = true
  cases w.params.followText "set-order"
  · exact .inr rfl
  · exact .inl rfl

/-! ### sorted(s), the members pairs -/
theorem sorted_pairs (R : At P w s.heap a L es ep t) (hh : A.handled = none) (h2 : ∀ p ∈ L, ∃ i j, p.2 = [i, j]) {Q : Value → Shared → Prop}
    (hQ : ∀ s' p (out : Array Value) (c : Nat) (L' : List (Addr × List Int)), (∀ b o, s.heap.get? b = some o → s'.heap.get? b = some o) → s'.gens = s.gens → s'.os = s.os → s.heap.objs.size ≤ p →
      s'.heap.get? p = some (seqObj "list" out c) → out.toList = L'.map (fun q => Value.ref q.1) → L'.Perm L →
      L'.Pairwise (fun q r => SrtO.lexB (r.2.headD 0, r.2.getD 1 0) (q.2.headD 0, q.2.getD 1 0) = false) → Q (.ref p) s') :
    wpAny (model P w) A (call (.builtin "sorted") [.ref a]) Q E s := by
  obtain ⟨o, ho, hex, hd⟩ := R.ob
  have hsz := R.n
  have hfw := R.fw
  refine Calls.call_function_entry kind_sorted plain_sorted entry_sorted (args_sorted1 _) ?_
  unfold Builtin.«sorted»
  refine wpAny_bind (m := checkCount "sorted" 1 1 _) (wpAny_pure ?_)
  refine wpAny_bind (collect_set (A := A.in1) hh ⟨o, ho, hex.1, hd⟩ R.fits (by unfold scanBound; omega) R.tb.up R.ld fun s1 vs k1 hz g1 o1 pm => ?_)
  have hes : es.toList.map (·.2) = L.map fun q => Value.ref q.1 := by
    rw [R.rw_]
    exact List.map_map
  rw [hes] at pm
  -- an address has one key
  have one : ∀ q ∈ L, ∀ r ∈ L, q.1 = r.1 → q = r := fun q hq r hr e => by
    have a1 := R.tp q hq
    rw [e] at a1
    exact Prod.ext e (a1.inj (R.tp r hr))
  -- the key of a value
  let key : Value → Int × Int := fun v => match L.find? (fun q => decide (Value.ref q.1 = v)) with
    | some q => (q.2.headD 0, q.2.getD 1 0)
    | none => (0, 0)
  have hkey : ∀ q ∈ L, key (.ref q.1) = (q.2.headD 0, q.2.getD 1 0) := fun q hq => by
    show (match L.find? (fun r => decide (Value.ref r.1 = Value.ref q.1)) with
      | some q => (q.2.headD 0, q.2.getD 1 0)
      | none => ((0 : Int), (0 : Int))) = _
    cases hf : L.find? (fun r => decide (Value.ref r.1 = Value.ref q.1)) with
    | none => exact absurd (decide_eq_true rfl) (List.find?_eq_none.mp hf q hq)
    | some r =>
      have e0 := List.find?_some hf
      have e1 : Value.ref r.1 = Value.ref q.1 := of_decide_eq_true (by simpa using e0)
      injection e1 with e1
      rw [one r (List.mem_of_find?_eq_some hf) q hq e1]
  have hvl : vs.length ≤ sizeLine := by rw [pm.length_eq, List.length_map, sizeLine_eq]; omega
  refine wpAny_bind (wpAny_newList ?_ hvl)
  have hoL : (s1.heap.push (seqObj "list" vs.toArray 0)).get? s1.heap.objs.size = some (seqObj "list" vs.toArray 0) := Heap.get?_push_size _ rfl
  have pr : ∀ v ∈ vs, Srt.IsPair (s1.heap.push (seqObj "list" vs.toArray 0)) v (key v).1 (key v).2 := fun v hv => by
    obtain ⟨q, hq, rfl⟩ := List.mem_map.mp (pm.mem_iff.mp hv)
    rw [hkey q hq]
    obtain ⟨i, j, eij⟩ := h2 q hq
    have it : IsT P w (s1.heap.push (seqObj "list" vs.toArray 0)) q.2 q.1 := isT_keep (R.tp q hq) fun b u e => Heap.get?_push_of_some _ (k1 b u e)
    rw [eij] at it ⊢
    obtain ⟨ob, items, n, h1, h3, h4, h5⟩ := it
    have hI := ints_of_items (P := P) (w := w) h5
    obtain ⟨ls, hls⟩ : ∃ ls, ls = items.toList := ⟨_, rfl⟩
    rw [← hls] at hI
    cases hI with
    | cons _ t1 r1 =>
      cases r1 with
      | cons _ t2 r2 =>
        cases r2
        have hit : items = #[.int i t1, .int j t2] := by
          rw [← Array.toArray_toList (xs := items), ← hls]
        exact ⟨q.1, ob, t1, t2, n, rfl, h1, h3, by rw [h4, hit]; rfl⟩
  have ncls : ∀ u, (s1.heap.push (seqObj "list" vs.toArray 0)).get? s1.heap.objs.size = some u → u.cls ≠ .type "tuple" := fun u e c => by
    rw [hoL] at e
    cases e
    exact absurd (Value.type.inj c) (by decide)
  refine wpAny_bind (wpAny_holding (wpAny_call_entry slot_list_sort ⟨_, hoL, rfl⟩ entry_list_sort
    (SrtO.list_sort_ord (s := { s1 with heap := s1.heap.push (seqObj "list" vs.toArray 0) }) (SrtO.swo_lex key) hoL hvl (fun z => SrtO.pairs_sortableO (by omega) pr ncls) fun out o1' o2' => ⟨_, rfl, ?_⟩) (args_list_sort _)))
  obtain ⟨c, hc⟩ := sortedHeap_at (vs := vs) (out := out.toArray) hoL
  have hm : ∀ v ∈ out, ∃ q ∈ L, v = Value.ref q.1 := fun v hv => by
    obtain ⟨q, hq, e⟩ := List.mem_map.mp (pm.mem_iff.mp (o2'.perm.mem_iff.mp hv))
    exact ⟨q, hq, e.symm⟩
  have ord : ∀ us : List Value, (∀ v ∈ us, ∃ q ∈ L, v = Value.ref q.1) → ∃ L1 : List (Addr × List Int), us = L1.map (fun q => Value.ref q.1) ∧ ∀ q ∈ L1, q ∈ L := fun us => by
    induction us with
    | nil => exact fun _ => ⟨[], rfl, fun q hq => (by cases hq)⟩
    | cons v us ih =>
      intro hv
      obtain ⟨q, hq, e⟩ := hv v List.mem_cons_self
      obtain ⟨L1, e1, hs⟩ := ih fun u hu => hv u (List.mem_cons_of_mem _ hu)
      exact ⟨q :: L1, by rw [List.map_cons, e, e1], fun r hr => by
        rcases List.mem_cons.mp hr with z | z
        · exact z ▸ hq
        · exact hs r z⟩
  obtain ⟨L', e', hs'⟩ := ord out hm
  have inj : ∀ q ∈ L', ∀ r ∈ L', Value.ref q.1 = Value.ref r.1 → q = r := fun q hq r hr e => by
    injection e with e
    exact one q (hs' q hq) r (hs' r hr) e
  have pL : L'.Perm L := by
    have p1 : (L'.map fun q => Value.ref q.1).Perm (L.map fun q => Value.ref q.1) := by rw [← e']; exact o2'.perm.trans pm
    have nL : L.Nodup := nodup_of_map R.nd
    have nr : (L.map fun q => Value.ref q.1).Nodup := List.pairwise_map.mpr (List.Pairwise.imp_of_mem (fun {q r} hq hr hne e => by
      injection e with e
      exact hne (one q hq r hr e)) nL)
    have n1 : L'.Nodup := nodup_of_map (p1.nodup_iff.mpr nr)
    refine (List.perm_ext_iff_of_nodup n1 nL).mpr fun q => ⟨hs' q, fun hq => ?_⟩
    obtain ⟨r, hr, e⟩ := List.mem_map.mp (p1.mem_iff.mpr (List.mem_map.mpr ⟨q, hq, rfl⟩))
    injection e with e
    exact one r (hs' r hr) q hq e ▸ hr
  refine wpAny_pure ⟨_, rfl, hQ _ s1.heap.objs.size out.toArray c L' (fun b u e => ?_) g1 o1 hz hc e' pL ?_⟩
  · have q := k1 b u e
    have hlt := Heap.lt_size q
    show (sortedHeap (s1.heap.push (seqObj "list" vs.toArray 0)) s1.heap.objs.size vs out.toArray).get? b = some u
    rw [sortedHeap_old (Nat.ne_of_lt hlt) (by rw [size_push']; exact Nat.lt_succ_of_lt hlt)]
    exact Heap.get?_push_of_some _ q
  · rw [e'] at o1'
    refine List.Pairwise.imp_of_mem (fun {q r} hq hr h => ?_) (List.pairwise_map.mp o1')
    rw [← hkey q (hs' q hq), ← hkey r (hs' r hr)]
    exact h
end
end Bs

namespace Bs
open PySem PySem.Spec PyProof.Rows L2
/-- the set at a, its members' ints told by L; that the tuples stand is told by the heap -/
def Set0 (P : Program) (w : World) (h : Heap) (a : Addr) (L : List (Addr × List Int)) : Prop :=
  ∃ es ep t, (∃ o, h.get? a = some o ∧ o.ExactSet ∧ o.data = .set es ep t) ∧ es.toList = rowsOf P w L ∧ Tab t (L.map fun p => thash P w p.2) ∧ (L.map (·.2)).Nodup ∧ t.plain = true ∧
    (w.params.followText "set-order" = true ∨ t.led = true) ∧ L.length * 5 < t.mask * 3 ∧ L.length < 1200
def SO (P : Program) (w : World) (a : Addr) (L : List (Addr × List Int)) : HO := .ext fun h => Set0 P w h a L
theorem At.set0 {P : Program} {w : World} {h : Heap} {a : Addr} {L : List (Addr × List Int)} {es : Array (Int × Value)} {ep : Nat} {t : SetTable} (R : At P w h a L es ep t) : Set0 P w h a L :=
  ⟨es, ep, t, R.ob, R.rw_, R.tb, R.nd, R.pl, R.ld, R.rm, R.fw⟩
theorem Set0.at {P : Program} {w : World} {h : Heap} {a : Addr} {L : List (Addr × List Int)} (R : Set0 P w h a L) (ht : ∀ p ∈ L, IsT P w h p.2 p.1) : ∃ es ep t, At P w h a L es ep t := by
  obtain ⟨es, ep, t, h1, h2, h3, h4, h5, h6, h7, h8⟩ := R
  exact ⟨es, ep, t, h1, h2, h3, h4, ht, h5, h6, h7, h8⟩
theorem so_ok {P : Program} {w : World} {H : Hp} {h : Heap} {a : Addr} {L : List (Addr × List Int)} (R : Set0 P w h a L) : ObjOk P w H h a (SO P w a L) := by
  have ⟨es, ep, t, ⟨o, ho, r⟩, q⟩ := R
  refine ⟨R, ⟨o, ho⟩, fun h1 h2 p k => ?_⟩
  obtain ⟨es', ep', t', ⟨o', ho', r'⟩, q'⟩ := p
  exact ⟨es', ep', t', ⟨o', k o' ho', r'⟩, q'⟩
theorem Set0.type {P : Program} {w : World} {s : Shared} {a : Addr} {L : List (Addr × List Int)} (R : Set0 P w s.heap a L) : s.TypeIs (.ref a) "set" ∧ ∀ b, Value.ref a = .ref b → ∃ ob, s.heap.get? b = some ob ∧ ob.dict = none := by
  obtain ⟨es, ep, t, ⟨o, ho, hx, hd⟩, _⟩ := R
  exact ⟨⟨o, ho, hx.1⟩, fun b e => by cases e; exact ⟨o, ho, hx.2.1⟩⟩
/-- all members stand as tuples -/
def Tups (K : PySem.W.Frag) (H : Hp) (L : List (Addr × List Int)) : Prop := ∀ p ∈ L, SqT K H p.1 (p.2.map V.int)
section
variable {X : Cx}
theorem isTs {pins : List (Addr × Obj)} {σ : L2.St} {H : Hp} {s : Shared} {L : List (Addr × List Int)} (I : Inv X pins σ H s) (h : Tups X.K H L) : ∀ p ∈ L, IsT X.prog X.w s.heap p.2 p.1 := fun p hp => Inv.isT I (h p hp)
/-- set() -/
def rNew (P : Program) (w : World) : List V → Hp → VK → Prop := fun xs H Q => xs = [] ∧ ∀ p, H p = none → Q (.ref p) (upd H p (SO P w p []))
theorem cr_new : CallR X (.type "set") (rNew X.prog X.w) := by
  intro pins s σ H xs us Q I r h
  obtain ⟨rfl, q⟩ := h
  cases r
  refine setR_new fun new => ?_
  exact ⟨.ref _, upd H s.heap.objs.size (SO X.prog X.w s.heap.objs.size []), I.laid (t' := s.toks) (fun b u e => Heap.get?_push_of_some _ e) (Nat.le_refl _) (so_ok (fresh (Heap.get?_push_size _ rfl)).set0), rfl, q _ (I.hok.fresh (Nat.le_refl _))⟩
/-- (i, j) in s -/
def rIn (K : PySem.W.Frag) (P : Program) (w : World) (neg : Bool) : V → V → Hp → VK → Prop := fun x y H Q => ∃ (b : Addr) (k : List Int) (a : Addr) (L : List (Addr × List Int)), x = .ref b ∧ y = .ref a ∧ SqT K H b (k.map V.int) ∧ H a = some (SO P w a L) ∧ Tups K H L ∧
  Q (.bl (xor neg (decide (k ∈ L.map (·.2))))) H
theorem contains_at {s : Shared} {a b : Addr} {k : List Int} {L : List (Addr × List Int)} {A : Around} {E : Value → Shared → Prop} {Q : Bool → Shared → Prop} (hu : A.units + 64 < cLine)
    (R : Set0 X.prog X.w s.heap a L) (hL : ∀ p ∈ L, IsT X.prog X.w s.heap p.2 p.1) (hk : IsT X.prog X.w s.heap k b)
    (h : ∀ t', Q (decide (k ∈ L.map (·.2))) { s with toks := t' }) : wpAny (model X.prog X.w) A (contains (.ref a) (.ref b)) Q E s := by
  have hT := R.type.1
  unfold contains
  try with_reducible refine wpAny_holding ?_
  refine wpAny_bind (wpAny_specialOf hT F.slot_set_contains.lookup ?_)
  show wpAny _ _ (if (some (Value.builtin "set.__contains__") == some Value.none) = true then _ else _) _ E s
  rw [if_neg (by rw [beq_builtin_none]; exact Bool.false_ne_true)]
  refine wpAny_bind (wpAny_callSpecialUnlessNone?_slot (name := Str.ofString "__contains__") hT F.slot_set_contains
    (wpAny_call_entry F.slot_set_contains hT entry_set_contains ?_ (F.args_set_contains_2 _ _)))
  unfold Builtin.«frozenset.__contains__» Builtin.Frozenset.oneOther
  simp only [List.isEmpty_nil, bind_assoc]
  unfold Builtin.Frozenset.addrOf Builtin.Frozenset.withSetAsKey setContains
  refine wpAny_bind (wpAny_pure ?_)
  try dsimp only
  refine wpAny_bind (wpAny_pure ?_)
  try dsimp only
  refine wpAny_bind (wpAny_tryCatch ?_)
  refine wpAny_holding ?_
  refine wpAny_bind (wpAny_pyHash_tuple (knd := intKind X.prog X.w) ?_ hk ?_)
  · exact Nat.lt_of_le_of_lt (Nat.add_le_add_left (by decide) _) hu
  · obtain ⟨es, ep, t, R1⟩ := Set0.at R hL
    refine wpAny_bind (find (s := { s with toks := s.toks + (k.length + 1) }) R1 hk ?_ fun r hr => ?_)
    · exact Nat.lt_of_le_of_lt (Nat.add_le_add_left (by decide) _) hu
    · refine wpAny_pure ?_
      show wpAny _ _ (ret (Value.bool r.isSome)) _ _ _
      rw [hr]
      exact wpAny_pure ⟨_, rfl, wpAny_truthy_bool (h _)⟩
theorem or_in (hu : X.A.units + 64 < cLine) : OpR X (compareOp .In) (rIn X.K X.prog X.w false) := by
  intro pins s σ H x y v u Q I rx ry h
  obtain ⟨b, k, a, L, rfl, rfl, hb, ha, hL, q⟩ := h
  cases rx; cases ry
  show wpAny _ _ (do return Value.bool (← contains (.ref a) (.ref b))) _ _ s
  refine wpAny_bind (contains_at (X := X) hu (I.hok a _ ha).1 (isTs I hL) (Inv.isT I hb) fun t' => wpAny_pure ?_)
  rw [Bool.false_xor] at q
  exact ⟨.bl (decide (k ∈ L.map fun p : Addr × List Int => p.2)), H, I.tok _, rfl, q⟩
theorem or_notin (hu : X.A.units + 64 < cLine) : OpR X (compareOp .NotIn) (rIn X.K X.prog X.w true) := by
  intro pins s σ H x y v u Q I rx ry h
  obtain ⟨b, k, a, L, rfl, rfl, hb, ha, hL, q⟩ := h
  cases rx; cases ry
  show wpAny _ _ (do return Value.bool (!(← contains (.ref a) (.ref b)))) _ _ s
  refine wpAny_bind (contains_at (X := X) hu (I.hok a _ ha).1 (isTs I hL) (Inv.isT I hb) fun t' => wpAny_pure ?_)
  rw [Bool.true_xor] at q
  exact ⟨.bl (!decide (k ∈ L.map fun p : Addr × List Int => p.2)), H, I.tok _, rfl, q⟩
/-- s.add((i, j)) -/
def rAdd (K : PySem.W.Frag) (P : Program) (w : World) : V → List V → Hp → VK → Prop := fun x xs H Q => ∃ (a b : Addr) (k : List Int) (L : List (Addr × List Int)), x = V.ref a ∧ xs = [V.ref b] ∧ H a = some (SO P w a L) ∧ SqT K H b (k.map V.int) ∧ Tups K H L ∧ L.length + 1 < 1200 ∧
  ∀ L', (k ∈ L.map (·.2) → L' = L) → (k ∉ L.map (·.2) → L'.Perm ((b, k) :: L)) → Q .non (upd H a (SO P w a L'))
theorem mt_add (hu : X.A.units + 64 < cLine) : MtR X "set.add" (rAdd X.K X.prog X.w) := by
  intro pins s σ H x xs v us Q I rx rxs h
  obtain ⟨a, b, k, L, rfl, rfl, ha, hb, hL, room, q⟩ := h
  cases rx
  cases rxs with
  | cons ry rt =>
    cases rt; cases ry
    have R0 : Set0 X.prog X.w s.heap a L := (I.hok a _ ha).1
    have hT := R0.type.1
    obtain ⟨es, ep, t, R⟩ := R0.at (isTs I hL)
    have hk := Inv.isT I hb
    refine wpAny_call_entry F.slot_set_add hT F.entry_set_add ?_ (F.args_set_add_2 _ _)
    unfold Builtin.«set.add» Builtin.Frozenset.oneOther
    simp only [List.isEmpty_nil, bind_assoc]
    unfold Builtin.Frozenset.addrOf setAdd
    refine wpAny_bind (wpAny_pure ?_)
    try dsimp only
    refine wpAny_bind (wpAny_pure ?_)
    try dsimp only
    refine wpAny_bind ?_
    refine wpAny_holding ?_
    refine wpAny_bind (wpAny_pyHash_tuple (knd := intKind X.prog X.w) (Nat.lt_of_le_of_lt (Nat.add_le_add_left (by decide) _) hu) hk ?_)
    refine add (s := { s with toks := s.toks + (k.length + 1) }) R hk (Nat.lt_of_le_of_lt (Nat.add_le_add_left (by decide) _) hu) room fun bb h' L' es' ep' t' sb R' c1 c2 => ?_
    show wpAny _ _ (ret Value.none) _ _ _
    have he : ∃ u, h'.get? a = some u := by
      obtain ⟨o, ho, _⟩ := R'.ob
      exact ⟨o, ho⟩
    exact wpAny_pure ⟨_, rfl, .non, upd H a (SO X.prog X.w a L'), I.write (e := a) (t' := s.toks + (k.length + 1)) (by rw [ha]; trivial) (.inl rfl) (fun b u hb hu => (sb.2 b hb).trans hu) he (so_ok R'.set0), rfl, q L' c1 c2⟩
def tAdd (K : PySem.W.Frag) (P : Program) (w : World) (to : TE) (t : TA) : TE := fun σ H Q => to σ H fun x H1 => (∃ a L, x = V.ref a ∧ H1 a = some (SO P w a L)) ∧ t σ H1 fun xs H2 => rAdd K P w x xs H2 Q
variable {o e : Expr} {es : List Expr} {to : TE} {t : TA} {apos cpos : Pos}
theorem pe_add (hu : X.A.units + 64 < cLine) (ho : PE X o to) (ha : PA X (e :: es) t)
    (hbase : attributeBase o "add" X.env (eval o X.env) = eval o X.env := by rfl)
    (hfew : ((backTo cpos (starEach (e :: es) X.env)).all (fun x => !x.1) && (backToKw cpos (keywordEach [] X.env)).all (fun x => x.1.isSome)
      && decide ((e :: es).length + ([] : List Keyword).length + (if ([] : List Keyword).isEmpty then 0 else 1) < 30)) = true := by rfl)
    (hline : (apos.endLine == cpos.line) = true := by rfl) (hs : starEach (e :: es) X.env = (false, eval e X.env) :: starEach es X.env := by rfl) (hplain : (backTo cpos (starEach es X.env)).any (·.1) = false := by rfl) :
    PE X (.Call (.Attribute o "add" apos) (e :: es) [] cpos) (tAdd X.K X.prog X.w to t) := by
  refine ⟨fun pins s σ H Q I h => ?_⟩
  refine wpAny_Call_method_late hbase hfew hline rfl (thn (ho.run pins s σ H _ I h) fun v s1 ⟨x, H1, I1, r1, ty, q1⟩ => ?_)
  obtain ⟨a, L, rfl, hka⟩ := ty
  have R : Set0 X.prog X.w s1.heap a L := (I1.hok a _ hka).1
  cases r1
  refine ⟨"set", "set.add", F.plainAttrs_set, F.slot_set_add, F.type_set_add, R.type.1, R.type.2, ?_⟩
  have hA := ha.run cpos pins s1 σ H1 _ I1 q1
  rw [hs] at hA ⊢
  refine Calls.callWith_builtin (by show (false || (backTo cpos (starEach es X.env)).any (·.1)) = false; rw [hplain]; rfl) (Calls.evalArgs_plain ?_)
  exact thn hA fun us s2 ⟨vs, H2, I2, r2, q2⟩ => mt_add hu pins s2 σ H2 (.ref a) vs (.ref a) us Q I2 rfl r2 q2
/-- sorted(s), its members pairs -/
def ltK (q r : Addr × List Int) : Bool := SrtO.lexB (q.2.headD 0, q.2.getD 1 0) (r.2.headD 0, r.2.getD 1 0)
def rSorted (K : PySem.W.Frag) (P : Program) (w : World) : List V → Hp → VK → Prop := fun vs H Q => ∃ (a : Addr) (L : List (Addr × List Int)), vs = [V.ref a] ∧ H a = some (SO P w a L) ∧ Tups K H L ∧ (∀ p ∈ L, ∃ i j, p.2 = [i, j]) ∧
  ∀ (L' : List (Addr × List Int)) (p : Addr), L'.Perm L → (L'.map (·.2)).Nodup → L'.Pairwise (fun q r => ltK r q = false) → H p = none → Q (.ref p) (upd H p (.lst (L'.map fun q => V.ref q.1)))
theorem cr_sorted (hc : X.calm = true) : CallR X (.builtin "sorted") (rSorted X.K X.prog X.w) := by
  intro pins s σ H vs us Q I r h
  obtain ⟨a, L, rfl, ha, hL, h2, q⟩ := h
  obtain ⟨es, ep, t, R⟩ := Set0.at (I.hok a _ ha).1 (isTs I hL)
  rw [Vals.ref1 r]
  refine sorted_pairs R (I.ok.hd hc) h2 fun s' p out c L' k g o hp hg hout pm pw => ?_
  have hlen : (L'.map fun q => V.ref q.1).length ≤ sizeLine := by
    have := R.fw
    rw [List.length_map, sizeLine_eq, pm.length_eq]; omega
  have hn : H p = none := I.hok.fresh hp
  have hv : Vals (L'.map fun q => V.ref q.1) out.toList := by rw [hout]; exact vals_of_refs L'
  have J : Inv X pins σ (upd H p (.lst (L'.map fun q => V.ref q.1))) { s with heap := s'.heap, gens := s'.gens, drawn := s'.drawn, toks := s'.toks } :=
    I.call (ch := []) (Un.laid k hp hn) (I.hok.laid k hp ⟨hlen, out.toList, c, hv, hg⟩) (by rw [g]; exact I.bare) (fun _ z => nomatch z)
  have e : s' = { s with heap := s'.heap, gens := s'.gens, drawn := s'.drawn, toks := s'.toks } := by
    cases s'; cases s; cases o; rfl
  rw [e]
  exact ⟨.ref p, _, J, rfl, q L' p pm ((pm.map (·.2)).nodup_iff.mpr R.nd) pw hn⟩
end
end Bs

/-! Short words over the layer: defs by name, calls by name, errors asked in a callee. -/
namespace Fd
open PySem PySem.Spec PyProof.Rows L2

/-- a def of the top -/
def Def (K : PySem.W.Frag) (mg : Str → Option Value) (x : Str) (st : Stmt) (ps : List Str) : Prop := ∃ f fd, mg x = some (.ref f) ∧ Fun K x x st f fd ∧ Binds K fd ps []
/-- it keeps its promise -/
def Has (P : Program) (w : World) (K : PySem.W.Frag) (mg : Str → Option Value) (base : Heap) (CX : CXT) (k : Nat) (x : Str) (ps : List Str) (sp : Sp) : Prop :=
  ∃ f fd, mg x = some (.ref f) ∧ PySem.W.keepIn K (.ref f) = true ∧ Binds K fd ps [] ∧ FnOk P w K mg base CX k f fd ps sp
/-- a method of the class at C -/
def MDef (K : PySem.W.Frag) (C : Addr) (m qual : Str) (st : Stmt) (ps : List Str) : Prop := ∃ f fd, Meth K C m f ∧ Fun K m qual st f fd ∧ Binds K fd ps []
def MHas (P : Program) (w : World) (K : PySem.W.Frag) (mg : Str → Option Value) (base : Heap) (CX : CXT) (k : Nat) (C : Addr) (m : Str) (ps : List Str) (sp : Sp) : Prop :=
  ∃ f fd, Meth K C m f ∧ Binds K fd ps [] ∧ FnOk P w K mg base CX k f fd ps sp
/-- a class made by its __init__ -/
def IDef (K : PySem.W.Frag) (C : Addr) (qual : Str) (st : Stmt) (ps : List Str) : Prop := ∃ f fd, Mk K C f ∧ Fun K "__init__" qual st f fd ∧ Binds K fd ps []
def IHas (P : Program) (w : World) (K : PySem.W.Frag) (mg : Str → Option Value) (base : Heap) (CX : CXT) (k : Nat) (C : Addr) (ps : List Str) (sp : Sp) : Prop :=
  ∃ f fd, Mk K C f ∧ Binds K fd ps [] ∧ FnOk P w K mg base CX k f fd ps sp
/-- a def for calls within an except suite -/
def HHas (P : Program) (w : World) (K : PySem.W.Frag) (mg : Str → Option Value) (base : Heap) (CX : CXT) (k : Nat) (x : Str) (ps : List Str) (sp : Sp) : Prop :=
  ∃ f fd, mg x = some (.ref f) ∧ PySem.W.keepIn K (.ref f) = true ∧ Binds K fd ps [] ∧ L2H.FnH P w K mg base CX k f fd ps sp
section
variable {P : Program} {w : World} {K : PySem.W.Frag} {mg : Str → Option Value} {base : Heap} {CX : CXT} {j k : Nat} {x m qual : Str} {st : Stmt} {ps N : List Str} {sp : Sp} {C : Addr}
theorem Has.mono (h : Has P w K mg base CX j x ps sp) (q : j ≤ k) : Has P w K mg base CX k x ps sp := by
  obtain ⟨f, fd, a, b, c, d⟩ := h
  exact ⟨f, fd, a, b, c, d.mono q⟩
/-- a def that lets nothing out -/
theorem Def.ok (D : Def K mg x st ps) (S : FnScope N ps (defScope st)) (len : ∀ vs H Q E, sp vs H Q E → vs.length = ps.length)
    (body : ∀ (f : Addr) (cdv : Value) (A : Around) (outer : List Env) (s : Shared) (H : Hp) (vs : List V) (Q : VK) (E : XK), Room k (A.deeper (envOfC x (defScope st) s.heap.objs.size f cdv)) → sp vs H Q E →
      ∃ t, PSs (cxOf CX0 P w K mg base N x (defScope st) f cdv A outer s H E).nox (defBody st) t ∧ t { nx := fun _ H' => Q .non H', rt := Q } (start N vs) H) : Has P w K mg base CX0 (k + 1) x ps sp := by
  obtain ⟨f, fd, a, F, b⟩ := D
  exact ⟨f, fd, a, F.kp, b, F.ok S len (body f)⟩
/-- a def that may raise -/
theorem Def.okN (D : Def K mg x st ps) (S : FnScope N ps (defScope st)) (len : ∀ vs H Q E, sp vs H Q E → vs.length = ps.length)
    (body : ∀ (f : Addr) (cdv : Value) (A : Around) (outer : List Env) (s : Shared) (H : Hp) (vs : List V) (Q : VK) (E : XK), Room k (A.deeper (envOfC x (defScope st) s.heap.objs.size f cdv)) → sp vs H Q E →
      ∃ t, PSs (cxOf (L2N.CX P w) P w K mg base N x (defScope st) f cdv A outer s H E) (defBody st) t ∧ t { nx := fun _ H' => Q .non H', rt := Q } (start N vs) H) : Has P w K mg base (L2N.CX P w) (k + 1) x ps sp := by
  obtain ⟨f, fd, a, F, b⟩ := D
  refine ⟨f, fd, a, F.kp, b, ?_⟩
  obtain ⟨oc, od, kV, doc, pm, an, cdv, ct, osl, rfl, lk, hcd⟩ := F.ex
  exact fn_of lk hcd S len fun A outer s H vs Q E hr hsp => body f cdv A outer s H vs Q E hr hsp
theorem Def.okH (D : Def K mg x st ps) (S : FnScope N ps (defScope st)) (len : ∀ vs H Q E, sp vs H Q E → vs.length = ps.length)
    (body : ∀ (f : Addr) (cdv : Value) (A : Around) (outer : List Env) (s : Shared) (H : Hp) (vs : List V) (Q : VK) (E : XK) (p : Addr × Obj), L2H.Hot1 A p → L2H.RoomH k (A.deeper (envOfC x (defScope st) s.heap.objs.size f cdv)) → sp vs H Q E →
      ∃ t, PSs (L2H.cxH CX P w K mg base N x (defScope st) f cdv A outer s H E p) (defBody st) t ∧ t { nx := fun _ H' => Q .non H', rt := Q } (start N vs) H) : HHas P w K mg base CX (k + 1) x ps sp := by
  obtain ⟨f, fd, a, F, b⟩ := D
  refine ⟨f, fd, a, F.kp, b, ?_⟩
  obtain ⟨oc, od, kV, doc, pm, an, cdv, ct, osl, rfl, lk, hcd⟩ := F.ex
  exact L2H.fn_ofH lk hcd S len fun A outer s H vs Q E p hot hr hsp => body f cdv A outer s H vs Q E p hot hr hsp
theorem MDef.ok (D : MDef K C m qual st ps) (S : FnScope N ps (defScope st)) (len : ∀ vs H Q E, sp vs H Q E → vs.length = ps.length)
    (body : ∀ (f : Addr) (cdv : Value) (A : Around) (outer : List Env) (s : Shared) (H : Hp) (vs : List V) (Q : VK) (E : XK), Room k (A.deeper (envOfC qual (defScope st) s.heap.objs.size f cdv)) → sp vs H Q E →
      ∃ t, PSs (cxOf CX0 P w K mg base N qual (defScope st) f cdv A outer s H E).nox (defBody st) t ∧ t { nx := fun _ H' => Q .non H', rt := Q } (start N vs) H) : MHas P w K mg base CX0 (k + 1) C m ps sp := by
  obtain ⟨f, fd, M, F, b⟩ := D
  exact ⟨f, fd, M, b, F.ok S len (body f)⟩
theorem MDef.okN (D : MDef K C m qual st ps) (S : FnScope N ps (defScope st)) (len : ∀ vs H Q E, sp vs H Q E → vs.length = ps.length)
    (body : ∀ (f : Addr) (cdv : Value) (A : Around) (outer : List Env) (s : Shared) (H : Hp) (vs : List V) (Q : VK) (E : XK), Room k (A.deeper (envOfC qual (defScope st) s.heap.objs.size f cdv)) → sp vs H Q E →
      ∃ t, PSs (cxOf (L2N.CX P w) P w K mg base N qual (defScope st) f cdv A outer s H E) (defBody st) t ∧ t { nx := fun _ H' => Q .non H', rt := Q } (start N vs) H) : MHas P w K mg base (L2N.CX P w) (k + 1) C m ps sp := by
  obtain ⟨f, fd, M, F, b⟩ := D
  refine ⟨f, fd, M, b, ?_⟩
  obtain ⟨oc, od, kV, doc, pm, an, cdv, ct, osl, rfl, lk, hcd⟩ := F.ex
  exact fn_of lk hcd S len fun A outer s H vs Q E hr hsp => body f cdv A outer s H vs Q E hr hsp
theorem IDef.okN (D : IDef K C qual st ps) (S : FnScope N ps (defScope st)) (len : ∀ vs H Q E, sp vs H Q E → vs.length = ps.length)
    (body : ∀ (f : Addr) (cdv : Value) (A : Around) (outer : List Env) (s : Shared) (H : Hp) (vs : List V) (Q : VK) (E : XK), Room k (A.deeper (envOfC qual (defScope st) s.heap.objs.size f cdv)) → sp vs H Q E →
      ∃ t, PSs (cxOf (L2N.CX P w) P w K mg base N qual (defScope st) f cdv A outer s H E) (defBody st) t ∧ t { nx := fun _ H' => Q .non H', rt := Q } (start N vs) H) : IHas P w K mg base (L2N.CX P w) (k + 1) C ps sp := by
  obtain ⟨f, fd, M, F, b⟩ := D
  refine ⟨f, fd, M, b, ?_⟩
  obtain ⟨oc, od, kV, doc, pm, an, cdv, ct, osl, rfl, lk, hcd⟩ := F.ex
  exact fn_of lk hcd S len fun A outer s H vs Q E hr hsp => body f cdv A outer s H vs Q E hr hsp
end

/-! ### calls -/
section
variable {X : Cx} {CX : CXT} {k : Nat} {C : Addr} {ps : List Str} {sp : Sp} {E : XK} {ES : L2.St → XK} {x m : Str} {p q pos apos : Pos} {e o : Expr} {es : List Expr} {ta : TE} {t : TA}
/-- f(e, ..) of a def that lets nothing out, from anywhere calm -/
theorem pe_f (G : Has X.prog X.w X.K X.mg X.base CX0 k x ps sp) (hr : Room k X.A) (hg : Gl X x) (ha : PA X (e :: es) t) (hdb : (x == ("__debug__" : Str)) = false := by decide)
    (he : starEach (e :: es) X.env = (false, eval e X.env) :: starEach es X.env := by rfl) (hpl : (backTo pos (starEach es X.env)).any (·.1) = false := by rfl) : PE X (.Call (.Name x q) (e :: es) [] pos) (tCall sp [] E0 t) := by
  obtain ⟨f, fd, hm, hk, hb, F⟩ := G
  exact pe_call F hr hg hm hk hb .nil pass0 ha hdb he hpl
/-- f(e, ..) of a def that may raise, from one that lets it out -/
theorem pe_fN (G : Has X.prog X.w X.K X.mg X.base (L2N.CX X.prog X.w) k x ps sp) (hr : Room k X.A) (hg : Gl X x) (hx : Passes (L2N.CX X.prog X.w) X E) (ha : PA X (e :: es) t) (hdb : (x == ("__debug__" : Str)) = false := by decide)
    (he : starEach (e :: es) X.env = (false, eval e X.env) :: starEach es X.env := by rfl) (hpl : (backTo pos (starEach es X.env)).any (·.1) = false := by rfl) : PE X (.Call (.Name x q) (e :: es) [] pos) (tCall sp [] E t) := by
  obtain ⟨f, fd, hm, hk, hb, F⟩ := G
  exact pe_call F hr hg hm hk hb .nil hx ha hdb he hpl
/-- .. within a try -/
theorem pe_fS {W : WX} (G : Has X.prog X.w X.K X.mg X.base (L2N.CX X.prog X.w) k x ps sp) (hr : Room k X.A) (hg : Gl X x) (tk : L2N.Takes X W) (ha : PA X (e :: es) t) (hdb : (x == ("__debug__" : Str)) = false := by decide)
    (he : starEach (e :: es) X.env = (false, eval e X.env) :: starEach es X.env := by rfl) (hpl : (backTo pos (starEach es X.env)).any (·.1) = false := by rfl) : PE X (.Call (.Name x q) (e :: es) [] pos) (tCallS sp (WE W) t) := by
  obtain ⟨f, fd, hm, hk, hb, F⟩ := G
  exact pe_callS F hr hg hm hk hb (fun σ => L2N.passAt tk σ) ha hdb he hpl
/-- nothing leaves a call that raises nothing -/
theorem pass00 {X : Cx} : Passes (L2N.CX X.prog X.w) X E0 := fun _ _ _ _ _ _ _ h => by
  obtain ⟨_, _, _, _, _, _, _, _, _, _, _, _, z⟩ := h
  exact z.elim
theorem takesF {X : Cx} : L2N.Takes X (fun _ _ _ _ => False) := fun _ _ x => by
  obtain ⟨_, _, _, _, _, _, _, _, _, _, _, _, _, _, _, _, z⟩ := x
  exact z.elim
/-- within an except suite -/
theorem pe_fH (G : HHas X.prog X.w X.K X.mg X.base CX0 k x ps sp) (hr : L2H.RoomH k X.A) (hc : L2H.HotC X) (hg : Gl X x) (ha : PA X (e :: es) t) (hdb : (x == ("__debug__" : Str)) = false := by decide)
    (he : starEach (e :: es) X.env = (false, eval e X.env) :: starEach es X.env := by rfl) (hpl : (backTo pos (starEach es X.env)).any (·.1) = false := by rfl) : PE X (.Call (.Name x q) (e :: es) [] pos) (tCallS sp (fun _ => E0) t) := by
  obtain ⟨f, fd, hm, hk, hb, F⟩ := G
  exact L2H.pe_callH F hr hc hg hm hk hb (fun σ _ _ _ _ _ _ h => h.elim) ha hdb he hpl
/-- o.m(e, ..) -/
theorem pe_m {pl : Sem Bool} (G : MHas X.prog X.w X.K X.mg X.base CX0 k C m ps sp) (he : PE X o ta) (c : Cls X.K C) (hr : Room k X.A) (ha : PA X (e :: es) t)
    (hst : starEach (e :: es) X.env = (false, eval e X.env) :: starEach es X.env := by rfl) (hpl : (backTo pos (starEach es X.env)).any (·.1) = false := by rfl)
    (ht : eval (.Call (.Attribute o m apos) (e :: es) [] pos) X.env = (do
      let ov ← eval o X.env
      standAt apos.atName
      let (f, first) ← holding [ov] (getMethod ov m pl)
      callWith pos f first (backTo pos (starEach (e :: es) X.env)) (backToKw pos (keywordEach [] X.env))) := by rfl) : PE X (.Call (.Attribute o m apos) (e :: es) [] pos) (tMeth C m sp [] E0 ta t) := by
  obtain ⟨f, fd, hm, hb, F⟩ := G
  exact pe_meth he c hm F hr hb .nil pass0 ha hst hpl ht
theorem pe_mN {pl : Sem Bool} (G : MHas X.prog X.w X.K X.mg X.base (L2N.CX X.prog X.w) k C m ps sp) (he : PE X o ta) (c : Cls X.K C) (hr : Room k X.A) (hx : Passes (L2N.CX X.prog X.w) X E) (ha : PA X (e :: es) t)
    (hst : starEach (e :: es) X.env = (false, eval e X.env) :: starEach es X.env := by rfl) (hpl : (backTo pos (starEach es X.env)).any (·.1) = false := by rfl)
    (ht : eval (.Call (.Attribute o m apos) (e :: es) [] pos) X.env = (do
      let ov ← eval o X.env
      standAt apos.atName
      let (f, first) ← holding [ov] (getMethod ov m pl)
      callWith pos f first (backTo pos (starEach (e :: es) X.env)) (backToKw pos (keywordEach [] X.env))) := by rfl) : PE X (.Call (.Attribute o m apos) (e :: es) [] pos) (tMeth C m sp [] E ta t) := by
  obtain ⟨f, fd, hm, hb, F⟩ := G
  exact pe_meth he c hm F hr hb .nil hx ha hst hpl ht
theorem pe_m0 {pl : Sem Bool} (G : MHas X.prog X.w X.K X.mg X.base CX0 k C m ps sp) (he : PE X o ta) (c : Cls X.K C) (hr : Room k X.A)
    (ht : eval (.Call (.Attribute o m apos) [] [] pos) X.env = (do
      let ov ← eval o X.env
      standAt apos.atName
      let (f, first) ← holding [ov] (getMethod ov m pl)
      callWith pos f first (backTo pos (starEach [] X.env)) (backToKw pos (keywordEach [] X.env))) := by rfl) : PE X (.Call (.Attribute o m apos) [] [] pos) (tMeth C m sp [] E0 ta tNil) := by
  obtain ⟨f, fd, hm, hb, F⟩ := G
  exact pe_meth0 he c hm F hr hb .nil pass0 ht
/-- .. of a method that may raise, within a try -/
def tMethS (C : Addr) (m : Str) (sp : Sp) (E : L2.St → XK) (ta : TE) (t : TA) : TE := fun σ H Q => ta σ H fun x H1 => ∃ a dx fs, x = .ref a ∧ H1 a = some (.ins C dx fs) ∧ fs.lookup m = none ∧ t σ H1 fun vs H2 => sp (x :: vs) H2 Q (E σ)
theorem pe_mS {W : WX} {pl : Sem Bool} (G : MHas X.prog X.w X.K X.mg X.base (L2N.CX X.prog X.w) k C m ps sp) (he : PE X o ta) (c : Cls X.K C) (hr : Room k X.A) (tk : L2N.Takes X W) (ha : PA X (e :: es) t)
    (hst : starEach (e :: es) X.env = (false, eval e X.env) :: starEach es X.env := by rfl) (hpl : (backTo pos (starEach es X.env)).any (·.1) = false := by rfl)
    (ht : eval (.Call (.Attribute o m apos) (e :: es) [] pos) X.env = (do
      let ov ← eval o X.env
      standAt apos.atName
      let (f, first) ← holding [ov] (getMethod ov m pl)
      callWith pos f first (backTo pos (starEach (e :: es) X.env)) (backToKw pos (keywordEach [] X.env))) := by rfl) : PE X (.Call (.Attribute o m apos) (e :: es) [] pos) (tMethS C m sp (WE W) ta t) := by
  obtain ⟨f, fd, hm, hb, F⟩ := G
  refine ⟨fun pins s σ H Q I h => ?_⟩
  refine PySem.W.methodCall_KW (pl := pl) (thn (he.run pins s σ H _ I h) fun u s1 ⟨x, H1, I1, rx, a, dx, fs, ex, ea, l, q⟩ => ?_) ht
  subst ex
  obtain rfl : u = Value.ref a := rx
  refine getmeth_ok I1 ea c hm l ?_
  refine PySem.W.callWith_K (first := [.ref a]) (h₀ := X.base) I.ok.mod.kin hm.kp (thn (ha.run pos pins s1 σ H1 _ I1 q) fun us s2 ⟨vs, H2, I2, r, q2⟩ => ⟨I2.kIn, ?_⟩) hst hpl
  exact run_fnS (us := .ref a :: us) (vs := .ref a :: vs) F hr hb (L2N.passAt tk σ) I2 (.cons rfl r) q2
/-- C(e, ..) -/
theorem pe_mk (G : IHas X.prog X.w X.K X.mg X.base (L2N.CX X.prog X.w) k C ps sp) (hr : Room (k + 1) X.A) (hg : Gl X x) (hm : X.mg x = some (.ref C)) (hx : Passes (L2N.CX X.prog X.w) X E) (ha : PA X (e :: es) t) (hdb : (x == ("__debug__" : Str)) = false := by decide)
    (he : starEach (e :: es) X.env = (false, eval e X.env) :: starEach es X.env := by rfl) (hpl : (backTo pos (starEach es X.env)).any (·.1) = false := by rfl) : PE X (.Call (.Name x q) (e :: es) [] pos) (tMake C sp [] E t) := by
  obtain ⟨f, fd, M, hb, F⟩ := G
  exact pe_make M F hr hg hm hb .nil hx ha hdb he hpl
def tMakeS (C : Addr) (sp : Sp) (E : L2.St → XK) (t : TA) : TE := fun σ H Q => t σ H fun vs H1 => ∀ x dx, H1 x = none → H1 dx = none → dx ≠ x →
  sp (.ref x :: vs) (upd (upd H1 dx (.own x)) x (.ins C dx [])) (fun v H2 => v = .non ∧ Q (.ref x) H2) (E σ)
/-- within a try: what is raised is wished for at the slots -/
theorem pe_mkS {W : WX} (G : IHas X.prog X.w X.K X.mg X.base (L2N.CX X.prog X.w) k C ps sp) (hr : Room (k + 1) X.A) (hg : Gl X x) (hm : X.mg x = some (.ref C)) (tk : L2N.Takes X W) (ha : PA X (e :: es) t) (hdb : (x == ("__debug__" : Str)) = false := by decide)
    (he : starEach (e :: es) X.env = (false, eval e X.env) :: starEach es X.env := by rfl) (hpl : (backTo pos (starEach es X.env)).any (·.1) = false := by rfl) : PE X (.Call (.Name x q) (e :: es) [] pos) (tMakeS C sp (WE W) t) := by
  obtain ⟨f, fd, M, hb, F⟩ := G
  refine ⟨fun pins s σ H Q I h => ?_⟩
  refine wpAny_Call_Name_kw (ld_glob I hg hm ?_ hdb)
  refine PySem.W.callWith_K (h₀ := X.base) I.ok.mod.kin M.kp (thn (ha.run pos pins s σ H _ I h) fun us s1 ⟨vs, H1, I1, r, q⟩ => ⟨I1.kIn, ?_⟩) he hpl
  have hq := q (s1.heap.objs.size + 1) s1.heap.objs.size (I1.hok.fresh (Nat.le_succ _)) (I1.hok.fresh (Nat.le_refl _)) (Nat.ne_of_lt (Nat.lt_succ_self _))
  have I2 := Inv.made (C := C) I1
  have r2 : Vals (V.ref (s1.heap.objs.size + 1) :: vs) (Value.ref (s1.heap.objs.size + 1) :: us) := .cons rfl r
  have hl : (Value.ref (s1.heap.objs.size + 1) :: us ++ []).length = ps.length := by
    have e := r2.length
    rw [F.len _ _ _ _ hq] at e
    rw [List.append_nil]
    exact e.symm
  have hbb := hb _ (Value.ref (s1.heap.objs.size + 1) :: us) I2.kIn hl
  rw [List.append_nil] at hbb
  refine wpAny_call (make_map (f := f) I1.kIn M.makes M.init (beq_iff_eq.mp M.fn) (codeAny_mono (F.run _ X.stack _ _ ⟨Value.ref (s1.heap.objs.size + 1) :: us, []⟩ (Value.ref (s1.heap.objs.size + 1) :: us) _ _ (WE W σ) (hr.make C us [])
    (I2.env0.make C us []) hbb r2 hq) fun r s' hq' => ?_))
  cases r with
  | error e => exact L2N.passAt tk σ pins _ _ e s' I2 hq'
  | ok fl =>
    cases fl with
    | ret u =>
      obtain ⟨v, H', I3, rv, ev, q3⟩ := I2.after hq'
      subst ev
      exact ⟨rv, ⟨V.ref (s1.heap.objs.size + 1), H', I3, rfl, q3⟩⟩
    | next => exact False.elim hq'
    | brk => exact False.elim hq'
    | cont => exact False.elim hq'
end

/-! ### isinstance of the error that is handled, in a callee -/
/-- the pinned object is an error of the class at D -/
def rIsP (K : PySem.W.Frag) (D a : Addr) : List V → Hp → VK → Prop := fun xs H Q => ∃ (c : V) (cv : Value) (b : Bool), xs = [.ref a, c] ∧ (∀ u, RelV c u → u = cv) ∧ PySem.W.kitOne K (.ref D) cv = some b ∧ Q (.bl b) H
theorem call_isP {X : Cx} {p : Addr × Obj} {D : Addr} (hp : p ∈ X.pn) (C : ExcC X.K D) (hz : p.2.cls = .ref D) (hd : p.2.dict = none) (hf : ∃ vs, p.2.data = .fields vs) : CallR X (.builtin "isinstance") (rIsP X.K D p.1) := by
  intro pins s σ H xs us Q I r h
  obtain ⟨c, cv, b, rfl, hcv, e, q⟩ := h
  cases r with
  | cons rx rr =>
    cases rr with
    | cons rt rr =>
      cases rr
      cases rx
      have ec := hcv _ rt
      subst ec
      obtain ⟨hget, _⟩ := I.pin p (List.mem_append_left _ hp)
      obtain ⟨vs, hv⟩ := hf
      have J : PySem.W.InstAt s.heap p.1 p.2 D none := by
        obtain ⟨pa, oc, od, oda, osl⟩ := p
        dsimp only at hz hd hv
        subst hz hd hv
        exact ⟨hget, rfl, rfl, trivial⟩
      exact PySem.W.kia_one (PySem.W.handS_kitx_exc C.hg C.hk C.hs C.hd C.ha C.hn C.ht C.hm) I.kIn J e (fun z => nomatch z) fun tk => ⟨.bl b, H, I.kept (t' := tk) fun _ _ z => z, rfl, q⟩
end Fd

/-! Defs that are called within an except suite and are handed the very error that is handled: the promise is given for that error, told by its pin p. -/
namespace Fh
open PySem PySem.Spec PyProof.Rows L2 L2H
abbrev St := L2.St
structure FnP (P : Program) (w : World) (K : PySem.W.Frag) (mg : Str → Option Value) (base : Heap) (k : Nat) (f : Addr) (fd : FuncData) (ps : List Str) (sp : Sp) (p : Addr × Obj) : Prop where
  len : ∀ vs H Q E, sp vs H Q E → vs.length = ps.length
  go : ∀ (A : Around) (outer : List Env) (s : Shared) (H : Hp) (args : Args) (us : List Value) (vs : List V) (Q : VK) (E : XK),
    RoomH k A → Hot1 A p → PinOk outer H s p → Env0 P w K mg base A outer s H → BindsTo s fd args (ps.zip us) → Vals vs us → sp vs H Q E → codeAny (model P w) A (.call (.ref f) args) (CR CX0 outer P w H s Q E) s
section
variable {P : Program} {w : World} {K : PySem.W.Frag} {mg : Str → Option Value} {base : Heap} {k : Nat} {f : Addr} {x : Str} {st : Stmt} {fd : FuncData} {N ps : List Str} {sp : Sp} {p : Addr × Obj}
theorem made (F : Fun K x x st f fd) (S : FnScope N ps (defScope st)) (len : ∀ vs H Q E, sp vs H Q E → vs.length = ps.length)
    (body : ∀ (cdv : Value) (A : Around) (outer : List Env) (s : Shared) (H : Hp) (vs : List V) (Q : VK) (E : XK), Hot1 A p → RoomH k (A.deeper (envOfC x (defScope st) s.heap.objs.size f cdv)) → sp vs H Q E →
      ∃ t, PSs (cxH CX0 P w K mg base N x (defScope st) f cdv A outer s H E p) (defBody st) t ∧ t { nx := fun _ H' => Q .non H', rt := Q } (L2.start N vs) H) : FnP P w K mg base (k + 1) f fd ps sp p := by
  obtain ⟨oc, od, kV, doc, pm, an, cdv, ct, osl, rfl, lk, hcd⟩ := F.ex
  constructor
  · exact len
  · intro A outer s H args us vs Q E hr hot pin e0 hb r hsp
    have KX : K.In s.heap := e0.mod.kin.keeps fun b o e => (e0.bs b o e).1
    have cellsOk : ∀ y ∈ ps.zip us, (defScope st).names.lookup y.1 = some .local ∨ ((defScope st).names.lookup y.1 = some .cell ∧ ((cellsFrom (s.heap.objs.size + 1) (defScope st).names []).lookup y.1).isSome = true) := by
      rintro ⟨n, v⟩ hy
      exact (S.par n (List.of_mem_zip hy).1).imp id fun q => ⟨q, PySem.W.cellsFrom_some _ _ _ (.inl q)⟩
    refine codeAny_call_function hr.depth (KX _ _ lk) rfl S.co S.gen rfl (PySem.W.codeRec_of KX hcd) (hb _ _ _ _ (wpAny_newFunctionEnv_cells S.kind cellsOk fun env he s1 xc => ?_))
    subst he
    refine ⟨(e0.mod.nolimit.keeps fun b o e => (e0.bs b o e).1).keeps xc.toInCall.keep, codeAny_func ?_⟩
    obtain ⟨t, ht, hq⟩ := body cdv A outer s H vs Q E hot (hr.deeper _) hsp
    have I : Inv (cxH CX0 P w K mg base N x (defScope st) f cdv A outer s H E p) [] (L2.start N vs) H s1 := inv_startH S pin e0 (len _ _ _ _ hsp) r xc
    have out : ∀ {σ' : St} {H' : Hp} {v : V} {u : Value} {s' : Shared}, Inv (cxH CX0 P w K mg base N x (defScope st) f cdv A outer s H E p) [] σ' H' s' → RelV v u → Q v H' → CE outer P w H s Q u s' :=
      fun J rv q => ⟨_, _, J.os, J.bare, J.base, J.hok, rv, q⟩
    refine wpAny_mono (ht.run [] s1 _ H _ I hq) (fun fl s' hs => ?_) fun e s' hs => hs
    match fl, hs with
    | .ret u, ⟨v, σ', H', J, rv, q⟩ => exact out J rv q
    | .next, ⟨σ', H', J, q⟩ => exact out (v := V.non) (u := Value.none) J rfl q
    | .brk, ⟨_, _, _, q⟩ => exact q.elim
    | .cont, ⟨_, _, _, q⟩ => exact q.elim
end
def HasP (P : Program) (w : World) (K : PySem.W.Frag) (mg : Str → Option Value) (base : Heap) (k : Nat) (x : Str) (ps : List Str) (sp : Sp) (p : Addr × Obj) : Prop :=
  ∃ f fd, mg x = some (.ref f) ∧ PySem.W.keepIn K (.ref f) = true ∧ Binds K fd ps [] ∧ FnP P w K mg base k f fd ps sp p
theorem okP {P : Program} {w : World} {K : PySem.W.Frag} {mg : Str → Option Value} {base : Heap} {k : Nat} {x : Str} {st : Stmt} {N ps : List Str} {sp : Sp} {p : Addr × Obj} (D : Fd.Def K mg x st ps) (S : FnScope N ps (defScope st)) (len : ∀ vs H Q E, sp vs H Q E → vs.length = ps.length)
    (body : ∀ (f : Addr) (cdv : Value) (A : Around) (outer : List Env) (s : Shared) (H : Hp) (vs : List V) (Q : VK) (E : XK), Hot1 A p → RoomH k (A.deeper (envOfC x (defScope st) s.heap.objs.size f cdv)) → sp vs H Q E →
      ∃ t, PSs (cxH CX0 P w K mg base N x (defScope st) f cdv A outer s H E p) (defBody st) t ∧ t { nx := fun _ H' => Q .non H', rt := Q } (L2.start N vs) H) : HasP P w K mg base (k + 1) x ps sp p := by
  obtain ⟨f, fd, a, F, b⟩ := D
  exact ⟨f, fd, a, F.kp, b, made F S len (body f)⟩
section
variable {X : Cx} {k : Nat} {ps : List Str} {sp : Sp} {x : Str} {q pos : Pos} {e : Expr} {es : List Expr} {t : TA} {p : Addr × Obj}
theorem pe_p (G : HasP X.prog X.w X.K X.mg X.base k x ps sp p) (hr : RoomH k X.A) (hot : Hot1 X.A p) (hp : p ∈ X.pn) (hg : Gl X x) (ha : PA X (e :: es) t) (hdb : (x == ("__debug__" : Str)) = false := by decide)
    (he : starEach (e :: es) X.env = (false, eval e X.env) :: starEach es X.env := by rfl) (hpl : (backTo pos (starEach es X.env)).any (·.1) = false := by rfl) : PE X (.Call (.Name x q) (e :: es) [] pos) (tCall sp [] E0 t) := by
  obtain ⟨f, fd, hm, hk, hb, F⟩ := G
  refine ⟨fun pins s σ H Q I h => wpAny_Call_Name_kw (ld_glob I hg hm ?_ hdb)⟩
  refine PySem.W.callWith_K (h₀ := X.base) I.ok.mod.kin hk (thn (ha.run pos pins s σ H _ I h) fun us s1 ⟨vs, H1, J, r, h1⟩ => ⟨J.kIn, ?_⟩) he hpl
  replace h1 : sp (vs ++ []) H1 Q E0 := h1
  rw [List.append_nil] at h1
  have b := hb s1 us J.kIn (by rw [List.append_nil, ← r.length]; exact F.len _ _ _ _ h1)
  rw [List.append_nil] at b
  have P1 := J.pin p (List.mem_append_left _ hp)
  have pin : PinOk X.stack H1 s1 p := ⟨P1.1, P1.2.1, fun hm => (List.mem_cons.mp (J.stkSub p.1 hm)).elim P1.2.2.1 P1.2.2.2.1, P1.2.2.2.2⟩
  refine wpAny_call (codeAny_mono (F.go X.A X.stack s1 H1 ⟨us, []⟩ us vs Q E0 hr hot pin J.env0 b r h1) fun r s' hq => ?_)
  match r, hq with
  | .ok (.ret u), hq => exact J.after hq
  | .ok .next, hq => exact hq.elim
  | .ok .brk, hq => exact hq.elim
  | .ok .cont, hq => exact hq.elim
  | .error e, hq => exact hq.elim
end
theorem roomM {k : Nat} {A : Around} {v : Option Value} (r : Room k A) : RoomH k (A.mark v) := ⟨r.dp, r.un⟩
theorem hotM {A : Around} {a : Addr} {oe : Obj} {cls : Value} {d : Option Addr} (hz : L2N.Zn cls d oe) (hf : ∃ vs, oe.data = .fields vs) : Hot1 (A.mark (some (.ref a))) (a, oe) := by
  obtain ⟨vs, e⟩ := hf
  exact ⟨rfl, vs, e, hz.2.2 vs e⟩
end Fh

/-! A display of one whole number: a set of it. -/
namespace Sd
open PySem PySem.Spec PyProof.Rows L2
section
variable {P : Program} {w : World} {A : Around} {E : Value → Shared → Prop} {s : Shared}
theorem newSet_led {Q : Value → Shared → Prop}
    (h : Q (.ref s.heap.objs.size) { s with heap := s.heap.push { cls := .type "set", dict := none, data := .set #[] 0 (.fresh 0 0 (!w.params.followText "set-order")) } }) :
    wpAny (model P w) A (newSet (.type "set")) Q E s := by
  unfold newSet setsByText
  refine wpAny_bind (wpAny_bind (wpAny_askSetting (wpAny_pure ?_)))
  dsimp only
  simp only [newObj]
  exact wpAny_bind (wpAny_alloc (wpAny_pure h))
theorem display1 {b : Bool} {t : Sem Value} {Q : Value → Shared → Prop}
    (h : wpAny (model P w) A t (fun v s' => wpAny (model P w) A (setAdd s.heap.objs.size v) (fun _ s2 => Q (.ref s.heap.objs.size) s2) E s') E { s with heap := s.heap.push { cls := .type "set", dict := none, data := .set #[] 0 (.fresh 0 0 (!w.params.followText "set-order")) } }) :
    wpAny (model P w) A (setDisplay .oneByOne b [(false, t)]) Q E s := by
  unfold setDisplay
  try dsimp only
  rw [if_neg (by decide)]
  refine wpAny_bind (newSet_led ?_)
  dsimp only
  have e1 : (if ([(false, t)] : List (Bool × Sem Value)).length > 30 then 0 else (List.findIdx? (fun x => x.fst) [(false, t)]).getD ([(false, t)] : List (Bool × Sem Value)).length) = 1 := rfl
  rw [e1]
  refine wpAny_bind (wpAny_holding ?_)
  refine wpAny_bind (m := evalAll [t]) ?_
  refine wpAny_bind (wpAny_mono h (fun v s' h' => ?_) fun _ _ x => x)
  refine wpAny_bind (wpAny_holding (wpAny_pure ?_))
  refine wpAny_pure ?_
  refine wpAny_bind (wpAny_holding ?_)
  rw [List.forIn_cons]
  refine wpAny_bind (wpAny_bind (wpAny_bind (wpAny_mono h' (fun _ s2 h2 => ?_) fun _ _ x => x)))
  refine wpAny_pure ?_
  dsimp only
  rw [List.forIn_nil]
  refine wpAny_pure ?_
  rw [if_neg (by decide)]
  refine wpAny_pure ?_
  rw [show ([(false, t)] : List (Bool × Sem Value)).drop 1 = [] from rfl, List.forIn_nil]
  exact wpAny_pure (wpAny_pure h2)
theorem setAdd1 {a : Addr} {S : Int → Bool} {n : Nat} {k : Int} {tk : Tok} {Q : Bool → Shared → Prop} (R : SetR w s.heap a S n) (room : n + 1 < scanBound)
    (hQ : ∀ h', Heap.SameBut a s.heap h' → SetR w h' a (fun j => S j || decide (j = k)) (if S k = true then n else n + 1) → Q (!S k) { s with heap := h', toks := s.toks + 1 }) :
    wpAny (model P w) A (setAdd a (.int k tk)) Q E s := by
  unfold setAdd
  refine wpAny_holding ?_
  refine wpAny_bind ((intKind P w).pyHash (intKind_is P w k tk) ?_)
  exact setR_add_hashed (s := { s with toks := s.toks + 1 }) R room fun h' sb r => hQ h' sb r
end
def tSet1 (w : World) (t : TE) : TE := fun σ H Q => ∀ p, H p = none → t σ (upd H p (SetO w p (fun _ => false) 0)) fun x H1 => ∃ k : Int, x = .int k ∧ H1 p = some (SetO w p (fun _ => false) 0) ∧ Q (.ref p) (upd H1 p (SetO w p (fun j => decide (j = k)) 1))
variable {X : Cx} {e : Expr} {t : TE} {pos : Pos}
/-- {e}, one whole number -/
theorem pe_set1 (he : PE X e t) (hcd : PySem.W.kdsCode X.K X.env.code = true) (hst : starEach [e] X.env = [(false, eval e X.env)] := by rfl) : PE X (.Set [e] 0 pos) (tSet1 X.w t) := by
  refine ⟨fun pins s σ H Q I h => ?_⟩
  rw [arm_eval_Set]
  refine wpAny_bind (wpAny_standAt ?_)
  refine wpAny_bind (PySem.W.kds_main I.kIn hcd fun b => ?_)
  rw [hst]
  refine display1 ?_
  have new := setR_fresh (h := s.heap) X.w
  have I1 : Inv X pins σ (upd H s.heap.objs.size (SetO X.w s.heap.objs.size (fun _ => false) 0)) { s with heap := s.heap.push { cls := .type "set", dict := none, data := .set #[] 0 (.fresh 0 0 (!X.w.params.followText "set-order")) } } :=
    I.laid (t' := s.toks) (fun b u e => Heap.get?_push_of_some _ e) (Nat.le_refl _) (setO_new new)
  refine wpAny_bind (thn (he.run pins _ σ _ _ I1 (h s.heap.objs.size (I.hok.fresh (Nat.le_refl _)))) fun u s1 ⟨x, H1, I2, r1, k, ex, hp, q⟩ => ?_)
  subst ex
  obtain ⟨tk, rfl⟩ := r1
  refine wpAny_bind (wpAny_standAt (wpAny_pure ?_))
  have R := setO_get I2 hp
  refine setAdd1 R (by decide) fun h' sb r => ?_
  have r' : SetR X.w h' s.heap.objs.size (fun j => decide (j = k)) 1 := by
    have e1 : (fun j => (fun _ => false) j || decide (j = k)) = fun j => decide (j = k) := by funext j; exact Bool.false_or _
    rw [e1, if_neg Bool.false_ne_true] at r
    exact r
  have he' : ∃ u, h'.get? s.heap.objs.size = some u := by
    have ⟨o, _, _, _, ho, _⟩ := r'
    exact ⟨o, ho⟩
  exact ⟨.ref s.heap.objs.size, upd H1 s.heap.objs.size (SetO X.w s.heap.objs.size (fun j => decide (j = k)) 1), I2.write (e := s.heap.objs.size) (t' := s1.toks + 1) (by rw [hp]; trivial) (.inl rfl) (fun b u hb hu => (sb.2 b hb).trans hu) he' (setO_new r'), rfl, q⟩

def rLen (K : PySem.W.Frag) : List V → Hp → VK → Prop := fun xs H Q => ∃ p ys, xs = [V.ref p] ∧ (SqL K H p ys ∨ SqT K H p ys) ∧ Q (.int (ys.length : Nat)) H
theorem u65 {k : Nat} {A : Around} (r : Room k A) : A.units + 65 < cLine := by have := r.un; omega
/-- a statement's reading, held together -/
def hold (t : TS) : TS := fun D σ H => t D σ H
theorem keep {X : Cx} {st : Stmt} {t : TS} (h : PS X st t) : PS X st (hold t) := h
/-- what is never come to -/
theorem pss_void {X : Cx} {l : List Stmt} : PSs X l (fun _ _ _ => False) := ⟨fun _ _ _ _ _ _ h => h.elim⟩
/-! ### defs whose code object is asked -/
section
variable {P : Program} {w : World} {K : PySem.W.Frag} {mg : Str → Option Value} {base : Heap} {CX : CXT} {j k : Nat} {x m qual : Str} {st : Stmt} {ps N : List Str} {sp : Sp} {C : Addr}
theorem okC (D : Fd.Def K mg x st ps) (S : FnScope N ps (defScope st)) (len : ∀ vs H Q E, sp vs H Q E → vs.length = ps.length)
    (body : ∀ (f : Addr) (cdv : Value) (A : Around) (outer : List Env) (s : Shared) (H : Hp) (vs : List V) (Q : VK) (E : XK), PySem.W.kdsCode K cdv = true → Room k (A.deeper (envOfC x (defScope st) s.heap.objs.size f cdv)) → sp vs H Q E →
      ∃ t, PSs (cxOf CX0 P w K mg base N x (defScope st) f cdv A outer s H E).nox (defBody st) t ∧ t { nx := fun _ H' => Q .non H', rt := Q } (start N vs) H) : Fd.Has P w K mg base CX0 (k + 1) x ps sp := by
  obtain ⟨f, fd, a, F, b⟩ := D
  refine ⟨f, fd, a, F.kp, b, ?_⟩
  obtain ⟨oc, od, kV, doc, pm, an, cdv, ct, osl, rfl, lk, hcd⟩ := F.ex
  refine fn_of lk hcd S len fun A outer s H vs Q E hr hsp => ?_
  obtain ⟨t, h, q⟩ := body f cdv A outer s H vs Q E (kdsCode_of hcd) hr hsp
  exact ⟨t, h.nox, q⟩
theorem okNC (D : Fd.Def K mg x st ps) (S : FnScope N ps (defScope st)) (len : ∀ vs H Q E, sp vs H Q E → vs.length = ps.length)
    (body : ∀ (f : Addr) (cdv : Value) (A : Around) (outer : List Env) (s : Shared) (H : Hp) (vs : List V) (Q : VK) (E : XK), PySem.W.kdsCode K cdv = true → Room k (A.deeper (envOfC x (defScope st) s.heap.objs.size f cdv)) → sp vs H Q E →
      ∃ t, PSs (cxOf (L2N.CX P w) P w K mg base N x (defScope st) f cdv A outer s H E) (defBody st) t ∧ t { nx := fun _ H' => Q .non H', rt := Q } (start N vs) H) : Fd.Has P w K mg base (L2N.CX P w) (k + 1) x ps sp := by
  obtain ⟨f, fd, a, F, b⟩ := D
  refine ⟨f, fd, a, F.kp, b, ?_⟩
  obtain ⟨oc, od, kV, doc, pm, an, cdv, ct, osl, rfl, lk, hcd⟩ := F.ex
  exact fn_of lk hcd S len fun A outer s H vs Q E hr hsp => body f cdv A outer s H vs Q E (kdsCode_of hcd) hr hsp
end
end Sd

namespace Up
open PySem PySem.Spec PyProof.Rows L2
/-- d.update(e), e another dict -/
def rUpdD : V → List V → Hp → VK → Prop := fun x vs H Q => ∃ a b kvs more, x = .ref a ∧ vs = [.ref b] ∧ a ≠ b ∧ H a = some (.dK kvs) ∧ H b = some (.dK more) ∧ kvs.length + more.length ≤ sizeLine ∧ Q .non (upd H a (.dK (mergeK kvs more)))
theorem mt_updD {X : Cx} : MtR X "dict.update" rUpdD := by
  intro pins s σ H x vs v us Q I rx rv h
  obtain ⟨a, b, kvs, more, rfl, rfl, hne, ea, eb, hz, q⟩ := h
  cases rx
  obtain ⟨u, rfl, ru⟩ := rv.one
  cases ru
  obtain ⟨z1, hd1, vs1, rel1, dd1⟩ := dk_of I.hok ea
  obtain ⟨z2, hd2, vs2, rel2, dd2⟩ := dk_of I.hok eb
  refine call_meetsIn PySem.F.slot_dict_update dd1.typeIs PySem.F.entry_dict_update (PySem.F.args_dict_update_2 _ _) (meets_dict_update (mixKind X.prog X.w) a b hne hd2) ⟨vs1, vs2, dd1, dd2, by rw [← rel1.length, ← rel2.length]; exact hz, fun h' dd' _ hs => ?_⟩
  have he : ∃ q, h'.get? a = some q := let ⟨q, _, _, hq, _⟩ := dd'; ⟨q, hq⟩
  have hl : (mergeK kvs more).length ≤ sizeLine := Nat.le_trans (length_mergeK more kvs) hz
  exact ⟨.non, _, d_write I (by rw [ea]; exact True.intro) hs he (dk_new hl hd1 (KV.merge rel2 rel1) dd'), rfl, q⟩
/-- range(n) as a value -/
theorem cr_range1 {X : Cx} : CallR X (.type "range") (fun vs H Q => ∃ i, vs = [V.int i] ∧ ∀ p, H p = none → Q (.ref p) (upd H p (.rng 0 i))) := by
  intro pins s σ H vs us Q I r h
  obtain ⟨i, rfl, q⟩ := h
  obtain ⟨u1, rfl, ri⟩ := vals1 r
  obtain ⟨t, rfl⟩ := ri
  refine call_range_1 ⟨.ref s.heap.objs.size, upd H s.heap.objs.size (.rng 0 i), I.laid (t' := s.toks + 2) (fun b o e => Heap.get?_push_of_some _ e) (Nat.le_refl _) ?_, rfl, q _ (I.hok.fresh (Nat.le_refl _))⟩
  exact ⟨_, _, _, Heap.get?_push_size _ rfl⟩
theorem small1 {n : Nat} (hn : n ≤ 1000) : Builtin.Range.small 0 (n : Int) 1 = true := PySem.small_one (by decide) (by decide) (by omega) (by omega)
/-- list(range(n)) -/
theorem cl_rng {X : Cx} (hc : X.calm = true) : CallR X (.type "list") (fun vs H Q => ∃ r n, vs = [V.ref r] ∧ H r = some (.rng 0 ((n : Nat) : Int)) ∧ n ≤ 1000 ∧ ∀ l, H l = none → Q (.ref l) (upd H l (.lst ((List.range n).map fun i : Nat => V.int (i : Int))))) := by
  intro pins s σ H vs us Q I r h
  obtain ⟨a, n, rfl, ha, hn, q⟩ := h
  obtain ⟨u1, rfl, ri⟩ := vals1 r
  cases ri
  obtain ⟨t1, t2, t3, ho⟩ := I.hok a _ ha
  refine call_list_range (n := n) (I.ok.hd hc) ho (small1 hn) (by rw [rangeSize_one]; split <;> omega) (by omega) fun h' tk acc' c' k hS hi => ?_
  have hv : Vals ((List.range n).map fun i : Nat => V.int (i : Int)) acc'.toList := by
    have key : ∀ (l : List Value) (m : Nat), (∀ j v, l[j]? = some v → ∃ t, v = Value.int (0 + ((m + j : Nat) : Int) * 1) t) → Vals ((List.range' m l.length).map fun i : Nat => V.int (i : Int)) l := by
      intro l
      induction l with
      | nil => intro m _; exact .nil
      | cons v l ih =>
        intro m h
        rw [List.length_cons, List.range'_succ, List.map_cons]
        refine .cons ?_ (ih (m + 1) fun j v' hj => ?_)
        · obtain ⟨t, e⟩ := h 0 v rfl
          refine ⟨t, ?_⟩
          rw [e]
          congr 1
          omega
        · obtain ⟨t, e⟩ := h (j + 1) v' (by simpa using hj)
          refine ⟨t, ?_⟩
          rw [e, show m + 1 + j = m + (j + 1) by omega]
    have h1 := key acc'.toList 0 fun j v hj => by
      obtain ⟨t, e⟩ := hi.2 j v (by rw [← Array.getElem?_toList]; exact hj)
      exact ⟨t, by rw [e, Nat.zero_add]⟩
    rw [Array.length_toList, hi.1] at h1
    rw [List.range_eq_range']
    exact h1
  exact ⟨.ref s.heap.objs.size, _, I.laid (t' := tk) (a := s.heap.objs.size) (o := .lst ((List.range n).map fun i : Nat => V.int (i : Int))) k (Nat.le_refl _) ⟨by rw [List.length_map, List.length_range, sizeLine_eq]; omega, acc'.toList, c', hv, by simpa using hS⟩, rfl, q _ (I.hok.fresh (Nat.le_refl _))⟩
end Up

namespace Sl
open PySem L2
/-! slices, by take and drop -/
theorem six_nat (n d k : Nat) : HT.sIx n d (some (k : Int)) = min k n := HT.sIx_nat n d k
theorem six_neg {n d k : Nat} (h : 0 < k) : HT.sIx n d (some (-(k : Int))) = n - k := by
  show (if -(k : Int) < 0 then (-(k : Int) + (n : Int)).toNat else min (-(k : Int)).toNat n) = n - k
  rw [if_pos (by omega)]; omega
theorem cut_to (xs : List V) (k : Nat) : cutV xs none (some (k : Int)) = xs.take k := by
  unfold cutV
  rw [six_nat, show HT.sIx xs.length 0 none = 0 from rfl, List.drop_zero, Nat.sub_zero]
  by_cases c : k ≤ xs.length
  · rw [Nat.min_eq_left c]
  · rw [Nat.min_eq_right (by omega), List.take_of_length_le (Nat.le_refl _), List.take_of_length_le (by omega)]
theorem cut_from (xs : List V) (k : Nat) : cutV xs (some (k : Int)) none = xs.drop k := by
  unfold cutV
  rw [six_nat, show HT.sIx xs.length xs.length none = xs.length from rfl]
  by_cases c : k ≤ xs.length
  · rw [Nat.min_eq_left c, List.take_of_length_le (by rw [List.length_drop]; omega)]
  · rw [Nat.min_eq_right (by omega), List.drop_eq_nil_of_le (Nat.le_refl _), List.drop_eq_nil_of_le (by omega), List.take_nil]
theorem cut_toN (xs : List V) {k : Nat} (h : 0 < k) : cutV xs none (some (-(k : Int))) = xs.take (xs.length - k) := by
  unfold cutV
  rw [six_neg h, show HT.sIx xs.length 0 none = 0 from rfl, List.drop_zero, Nat.sub_zero]
theorem cut_fromN (xs : List V) {k : Nat} (h : 0 < k) : cutV xs (some (-(k : Int))) none = xs.drop (xs.length - k) := by
  unfold cutV
  rw [six_neg h, show HT.sIx xs.length xs.length none = xs.length from rfl, List.take_of_length_le (by rw [List.length_drop]; omega)]
theorem cut_mid (xs : List V) (j k : Nat) : cutV xs (some (j : Int)) (some (k : Int)) = (xs.take k).drop j := by
  unfold cutV
  rw [six_nat, six_nat, List.drop_take]
  by_cases c : k ≤ xs.length
  · rw [Nat.min_eq_left c]
    by_cases d : j ≤ xs.length
    · rw [Nat.min_eq_left d]
    · rw [Nat.min_eq_right (by omega), List.drop_eq_nil_of_le (Nat.le_refl _), List.drop_eq_nil_of_le (by omega)]; simp
  · rw [Nat.min_eq_right (by omega)]
    by_cases d : j ≤ xs.length
    · rw [Nat.min_eq_left d, List.take_of_length_le (by rw [List.length_drop]; omega), List.take_of_length_le (by rw [List.length_drop]; omega)]
    · rw [Nat.min_eq_right (by omega), List.drop_eq_nil_of_le (Nat.le_refl _), List.drop_eq_nil_of_le (by omega)]; simp
end Sl

/-! xs[::2] of a list. -/
namespace St2
open PySem PySem.Spec PyProof.Rows L2
/-- each second item, from the first on -/
def ev {α : Type} : List α → List α
  | [] => []
  | [x] => [x]
  | x :: _ :: r => x :: ev r
theorem ev_pick {α : Type} : ∀ xs : List α, (List.range ((xs.length + 1) / 2)).filterMap (fun k => xs[2 * k]?) = ev xs
  | [] => by simp [ev]
  | [x] => by simp [ev, List.range_succ]
  | x :: y :: r => by
    have e : ((x :: y :: r).length + 1) / 2 = (r.length + 1) / 2 + 1 := by
      rw [List.length_cons, List.length_cons]; omega
    rw [e, List.range_succ_eq_map, List.filterMap_cons_some (b := x) (by rfl), List.filterMap_map]
    show x :: _ = x :: ev r
    rw [← ev_pick r]
    refine congrArg (x :: ·) ?_
    refine congrArg (fun f => (List.range ((r.length + 1) / 2)).filterMap f) ?_
    funext k
    show (x :: y :: r)[2 * (k + 1)]? = r[2 * k]?
    rw [show 2 * (k + 1) = 2 * k + 1 + 1 by omega, List.getElem?_cons_succ, List.getElem?_cons_succ]
theorem ev_len {α : Type} : ∀ xs : List α, (ev xs).length = (xs.length + 1) / 2
  | [] => by simp [ev]
  | [x] => by simp [ev]
  | x :: y :: r => by
    show (ev r).length + 1 = _
    rw [ev_len r, List.length_cons, List.length_cons]; omega
theorem range2 (n : Nat) : sliceRange 0 (n : Int) 2 = (List.range ((n + 1) / 2)).map fun k => 2 * k := by
  unfold sliceRange
  have h1 : (2 : Int) > 0 := by decide
  by_cases h : (0 : Int) < (n : Int)
  · have e : (((n : Int) - 0 + 2 - 1) / 2).toNat = (n + 1) / 2 := by omega
    simp only [h1, if_true, h, e]
    refine List.map_congr_left fun k hk => ?_
    omega
  · have e : n = 0 := by omega
    subst e
    simp
theorem pick2 (items : Array Value) : slicePick items none none (some 2) = (ev items.toList).toArray := by
  unfold slicePick
  have eb : sliceBounds none none (some 2) items.size = (0, (items.size : Int), 2) := by
    first
    | rfl
    | simp [sliceBounds]
  rw [eb]
  show ((sliceRange 0 (items.size : Int) 2).filterMap (items[·]?)).toArray = _
  rw [range2, List.filterMap_map, ← ev_pick items.toList, Array.length_toList]
  refine congrArg List.toArray ?_
  refine congrArg (fun f => (List.range ((items.size + 1) / 2)).filterMap f) ?_
  funext k
  show items[2 * k]? = items.toList[2 * k]?
  rw [Array.getElem?_toList]
theorem ev_vals : ∀ {xs : List V} {us : List Value}, Vals xs us → Vals (ev xs) (ev us)
  | _, _, .nil => .nil
  | _, _, .cons h .nil => .cons h .nil
  | _, _, .cons h (.cons _ t) => .cons h (ev_vals t)
def tEvL (K : PySem.W.Frag) (te : TE) : TE := fun σ H Q => te σ H fun x H1 => ∃ a xs, x = .ref a ∧ SqL K H1 a xs ∧ ∀ p, H1 p = none → Q (.ref p) (upd H1 p (.lst (ev xs)))
variable {X : Cx}
theorem pe_evL {e : Expr} {te : TE} {k : Nat} {p1 p3 pos : Pos} (he : PE X e te) : PE X (.Subscript e (.Slice none none (some (.Constant (.int 2) k p1)) p3) pos) (tEvL X.K te) := by
  refine ⟨fun pins s σ H Q I h => ?_⟩
  refine Subscript_ (thn (he.run pins s σ H _ I h) fun v s1 ⟨x, H1, I1, r1, q1⟩ => ?_)
  obtain ⟨a, xs, ex, hx, q⟩ := q1
  subst ex
  cases r1
  have hst : PO X (some (.Constant (.int 2) k p1)) (tPart (tC (.int 2))) := po_some pe_int
  refine wpAny_Slice (thn (po_none.run pins s1 σ H1 (fun o H2 => o = none ∧ H2 = H1) I1 ⟨rfl, rfl⟩) fun vl s2 ⟨l, H2, I2, pl, el, e2⟩ => ?_)
  subst el e2
  refine thn (po_none.run pins s2 σ H2 (fun o H3 => o = none ∧ H3 = H2) I2 ⟨rfl, rfl⟩) fun vu s3 ⟨u, H3, I3, pu, eu, e3⟩ => ?_
  subst eu e3
  refine thn (hst.run pins s3 σ H3 (fun o H4 => o = some 2 ∧ H4 = H3) I3 ⟨2, rfl, rfl, rfl⟩) fun vs s4 ⟨o, H4, I4, ps, eo, e4⟩ => ?_
  subst eo e4
  have I5 : Inv X pins σ H4 { s4 with heap := s4.heap.push { cls := .type "slice", data := .fields #[vl, vu, vs] } } := I4.kept (t' := s4.toks) fun b ob q => Heap.get?_push_of_some _ q
  obtain ⟨its, r, ht, hz⟩ := I5.list hx
  have hlen := r.length
  show wpAny (model X.prog X.w) X.A (subscriptTail e (.Slice none none (some (.Constant (.int 2) k p1)) p3) (.ref a) (.ref s4.heap.objs.size)) (EP X pins σ Q) X.xe { s4 with heap := s4.heap.push { cls := .type "slice", data := .fields #[vl, vu, vs] } }
  refine tail_any (ops := [.ref a, .ref s4.heap.objs.size]) ht.isList.typeIs (PySem.slot_list_getitem.lookup) ?_ (by with_unfolding_all rfl)
  refine wpAny_getItem_list_slice ht.isList (Heap.IsSliceOf.new _ vl vu vs) pl pu ps (by decide) ?_ (by rw [List.size_toArray]; omega)
  rw [pick2]
  refine ⟨.ref _, _, I5.laid (t' := s4.toks) (o := .lst (ev xs)) (fun b ob q => Heap.get?_push_of_some _ q) (Nat.le_refl _) ?_, rfl, q _ (I5.hok.fresh (Nat.le_refl _))⟩
  exact ⟨by rw [ev_len]; omega, _, 0, ev_vals r, Heap.get?_push_size _ rfl⟩
end St2

/-! len(set(xs)) of whole numbers, some of them twice. -/
namespace St2
open PySem PySem.Spec PyProof.Rows L2
/-- how many different numbers there are -/
def dist (ns : List Int) : Nat := (PyProof.Rows.firstMet (fun i => ns.getD i 0) ns.length).length
theorem dist_nd {ns : List Int} (h : ns.Nodup) : dist ns = ns.length := by
  unfold dist
  rw [RZ.firstMet_nodup h ns.length (Nat.le_refl _), List.take_length]
theorem fm_le (f : Nat → Int) : ∀ i, (PyProof.Rows.firstMet f i).length ≤ i
  | 0 => Nat.le_refl _
  | i + 1 => by
    have ih := fm_le f i
    rw [PyProof.Rows.firstMet_succ]
    unfold PyProof.Rows.step_dedup
    split
    · omega
    · rw [List.length_append, List.length_singleton]; omega
theorem fm_eq (f : Nat → Int) : ∀ i, (PyProof.Rows.firstMet f i).length = i → PyProof.Rows.firstMet f i = (List.range i).map f ∧ ((List.range i).map f).Nodup
  | 0, _ => ⟨rfl, List.nodup_nil⟩
  | i + 1, h => by
    have le := fm_le f i
    rw [PyProof.Rows.firstMet_succ] at h ⊢
    unfold PyProof.Rows.step_dedup at h ⊢
    by_cases c : (PyProof.Rows.firstMet f i).any (· == f i) = true
    · rw [if_pos c] at h; omega
    · rw [if_neg c] at h ⊢
      rw [List.length_append, List.length_singleton] at h
      obtain ⟨e, nd⟩ := fm_eq f i (by omega)
      rw [e] at c
      have nm : f i ∉ (List.range i).map f := fun z => c (List.any_eq_true.mpr ⟨f i, z, by simp⟩)
      rw [List.range_succ, List.map_append, e]
      exact ⟨rfl, List.nodup_append.mpr ⟨nd, List.pairwise_singleton _ _, fun a ha b hb e2 => nm (by rw [← List.mem_singleton.mp hb, ← e2]; exact ha)⟩⟩
theorem dist_iff {ns : List Int} : dist ns = ns.length ↔ ns.Nodup := by
  refine ⟨fun h => ?_, dist_nd⟩
  have e : (List.range ns.length).map (fun i => ns.getD i 0) = ns := by
    refine List.ext_getElem? fun i => ?_
    by_cases hi : i < ns.length
    · rw [List.getElem?_map, List.getElem?_range hi, List.getElem?_eq_getElem hi]
      show some (ns.getD i 0) = _
      rw [List.getD_eq_getElem?_getD, List.getElem?_eq_getElem hi]; rfl
    · rw [List.getElem?_eq_none (by rw [List.length_map, List.length_range]; omega), List.getElem?_eq_none (by omega)]
  have h2 := (fm_eq (fun i => ns.getD i 0) ns.length h).2
  rw [e] at h2; exact h2
def tLenD (K : PySem.W.Frag) (ta : TE) : TE := fun σ H Q => ta σ H fun x H1 => ∃ (l : Addr) (ns : List Int), x = .ref l ∧ SqL K H1 l (ns.map V.int) ∧ ns.length ≤ 4000 ∧ Q (.int (dist ns : Nat)) H1
theorem pe_lenD {X : Cx} {a : Expr} {ta : TE} {p p2 q pos : Pos} (hg : Gl X "len") (hm : X.mg "len" = none) (hg2 : Gl X "set") (hm2 : X.mg "set" = none) (ha : PE X a ta) (hc : X.calm = true := by rfl)
    (na : starEach [a] X.env = (false, eval a X.env) :: starEach [] X.env := by rfl) : PE X (.Call (.Name "len" p) [.Call (.Name "set" p2) [a] [] q] [] pos) (tLenD X.K ta) := by
  refine ⟨fun pins s σ H Q I h => ?_⟩
  refine Call_ (ld_blt I hg hm boot_len ?_)
  refine PyProof.Rows.callWith_builtin1 (PyProof.Rows.args_cons ?_ rfl) rfl rfl
  refine Call_ (ld_blt I hg2 hm2 boot_set ?_)
  refine PyProof.Rows.callWith_type1 (PyProof.Rows.args_cons (thn (ha.run pins s σ H _ I h) fun v s1 ⟨x, H1, I1, r1, q1⟩ => PyProof.Rows.args_nil ?_) na) na rfl
  obtain ⟨l, ns, rfl, hq, hl, q1⟩ := q1
  cases r1
  obtain ⟨its, r, pl, hz⟩ := I1.list hq
  have hlen : its.toArray.size = ns.length := by rw [List.size_toArray, ← r.length, List.length_map]
  refine call_set_list (I1.ok.hd hc) pl.isList (by simpa using RZ.intsAre_vals r) (by rw [hlen]; unfold scanBound; omega) fun h' tk hS hk => ?_
  refine PyProof.Rows.args_nil ?_
  rw [hlen] at hS
  obtain ⟨o, es, ep, t, ho, hex, hd, _, _, _, hf, hn⟩ := hS
  have I2 : Inv X pins σ H1 { s1 with heap := h', toks := tk } := I1.kept fun b o e => hk b o (Heap.lt_size e) e
  have hdl : dist ns ≤ ns.length := fm_le _ _
  have hn' : es.size = dist ns := hn
  exact call_len_set ho hex hd hf (by rw [hn'] <;> omega) ⟨.int (dist ns : Nat), H1, I2.tok _, ⟨_, by rw [hn']⟩, q1⟩
end St2

namespace Od
open PySem PySem.Spec PyProof.Rows L2
abbrev St := L2.St
def top (i : Nat) : Stmt := PySem.Challenge.pw_oddpairs_k09_whole_two_sides_or_a_ring.main.body.getD i (.Pass ⟨0, 0, 0, 0⟩)
abbrev S_is_number : Stmt := top 6
abbrev N_is_number : List Str := ["thing"]
theorem sc_is_number : FnScope N_is_number ["thing"] (defScope S_is_number) := ⟨rfl, rfl, rfl, by decide +kernel, rfl, by decide +kernel, by decide +kernel⟩
abbrev S_is_place : Stmt := top 7
abbrev N_is_place : List Str := ["thing", "size"]
theorem sc_is_place : FnScope N_is_place ["thing", "size"] (defScope S_is_place) := ⟨rfl, rfl, rfl, by decide +kernel, rfl, by decide +kernel, by decide +kernel⟩
abbrev S_is_tie : Stmt := top 8
abbrev N_is_tie : List Str := ["thing", "size", "one", "other"]
theorem sc_is_tie : FnScope N_is_tie ["thing", "size"] (defScope S_is_tie) := ⟨rfl, rfl, rfl, by decide +kernel, rfl, by decide +kernel, by decide +kernel⟩
abbrev S_rising_ties : Stmt := top 9
abbrev N_rising_ties : List Str := ["size", "ties", "seen", "tie", "one", "other"]
theorem sc_rising_ties : FnScope N_rising_ties ["size", "ties"] (defScope S_rising_ties) := ⟨rfl, rfl, rfl, by decide +kernel, rfl, by decide +kernel, by decide +kernel⟩
abbrev S_neighbours : Stmt := top 10
abbrev N_neighbours : List Str := ["size", "ties", "near", "one", "other", "_"]
theorem sc_neighbours : FnScope N_neighbours ["size", "ties"] (defScope S_neighbours) := ⟨rfl, rfl, rfl, by decide +kernel, rfl, by decide +kernel, by decide +kernel⟩
abbrev S_Net___init__ : Stmt := inClass (top 11) 0
abbrev N_Net___init__ : List Str := ["self", "size", "ties"]
theorem sc_Net___init__ : FnScope N_Net___init__ ["self", "size", "ties"] (defScope S_Net___init__) := ⟨rfl, rfl, rfl, by decide +kernel, rfl, by decide +kernel, by decide +kernel⟩
abbrev S_Net_ties : Stmt := inClass (top 11) 1
abbrev N_Net_ties : List Str := ["self"]
theorem sc_Net_ties : FnScope N_Net_ties ["self"] (defScope S_Net_ties) := ⟨rfl, rfl, rfl, by decide +kernel, rfl, by decide +kernel, by decide +kernel⟩
abbrev S_Net_beside : Stmt := inClass (top 11) 2
abbrev N_Net_beside : List Str := ["self", "place"]
theorem sc_Net_beside : FnScope N_Net_beside ["self", "place"] (defScope S_Net_beside) := ⟨rfl, rfl, rfl, by decide +kernel, rfl, by decide +kernel, by decide +kernel⟩
abbrev S_trails_in : Stmt := top 13
abbrev N_trails_in : List Str := ["net", "trails", "first"]
theorem sc_trails_in : FnScope N_trails_in ["net"] (defScope S_trails_in) := ⟨rfl, rfl, rfl, by decide +kernel, rfl, by decide +kernel, by decide +kernel⟩
abbrev S_lengthen : Stmt := top 14
abbrev N_lengthen : List Str := ["net", "trails", "first", "waiting", "here", "there"]
theorem sc_lengthen : FnScope N_lengthen ["net", "trails", "first"] (defScope S_lengthen) := ⟨rfl, rfl, rfl, by decide +kernel, rfl, by decide +kernel, by decide +kernel⟩
abbrev S_side_at : Stmt := top 15
abbrev N_side_at : List Str := ["trail"]
theorem sc_side_at : FnScope N_side_at ["trail"] (defScope S_side_at) := ⟨rfl, rfl, rfl, by decide +kernel, rfl, by decide +kernel, by decide +kernel⟩
abbrev S_sides : Stmt := top 16
abbrev N_sides : List Str := ["net", "trails", "told", "one", "other", "place"]
theorem sc_sides : FnScope N_sides ["net"] (defScope S_sides) := ⟨rfl, rfl, rfl, by decide +kernel, rfl, by decide +kernel, by decide +kernel⟩
abbrev S_ring_of : Stmt := top 17
abbrev N_ring_of : List Str := ["trail", "other_trail", "shared", "place"]
theorem sc_ring_of : FnScope N_ring_of ["trail", "other_trail"] (defScope S_ring_of) := ⟨rfl, rfl, rfl, by decide +kernel, rfl, by decide +kernel, by decide +kernel⟩
abbrev S_odd_ring : Stmt := top 18
abbrev N_odd_ring : List Str := ["net", "trails", "one", "other"]
theorem sc_odd_ring : FnScope N_odd_ring ["net"] (defScope S_odd_ring) := ⟨rfl, rfl, rfl, by decide +kernel, rfl, by decide +kernel, by decide +kernel⟩
abbrev S__law_whole : Stmt := top 20
abbrev N__law_whole : List Str := ["_law_found"]
theorem sc__law_whole : FnScope N__law_whole ["_law_found"] (defScope S__law_whole) := ⟨rfl, rfl, rfl, by decide +kernel, rfl, by decide +kernel, by decide +kernel⟩
abbrev S__law_cell_at : Stmt := top 21
abbrev N__law_cell_at : List Str := ["_law_script", "_law_k"]
theorem sc__law_cell_at : FnScope N__law_cell_at ["_law_script", "_law_k"] (defScope S__law_cell_at) := ⟨rfl, rfl, rfl, by decide +kernel, rfl, by decide +kernel, by decide +kernel⟩
abbrev S__law_tied : Stmt := top 22
abbrev N__law_tied : List Str := ["_law_kind", "_law_cell", "_law_one", "_law_other", "_law_size"]
theorem sc__law_tied : FnScope N__law_tied ["_law_kind", "_law_cell", "_law_one", "_law_other", "_law_size"] (defScope S__law_tied) := ⟨rfl, rfl, rfl, by decide +kernel, rfl, by decide +kernel, by decide +kernel⟩
abbrev S__law_ties_by : Stmt := top 23
abbrev N__law_ties_by : List Str := ["_law_script", "_law_size", "_law_kind", "_law_found", "_law_one", "_law_other", "_law_at", "_law_cell"]
theorem sc__law_ties_by : FnScope N__law_ties_by ["_law_script", "_law_size", "_law_kind"] (defScope S__law_ties_by) := ⟨rfl, rfl, rfl, by decide +kernel, rfl, by decide +kernel, by decide +kernel⟩
abbrev S__law_size_by : Stmt := top 24
abbrev N__law_size_by : List Str := ["_law_script", "_law_bound"]
theorem sc__law_size_by : FnScope N__law_size_by ["_law_script", "_law_bound"] (defScope S__law_size_by) := ⟨rfl, rfl, rfl, by decide +kernel, rfl, by decide +kernel, by decide +kernel⟩
abbrev S__law_kind_by : Stmt := top 25
abbrev N__law_kind_by : List Str := ["_law_script"]
theorem sc__law_kind_by : FnScope N__law_kind_by ["_law_script"] (defScope S__law_kind_by) := ⟨rfl, rfl, rfl, by decide +kernel, rfl, by decide +kernel, by decide +kernel⟩
abbrev S__law_great : Stmt := top 26
abbrev N__law_great : List Str := ["_law_script"]
theorem sc__law_great : FnScope N__law_great ["_law_script"] (defScope S__law_great) := ⟨rfl, rfl, rfl, by decide +kernel, rfl, by decide +kernel, by decide +kernel⟩
abbrev S__law_net_by : Stmt := top 27
abbrev N__law_net_by : List Str := ["_law_script", "_law_bound", "_law_size", "_law_kind"]
theorem sc__law_net_by : FnScope N__law_net_by ["_law_script", "_law_bound"] (defScope S__law_net_by) := ⟨rfl, rfl, rfl, by decide +kernel, rfl, by decide +kernel, by decide +kernel⟩
abbrev S__law_near : Stmt := top 28
abbrev N__law_near : List Str := ["_law_size", "_law_ties", "_law_found", "_law_one", "_law_other", "_law_place", "_law_row"]
theorem sc__law_near : FnScope N__law_near ["_law_size", "_law_ties"] (defScope S__law_near) := ⟨rfl, rfl, rfl, by decide +kernel, rfl, by decide +kernel, by decide +kernel⟩
abbrev S__law_part : Stmt := top 29
abbrev N__law_part : List Str := ["_law_near_here", "_law_place", "_law_there", "_law_met", "_law_waiting", "_law_here", "_law_other"]
theorem sc__law_part : FnScope N__law_part ["_law_near_here", "_law_place", "_law_there"] (defScope S__law_part) := ⟨rfl, rfl, rfl, by decide +kernel, rfl, by decide +kernel, by decide +kernel⟩
abbrev S__law_parts : Stmt := top 30
abbrev N__law_parts : List Str := ["_law_size", "_law_ties", "_law_taken", "_law_near_here", "_law_place", "_law_there", "_law_found", "_law_met", "_law_other"]
theorem sc__law_parts : FnScope N__law_parts ["_law_size", "_law_ties", "_law_taken"] (defScope S__law_parts) := ⟨rfl, rfl, rfl, by decide +kernel, rfl, by decide +kernel, by decide +kernel⟩
abbrev S__law_sides : Stmt := top 31
abbrev N__law_sides : List Str := ["_law_size", "_law_ties", "_law_found", "_law_one", "_law_other", "_law_part_here", "_law_side"]
theorem sc__law_sides : FnScope N__law_sides ["_law_size", "_law_ties", "_law_found"] (defScope S__law_sides) := ⟨rfl, rfl, rfl, by decide +kernel, rfl, by decide +kernel, by decide +kernel⟩
abbrev S__law_ring : Stmt := top 32
abbrev N__law_ring : List Str := ["_law_size", "_law_ties", "_law_found", "_law_at", "_law_one", "_law_other", "_law_place"]
theorem sc__law_ring : FnScope N__law_ring ["_law_size", "_law_ties", "_law_found"] (defScope S__law_ring) := ⟨rfl, rfl, rfl, by decide +kernel, rfl, by decide +kernel, by decide +kernel⟩
abbrev S_law : Stmt := top 33
abbrev N_law : List Str := ["_law_script", "_law_size", "_law_ties", "_law_net", "_law_found", "_law_ring_here"]
theorem sc_law : FnScope N_law ["_law_script"] (defScope S_law) := ⟨rfl, rfl, rfl, by decide +kernel, rfl, by decide +kernel, by decide +kernel⟩

/-! ### kinds of values -/
inductive Ty | non | bool | int | str | list | tuple | dict
  deriving DecidableEq
def Ty.nm : Ty → String
  | .non => "NoneType" | .bool => "bool" | .int => "int" | .str => "str" | .list => "list" | .tuple => "tuple" | .dict => "dict"
inductive Kd (H : Hp) : V → Ty → Prop
  | non : Kd H .non .non
  | bl (b : Bool) : Kd H (.bl b) .bool
  | int (i : Int) : Kd H (.int i) .int
  | str (x : Str) : Kd H (.str x) .str
  | lst {a : Addr} {xs : List V} (e : H a = some (.lst xs)) : Kd H (.ref a) .list
  | tup {a : Addr} {xs : List V} (e : H a = some (.tup xs)) : Kd H (.ref a) .tuple
  | dct {a : Addr} {kvs : List (Key × V)} (e : H a = some (.dK kvs)) : Kd H (.ref a) .dict
theorem Kd.tyx {K : PySem.W.Frag} {H : Hp} {x : V} {t : Ty} (k : Kd H x t) : TyX K H x (.type t.nm) := by
  cases k with
  | non => exact .base .non
  | bl b => exact .base (.bl b)
  | int i => exact .base (.int i)
  | str x => exact .base (.str x)
  | lst e => exact .base (.lst e)
  | tup e => exact .base (.tup e)
  | dct e => exact .base (.dK e)
theorem Kd.ex {H H' : Hp} {x : V} {t : Ty} (k : Kd H x t) (e : Same H H') : Kd H' x t := by
  cases k with
  | non => exact .non
  | bl b => exact .bl b
  | int i => exact .int i
  | str x => exact .str x
  | lst h => exact .lst (e _ _ h)
  | tup h => exact .tup (e _ _ h)
  | dct h => exact .dct (e _ _ h)
theorem kit_int (t : Ty) : kitB t.nm "int" = some (t = .int || t = .bool) := by cases t <;> decide +kernel
theorem kit_bool (t : Ty) : kitB t.nm "bool" = some (decide (t = .bool)) := by cases t <;> decide +kernel
theorem kit_tuple (t : Ty) : kitB t.nm "tuple" = some (decide (t = .tuple)) := by cases t <;> decide +kernel
theorem kit_list (t : Ty) : kitB t.nm "list" = some (decide (t = .list)) := by cases t <;> decide +kernel
/-- isinstance(x, c), the reading -/
theorem isi {K : PySem.W.Frag} {H : Hp} {x : V} {t : Ty} {c : String} {b : Bool} {Q : VK} (k : Kd H x t) (h : kitB t.nm c = some b) (q : Q (.bl b) H) : rIsi K [x, .ty c] H Q :=
  ⟨x, .ty c, .type t.nm, .type c, b, rfl, ClsV.ty c, k.tyx, kit_ty h, q⟩

/-! ### what the top has left -/
/-- what a class of errors must have, to be raised -/
structure Er (K : PySem.W.Frag) (mg : Str → Option Value) (x : Str) (C : Addr) : Prop where
  c : mg x = some (.ref C)
  x : PySem.W.excIn K C [.type "ValueError", .type "Exception", .type "BaseException", .type "object"] "ValueError.__new__" = true
  p : PySem.W.keepIn K (.ref C) = true
  b : PySem.W.subIn K (.ref C) (.type "BaseException") = some true
  t : PySem.W.typeIn K (.ref C) = some (.type "type")
  m : PySem.W.exmOne K (.ref C) (.ref C) = some true
structure Cs where
  (NetError BadNet NoPlace Net : Addr)
/-- D is a class of errors right under NetError, and under no other name -/
structure Leaf (K : PySem.W.Frag) (c : Cs) (D : Addr) : Prop where
  x : ExcC K D
  v : PySem.W.kitOne K (.ref D) (.type "ValueError") = some true
  n : PySem.W.kitOne K (.ref D) (.ref c.NetError) = some true
  l : ∃ b0 b1 : Bool, PySem.W.kitOne K (.ref D) (.ref c.BadNet) = some b0 ∧ PySem.W.kitOne K (.ref D) (.ref c.NoPlace) = some b1 ∧ [b0, b1].count true = 1
structure Top (K : PySem.W.Frag) (mg : Str → Option Value) (c : Cs) : Prop where
  n_isinstance : mg "isinstance" = none
  n_int : mg "int" = none
  n_bool : mg "bool" = none
  n_tuple : mg "tuple" = none
  n_list : mg "list" = none
  n_str : mg "str" = none
  n_len : mg "len" = none
  n_set : mg "set" = none
  n_dict : mg "dict" = none
  n_sorted : mg "sorted" = none
  n_range : mg "range" = none
  n_enumerate : mg "enumerate" = none
  n_zip : mg "zip" = none
  n_all : mg "all" = none
  n_any : mg "any" = none
  n_min : mg "min" = none
  n_max : mg "max" = none
  n_ValueError : mg "ValueError" = none
  e_NetError : Er K mg "NetError" c.NetError
  e_BadNet : Er K mg "BadNet" c.BadNet
  e_NoPlace : Er K mg "NoPlace" c.NoPlace
  c_Net : mg "Net" = some (.ref c.Net)
  cl_Net : Cls K c.Net
  a_Net_size : NoAttr K c.Net "size"
  a_Net__ties : NoAttr K c.Net "_ties"
  a_Net__near : NoAttr K c.Net "_near"
  l_BadNet : Leaf K c c.BadNet
  l_NoPlace : Leaf K c c.NoPlace
  k_MOST_PLACES : ∃ t, mg "MOST_PLACES" = some (.int 40 t)
  d_is_number : Fd.Def K mg "is_number" S_is_number ["thing"]
  d_is_place : Fd.Def K mg "is_place" S_is_place ["thing", "size"]
  d_is_tie : Fd.Def K mg "is_tie" S_is_tie ["thing", "size"]
  d_rising_ties : Fd.Def K mg "rising_ties" S_rising_ties ["size", "ties"]
  d_neighbours : Fd.Def K mg "neighbours" S_neighbours ["size", "ties"]
  d_Net___init__ : Fd.IDef K c.Net "Net.__init__" S_Net___init__ ["self", "size", "ties"]
  d_Net_ties : Fd.MDef K c.Net "ties" "Net.ties" S_Net_ties ["self"]
  d_Net_beside : Fd.MDef K c.Net "beside" "Net.beside" S_Net_beside ["self", "place"]
  d_trails_in : Fd.Def K mg "trails_in" S_trails_in ["net"]
  d_lengthen : Fd.Def K mg "lengthen" S_lengthen ["net", "trails", "first"]
  d_side_at : Fd.Def K mg "side_at" S_side_at ["trail"]
  d_sides : Fd.Def K mg "sides" S_sides ["net"]
  d_ring_of : Fd.Def K mg "ring_of" S_ring_of ["trail", "other_trail"]
  d_odd_ring : Fd.Def K mg "odd_ring" S_odd_ring ["net"]
  d__law_whole : Fd.Def K mg "_law_whole" S__law_whole ["_law_found"]
  d__law_cell_at : Fd.Def K mg "_law_cell_at" S__law_cell_at ["_law_script", "_law_k"]
  d__law_tied : Fd.Def K mg "_law_tied" S__law_tied ["_law_kind", "_law_cell", "_law_one", "_law_other", "_law_size"]
  d__law_ties_by : Fd.Def K mg "_law_ties_by" S__law_ties_by ["_law_script", "_law_size", "_law_kind"]
  d__law_size_by : Fd.Def K mg "_law_size_by" S__law_size_by ["_law_script", "_law_bound"]
  d__law_kind_by : Fd.Def K mg "_law_kind_by" S__law_kind_by ["_law_script"]
  d__law_great : Fd.Def K mg "_law_great" S__law_great ["_law_script"]
  d__law_net_by : Fd.Def K mg "_law_net_by" S__law_net_by ["_law_script", "_law_bound"]
  d__law_near : Fd.Def K mg "_law_near" S__law_near ["_law_size", "_law_ties"]
  d__law_part : Fd.Def K mg "_law_part" S__law_part ["_law_near_here", "_law_place", "_law_there"]
  d__law_parts : Fd.Def K mg "_law_parts" S__law_parts ["_law_size", "_law_ties", "_law_taken"]
  d__law_sides : Fd.Def K mg "_law_sides" S__law_sides ["_law_size", "_law_ties", "_law_found"]
  d__law_ring : Fd.Def K mg "_law_ring" S__law_ring ["_law_size", "_law_ties", "_law_found"]
  d_law : Fd.Def K mg "law" S_law ["_law_script"]
section
variable {P : Program} {w : World} {K : PySem.W.Frag} {mg : Str → Option Value} {c : Cs} {base : Heap}
def isInt : V → Bool
  | .int _ => true
  | _ => false
theorem Kd.int_iff {H : Hp} {x : V} {t : Ty} (k : Kd H x t) : decide (t = .int) = isInt x := by cases k <;> rfl
def spNumber : Sp := fun vs H Q _ => ∃ x t, vs = [x] ∧ Kd H x t ∧ Q (.bl (isInt x)) H
theorem ok_is_number (T : Top K mg c) : Fd.Has P w K mg base CX0 1 "is_number" ["thing"] spNumber := by
  refine T.d_is_number.ok sc_is_number (fun vs H Q E h => ?_) (fun f cdv A outer s H vs Q E hr h => ?_)
  · obtain ⟨x, t, rfl, _⟩ := h; rfl
  · obtain ⟨x, t, rfl, k, q⟩ := h
    refine ⟨_, (pss_one (ps_ret (pe_and (pe_callB (r := rIsi K) call_isi (by rfl) T.n_isinstance boot_isinstance (pa_cons (pv 0) (pa_cons (pe_bltn (v := .ty "int") (by rfl) T.n_int boot_int rfl) pa_nil))) (pe_one (pe_not (pe_callB (r := rIsi K) call_isi (by rfl) T.n_isinstance boot_isinstance (pa_cons (pv 0) (pa_cons (pe_bltn (v := .ty "bool") (by rfl) T.n_bool boot_bool rfl) pa_nil)))))))), ?_⟩
    refine ⟨x, rfl, _, _, _, _, _, rfl, ClsV.ty _, k.tyx, kit_ty (kit_int t), _, rfl, ?_⟩
    have hv := k.int_iff
    by_cases c : (t = .int || t = .bool) = true
    · rw [if_pos c]
      refine ⟨x, rfl, _, _, _, _, _, rfl, ClsV.ty _, k.tyx, kit_ty (kit_bool t), _, rfl, ?_⟩
      show Q (.bl (!decide (t = .bool))) H
      have e : (!decide (t = .bool)) = isInt x := by
        rw [← hv]; revert c; cases t <;> simp
      rw [e]; exact q
    · rw [if_neg c]
      show Q (.bl false) H
      have e : false = isInt x := by
        rw [← hv]; revert c; cases t <;> simp
      rw [e]; exact q
def isPl (x : V) (n : Int) : Bool := match x with
  | .int i => decide (0 ≤ i ∧ i < n)
  | _ => false
def spPlace : Sp := fun vs H Q _ => ∃ x t n, vs = [x, .int n] ∧ Kd H x t ∧ Q (.bl (isPl x n)) H
theorem ok_is_place (T : Top K mg c) : Fd.Has P w K mg base CX0 2 "is_place" ["thing", "size"] spPlace := by
  have G_is_number : Fd.Has P w K mg base CX0 1 "is_number" ["thing"] spNumber := ok_is_number T
  refine T.d_is_place.ok sc_is_place (fun vs H Q E h => ?_) (fun f cdv A outer s H vs Q E hr h => ?_)
  · obtain ⟨x, t, n, rfl, _⟩ := h; rfl
  · obtain ⟨x, t, n, rfl, k, q⟩ := h
    have hr_is_number := hr
    refine ⟨_, (pss_one (ps_ret (pe_and (Fd.pe_f G_is_number hr_is_number (by rfl) (pa_cons (pv 0) pa_nil)) (pe_one (pe_chain op_le op_lt pe_int (pv 0) (pv 1)))))), ?_⟩
    refine ⟨x, rfl, x, t, rfl, k, _, rfl, ?_⟩
    cases x with
    | int i =>
      refine iteT ⟨_, rfl, 0, i, rfl, rfl, _, rfl, ?_⟩
      by_cases c : (0 : Int) ≤ i
      · rw [decide_eq_true c]
        refine iteT ⟨_, rfl, i, n, rfl, rfl, ?_⟩
        have e : isPl (.int i) n = decide (i < n) := by
          show decide (0 ≤ i ∧ i < n) = _
          by_cases d : i < n
          · rw [decide_eq_true d, decide_eq_true ⟨c, d⟩]
          · rw [decide_eq_false d, decide_eq_false fun z => d z.2]
        rw [e] at q; exact q
      · rw [decide_eq_false c]
        refine iteF ?_
        have e : isPl (.int i) n = false := decide_eq_false fun z => c z.1
        rw [e] at q; exact q
    | _ => exact iteF q

/-- the items of a tuple -/
def tupOf (H : Hp) : V → Option (List V)
  | .ref a => match H a with
    | some (.tup xs) => some xs
    | _ => none
  | _ => none
theorem tupOf_tup {H : Hp} {a : Addr} {xs : List V} (e : H a = some (.tup xs)) : tupOf H (.ref a) = some xs := by
  show (match H a with
    | some (.tup xs) => some xs
    | _ => none) = some xs
  rw [e]
theorem tupOf_no {H : Hp} {x : V} {t : Ty} (k : Kd H x t) (h : t ≠ .tuple) : tupOf H x = none := by
  cases k with
  | tup e => exact absurd rfl h
  | lst e => unfold tupOf; simp only [e]
  | dct e => unfold tupOf; simp only [e]
  | _ => rfl
/-- its kind, and the kinds of a tuple's items -/
structure Kt (H : Hp) (x : V) (t : Ty) : Prop where
  kd : Kd H x t
  its : ∀ xs, tupOf H x = some xs → ∀ y ∈ xs, ∃ u, Kd H y u
def ltV : V → V → Bool
  | .int i, .int j => decide (i < j)
  | _, _ => false
def tieOf (n : Int) : List V → Bool
  | [u, v] => isPl u n && (isPl v n && ltV u v)
  | _ => false
def isTie (H : Hp) (x : V) (n : Int) : Bool := match tupOf H x with
  | some xs => tieOf n xs
  | none => false
theorem tieOf_len {n : Int} {xs : List V} (h : xs.length ≠ 2) : tieOf n xs = false := by
  match xs, h with
  | [], _ => rfl
  | [_], _ => rfl
  | [_, _], h => exact absurd rfl h
  | _ :: _ :: _ :: _, _ => rfl
theorem isPl_int {x : V} {n : Int} (h : isPl x n = true) : ∃ i, x = .int i ∧ 0 ≤ i ∧ i < n := by
  cases x with
  | int i => exact ⟨i, rfl, of_decide_eq_true h⟩
  | _ => cases h
def spTie : Sp := fun vs H Q _ => ∃ x t n, vs = [x, .int n] ∧ Kt H x t ∧ Q (.bl (isTie H x n)) H
theorem ok_is_tie (T : Top K mg c) : Fd.Has P w K mg base CX0 3 "is_tie" ["thing", "size"] spTie := by
  have G_is_place : Fd.Has P w K mg base CX0 2 "is_place" ["thing", "size"] spPlace := ok_is_place T
  refine T.d_is_tie.ok sc_is_tie (fun vs H Q E h => ?_) (fun f cdv A outer s H vs Q E hr h => ?_)
  · obtain ⟨x, t, n, rfl, _⟩ := h; rfl
  · obtain ⟨x, t, n, rfl, k, q⟩ := h
    have hr_is_place := hr
    refine ⟨_, (pss_cons (ps_if (PW.pt (pw_or (pt_not (pt_val (pe_callB (r := rIsi K) call_isi (by rfl) T.n_isinstance boot_isinstance (pa_cons (pv 0) (pa_cons (pe_bltn (v := .ty "tuple") (by rfl) T.n_tuple boot_tuple rfl) pa_nil))))) (pw_or1 (pt_cmpR op_ne (pe_callB call_len_seq (by rfl) T.n_len boot_len (pa_cons (pv 0) pa_nil)) pe_int (nomark _)))))
      (pss_one (ps_ret pe_bl))
      pss_nil)
      (pss_cons (ps_asg (pv 0) (pg_tup rfl (pgs_cons (pg_name (i := 2) sc_is_tie.nd rfl (Or.inl rfl)) (pgs_cons (pg_name (i := 3) sc_is_tie.nd rfl (Or.inl rfl)) pgs_nil))))
      (pss_one (ps_ret (pe_and (Fd.pe_f G_is_place hr_is_place (by rfl) (pa_cons (pv 2) (pa_cons (pv 1) pa_nil))) (pe_and (Fd.pe_f G_is_place hr_is_place (by rfl) (pa_cons (pv 3) (pa_cons (pv 1) pa_nil))) (pe_one (pe_cmpR op_lt (pv 2) (pv 3) (nomark _))))))))), ?_⟩
    refine ⟨x, rfl, _, _, _, _, _, rfl, ClsV.ty _, k.kd.tyx, kit_ty (kit_tuple t), _, rfl, ?_⟩
    by_cases c : t = .tuple
    · subst c
      rw [decide_eq_true rfl]
      refine iteF ?_
      have kd := k.kd
      cases kd with
      | @tup a xs e =>
      have eT := tupOf_tup e
      refine ⟨_, rfl, a, xs, rfl, .inr (SqT.of e), rfl, _, rfl, ?_⟩
      by_cases d : xs.length = 2
      · obtain ⟨u, v, rfl⟩ : ∃ u v, xs = [u, v] := by
          match xs, d with
          | [u, v], _ => exact ⟨u, v, rfl⟩
        refine iteF ?_
        obtain ⟨tu, ku⟩ := k.its _ eT u (by simp)
        obtain ⟨tv, kv⟩ := k.its _ eT v (by simp)
        have qe : isTie H (.ref a) n = (isPl u n && (isPl v n && ltV u v)) := by unfold isTie; rw [eT]; rfl
        rw [qe] at q
        refine ⟨_, rfl, a, _, rfl, SqT.of e, rfl, _, _, rfl, _, _, rfl, rfl, _, rfl, _, rfl, u, tu, n, rfl, ku, _, rfl, ?_⟩
        cases hu : isPl u n with
        | false => rw [hu] at q; exact iteF q
        | true =>
          refine iteT ⟨_, rfl, _, rfl, v, tv, n, rfl, kv, _, rfl, ?_⟩
          rw [hu] at q
          cases hv : isPl v n with
          | false => rw [hv] at q; exact iteF q
          | true =>
            obtain ⟨i, rfl, _⟩ := isPl_int hu
            obtain ⟨j, rfl, _⟩ := isPl_int hv
            rw [hv] at q
            exact iteT ⟨_, rfl, _, rfl, i, j, rfl, rfl, q⟩
      · have e1 : decide (V.int (xs.length : Nat) = V.int 2) = false := decide_eq_false fun z => by
          injection z with z; omega
        rw [e1]
        refine iteT ?_
        have qe : isTie H (.ref a) n = false := by unfold isTie; rw [eT]; exact tieOf_len d
        rw [qe] at q
        exact q
    · rw [decide_eq_false c]
      refine iteT ?_
      have qe : isTie H x n = false := by unfold isTie; rw [tupOf_no k.kd c]
      rw [qe] at q
      exact q
end
end Od

namespace Od
open PySem PySem.Spec PyProof.Rows L2
/-! ### ties handed in -/
def listOf (H : Hp) : V → Option (List V)
  | .ref a => match H a with
    | some (.lst xs) => some xs
    | _ => none
  | _ => none
theorem listOf_lst {H : Hp} {a : Addr} {xs : List V} (e : H a = some (.lst xs)) : listOf H (.ref a) = some xs := by
  unfold listOf; simp only [e]
theorem Kd.list_of {H : Hp} {x : V} (k : Kd H x .list) : ∃ a xs, x = .ref a ∧ H a = some (.lst xs) := by
  cases k with
  | lst e => exact ⟨_, _, rfl, e⟩
theorem Kd.tup_of {H : Hp} {x : V} (k : Kd H x .tuple) : ∃ a xs, x = .ref a ∧ H a = some (.tup xs) := by
  cases k with
  | tup e => exact ⟨_, _, rfl, e⟩
theorem listOf_no {H : Hp} {x : V} {t : Ty} (k : Kd H x t) (h : t ≠ .list) : listOf H x = none := by
  cases k with
  | lst e => exact absurd rfl h
  | tup e => unfold listOf; simp only [e]
  | dct e => unfold listOf; simp only [e]
  | _ => rfl
theorem tupOf_ex {H H' : Hp} {x : V} {t : Ty} (k : Kd H x t) (e : Same H H') : tupOf H' x = tupOf H x := by
  cases k with
  | tup h => rw [tupOf_tup h, tupOf_tup (e _ _ h)]
  | lst h => rw [tupOf_no (.lst h) (by decide), tupOf_no (.lst (e _ _ h)) (by decide)]
  | dct h => rw [tupOf_no (.dct h) (by decide), tupOf_no (.dct (e _ _ h)) (by decide)]
  | _ => rfl
theorem Kt.ex {H H' : Hp} {x : V} {t : Ty} (k : Kt H x t) (e : Same H H') : Kt H' x t := by
  refine ⟨k.kd.ex e, fun xs h y hy => ?_⟩
  rw [tupOf_ex k.kd e] at h
  obtain ⟨u, q⟩ := k.its xs h y hy
  exact ⟨u, q.ex e⟩
theorem isTie_ex {H H' : Hp} {x : V} {t : Ty} {n : Int} (k : Kt H x t) (e : Same H H') : isTie H' x n = isTie H x n := by
  unfold isTie; rw [tupOf_ex k.kd e]
abbrev Pr := Int × Int
def plt (p q : Pr) : Prop := p.1 < q.1 ∨ (p.1 = q.1 ∧ p.2 < q.2)
def prl (p : Pr) : List Int := [p.1, p.2]
theorem prl_inj {p q : Pr} (h : prl p = prl q) : p = q := by
  obtain ⟨a, b⟩ := p; obtain ⟨c, d⟩ := q
  injection h with h1 h2; injection h2 with h2 _
  cases h1; cases h2; rfl
def prOf (H : Hp) (x : V) : Pr := match tupOf H x with
  | some [.int i, .int j] => (i, j)
  | _ => (0, 0)
/-- a pair that is a tie in a net of size n -/
def Tie (n : Int) (p : Pr) : Prop := 0 ≤ p.1 ∧ p.1 < p.2 ∧ p.2 < n
theorem isTie_iff {H : Hp} {x : V} {n : Int} (h : isTie H x n = true) : tupOf H x = some [.int (prOf H x).1, .int (prOf H x).2] ∧ Tie n (prOf H x) := by
  unfold isTie at h
  cases e : tupOf H x with
  | none => rw [e] at h; cases h
  | some xs =>
    rw [e] at h
    match xs, h with
    | [u, v], h =>
      have h' : (isPl u n && (isPl v n && ltV u v)) = true := h
      rw [Bool.and_eq_true, Bool.and_eq_true] at h'
      obtain ⟨h1, h2, h3⟩ := h'
      obtain ⟨i, rfl, a, b⟩ := isPl_int h1
      obtain ⟨j, rfl, c, d⟩ := isPl_int h2
      have f : prOf H x = (i, j) := by unfold prOf; rw [e]
      rw [f]
      exact ⟨rfl, a, of_decide_eq_true h3, d⟩
theorem isTie_of {H : Hp} {x : V} {n : Int} {i j : Int} (e : tupOf H x = some [.int i, .int j]) (h : Tie n (i, j)) : isTie H x n = true ∧ prOf H x = (i, j) := by
  obtain ⟨a, b, c⟩ := h
  simp only at a b c
  constructor
  · unfold isTie; rw [e]
    show (decide (0 ≤ i ∧ i < n) && (decide (0 ≤ j ∧ j < n) && decide (i < j))) = true
    rw [decide_eq_true ⟨a, by omega⟩, decide_eq_true ⟨by omega, c⟩, decide_eq_true b]; rfl
  · unfold prOf; rw [e]
structure Kl (H : Hp) (x : V) (t : Ty) : Prop where
  kd : Kd H x t
  its : ∀ xs, listOf H x = some xs → ∀ y ∈ xs, ∃ u, Kt H y u
structure OkTies (H : Hp) (n : Int) (xs : List V) : Prop where
  all : ∀ y ∈ xs, isTie H y n = true
  one : (xs.map (prOf H)).Nodup
/-- us are new tuples, the pairs ts -/
def NewPrs (H H' : Hp) (us : List V) (ts : List Pr) : Prop := Paired (fun u (p : Pr) => ∃ a, u = V.ref a ∧ H a = none ∧ H' a = some (.tup [.int p.1, .int p.2])) us ts
def spRising (C : Addr) : Sp := fun vs H Q E => ∃ n x t, vs = [.int n, x] ∧ n ≤ 40 ∧ Kl H x t ∧
  ((∃ xs, listOf H x = some xs ∧ OkTies H n xs ∧ ∀ (ts : List Pr) p us H', ts.Perm (xs.map (prOf H)) → ts.Pairwise plt → H p = none → Same H H' → H' p = some (.lst us) → NewPrs H H' us ts → Q (.ref p) H') ∨
  ((∀ xs, listOf H x = some xs → ¬ OkTies H n xs) ∧ ∀ H', Same H H' → E (.ref C) none H'))

/-- pairs below forty, each once, are fewer than a thousand -/
theorem few_ties {n : Int} (hn : n ≤ 40) {ps : List Pr} (h : ∀ p ∈ ps, Tie n p) (nd : ps.Nodup) : ps.length ≤ 800 := by
  let c1 : Pr → Nat := fun p => p.1.toNat * 40 + p.2.toNat
  let c2 : Pr → Nat := fun p => p.2.toNat * 40 + p.1.toNat
  have key := nat_nodup_len (ps.map c1 ++ ps.map c2) (List.range 1600) ?_ ?_
  · rw [List.length_append, List.length_map, List.length_map, List.length_range] at key
    omega
  · refine List.nodup_append.mpr ⟨List.pairwise_map.mpr (List.Pairwise.imp_of_mem (fun {p q} hp hq ne e => ?_) nd), List.pairwise_map.mpr (List.Pairwise.imp_of_mem (fun {p q} hp hq ne e => ?_) nd), fun x hx y hy e => ?_⟩
    · obtain ⟨a, b, c⟩ := h p hp
      obtain ⟨a', b', c'⟩ := h q hq
      have e' : p.1.toNat * 40 + p.2.toNat = q.1.toNat * 40 + q.2.toNat := e
      exact ne (Prod.ext (by omega) (by omega))
    · obtain ⟨a, b, c⟩ := h p hp
      obtain ⟨a', b', c'⟩ := h q hq
      have e' : p.2.toNat * 40 + p.1.toNat = q.2.toNat * 40 + q.1.toNat := e
      exact ne (Prod.ext (by omega) (by omega))
    · obtain ⟨p, hp, rfl⟩ := List.mem_map.mp hx
      obtain ⟨q, hq, rfl⟩ := List.mem_map.mp hy
      obtain ⟨a, b, c⟩ := h p hp
      obtain ⟨a', b', c'⟩ := h q hq
      have e' : p.1.toNat * 40 + p.2.toNat = q.2.toNat * 40 + q.1.toNat := e
      omega
  · intro x hx
    rw [List.mem_range]
    rcases List.mem_append.mp hx with z | z
    · obtain ⟨p, hp, rfl⟩ := List.mem_map.mp z
      obtain ⟨a, b, c⟩ := h p hp
      show p.1.toNat * 40 + p.2.toNat < 1600
      omega
    · obtain ⟨p, hp, rfl⟩ := List.mem_map.mp z
      obtain ⟨a, b, c⟩ := h p hp
      show p.2.toNat * 40 + p.1.toNat < 1600
      omega
theorem Same.new {H : Hp} {p : Addr} {o : HO} (h : H p = none) : Same H (upd H p o) := fun a u e => by
  rw [upd_ne (ne_of_none e h)]; exact e
theorem Same.mut {H H' : Hp} {p : Addr} {o : HO} (e : Same H H') (h : H p = none) : Same H (upd H' p o) := fun a u ha => by
  rw [upd_ne (ne_of_none ha h)]; exact e a u ha

section
variable {P : Program} {w : World} {K : PySem.W.Frag} {mg : Str → Option Value} {c : Cs} {base : Heap}
theorem ok_rising_ties (T : Top K mg c) : Fd.Has P w K mg base (L2N.CX P w) 4 "rising_ties" ["size", "ties"] (spRising c.BadNet) := by
  have G_is_tie : Fd.Has P w K mg base CX0 3 "is_tie" ["thing", "size"] spTie   := ok_is_tie T
  refine T.d_rising_ties.okN sc_rising_ties (fun vs H Q E h => ?_) (fun f cdv A outer s H vs Q E hr h => ?_)
  · obtain ⟨n, x, t, rfl, _⟩ := h; rfl
  · obtain ⟨n, x, t, rfl, hn, k, hres⟩ := h
    have hr_is_tie := hr
    refine ⟨_, (pss_cons (ps_if (pt_not (pt_val (pe_callB (r := rIsi K) call_isi (by rfl) T.n_isinstance boot_isinstance (pa_cons (pv 1) (pa_cons (pe_bltn (v := .ty "list") (by rfl) T.n_list boot_list rfl) pa_nil)))))
      (pss_one (L2N.ps_raise rfl (L2N.takes_of rfl rfl rfl rfl) (L2N.pmk_own PySem.F.excBase_ValueError T.e_BadNet.x T.e_BadNet.c T.e_BadNet.p (raises_own T.e_BadNet.b T.e_BadNet.t) (by rfl))))
      pss_nil)
      (pss_cons (ps_set (i := 2) sc_rising_ties.nd rfl (Or.inl rfl) (pe_callTy0 Bs.cr_new (by rfl) T.n_set boot_set))
      (pss_cons (ps_for (L2.passes_of rfl) rfl (pi_list (pv 1)) (pg_name (i := 3) sc_rising_ties.nd rfl (Or.inl rfl))
      (pss_cons (ps_if (pt_not (pt_val (Fd.pe_f G_is_tie hr_is_tie (by rfl) (pa_cons (pv 3) (pa_cons (pv 0) pa_nil)))))
        (pss_one (L2N.ps_raise rfl (L2N.takes_of rfl rfl rfl rfl) (L2N.pmk_own PySem.F.excBase_ValueError T.e_BadNet.x T.e_BadNet.c T.e_BadNet.p (raises_own T.e_BadNet.b T.e_BadNet.t) (by rfl))))
        pss_nil)
        (pss_cons (ps_asg (pv 3) (pg_tup rfl (pgs_cons (pg_name (i := 4) sc_rising_ties.nd rfl (Or.inl rfl)) (pgs_cons (pg_name (i := 5) sc_rising_ties.nd rfl (Or.inl rfl)) pgs_nil))))
        (pss_cons (ps_if (pt_cmpR (Bs.or_in hr.units) (pe_tup (pa_cons (pv 4) (pa_cons (pv 5) pa_nil))) (pv 2) (by rfl))
        (pss_one (L2N.ps_raise rfl (L2N.takes_of rfl rfl rfl rfl) (L2N.pmk_own PySem.F.excBase_ValueError T.e_BadNet.x T.e_BadNet.c T.e_BadNet.p (raises_own T.e_BadNet.b T.e_BadNet.t) (by rfl))))
        pss_nil)
        (pss_one (ps_expr (Bs.pe_add hr.units (pv 2) (pa_cons (pe_tup (pa_cons (pv 4) (pa_cons (pv 5) pa_nil))) pa_nil))))))))
      (pss_one (ps_ret (pe_callB (Bs.cr_sorted rfl) (by rfl) T.n_sorted boot_sorted (pa_cons (pv 2) pa_nil))))))), ?_⟩
    have bad : ∀ H', Same H H' → (∀ xs, listOf H x = some xs → ¬ OkTies H n xs) → E (.ref c.BadNet) none H' := fun H' s5 z => by
      rcases hres with ⟨xs, e, ok, _⟩ | ⟨_, q⟩
      · exact absurd ok (z xs e)
      · exact q H' s5
    refine ⟨x, rfl, _, _, _, _, _, rfl, ClsV.ty _, k.kd.tyx, kit_ty (kit_list t), _, rfl, ?_⟩
    by_cases ct : t = .list
    · subst ct
      rw [decide_eq_true rfl]
      refine iteF ?_
      obtain ⟨a, xs, rfl, ea⟩ := k.kd.list_of
      have eL := listOf_lst ea
      refine ⟨rfl, fun p hp => ?_⟩
      refine ⟨_, rfl, a, rfl, ⟨xs, SqL.of ((Same.new hp) _ _ ea)⟩, for_list (K := K) (a := a) (xs := xs) (fun i σ Hc => ∃ v3 v4 v5 L, σ = [some (.int n), some (.ref a), some (.ref p), v3, v4, v5] ∧ Same H Hc ∧ Hc p = some (Bs.SO P w p L) ∧ Bs.Tups K Hc L ∧ (∀ q ∈ L, H q.1 = none ∧ Hc q.1 = some (.tup (q.2.map V.int))) ∧
          (L.map (·.2)).Perm ((xs.take i).map fun y => prl (prOf H y)) ∧ OkTies H n (xs.take i))
        ⟨none, none, none, [], rfl, Same.new hp, upd_same, fun q z => (by cases z), fun q z => (by cases z), List.Perm.refl _, ⟨fun y z => (by cases z), List.nodup_nil⟩⟩ (fun i σ Hc _ ⟨_, _, _, _, _, s5, _⟩ => s5.seq (SqL.of ea)) ?_ ?_⟩
      · rintro i y σ Hc hi ⟨v3, v4, v5, L, rfl, s5, hp5, tp, fr, pm, ok⟩
        have hm : y ∈ xs := List.mem_of_getElem? hi
        obtain ⟨u, ky⟩ := k.its xs eL y hm
        have tk : xs.take (i + 1) = xs.take i ++ [y] := by rw [List.take_succ, hi]; rfl
        refine ⟨_, rfl, _, rfl, y, u, n, rfl, ky.ex s5, _, rfl, ?_⟩
        rw [isTie_ex ky s5]
        cases ht : isTie H y n with
        | false =>
          refine iteT ?_
          exact bad Hc s5 fun xs' e o => by
            rw [eL] at e; cases e
            rw [o.all y hm] at ht; cases ht
        | true =>
          refine iteF ?_
          obtain ⟨ey, hty⟩ := isTie_iff ht
          obtain ⟨b, bs, rfl, eb⟩ : ∃ b bs, y = .ref b ∧ H b = some (.tup bs) := by
            cases ky.kd with
            | @tup b bs e => exact ⟨b, bs, rfl, e⟩
            | lst e => rw [tupOf_no (.lst e) (by decide)] at ey; cases ey
            | dct e => rw [tupOf_no (.dct e) (by decide)] at ey; cases ey
            | _ => cases ey
          rw [tupOf_tup eb] at ey
          cases ey
          generalize hpr : prOf H (.ref b) = pr at eb hty
          refine ⟨_, rfl, b, _, rfl, SqT.of (s5 _ _ eb), rfl, _, _, rfl, _, _, rfl, rfl, ?_⟩
          refine ⟨_, rfl, _, rfl, (by show 2 ≤ sizeLine; decide), fun q hq => ?_⟩
          have npq : p ≠ q := ne_of_none hp5 hq
          have keep : ∀ {q' : Addr} {o : HO}, Hc q' = none → Bs.Tups K (upd Hc q' o) L := fun {q' o} hq' z hz => by
            have h1 := tp z hz
            obtain ⟨_, h2⟩ := fr z hz
            rcases h1 with (h1 | ⟨o', h1⟩) | h1
            · exact .inl (.inl (by rw [upd_ne (ne_of_none h1 hq')]; exact h1))
            · exact .inl (.inr ⟨o', by rw [upd_ne (ne_of_none h1 hq')]; exact h1⟩)
            · exact .inr h1
          refine ⟨_, rfl, q, prl pr, p, L, rfl, rfl, SqT.of upd_same, by rw [upd_ne npq]; exact hp5, keep hq, _, rfl, ?_⟩
          rw [Bool.false_xor]
          have inL : prl pr ∈ L.map (·.2) ↔ pr ∈ (xs.take i).map (prOf H) := by
            rw [pm.mem_iff]
            constructor
            · intro z
              obtain ⟨z1, h1, h2⟩ := List.mem_map.mp z
              exact List.mem_map.mpr ⟨z1, h1, prl_inj h2⟩
            · intro z
              obtain ⟨z1, h1, h2⟩ := List.mem_map.mp z
              exact List.mem_map.mpr ⟨z1, h1, congrArg prl h2⟩
          by_cases hin : prl pr ∈ L.map (·.2)
          · rw [decide_eq_true hin]
            refine iteT ?_
            refine bad _ (Same.trans s5 (Same.new hq)) fun xs' e o => ?_
            rw [eL] at e; cases e
            have h1 := inL.mp hin
            have h2 := o.one
            rw [← List.take_append_drop i xs, List.map_append] at h2
            have h3 := (List.nodup_append.mp h2).2.2 pr h1 pr (by
              have : (xs.drop i) = (.ref b) :: xs.drop (i + 1) := by
                have hl := (List.getElem?_eq_some_iff.mp hi)
                rw [List.drop_eq_getElem_cons hl.1, hl.2]
              rw [this, List.map_cons, hpr]
              exact List.mem_cons_self)
            exact h3 rfl
          · rw [decide_eq_false hin]
            refine iteF ?_
            have ok' : OkTies H n (xs.take (i + 1)) := by
              rw [tk]
              refine ⟨fun z hz => ?_, ?_⟩
              · rcases List.mem_append.mp hz with z1 | z1
                · exact ok.all z z1
                · rw [List.mem_singleton.mp z1]; exact ht
              · rw [List.map_append]
                refine List.nodup_append.mpr ⟨ok.one, List.pairwise_singleton _ _, fun a' ha' b' hb' e => ?_⟩
                rw [List.map_singleton, List.mem_singleton] at hb'
                rw [hb', hpr] at e
                rw [e] at ha'
                exact hin (inL.mpr ha')
            have pm' : ∀ (q2 : Addr), ((q2, prl pr) :: L).map (·.2) |>.Perm ((xs.take (i + 1)).map fun y => prl (prOf H y)) := fun q2 => by
              rw [tk, List.map_append, List.map_cons]
              refine List.Perm.trans (List.Perm.cons _ pm) ?_
              rw [List.map_singleton, hpr]
              exact (List.perm_append_singleton _ _).symm
            have len : L.length + 1 < 1200 := by
              have h1 := (pm' 0).length_eq
              rw [List.length_map, List.length_map, List.length_cons] at h1
              have h2 := few_ties hn (ps := (xs.take (i + 1)).map (prOf H)) (fun p hp => by
                obtain ⟨z, hz, rfl⟩ := List.mem_map.mp hp
                exact (isTie_iff (ok'.all z hz)).2) ok'.one
              rw [List.length_map] at h2
              omega
            refine ⟨_, rfl, ⟨p, L, rfl, by rw [upd_ne npq]; exact hp5⟩, ?_⟩
            refine ⟨_, rfl, _, rfl, (by show 2 ≤ sizeLine; decide), fun r hr' => ?_⟩
            have hrc : Hc r = none := by
              by_cases z : r = q
              · rw [z, upd_same] at hr'; cases hr'
              · rw [upd_ne z] at hr'; exact hr'
            have npr : p ≠ r := ne_of_none hp5 hrc
            have nqr : q ≠ r := fun z => by rw [← z, upd_same] at hr'; cases hr'
            have tp2 : Bs.Tups K (upd (upd Hc q (.tup [V.int pr.1, V.int pr.2])) r (.tup [V.int pr.1, V.int pr.2])) L := fun z hz => by
              have h1 := tp z hz
              rcases h1 with (h1 | ⟨o', h1⟩) | h1
              · exact .inl (.inl (by rw [upd_ne (ne_of_none h1 hrc), upd_ne (ne_of_none h1 hq)]; exact h1))
              · exact .inl (.inr ⟨o', by rw [upd_ne (ne_of_none h1 hrc), upd_ne (ne_of_none h1 hq)]; exact h1⟩)
              · exact .inr h1
            refine ⟨p, r, prl pr, L, rfl, rfl, by rw [upd_ne npr, upd_ne npq]; exact hp5, SqT.of upd_same, tp2, len, fun L' _ hL' => ?_⟩
            have pL := hL' hin
            refine ⟨_, _, _, L', rfl, Same.mut (Same.trans (Same.trans s5 (Same.new hq)) (Same.new hr')) hp, upd_same, fun z hz => ?_, fun z hz => ?_, (pL.map (·.2)).trans (pm' r), ok'⟩
            · rcases List.mem_cons.mp (pL.mem_iff.mp hz) with rfl | hz
              · exact SqT.of (by rw [upd_ne npr.symm]; exact upd_same)
              · have np : z.1 ≠ p := fun e => by
                  obtain ⟨_, h2⟩ := fr z hz
                  rw [e, hp5] at h2; cases h2
                rcases tp2 z hz with (h1 | ⟨o', h1⟩) | h1
                · exact .inl (.inl (by rw [upd_ne np]; exact h1))
                · exact .inl (.inr ⟨o', by rw [upd_ne np]; exact h1⟩)
                · exact .inr h1
            · rcases List.mem_cons.mp (pL.mem_iff.mp hz) with rfl | hz
              · exact ⟨s5.free hrc, by rw [upd_ne npr.symm]; exact upd_same⟩
              · obtain ⟨h0, h2⟩ := fr z hz
                have np : z.1 ≠ p := fun e => by rw [e, hp5] at h2; cases h2
                exact ⟨h0, by rw [upd_ne np, upd_ne (ne_of_none h2 hrc), upd_ne (ne_of_none h2 hq)]; exact h2⟩
      · rintro σ Hc ⟨v3, v4, v5, L, rfl, s5, hp5, tp, fr, pm, ok⟩
        rw [List.take_length] at pm ok
        rcases hres with ⟨xs', e, _, q⟩ | ⟨z, _⟩
        · rw [eL] at e; cases e
          have two : ∀ z ∈ L, ∃ pr : Pr, z.2 = prl pr := fun z hz => by
            obtain ⟨y, _, e⟩ := List.mem_map.mp (pm.mem_iff.mp (List.mem_map.mpr ⟨z, hz, rfl⟩))
            exact ⟨_, e.symm⟩
          refine ⟨_, rfl, p, L, rfl, hp5, tp, fun z hz => ?_, fun L' r pL nd pw hr' => ?_⟩
          · obtain ⟨pr, e⟩ := two z hz
            exact ⟨pr.1, pr.2, e⟩
          · have hrH : H r = none := s5.free hr'
            have two' : ∀ z ∈ L', z.2 = prl (z.2.headD 0, z.2.getD 1 0) := fun z hz => by
              obtain ⟨pr, e⟩ := two z (pL.mem_iff.mp hz)
              rw [e]; rfl
            refine q (L'.map fun z => (z.2.headD 0, z.2.getD 1 0)) r _ _ ?_ ?_ hrH (Same.trans s5 (Same.new hr')) upd_same ?_
            · -- the pairs are those
              have h1 : (L'.map (·.2)).Perm (xs.map fun y => prl (prOf H y)) := (pL.map (·.2)).trans pm
              have h2 := h1.map fun l : List Int => (l.headD 0, l.getD 1 0)
              rw [List.map_map, List.map_map] at h2
              exact h2
            · refine List.pairwise_map.mpr ?_
              have nd' : L'.Pairwise fun a b => a.2 ≠ b.2 := List.pairwise_map.mp nd
              refine List.Pairwise.imp_of_mem (fun {a b} ha hb hab => ?_) (pw.and nd')
              obtain ⟨h1, h2⟩ := hab
              have h3 : ¬ plt (b.2.headD 0, b.2.getD 1 0) (a.2.headD 0, a.2.getD 1 0) := SrtO.lexB_no.mp h1
              have h4 : (a.2.headD 0, a.2.getD 1 0) ≠ (b.2.headD 0, b.2.getD 1 0) := fun z => h2 (by rw [two' a ha, two' b hb, z])
              generalize (a.2.headD 0, a.2.getD 1 0) = u at h3 h4 ⊢
              generalize (b.2.headD 0, b.2.getD 1 0) = v at h3 h4 ⊢
              obtain ⟨u1, u2⟩ := u
              obtain ⟨v1, v2⟩ := v
              unfold plt at h3 ⊢
              simp only at h3 ⊢
              have h5 : ¬ (u1 = v1 ∧ u2 = v2) := fun z => h4 (by rw [z.1, z.2])
              omega
            · -- new tuples
              have key : ∀ M : List (Addr × List Int), (∀ z ∈ M, z ∈ L') → NewPrs H (upd Hc r (.lst (L'.map fun z => V.ref z.1))) (M.map fun z => V.ref z.1) (M.map fun z => (z.2.headD 0, z.2.getD 1 0)) := by
                intro M
                induction M with
                | nil => intro _; exact .nil
                | cons z M ih =>
                  intro hM
                  have hz := hM z List.mem_cons_self
                  have hzL := pL.mem_iff.mp hz
                  obtain ⟨h0, h2⟩ := fr z hzL
                  refine .cons ⟨z.1, rfl, h0, ?_⟩ (ih fun y hy => hM y (List.mem_cons_of_mem _ hy))
                  rw [upd_ne (ne_of_none h2 hr')]
                  rw [two' z hz] at h2
                  exact h2
              exact key L' fun z hz => hz
        · exact absurd ok (z xs eL)
    · rw [decide_eq_false ct]
      refine iteT ?_
      exact bad H (Same.refl H) fun xs e => by rw [listOf_no k.kd ct] at e; cases e
end
end Od

namespace Od
open PySem PySem.Spec PyProof.Rows L2
theorem tyes {σ : St} {H : Hp} {Q : Bool → Hp → Prop} (h : Q true H) : tYes σ H Q := h
/-! ### neighbours -/
def nbs (i : Int) (acc : List Int) (p : Pr) : List Int := if p.1 = i then acc ++ [p.2] else if p.2 = i then acc ++ [p.1] else acc
/-- the places beside i, in the order of the ties -/
def nbr (ts : List Pr) (i : Int) : List Int := ts.foldl (nbs i) []
theorem nbr_snoc (ts : List Pr) (p : Pr) (i : Int) : nbr (ts ++ [p]) i = nbs i (nbr ts i) p := by
  unfold nbr; rw [List.foldl_append]; rfl
theorem nbs_len (i : Int) (acc : List Int) (p : Pr) : (nbs i acc p).length ≤ acc.length + 1 := by
  unfold nbs
  by_cases a : p.1 = i
  · rw [if_pos a, List.length_append]; exact Nat.le_refl _
  · rw [if_neg a]
    by_cases b : p.2 = i
    · rw [if_pos b, List.length_append]; exact Nat.le_refl _
    · rw [if_neg b]; exact Nat.le_succ _
theorem nbr_len (i : Int) : ∀ (ts : List Pr) (acc : List Int), (ts.foldl (nbs i) acc).length ≤ acc.length + ts.length
  | [], acc => Nat.le_refl _
  | p :: ts, acc => by
    have h1 := nbr_len i ts (nbs i acc p)
    have h2 := nbs_len i acc p
    rw [List.foldl_cons, List.length_cons]
    omega
/-- us are tuples that stand, the pairs ts -/
def Prs (H : Hp) (us : List V) (ts : List Pr) : Prop := Paired (fun u (p : Pr) => ∃ a, u = V.ref a ∧ H a = some (.tup [.int p.1, .int p.2])) us ts
theorem Prs.ex {H H' : Hp} (e : Same H H') : ∀ {us : List V} {ts : List Pr}, Prs H us ts → Prs H' us ts
  | _, _, .nil => .nil
  | _, _, .cons ⟨a, h1, h2⟩ t => .cons ⟨a, h1, e _ _ h2⟩ (Prs.ex e t)
theorem NewPrs.prs {H H' : Hp} : ∀ {us : List V} {ts : List Pr}, NewPrs H H' us ts → Prs H' us ts
  | _, _, .nil => .nil
  | _, _, .cons ⟨a, h1, _, h2⟩ t => .cons ⟨a, h1, h2⟩ (NewPrs.prs t)
theorem Prs.get {H : Hp} : ∀ {us : List V} {ts : List Pr} {i : Nat} {u : V}, Prs H us ts → us[i]? = some u → ∃ p a, ts[i]? = some p ∧ u = .ref a ∧ H a = some (.tup [.int p.1, .int p.2])
  | _, _, _, _, .nil, e => by simp at e
  | _, _, 0, _, .cons ⟨a, h1, h2⟩ _, e => by
    simp at e; subst e; exact ⟨_, a, rfl, h1, h2⟩
  | _, _, i + 1, u, .cons _ t, e => by
    obtain ⟨p, a, h1, h2, h3⟩ := Prs.get (i := i) t (by simpa using e)
    exact ⟨p, a, by simpa using h1, h2, h3⟩
theorem Prs.len {H : Hp} {us : List V} {ts : List Pr} (h : Prs H us ts) : us.length = ts.length := Paired.length h
/-- at p a list of n lists of ints, all of them new -/
structure RowsAt (H H' : Hp) (p : Addr) (n : Nat) (f : Nat → List Int) (rs : List Addr) : Prop where
  len : rs.length = n
  nd : rs.Nodup
  at_ : H' p = some (.lst (rs.map V.ref))
  new : H p = none
  rnew : ∀ a ∈ rs, H a = none
  row : ∀ i a, rs[i]? = some a → H' a = some (.lst ((f i).map V.int))
theorem RowsAt.ne {H H' : Hp} {p : Addr} {n : Nat} {f : Nat → List Int} {rs : List Addr} (R : RowsAt H H' p n f rs) {a : Addr} (ha : a ∈ rs) : a ≠ p := by
  obtain ⟨i, hi, e⟩ := List.getElem_of_mem ha
  have h1 := R.row i a (by rw [List.getElem?_eq_getElem hi, e])
  intro z
  rw [z, R.at_] at h1
  have h2 := Option.some.inj h1
  injection h2 with h2
  cases rs with
  | nil => cases ha
  | cons b rs =>
    cases hf : f i with
    | nil => rw [hf] at h2; cases h2
    | cons c l => rw [hf] at h2; injection h2 with h3 _; cases h3
/-- one row is made longer -/
theorem RowsAt.set {H H' : Hp} {p : Addr} {n : Nat} {f : Nat → List Int} {rs : List Addr} (R : RowsAt H H' p n f rs) {i : Nat} {a : Addr} (ha : rs[i]? = some a) (x : Int) :
    RowsAt H (upd H' a (.lst ((f i).map V.int ++ [V.int x]))) p n (fun j => if j = i then f i ++ [x] else f j) rs := by
  have hm := List.mem_of_getElem? ha
  refine ⟨R.len, R.nd, by rw [upd_ne (R.ne hm).symm]; exact R.at_, R.new, R.rnew, fun j b hb => ?_⟩
  by_cases c : j = i
  · subst c
    rw [ha] at hb; cases hb
    rw [upd_same, if_pos rfl, List.map_append]; rfl
  · have nab : b ≠ a := fun z => by
      subst z
      have hi := (List.getElem?_eq_some_iff.mp ha)
      have hj := (List.getElem?_eq_some_iff.mp hb)
      have pw := List.pairwise_iff_getElem.mp R.nd
      rcases Nat.lt_trichotomy j i with z | z | z
      · exact pw j i hj.1 hi.1 z (by rw [hj.2, hi.2])
      · exact c z
      · exact pw i j hi.1 hj.1 z (by rw [hj.2, hi.2])
    rw [upd_ne nab, if_neg c]
    exact R.row j b hb
theorem RowsAt.keep {H H' H2 : Hp} {p : Addr} {n : Nat} {f : Nat → List Int} {rs : List Addr} (R : RowsAt H H' p n f rs) (e : Same H' H2) : RowsAt H H2 p n f rs :=
  ⟨R.len, R.nd, e _ _ R.at_, R.new, R.rnew, fun i a h => e _ _ (R.row i a h)⟩
def spNeighbours : Sp := fun vs H Q _ => ∃ (n : Nat) (l : Addr) (us : List V) (ts : List Pr), vs = [.int n, .ref l] ∧ n ≤ 40 ∧ H l = some (.lst us) ∧ Prs H us ts ∧ (∀ p ∈ ts, Tie n p) ∧ ts.length ≤ 1000 ∧
  ∀ p rs H', Same H H' → RowsAt H H' p n (fun i => nbr ts (i : Int)) rs → Q (.ref p) H'
section
variable {P : Program} {w : World} {K : PySem.W.Frag} {mg : Str → Option Value} {c : Cs} {base : Heap}
theorem ok_neighbours (T : Top K mg c) : Fd.Has P w K mg base CX0 1 "neighbours" ["size", "ties"] spNeighbours := by
  refine T.d_neighbours.ok sc_neighbours (fun vs H Q E h => ?_) (fun f cdv A outer s H vs Q E hr h => ?_)
  · obtain ⟨n, l, us, ts, rfl, _⟩ := h; rfl
  · obtain ⟨n, l, us, ts, rfl, hn, hl, hp, ht, hz, q⟩ := h
    refine ⟨_, (pss_cons (ps_setLc (i := 2) (own := [("_", 5)]) (g := gName 5) rfl sc_neighbours.nd rfl rfl (sw_true rfl rfl rfl (by decide +kernel)) (pi_range1 (by rfl) T.n_range (pa_cons (pv 0) pa_nil)) (blkOk_by (own := [("_", 5)]) (N := N_neighbours) (sc := defScope S_neighbours) (by decide +kernel)) (fun _ _ _ _ _ => pg_name (i := 5) sc_neighbours.nd rfl (Or.inl rfl)) (fun _ _ _ _ _ => pts_nil) (fun _ _ _ _ _ => (pe_lst pa_nil)))
      (pss_cons (ps_for PassesOwn.never rfl (pi_list (pv 1)) (pg_tup rfl (pgs_cons (pg_name (i := 3) sc_neighbours.nd rfl (Or.inl rfl)) (pgs_cons (pg_name (i := 4) sc_neighbours.nd rfl (Or.inl rfl)) pgs_nil)))
      (pss_cons (ps_expr (pe_bm PySem.F.plainAttrs_list PySem.F.slot_list_append PySem.F.type_list_append mt_append (pe_ix ix_list (pv 2) (pv 3) (fun _ _ => rfl)) (pa_cons (pv 4) pa_nil)))
        (pss_one (ps_expr (pe_bm PySem.F.plainAttrs_list PySem.F.slot_list_append PySem.F.type_list_append mt_append (pe_ix ix_list (pv 2) (pv 4) (fun _ _ => rfl)) (pa_cons (pv 3) pa_nil))))))
      (pss_one (ps_ret (pv 2))))), ?_⟩
    refine ⟨_, rfl, (n : Int), rfl, by omega, by omega, fun D hD => ?_⟩
    have e0 : ((n : Int)).toNat = n := by simp
    refine lc_range (lo := 0) (n := ((n : Int)).toNat) (fun i Hc => ∃ rs, Same H Hc ∧ RowsAt H Hc D i (fun _ => []) rs) ⟨[], Same.new hD, rfl, List.nodup_nil, upd_same, hD, fun a z => (by cases z), fun i a z => (by simp at z)⟩ ?_ ?_
    · rintro i Hc hi ⟨rs, s5, R⟩
      refine ⟨rfl, tyes (iteT ?_)⟩
      refine ⟨Nat.zero_le _, fun r hr' => ?_⟩
      have nDr : D ≠ r := ne_of_none R.at_ hr'
      refine ⟨_, by rw [upd_ne nDr]; exact R.at_, by rw [List.length_map, R.len, sizeLine_eq]; omega, rs ++ [r], Same.mut (Same.trans s5 (Same.new hr')) hD, by rw [List.length_append, R.len]; rfl, ?_, by rw [upd_same, List.map_append]; rfl, hD, fun a ha => ?_, fun j a ha => ?_⟩
      · refine List.nodup_append.mpr ⟨R.nd, List.pairwise_singleton _ _, fun a ha b hb z => ?_⟩
        rw [List.mem_singleton] at hb
        obtain ⟨j, hj, e⟩ := List.getElem_of_mem ha
        have h1 := R.row j a (by rw [List.getElem?_eq_getElem hj, e])
        rw [z, hb, hr'] at h1; cases h1
      · rcases List.mem_append.mp ha with z | z
        · exact R.rnew a z
        · rw [List.mem_singleton.mp z]; exact s5.free hr'
      · by_cases cj : j < rs.length
        · rw [List.getElem?_append_left cj] at ha
          have h1 := R.row j a ha
          rw [upd_ne (R.ne (List.mem_of_getElem? ha)), upd_ne (ne_of_none h1 hr')]
          exact h1
        · rw [List.getElem?_append_right (by omega)] at ha
          have : a = r := by
            cases hk : j - rs.length with
            | zero => rw [hk] at ha; simp at ha; exact ha.symm
            | succ k => rw [hk] at ha; simp at ha
          rw [this, upd_ne nDr.symm, upd_same]; rfl
    · rintro Hc ⟨rs, s5, R⟩
      rw [e0] at R
      refine ⟨_, rfl, l, rfl, ⟨us, SqL.of (s5 _ _ hl)⟩, for_list (K := K) (a := l) (xs := us) (fun i σ H' => ∃ v3 v4, σ = [some (.int n), some (.ref l), some (.ref D), v3, v4, none] ∧ Same H H' ∧ RowsAt H H' D n (fun j => nbr (ts.take i) (j : Int)) rs)
        ⟨none, none, rfl, s5, R⟩ (fun i σ H' _ ⟨_, _, _, s6, _⟩ => s6.seq (SqL.of hl)) ?_ ?_⟩
      · rintro i y σ H' hi ⟨v3, v4, rfl, s6, R6⟩
        obtain ⟨p, t, hti, rfl, htt⟩ := hp.get hi
        have hmem := List.mem_of_getElem? hti
        obtain ⟨b1, b2, b3⟩ := ht p hmem
        obtain ⟨p1, p2⟩ := p
        simp only at b1 b2 b3 htt
        obtain ⟨x1, rfl⟩ : ∃ x1 : Nat, p1 = (x1 : Int) := ⟨p1.toNat, by omega⟩
        obtain ⟨x2, rfl⟩ : ∃ x2 : Nat, p2 = (x2 : Int) := ⟨p2.toNat, by omega⟩
        have tk : ts.take (i + 1) = ts.take i ++ [((x1 : Int), (x2 : Int))] := by rw [List.take_succ, hti]; rfl
        obtain ⟨a1, ha1⟩ : ∃ a, rs[x1]? = some a := ⟨_, List.getElem?_eq_getElem (by rw [R6.len]; omega)⟩
        obtain ⟨a2, ha2⟩ : ∃ a, rs[x2]? = some a := ⟨_, List.getElem?_eq_getElem (by rw [R6.len]; omega)⟩
        have g1 : (rs.map V.ref)[x1]? = some (V.ref a1) := by rw [List.getElem?_map, ha1]; rfl
        have g2 : (rs.map V.ref)[x2]? = some (V.ref a2) := by rw [List.getElem?_map, ha2]; rfl
        have r1 := R6.row x1 a1 ha1
        have small : ∀ k (l' : List Pr), l'.length ≤ 1000 → ((nbr l' k).map V.int).length < sizeLine := fun k l' hl' => by
          have := nbr_len k l' []
          rw [List.length_map, sizeLine_eq]
          unfold nbr
          simp only [List.length_nil] at this
          omega
        have lt : (ts.take i).length ≤ 1000 := by rw [List.length_take]; omega
        refine ⟨t, _, rfl, SqT.of (s6 _ _ htt), rfl, _, _, rfl, _, _, rfl, rfl, ?_⟩
        refine ⟨_, rfl, _, rfl, D, _, _, _, rfl, rfl, SqL.of R6.at_, atI_nat g1, .inl ⟨rfl, _, SqL.of r1⟩, _, rfl, a1, _, _, rfl, rfl, r1, small _ _ lt, ?_⟩
        have R7 := R6.set ha1 (x2 : Int)
        have r2 := R7.row x2 a2 ha2
        have ne12 : x2 ≠ x1 := by omega
        simp only [if_neg ne12] at r2
        refine ⟨_, rfl, _, rfl, D, _, _, _, rfl, rfl, SqL.of R7.at_, atI_nat g2, .inl ⟨rfl, _, SqL.of r2⟩, _, rfl, a2, _, _, rfl, rfl, r2, small _ _ lt, ?_⟩
        have R8 := R7.set ha2 (x1 : Int)
        simp only [if_neg ne12] at R8
        have n1 := R6.rnew a1 (List.mem_of_getElem? ha1)
        have n2 := R6.rnew a2 (List.mem_of_getElem? ha2)
        refine ⟨_, _, rfl, Same.mut (Same.mut s6 n1) n2, ?_⟩
        have ef : (fun j : Nat => nbr (ts.take (i + 1)) (j : Int)) = (fun j : Nat => if j = x2 then nbr (ts.take i) (x2 : Int) ++ [(x1 : Int)] else if j = x1 then nbr (ts.take i) (x1 : Int) ++ [(x2 : Int)] else nbr (ts.take i) (j : Int)) := by
          funext j
          rw [tk, nbr_snoc]
          unfold nbs
          simp only
          by_cases c2 : j = x2
          · subst c2
            rw [if_neg (by omega), if_pos rfl, if_pos rfl]
          · rw [if_neg c2]
            by_cases c1 : j = x1
            · subst c1; rw [if_pos rfl, if_pos rfl]
            · rw [if_neg (by omega), if_neg (by omega), if_neg c1]
        rw [ef]
        exact R8
      · rintro σ H' ⟨v3, v4, rfl, s6, R6⟩
        rw [hp.len, List.take_length] at R6
        exact ⟨_, rfl, q D rs H' s6 R6⟩
end
end Od

namespace Od
open PySem PySem.Spec PyProof.Rows L2
/-! ### nets -/
theorem f1 : ¬ (("_ties" : Str) = "size") := by decide +kernel
theorem f2 : ¬ (("_near" : Str) = "size") := by decide +kernel
theorem f3 : ¬ (("_near" : Str) = "_ties") := by decide +kernel
theorem f1' : ¬ (("size" : Str) = "_ties") := by decide +kernel
theorem f2' : ¬ (("size" : Str) = "_near") := by decide +kernel
theorem f3' : ¬ (("_ties" : Str) = "_near") := by decide +kernel
abbrev nf1 (n : Int) : List (Str × V) := putF "size" (.int n) []
abbrev nf2 (n : Int) (lt : Addr) : List (Str × V) := putF "_ties" (.ref lt) (nf1 n)
def nf (n : Int) (lt ln : Addr) : List (Str × V) := putF "_near" (.ref ln) (nf2 n lt)
theorem nf1_len (n : Int) : (nf1 n).length < 1000 := by show 1 < 1000; decide
theorem nf2_len (n : Int) (lt : Addr) : (nf2 n lt).length < 1000 := by
  show (if ("size" : Str) = "_ties" then [(("size" : Str), V.ref lt)] else (("size" : Str), V.int n) :: putF "_ties" (V.ref lt) []).length < 1000
  rw [if_neg f1']; show 2 < 1000; decide
theorem nf2_ties (n : Int) (lt : Addr) : (nf2 n lt).lookup ("_ties" : Str) = some (.ref lt) := by rw [lookup_putF, if_pos rfl]
theorem nf_size (n : Int) (lt ln : Addr) : (nf n lt ln).lookup ("size" : Str) = some (.int n) := by
  unfold nf; rw [lookup_putF, if_neg f2', lookup_putF, if_neg f1', lookup_putF, if_pos rfl]
theorem nf_ties (n : Int) (lt ln : Addr) : (nf n lt ln).lookup ("_ties" : Str) = some (.ref lt) := by
  unfold nf; rw [lookup_putF, if_neg f3', lookup_putF, if_pos rfl]
theorem nf_near (n : Int) (lt ln : Addr) : (nf n lt ln).lookup ("_near" : Str) = some (.ref ln) := by
  unfold nf; rw [lookup_putF, if_pos rfl]
theorem nf_no (n : Int) (lt ln : Addr) {m : Str} (h1 : ¬ m = "size") (h2 : ¬ m = "_ties") (h3 : ¬ m = "_near") : (nf n lt ln).lookup m = none := by
  unfold nf; rw [lookup_putF, if_neg h3, lookup_putF, if_neg h2, lookup_putF, if_neg h1]; rfl
/-- a net stands at x -/
structure NetAt (C : Addr) (H : Hp) (x : Addr) (n : Nat) (ts : List Pr) : Prop where
  lo : 1 ≤ n
  hi : n ≤ 40
  tie : ∀ p ∈ ts, Tie n p
  up : ts.Pairwise plt
  at_ : ∃ (dx lt ln : Addr) (us : List V) (rs : List Addr), H x = some (.ins C dx (nf n lt ln)) ∧ H lt = some (.lst us) ∧ Prs H us ts ∧ H ln = some (.lst (rs.map V.ref)) ∧ rs.length = n ∧ ∀ (i : Nat) (a : Addr), rs[i]? = some a → H a = some (.lst ((nbr ts (i : Int)).map V.int))
theorem NetAt.ex {C : Addr} {H H' : Hp} {x : Addr} {n : Nat} {ts : List Pr} (N : NetAt C H x n ts) (e : Same H H') : NetAt C H' x n ts := by
  obtain ⟨dx, lt, ln, us, rs, h1, h2, h3, h4, h5, h6⟩ := N.at_
  exact ⟨N.lo, N.hi, N.tie, N.up, dx, lt, ln, us, rs, e _ _ h1, e _ _ h2, h3.ex e, e _ _ h4, h5, fun i a q => e _ _ (h6 i a q)⟩
theorem plt_irr (p : Pr) : ¬ plt p p := by unfold plt; omega
theorem plt_nodup {ts : List Pr} (h : ts.Pairwise plt) : ts.Nodup := by
  unfold List.Nodup
  exact h.imp fun {a b} h e => by subst e; exact plt_irr a h
theorem NetAt.few {C : Addr} {H : Hp} {x : Addr} {n : Nat} {ts : List Pr} (N : NetAt C H x n ts) : ts.length ≤ 800 :=
  few_ties (n := (n : Int)) (by have := N.hi; omega) N.tie (plt_nodup N.up)
/-- the new part -/
def newp (H0 H' : Hp) : Hp := fun b => if (H0 b).isSome then none else H' b
theorem newp_same {H0 H' : Hp} : Same (newp H0 H') H' := fun b o h => by
  unfold newp at h
  by_cases c : (H0 b).isSome
  · rw [if_pos c] at h; cases h
  · rw [if_neg c] at h; exact h
theorem newp_at {H0 H' : Hp} {b : Addr} {o : HO} (h0 : H0 b = none) (h : H' b = some o) : newp H0 H' b = some o := by
  unfold newp; rw [h0]; exact h
theorem newp_old {H0 H' : Hp} {b : Addr} {o : HO} (h : H0 b = some o) : newp H0 H' b = none := by
  unfold newp; rw [h]; rfl

theorem NewPrs.newp {H H' : Hp} : ∀ {us : List V} {ts : List Pr}, NewPrs H H' us ts → Prs (newp H H') us ts
  | _, _, .nil => .nil
  | _, _, .cons ⟨a, h1, h0, h2⟩ t => .cons ⟨a, h1, newp_at h0 h2⟩ (NewPrs.newp t)
theorem NewPrs.to {H H' H0 H2 : Hp} (e : Same H0 H) (k : ∀ a o, H a = none → H' a = some o → H2 a = some o) : ∀ {us : List V} {ts : List Pr}, NewPrs H H' us ts → NewPrs H0 H2 us ts
  | _, _, .nil => .nil
  | _, _, .cons ⟨a, h1, h0, h2⟩ t => .cons ⟨a, h1, e.free h0, k a _ h0 h2⟩ (NewPrs.to e k t)
theorem listOf_ex {H H' : Hp} {x : V} {t : Ty} (k : Kd H x t) (e : Same H H') : listOf H' x = listOf H x := by
  cases k with
  | lst h => rw [listOf_lst h, listOf_lst (e _ _ h)]
  | tup h => rw [listOf_no (.tup h) (by decide), listOf_no (.tup (e _ _ h)) (by decide)]
  | dct h => rw [listOf_no (.dct h) (by decide), listOf_no (.dct (e _ _ h)) (by decide)]
  | _ => rfl
theorem prOf_ex {H H' : Hp} {x : V} {t : Ty} (k : Kd H x t) (e : Same H H') : prOf H' x = prOf H x := by
  unfold prOf; rw [tupOf_ex k e]
theorem Kl.ex {H H' : Hp} {x : V} {t : Ty} (k : Kl H x t) (e : Same H H') : Kl H' x t := by
  refine ⟨k.kd.ex e, fun xs h y hy => ?_⟩
  rw [listOf_ex k.kd e] at h
  obtain ⟨u, q⟩ := k.its xs h y hy
  exact ⟨u, q.ex e⟩
theorem prs_ex {H H' : Hp} {xs : List V} (k : ∀ y ∈ xs, ∃ u, Kt H y u) (e : Same H H') : xs.map (prOf H') = xs.map (prOf H) :=
  List.map_congr_left fun y hy => by
    obtain ⟨u, q⟩ := k y hy
    exact prOf_ex q.kd e
theorem okTies_ex {H H' : Hp} {n : Int} {xs : List V} (k : ∀ y ∈ xs, ∃ u, Kt H y u) (e : Same H H') : OkTies H' n xs ↔ OkTies H n xs := by
  constructor
  · intro o
    refine ⟨fun y hy => ?_, by rw [← prs_ex k e]; exact o.one⟩
    obtain ⟨u, q⟩ := k y hy
    rw [← isTie_ex q e]; exact o.all y hy
  · intro o
    refine ⟨fun y hy => ?_, by rw [prs_ex k e]; exact o.one⟩
    obtain ⟨u, q⟩ := k y hy
    rw [isTie_ex q e]; exact o.all y hy
/-- a size and ties that make a net -/
def Good (H : Hp) (sz ties : V) (n : Nat) (ps : List Pr) : Prop := sz = .int n ∧ 1 ≤ n ∧ n ≤ 40 ∧ ∃ xs, listOf H ties = some xs ∧ OkTies H n xs ∧ ps = xs.map (prOf H)
def spInit (C B : Addr) : Sp := fun vs H Q E => ∃ (H0 : Hp) (x dx : Addr) (sz ties : V) (tz t : Ty), vs = [.ref x, sz, ties] ∧ Same H0 H ∧ H0 x = none ∧ H x = some (.ins C dx []) ∧ Kd H0 sz tz ∧ Kl H0 ties t ∧
  ((∃ n ps, Good H0 sz ties n ps ∧ ∀ ts H', ts.Perm ps → Same H0 H' → NetAt C (newp H0 H') x n ts → Q .non H') ∨ ((∀ n ps, ¬ Good H0 sz ties n ps) ∧ ∀ H', Same H0 H' → E (.ref B) none H'))
section
variable {P : Program} {w : World} {K : PySem.W.Frag} {mg : Str → Option Value} {c : Cs} {base : Heap}
theorem ok_init (T : Top K mg c) : Fd.IHas P w K mg base (L2N.CX P w) 6 c.Net ["self", "size", "ties"] (spInit c.Net c.BadNet) := by
  have G_is_number : Fd.Has P w K mg base CX0 1 "is_number" ["thing"] spNumber := ok_is_number T
  have G_rising_ties : Fd.Has P w K mg base (L2N.CX P w) 4 "rising_ties" ["size", "ties"] (spRising c.BadNet) := ok_rising_ties T
  have G_neighbours : Fd.Has P w K mg base CX0 1 "neighbours" ["size", "ties"] spNeighbours := ok_neighbours T
  obtain ⟨tk40, hk_MOST_PLACES⟩ := T.k_MOST_PLACES
  refine T.d_Net___init__.okN sc_Net___init__ (fun vs H Q E h => ?_) (fun f cdv A outer s H vs Q E hr h => ?_)
  · obtain ⟨H0, x, dx, sz, ties, tz, t, rfl, _⟩ := h; rfl
  · obtain ⟨H0, x, dx, sz, ties, tz, t, rfl, s0, x0, hx, kz, kt, hres⟩ := h
    have hr_is_number := hr.mono (show 1 ≤ 5 by decide)
    have hr_neighbours := hr.mono (show 1 ≤ 5 by decide)
    have hr_rising_ties := hr.mono (show 4 ≤ 5 by decide)
    refine ⟨_, (pss_cons (ps_if (PW.pt (pw_or (pt_not (pt_val (Fd.pe_f G_is_number hr_is_number (by rfl) (pa_cons (pv 1) pa_nil)))) (pw_or1 (pt_not (pt_chain op_le op_le pe_int (pv 1) (pe_glob (v := .int 40) (by rfl) hk_MOST_PLACES ⟨_, rfl⟩))))))
      (pss_one (L2N.ps_raise rfl (L2N.takes_of rfl rfl rfl rfl) (L2N.pmk_own PySem.F.excBase_ValueError T.e_BadNet.x T.e_BadNet.c T.e_BadNet.p (raises_own T.e_BadNet.b T.e_BadNet.t) (by rfl))))
      pss_nil)
      (pss_cons (ps_fld (pv 0) (pv 1) rfl)
      (pss_cons (ps_fld (pv 0) (Fd.pe_fN G_rising_ties hr_rising_ties (by rfl) (L2N.passes_call (L2N.takes_of rfl rfl rfl rfl) fun _ _ _ _ h => h) (pa_cons (pv 1) (pa_cons (pv 2) pa_nil))) rfl)
      (pss_one (ps_fld (pv 0) (Fd.pe_f G_neighbours hr_neighbours (by rfl) (pa_cons (pv 1) (pa_cons (pe_fld (pv 0) rfl) pa_nil))) rfl))))), ?_⟩
    have bad : ∀ H', Same H0 H' → (∀ n ps, ¬ Good H0 sz ties n ps) → E (.ref c.BadNet) none H' := fun H' s5 z => by
      rcases hres with ⟨n, ps, g, _⟩ | ⟨_, q⟩
      · exact absurd g (z n ps)
      · exact q H' s5
    refine ⟨sz, rfl, sz, tz, rfl, kz.ex s0, _, rfl, ?_⟩
    by_cases ci : ∃ i, sz = .int i
    · obtain ⟨i, rfl⟩ := ci
      refine iteF ⟨_, rfl, 1, i, rfl, rfl, _, rfl, ?_⟩
      by_cases c1 : (1 : Int) ≤ i
      · rw [decide_eq_true c1]
        refine iteT ⟨i, 40, rfl, rfl, _, rfl, ?_⟩
        by_cases c2 : i ≤ 40
        · rw [decide_eq_true c2]
          refine iteF ?_
          obtain ⟨n, rfl⟩ : ∃ n : Nat, i = (n : Int) := ⟨i.toNat, by omega⟩
          have s1 : Same H0 (upd H x (.ins c.Net dx (putF "size" (.int (n : Int)) []))) := Same.mut s0 x0
          refine ⟨_, rfl, _, rfl, x, c.Net, dx, [], rfl, hx, T.cl_Net, T.a_Net_size, (by show 0 < 1000; decide), ?_⟩
          refine ⟨_, rfl, _, rfl, (n : Int), ties, t, rfl, c2, kt.ex s1, ?_⟩
          have ek := fun (xs : List V) (e : listOf H0 ties = some xs) => okTies_ex (n := (n : Int)) (kt.its xs e) s1
          have el : listOf (upd H x (.ins c.Net dx (putF "size" (.int (n : Int)) []))) ties = listOf H0 ties := listOf_ex kt.kd s1
          by_cases cg : ∃ xs, listOf H0 ties = some xs ∧ OkTies H0 n xs
          · obtain ⟨xs, e, ok⟩ := cg
            refine .inl ⟨xs, by rw [el]; exact e, (ek xs e).mpr ok, fun ts lt us H2 pm up hl0 s2 hlt np => ?_⟩
            rw [prs_ex (kt.its xs e) s1] at pm
            have hxlt : x ≠ lt := fun z => by rw [← z, upd_same] at hl0; cases hl0
            have hx2 := s2 x _ upd_same
            have tie : ∀ p ∈ ts, Tie n p := fun p hp => by
              obtain ⟨y, hy, rfl⟩ := List.mem_map.mp (pm.mem_iff.mp hp)
              exact (isTie_iff (ok.all y hy)).2
            have few : ts.length ≤ 800 := few_ties (n := (n : Int)) c2 tie (plt_nodup up)
            refine ⟨_, rfl, x, c.Net, dx, _, rfl, hx2, T.cl_Net, T.a_Net__ties, nf1_len _, ?_⟩
            have s3 : Same (newp (upd H x (.ins c.Net dx (putF "size" (.int (n : Int)) []))) H2) (upd H2 x (.ins c.Net dx (nf2 n lt))) := Same.mut newp_same (newp_old upd_same)
            have hus := np.newp.ex s3
            refine ⟨_, rfl, ⟨_, rfl, x, c.Net, dx, _, _, rfl, upd_same, T.cl_Net, T.a_Net__ties, nf2_ties _ _, n, lt, us, ts, rfl, by omega, by rw [upd_ne hxlt.symm]; exact hlt, hus, tie, by omega, fun p rs H4 s4 R => ?_⟩⟩
            have hx4 := s4 x _ upd_same
            refine ⟨_, rfl, x, c.Net, dx, _, rfl, hx4, T.cl_Net, T.a_Net__near, nf2_len _ _, ?_⟩
            have s03 : Same H0 (upd H2 x (.ins c.Net dx (nf2 n lt))) := Same.mut (Same.trans s1 s2) x0
            have s05 : Same H0 (upd H4 x (.ins c.Net dx (nf n lt p))) := Same.mut (Same.trans s03 s4) x0
            have far : ∀ {b : Addr} {o : HO}, b ≠ x → H2 b = some o → (upd H4 x (.ins c.Net dx (nf n lt p))) b = some o := fun {b o} hb e => by
              rw [upd_ne hb]
              exact s4 b o (by rw [upd_ne hb]; exact e)
            rcases hres with ⟨n', ps, g, q⟩ | ⟨z, _⟩
            · obtain ⟨e1, _, _, xs', e2, _, rfl⟩ := g
              injection e1 with e1
              obtain rfl : n = n' := by omega
              rw [e] at e2; cases e2
              have px : p ≠ x := fun z => by
                have h1 := R.new
                rw [z, upd_same] at h1; cases h1
              refine q ts _ pm s05 ⟨by omega, by omega, tie, up, dx, lt, p, us, rs, newp_at x0 upd_same, newp_at (s1.free hl0) (far hxlt.symm hlt), ?_, newp_at (s03.free R.new) (by rw [upd_ne px]; exact R.at_), R.len, fun i a hi => ?_⟩
              · exact (np.to (H0 := H0) (H2 := upd H4 x (.ins c.Net dx (nf n lt p))) s1 fun a o h0 h2 => far (fun z => by rw [z, upd_same] at h0; cases h0) h2).newp
              · have hn := R.rnew a (List.mem_of_getElem? hi)
                have ax : a ≠ x := fun z => by rw [z, upd_same] at hn; cases hn
                exact newp_at (s03.free hn) (by rw [upd_ne ax]; exact R.row i a hi)
            · exact absurd ⟨rfl, by omega, by omega, xs, e, ok, rfl⟩ (z n _)
          · refine .inr ⟨fun xs e o => cg ?_, fun H' s2 => bad H' (Same.trans s1 s2) fun n' ps g => ?_⟩
            · rw [el] at e
              exact ⟨xs, e, (ek xs e).mp o⟩
            · obtain ⟨e, _, _, xs, e1, o, _⟩ := g
              injection e with e
              obtain rfl : n = n' := by omega
              exact cg ⟨xs, e1, o⟩
        · rw [decide_eq_false c2]
          refine iteT ?_
          exact bad H s0 fun n ps g => by
            obtain ⟨e, _, g2, _⟩ := g
            injection e with e; omega
      · rw [decide_eq_false c1]
        refine iteF ⟨_, rfl, ?_⟩
        refine iteT ?_
        exact bad H s0 fun n ps g => by
          obtain ⟨e, g1, _, _⟩ := g
          injection e with e; omega
    · have e : isInt sz = false := by
        cases sz with
        | int i => exact absurd ⟨i, rfl⟩ ci
        | _ => rfl
      rw [e]
      refine iteT ?_
      exact bad H s0 fun n ps g => ci ⟨n, g.1⟩
end
end Od

namespace Od
open PySem PySem.Spec PyProof.Rows L2
theorem len40 {n : Nat} (h : n ≤ 1000) : n ≤ sizeLine := Nat.le_of_lt (small1000 h)
def spTies (C : Addr) : Sp := fun vs H Q _ => ∃ (x : Addr) (n : Nat) (ts : List Pr), vs = [.ref x] ∧ NetAt C H x n ts ∧ ∀ p us, H p = none → Prs H us ts → Q (.ref p) (upd H p (.lst us))
def spBeside (C B : Addr) : Sp := fun vs H Q E => ∃ (x : Addr) (n : Nat) (ts : List Pr) (y : V) (t : Ty), vs = [.ref x, y] ∧ NetAt C H x n ts ∧ Kd H y t ∧
  (∀ i : Nat, y = .int i → i < n → ∀ p, H p = none → Q (.ref p) (upd H p (.lst ((nbr ts (i : Int)).map V.int)))) ∧ (isPl y n = false → E (.ref B) none H)
section
variable {P : Program} {w : World} {K : PySem.W.Frag} {mg : Str → Option Value} {c : Cs} {base : Heap}
theorem ok_ties (T : Top K mg c) : Fd.MHas P w K mg base CX0 1 c.Net "ties" ["self"] (spTies c.Net) := by
  refine T.d_Net_ties.ok sc_Net_ties (fun vs H Q E h => ?_) (fun f cdv A outer s H vs Q E hr h => ?_)
  · obtain ⟨x, n, ts, rfl, _⟩ := h; rfl
  · obtain ⟨x, n, ts, rfl, N, q⟩ := h
    obtain ⟨dx, lt, ln, us, rs, h1, h2, h3, h4, h5, h6⟩ := N.at_
    refine ⟨_, (pss_one (ps_ret (pe_callTy call_list_of (by rfl) T.n_list boot_list (pa_cons (pe_fld (pv 0) rfl) pa_nil)))), ?_⟩
    exact ⟨_, rfl, x, c.Net, dx, _, _, rfl, h1, T.cl_Net, T.a_Net__ties, nf_ties _ _ _, lt, us, rfl, .inl (SqL.of h2), fun p hp => q p us hp h3⟩
theorem ok_beside (T : Top K mg c) : Fd.MHas P w K mg base (L2N.CX P w) 3 c.Net "beside" ["self", "place"] (spBeside c.Net c.NoPlace) := by
  have G_is_place : Fd.Has P w K mg base CX0 2 "is_place" ["thing", "size"] spPlace := ok_is_place T
  refine T.d_Net_beside.okN sc_Net_beside (fun vs H Q E h => ?_) (fun f cdv A outer s H vs Q E hr h => ?_)
  · obtain ⟨x, n, ts, y, t, rfl, _⟩ := h; rfl
  · obtain ⟨x, n, ts, y, t, rfl, N, ky, q1, q2⟩ := h
    obtain ⟨dx, lt, ln, us, rs, h1, h2, h3, h4, h5, h6⟩ := N.at_
    have hr_is_place := hr
    refine ⟨_, (pss_cons (ps_if (pt_not (pt_val (Fd.pe_f G_is_place hr_is_place (by rfl) (pa_cons (pv 1) (pa_cons (pe_fld (pv 0) rfl) pa_nil)))))
      (pss_one (L2N.ps_raise rfl (L2N.takes_of rfl rfl rfl rfl) (L2N.pmk_own PySem.F.excBase_ValueError T.e_NoPlace.x T.e_NoPlace.c T.e_NoPlace.p (raises_own T.e_NoPlace.b T.e_NoPlace.t) (by rfl))))
      pss_nil)
      (pss_one (ps_ret (pe_callTy call_list_of (by rfl) T.n_list boot_list (pa_cons (pe_ix ix_list (pe_fld (pv 0) rfl) (pv 1) (fun _ _ => rfl)) pa_nil))))), ?_⟩
    refine ⟨_, rfl, _, rfl, x, c.Net, dx, _, _, rfl, h1, T.cl_Net, T.a_Net_size, nf_size _ _ _, y, t, (n : Int), rfl, ky, _, rfl, ?_⟩
    cases hp : isPl y n with
    | false => exact iteT (q2 hp)
    | true =>
      refine iteF ?_
      obtain ⟨i, rfl, a, b⟩ := isPl_int hp
      obtain ⟨j, rfl⟩ : ∃ j : Nat, i = (j : Int) := ⟨i.toNat, by omega⟩
      obtain ⟨r, hri⟩ : ∃ r, rs[j]? = some r := ⟨_, List.getElem?_eq_getElem (by rw [h5]; omega)⟩
      have g : (rs.map V.ref)[j]? = some (V.ref r) := by rw [List.getElem?_map, hri]; rfl
      exact ⟨_, rfl, x, c.Net, dx, _, _, rfl, h1, T.cl_Net, T.a_Net__near, nf_near _ _ _, _, rfl, ln, _, _, _, rfl, rfl, SqL.of h4, atI_nat g, r, _, rfl, .inl (SqL.of (h6 j r hri)), fun p hp' => q1 j rfl (by omega) p hp'⟩
end

/-! ### the law's own words -/
/-- a cell of the script -/
def cell (ns : List Int) (k : Int) : Int := ns.getD k.toNat 0
def spCell (K : PySem.W.Frag) : Sp := fun vs H Q _ => ∃ (a : Addr) (ns : List Int) (k : Int), vs = [.ref a, .int k] ∧ SqL K H a (ns.map V.int) ∧ 0 ≤ k ∧ Q (.int (cell ns k)) H
section
variable {P : Program} {w : World} {K : PySem.W.Frag} {mg : Str → Option Value} {c : Cs} {base : Heap}
theorem ok_cell (T : Top K mg c) : Fd.Has P w K mg base CX0 1 "_law_cell_at" ["_law_script", "_law_k"] (spCell K) := by
  refine T.d__law_cell_at.ok sc__law_cell_at (fun vs H Q E h => ?_) (fun f cdv A outer s H vs Q E hr h => ?_)
  · obtain ⟨a, ns, k, rfl, _⟩ := h; rfl
  · obtain ⟨a, ns, k, rfl, hs, h0, q⟩ := h
    refine ⟨_, (pss_cons (ps_if (pt_cmpR op_lt (pv 1) (pe_callB call_len_seq (by rfl) T.n_len boot_len (pa_cons (pv 0) pa_nil)) (nomark _))
      (pss_one (ps_ret (pe_ix ix_list (pv 0) (pv 1) (fun _ _ => rfl))))
      pss_nil)
      (pss_one (ps_ret pe_int))), ?_⟩
    refine ⟨_, rfl, _, rfl, a, _, rfl, .inl hs, k, _, rfl, rfl, _, rfl, ?_⟩
    rw [List.length_map]
    by_cases hk : k < (ns.length : Int)
    · rw [decide_eq_true hk]
      refine iteT ?_
      have hl : k.toNat < ns.length := by omega
      have g : (ns.map V.int)[k.toNat]? = some (V.int (cell ns k)) := by
        rw [List.getElem?_map, List.getElem?_eq_getElem hl]
        unfold cell
        rw [List.getD_eq_getElem?_getD, List.getElem?_eq_getElem hl]; rfl
      have e : ((k.toNat : Nat) : Int) = k := by omega
      have g2 := atI_nat g
      rw [e] at g2
      exact ⟨_, rfl, _, rfl, a, _, _, _, rfl, rfl, hs, g2, q⟩
    · rw [decide_eq_false hk]
      refine iteF ?_
      have e : cell ns k = 0 := by
        unfold cell
        rw [List.getD_eq_getElem?_getD, List.getElem?_eq_none (by omega)]; rfl
      rw [e] at q
      exact q
def tied (kind cl one other size : Int) : Bool :=
  if kind = 0 then decide (cl % 3 = 0)
  else if kind = 1 then decide (other = one + 1) || (decide (one = 0) && decide (other = size - 1)) || decide (cl % 11 = 0)
  else if kind = 2 then decide ((one + other) % 2 = 1) && decide (cl % 2 = 0)
  else if kind = 3 then (decide (one < 2) && decide (0 < cl % 3)) || (decide (1 < one) && decide ((one - 2) / 3 = (other - 2) / 3))
  else decide (0 < cl % 4)
def spTied : Sp := fun vs H Q _ => ∃ kind cl one other size : Int, vs = [.int kind, .int cl, .int one, .int other, .int size] ∧ Q (.bl (tied kind cl one other size)) H
theorem vint {a b : Int} : decide (V.int a = V.int b) = decide (a = b) := by
  by_cases h : a = b
  · subst h; rw [decide_eq_true rfl, decide_eq_true rfl]
  · rw [decide_eq_false h, decide_eq_false fun z => h (by injection z)]
theorem ok_tied (T : Top K mg c) : Fd.Has P w K mg base CX0 1 "_law_tied" ["_law_kind", "_law_cell", "_law_one", "_law_other", "_law_size"] spTied := by
  refine T.d__law_tied.ok sc__law_tied (fun vs H Q E h => ?_) (fun f cdv A outer s H vs Q E hr h => ?_)
  · obtain ⟨a, b, cc, d, e, rfl, _⟩ := h; rfl
  · obtain ⟨kind, cl, one, other, size, rfl, q⟩ := h
    refine ⟨_, (pss_cons (ps_if (pt_cmpR op_eq (pv 0) pe_int (nomark _))
      (pss_one (ps_ret (pe_cmpR op_eq (pe_op op_mod (pv 1) pe_int) pe_int (nomark _))))
      pss_nil)
      (pss_cons (ps_if (pt_cmpR op_eq (pv 0) pe_int (nomark _))
      (pss_one (ps_ret (pe_or (pe_cmpR op_eq (pv 3) (pe_op op_add (pv 2) pe_int) (nomark _)) (pe_or (pe_and (pe_cmpR op_eq (pv 2) pe_int (nomark _)) (pe_one (pe_cmpR op_eq (pv 3) (pe_op op_sub (pv 4) pe_int) (nomark _)))) (pe_one (pe_cmpR op_eq (pe_op op_mod (pv 1) pe_int) pe_int (nomark _)))))))
      pss_nil)
      (pss_cons (ps_if (pt_cmpR op_eq (pv 0) pe_int (nomark _))
      (pss_one (ps_ret (pe_and (pe_cmpR op_eq (pe_op op_mod (pe_op op_add (pv 2) (pv 3)) pe_int) pe_int (nomark _)) (pe_one (pe_cmpR op_eq (pe_op op_mod (pv 1) pe_int) pe_int (nomark _))))))
      pss_nil)
      (pss_cons (ps_if (pt_cmpR op_eq (pv 0) pe_int (nomark _))
      (pss_one (ps_ret (pe_or (pe_and (pe_cmpR op_lt (pv 2) pe_int (nomark _)) (pe_one (pe_cmpR op_gt (pe_op op_mod (pv 1) pe_int) pe_int (nomark _)))) (pe_one (pe_and (pe_cmpR op_gt (pv 2) pe_int (nomark _)) (pe_one (pe_cmpR op_eq (pe_op op_fdiv (pe_op op_sub (pv 2) pe_int) pe_int) (pe_op op_fdiv (pe_op op_sub (pv 3) pe_int) pe_int) (nomark _))))))))
      pss_nil)
      (pss_one (ps_ret (pe_cmpR op_gt (pe_op op_mod (pv 1) pe_int) pe_int (nomark _)))))))), ?_⟩
    unfold tied at q
    refine ⟨_, rfl, rfl, _, rfl, ?_⟩
    rw [vint]
    by_cases k0 : kind = 0
    · rw [decide_eq_true k0]
      rw [if_pos k0] at q
      refine iteT ⟨_, rfl, _, _, rfl, rfl, (by show (0 : Int) < 3; decide), rfl, ?_⟩
      rw [vint]; exact q
    rw [decide_eq_false k0]
    rw [if_neg k0] at q
    refine iteF ⟨_, rfl, rfl, _, rfl, ?_⟩
    rw [vint]
    by_cases k1 : kind = 1
    · rw [decide_eq_true k1]
      rw [if_pos k1] at q
      refine iteT ⟨_, rfl, _, rfl, _, _, rfl, rfl, rfl, _, rfl, ?_⟩
      rw [vint]
      by_cases a1 : other = one + 1
      · rw [decide_eq_true a1] at q ⊢
        exact iteT q
      rw [decide_eq_false a1] at q ⊢
      refine iteF ⟨_, rfl, rfl, _, rfl, ?_⟩
      rw [vint]
      by_cases a2 : one = 0
      · rw [decide_eq_true a2] at q ⊢
        refine iteT ⟨_, rfl, _, rfl, _, _, rfl, rfl, rfl, _, rfl, ?_⟩
        rw [vint]
        by_cases a3 : other = size - 1
        · rw [decide_eq_true a3] at q ⊢
          exact iteT q
        rw [decide_eq_false a3] at q ⊢
        refine iteF ⟨_, rfl, _, _, rfl, rfl, (by show (0 : Int) < 11; decide), rfl, ?_⟩
        rw [vint]; exact q
      rw [decide_eq_false a2] at q ⊢
      refine iteF ⟨_, rfl, ?_⟩
      refine iteF ⟨_, rfl, _, _, rfl, rfl, (by show (0 : Int) < 11; decide), rfl, ?_⟩
      rw [vint]; exact q
    rw [decide_eq_false k1]
    rw [if_neg k1] at q
    refine iteF ⟨_, rfl, rfl, _, rfl, ?_⟩
    rw [vint]
    by_cases k2 : kind = 2
    · rw [decide_eq_true k2]
      rw [if_pos k2] at q
      refine iteT ⟨_, rfl, _, rfl, _, _, rfl, rfl, _, _, rfl, rfl, (by show (0 : Int) < 2; decide), rfl, _, rfl, ?_⟩
      rw [vint]
      by_cases a1 : (one + other) % 2 = 1
      · rw [decide_eq_true a1] at q ⊢
        refine iteT ⟨_, rfl, _, _, rfl, rfl, (by show (0 : Int) < 2; decide), rfl, ?_⟩
        rw [vint]; exact q
      · rw [decide_eq_false a1] at q ⊢
        exact iteF q
    rw [decide_eq_false k2]
    rw [if_neg k2] at q
    refine iteF ⟨_, rfl, rfl, _, rfl, ?_⟩
    rw [vint]
    by_cases k3 : kind = 3
    · rw [decide_eq_true k3]
      rw [if_pos k3] at q
      have second : Q (.bl (decide (1 < one) && decide ((one - 2) / 3 = (other - 2) / 3))) H → tAndV (tOp (rI0 fun i j => .bl (decide (j < i))) (tVar 2) (tC (.int 1))) (tOp rEq (tOp (rI CDiv fun i j => .int (i / j)) (tOp (rI0 fun i j => .int (i - j)) (tVar 2) (tC (.int 2))) (tC (.int 3))) (tOp (rI CDiv fun i j => .int (i / j)) (tOp (rI0 fun i j => .int (i - j)) (tVar 3) (tC (.int 2))) (tC (.int 3)))) (start N__law_tied [.int kind, .int cl, .int one, .int other, .int size]) H Q := fun q => by
        refine ⟨_, rfl, _, _, rfl, rfl, _, rfl, ?_⟩
        by_cases a3 : (1 : Int) < one
        · rw [decide_eq_true a3] at q ⊢
          refine iteT ⟨_, rfl, _, _, rfl, rfl, _, _, rfl, rfl, ⟨by decide, by decide⟩, _, rfl, _, _, rfl, rfl, _, _, rfl, rfl, ⟨by decide, by decide⟩, rfl, ?_⟩
          rw [vint]; exact q
        · rw [decide_eq_false a3] at q ⊢
          exact iteF q
      refine iteT ⟨_, rfl, _, _, rfl, rfl, _, rfl, ?_⟩
      by_cases a1 : one < 2
      · rw [decide_eq_true a1] at q ⊢
        refine iteT ⟨_, rfl, _, _, rfl, rfl, (by show (0 : Int) < 3; decide), _, _, rfl, rfl, _, rfl, ?_⟩
        by_cases a2 : 0 < cl % 3
        · rw [decide_eq_true a2] at q ⊢
          exact iteT q
        · rw [decide_eq_false a2] at q ⊢
          exact iteF (second q)
      · rw [decide_eq_false a1] at q ⊢
        refine iteF ⟨_, rfl, ?_⟩
        exact iteF (second q)
    rw [decide_eq_false k3]
    rw [if_neg k3] at q
    refine iteF ⟨_, rfl, _, _, rfl, rfl, (by show (0 : Int) < 4; decide), _, _, rfl, rfl, q⟩
end
end Od

namespace Od
open PySem PySem.Spec PyProof.Rows L2
/-! ### the drawn net -/
def drawn (ns : List Int) (one other : Int) : Int := cell ns (3 + (other * (other - 1) / 2 + one) % 24) + (other * (other - 1) / 2 + one) / 24 * 7919
def tcond (ns : List Int) (size kind one other : Int) : Bool := tied kind ((drawn ns one other).fdiv (1 + one % 3)) one other size
def tin (ns : List Int) (size kind one : Int) : Nat → List Pr
  | 0 => []
  | k + 1 => tin ns size kind one k ++ (if tcond ns size kind one (one + 1 + (k : Int)) = true then [(one, one + 1 + (k : Int))] else [])
def tout (ns : List Int) (size kind : Int) : Nat → List Pr
  | 0 => []
  | i + 1 => tout ns size kind i ++ tin ns size kind (i : Int) (size - ((i : Int) + 1)).toNat
def tiesBy (ns : List Int) (size kind : Int) : List Pr := tout ns size kind size.toNat
theorem tin_mem {ns : List Int} {size kind one : Int} : ∀ {k : Nat} {p : Pr}, p ∈ tin ns size kind one k → p.1 = one ∧ one + 1 ≤ p.2 ∧ p.2 < one + 1 + (k : Int)
  | 0, p, h => by cases h
  | k + 1, p, h => by
    unfold tin at h
    rcases List.mem_append.mp h with z | z
    · have := tin_mem z; omega
    · by_cases c : tcond ns size kind one (one + 1 + (k : Int)) = true
      · rw [if_pos c, List.mem_singleton] at z
        subst z
        refine ⟨rfl, ?_, ?_⟩
        · show one + 1 ≤ one + 1 + (k : Int); omega
        · show one + 1 + (k : Int) < one + 1 + ((k + 1 : Nat) : Int); omega
      · rw [if_neg c] at z; cases z
theorem tin_up {ns : List Int} {size kind one : Int} : ∀ (k : Nat), (tin ns size kind one k).Pairwise plt
  | 0 => List.Pairwise.nil
  | k + 1 => by
    unfold tin
    refine List.pairwise_append.mpr ⟨tin_up k, ?_, fun a ha b hb => ?_⟩
    · by_cases c : tcond ns size kind one (one + 1 + (k : Int)) = true
      · rw [if_pos c]; exact List.pairwise_singleton _ _
      · rw [if_neg c]; exact List.Pairwise.nil
    · by_cases c : tcond ns size kind one (one + 1 + (k : Int)) = true
      · rw [if_pos c, List.mem_singleton] at hb
        subst hb
        exact .inr ⟨(tin_mem ha).1, (tin_mem ha).2.2⟩
      · rw [if_neg c] at hb; cases hb
theorem tout_mem {ns : List Int} {size kind : Int} : ∀ {i : Nat} {p : Pr}, p ∈ tout ns size kind i → 0 ≤ p.1 ∧ p.1 < (i : Int) ∧ p.1 < p.2 ∧ p.2 < size
  | 0, p, h => by cases h
  | i + 1, p, h => by
    unfold tout at h
    rcases List.mem_append.mp h with z | z
    · have := tout_mem z; omega
    · have := tin_mem z; omega
theorem tout_up {ns : List Int} {size kind : Int} : ∀ (i : Nat), (tout ns size kind i).Pairwise plt
  | 0 => List.Pairwise.nil
  | i + 1 => by
    unfold tout
    refine List.pairwise_append.mpr ⟨tout_up i, tin_up _, fun a ha b hb => ?_⟩
    have h1 := tout_mem ha
    have h2 := tin_mem hb
    unfold plt; omega
theorem tiesBy_tie {ns : List Int} {size kind : Int} {p : Pr} (h : p ∈ tiesBy ns size kind) : Tie size p := by
  have := tout_mem h
  exact ⟨this.1, this.2.2.1, this.2.2.2⟩
theorem tiesBy_up (ns : List Int) (size kind : Int) : (tiesBy ns size kind).Pairwise plt := tout_up _
theorem NewPrs.snoc {H H' : Hp} {us : List V} {ts : List Pr} {u : V} {p : Pr} (h : NewPrs H H' us ts) (hu : ∃ a, u = V.ref a ∧ H a = none ∧ H' a = some (.tup [.int p.1, .int p.2])) : NewPrs H H' (us ++ [u]) (ts ++ [p]) := by
  induction h with
  | nil => exact .cons hu .nil
  | cons r _ ih => exact .cons r ih
theorem NewPrs.tups {H H' H2 : Hp} (k : ∀ a xs, H' a = some (.tup xs) → H2 a = some (.tup xs)) : ∀ {us : List V} {ts : List Pr}, NewPrs H H' us ts → NewPrs H H2 us ts
  | _, _, .nil => .nil
  | _, _, .cons ⟨a, h1, h0, h2⟩ t => .cons ⟨a, h1, h0, k a _ h2⟩ (NewPrs.tups k t)
theorem Prs.tups {H H2 : Hp} (k : ∀ a xs, H a = some (.tup xs) → H2 a = some (.tup xs)) : ∀ {us : List V} {ts : List Pr}, Prs H us ts → Prs H2 us ts
  | _, _, .nil => .nil
  | _, _, .cons ⟨a, h1, h2⟩ t => .cons ⟨a, h1, k a _ h2⟩ (Prs.tups k t)
theorem NewPrs.len {H H' : Hp} {us : List V} {ts : List Pr} (h : NewPrs H H' us ts) : us.length = ts.length := Paired.length h
def spTiesBy (K : PySem.W.Frag) : Sp := fun vs H Q _ => ∃ (a : Addr) (ns : List Int) (size kind : Int), vs = [.ref a, .int size, .int kind] ∧ SqL K H a (ns.map V.int) ∧ 0 ≤ size ∧ size ≤ 40 ∧
  ∀ p us H', H p = none → Same H H' → H' p = some (.lst us) → NewPrs H H' us (tiesBy ns size kind) → Q (.ref p) H'
section
variable {P : Program} {w : World} {K : PySem.W.Frag} {mg : Str → Option Value} {c : Cs} {base : Heap}
theorem ok_ties_by (T : Top K mg c) : Fd.Has P w K mg base CX0 2 "_law_ties_by" ["_law_script", "_law_size", "_law_kind"] (spTiesBy K) := by
  have G__law_cell_at : Fd.Has P w K mg base CX0 1 "_law_cell_at" ["_law_script", "_law_k"] (spCell K) := ok_cell T
  have G__law_tied : Fd.Has P w K mg base CX0 1 "_law_tied" ["_law_kind", "_law_cell", "_law_one", "_law_other", "_law_size"] spTied := ok_tied T
  refine T.d__law_ties_by.ok sc__law_ties_by (fun vs H Q E h => ?_) (fun f cdv A outer s H vs Q E hr h => ?_)
  · obtain ⟨a, ns, size, kind, rfl, _⟩ := h; rfl
  · obtain ⟨a, ns, size, kind, rfl, hs, h0, h40, q⟩ := h
    have hr__law_cell_at := hr
    have hr__law_tied := hr
    refine ⟨_, (pss_cons (ps_set (i := 3) sc__law_ties_by.nd rfl (Or.inl rfl) (pe_lst pa_nil))
      (pss_cons (ps_for PassesOwn.never rfl (pi_range1 (by rfl) T.n_range (pa_cons (pv 1) pa_nil)) (pg_name (i := 4) sc__law_ties_by.nd rfl (Or.inl rfl))
      (pss_one (ps_for PassesOwn.never rfl (pi_range2 (by rfl) T.n_range (pa_cons (pe_op op_add (pv 4) pe_int) (pa_cons (pv 1) pa_nil))) (pg_name (i := 5) sc__law_ties_by.nd rfl (Or.inl rfl))
        (pss_cons (ps_set (i := 6) sc__law_ties_by.nd rfl (Or.inl rfl) (pe_op op_add (pe_op op_fdiv (pe_op op_mul (pv 5) (pe_op op_sub (pv 5) pe_int)) pe_int) (pv 4)))
          (pss_cons (ps_set (i := 7) sc__law_ties_by.nd rfl (Or.inl rfl) (pe_op op_add (Fd.pe_f G__law_cell_at hr__law_cell_at (by rfl) (pa_cons (pv 0) (pa_cons (pe_op op_add pe_int (pe_op op_mod (pv 6) pe_int)) pa_nil))) (pe_op op_mul (pe_op op_fdiv (pv 6) pe_int) pe_int)))
          (pss_one (ps_if (pt_val (Fd.pe_f G__law_tied hr__law_tied (by rfl) (pa_cons (pv 2) (pa_cons (pe_op op_fdivN (pv 7) (pe_op op_add pe_int (pe_op op_mod (pv 4) pe_int))) (pa_cons (pv 4) (pa_cons (pv 5) (pa_cons (pv 1) pa_nil)))))))
          (pss_one (ps_expr (pe_bm PySem.F.plainAttrs_list PySem.F.slot_list_append PySem.F.type_list_append mt_append (pv 3) (pa_cons (pe_tup (pa_cons (pv 4) (pa_cons (pv 5) pa_nil))) pa_nil))))
          pss_nil)))))))
      (pss_one (ps_ret (pv 3))))), ?_⟩
    refine ⟨Nat.zero_le _, fun p hp => ?_⟩
    refine ⟨_, rfl, size, rfl, by omega, by omega, for_range (lo := 0) (n := size.toNat) (fun i σ H' => ∃ v4 v5 v6 v7 us, σ = [some (.ref a), some (.int size), some (.int kind), some (.ref p), v4, v5, v6, v7] ∧ Same H H' ∧ H' p = some (.lst us) ∧ NewPrs H H' us (tout ns size kind i))
      ⟨none, none, none, none, [], rfl, Same.new hp, upd_same, .nil⟩ ?_ ?_⟩
    · rintro i σ H' hi ⟨v4, v5, v6, v7, us, rfl, s5, h5, np⟩
      rw [show (0 : Int) + (i : Int) = (i : Int) from Int.zero_add _]
      refine ⟨_, rfl, _, _, rfl, rfl, _, rfl, _, size, rfl, ⟨by omega, by omega, by omega, by omega⟩, for_range (lo := (i : Int) + 1) (n := (size - ((i : Int) + 1)).toNat) (fun k σ H' => ∃ v5 v6 v7 us, σ = [some (.ref a), some (.int size), some (.int kind), some (.ref p), some (.int (i : Int)), v5, v6, v7] ∧ Same H H' ∧ H' p = some (.lst us) ∧ NewPrs H H' us (tout ns size kind i ++ tin ns size kind (i : Int) k))
        ⟨v5, v6, v7, us, rfl, s5, h5, by rw [show tin ns size kind (i : Int) 0 = [] from rfl, List.append_nil]; exact np⟩ ?_ ?_⟩
      · rintro k σ H2 hk ⟨v5, v6, v7, us2, rfl, s6, h6, np6⟩
        generalize ho : (i : Int) + 1 + (k : Int) = o
        have ob : 0 ≤ o ∧ o < 40 := by omega
        have m0 : 0 ≤ (o * (o - 1) / 2 + (i : Int)) % 24 := Int.emod_nonneg _ (by decide)
        refine ⟨_, rfl, _, rfl, _, _, rfl, rfl, _, _, rfl, rfl, .inl ⟨by omega, by omega⟩, _, _, rfl, rfl, ⟨by decide, by decide⟩, _, rfl, _, _, rfl, rfl, ?_⟩
        have bd : -(2 ^ 64 : Int) < (o * (o - 1) / 2 + (i : Int)) / 24 ∧ (o * (o - 1) / 2 + (i : Int)) / 24 < 2 ^ 64 := by
          have h1 : 0 ≤ o * (o - 1) + 40 := by
            by_cases z : 0 < o
            · have := Int.mul_nonneg (show 0 ≤ o by omega) (show 0 ≤ o - 1 by omega); omega
            · have : o = 0 := by omega
              subst this; decide
          have h2 : o * (o - 1) ≤ 40 * 40 := by
            by_cases z : 0 < o
            · exact Int.mul_le_mul (by omega) (by omega) (by omega) (by decide)
            · have : o = 0 := by omega
              subst this; decide
          omega
        refine ⟨_, rfl, _, rfl, _, _, rfl, rfl, (by show (0 : Int) < 24; decide), _, _, rfl, rfl, a, ns, _, rfl, s6.seq hs, by omega, _, rfl, _, _, rfl, rfl, ⟨by decide, by decide⟩, _, _, rfl, rfl, .inl bd, _, _, rfl, rfl, ?_⟩
        have m3 : 0 ≤ (i : Int) % 3 ∧ (i : Int) % 3 < 3 := ⟨Int.emod_nonneg _ (by decide), Int.emod_lt_of_pos _ (by decide)⟩
        refine ⟨_, rfl, _, rfl, _, rfl, _, _, rfl, rfl, (by show (0 : Int) < 3; decide), _, _, rfl, rfl, _, _, rfl, rfl, ⟨by omega, by omega⟩, _, rfl, _, rfl, _, rfl, _, _, _, _, _, rfl, _, rfl, ?_⟩
        have et : tied kind ((cell ns (3 + (o * (o - 1) / 2 + (i : Int)) % 24) + (o * (o - 1) / 2 + (i : Int)) / 24 * 7919).fdiv (1 + (i : Int) % 3)) (i : Int) o size = tcond ns size kind (i : Int) o := rfl
        rw [et]
        have en : tin ns size kind (i : Int) (k + 1) = tin ns size kind (i : Int) k ++ (if tcond ns size kind (i : Int) o = true then [((i : Int), o)] else []) := by rw [← ho]; rfl
        cases hc : tcond ns size kind (i : Int) o with
        | false =>
          refine iteF ⟨_, _, _, us2, rfl, s6, h6, ?_⟩
          rw [en, hc, if_neg Bool.false_ne_true, List.append_nil]; exact np6
        | true =>
          refine iteT ⟨_, rfl, .inl ⟨rfl, _, SqL.of h6⟩, _, rfl, _, rfl, (by show 2 ≤ sizeLine; decide), fun r hr' => ?_⟩
          have npr : p ≠ r := ne_of_none h6 hr'
          have few : us2.length ≤ 800 := by
            rw [np6.len]
            refine few_ties h40 (fun x hx => ?_) (plt_nodup ?_)
            · rcases List.mem_append.mp hx with z | z
              · have := tout_mem z; exact ⟨this.1, this.2.2.1, this.2.2.2⟩
              · have := tin_mem z
                refine ⟨by omega, by omega, by omega⟩
            · refine List.pairwise_append.mpr ⟨tout_up _, tin_up _, fun x hx y hy => ?_⟩
              have h1 := tout_mem hx
              have h2 := tin_mem hy
              unfold plt; omega
          refine ⟨p, us2, _, rfl, rfl, by rw [upd_ne npr]; exact h6, by rw [sizeLine_eq]; omega, _, _, _, _, rfl, Same.mut (Same.trans s6 (Same.new hr')) hp, upd_same, ?_⟩
          rw [en, hc, if_pos rfl, ← List.append_assoc]
          refine NewPrs.snoc ?_ ⟨r, rfl, s6.free hr', by rw [upd_ne npr.symm]; exact upd_same⟩
          refine np6.tups fun x xs h2 => ?_
          rw [upd_ne (ne_of h2 h6 (fun z => nomatch z)), upd_ne (ne_of_none h2 hr')]; exact h2
      · rintro σ H2 ⟨v5, v6, v7, us2, rfl, s6, h6, np6⟩
        exact ⟨_, _, _, _, us2, rfl, s6, h6, np6⟩
    · rintro σ H' ⟨v4, v5, v6, v7, us, rfl, s5, h5, np⟩
      exact ⟨_, rfl, q p us H' hp s5 h5 np⟩
end
end Od

namespace Od
open PySem PySem.Spec PyProof.Rows L2
def great (ns : List Int) : Bool := decide (cell ns 0 / 11 % 9 = 4)
def netSize (ns : List Int) (b : Int) : Int := if great ns = true then 30 + cell ns 0 / 99 % 11 else if cell ns 0 / 11 % 9 = 6 then 12 + cell ns 0 / 99 % 11 else 1 + cell ns 0 % b
def netKind (ns : List Int) : Int := if great ns = true then 1 + 2 * (cell ns 1 % 5 % 2) else cell ns 1 % 5
def netTies (ns : List Int) (b : Int) : List Pr := tiesBy ns (netSize ns b) (netKind ns)
theorem netSize_bd (ns : List Int) {b : Int} (h1 : 0 < b) (h2 : b ≤ 12) : 1 ≤ netSize ns b ∧ netSize ns b ≤ 40 := by
  unfold netSize
  have a1 := Int.emod_nonneg (cell ns 0 / 99) (show (11 : Int) ≠ 0 by decide)
  have a2 := Int.emod_lt_of_pos (cell ns 0 / 99) (show (0 : Int) < 11 by decide)
  have a3 := Int.emod_nonneg (cell ns 0) (show b ≠ 0 by omega)
  have a4 := Int.emod_lt_of_pos (cell ns 0) h1
  by_cases c1 : great ns = true
  · rw [if_pos c1]; omega
  · rw [if_neg c1]
    by_cases c2 : cell ns 0 / 11 % 9 = 6
    · rw [if_pos c2]; omega
    · rw [if_neg c2]; omega
def spSizeBy (K : PySem.W.Frag) : Sp := fun vs H Q _ => ∃ (a : Addr) (ns : List Int) (b : Int), vs = [.ref a, .int b] ∧ SqL K H a (ns.map V.int) ∧ 0 < b ∧ Q (.int (1 + cell ns 0 % b)) H
def spKindBy (K : PySem.W.Frag) : Sp := fun vs H Q _ => ∃ (a : Addr) (ns : List Int), vs = [.ref a] ∧ SqL K H a (ns.map V.int) ∧ Q (.int (cell ns 1 % 5)) H
def spGreat (K : PySem.W.Frag) : Sp := fun vs H Q _ => ∃ (a : Addr) (ns : List Int), vs = [.ref a] ∧ SqL K H a (ns.map V.int) ∧ Q (.bl (great ns)) H
def spNetBy (K : PySem.W.Frag) : Sp := fun vs H Q _ => ∃ (a : Addr) (ns : List Int) (b : Int), vs = [.ref a, .int b] ∧ SqL K H a (ns.map V.int) ∧ 0 < b ∧ b ≤ 12 ∧
  ∀ t p us H', H p = none → Same H H' → H' p = some (.lst us) → NewPrs H H' us (netTies ns b) → H' t = some (.tup [.int (netSize ns b), .ref p]) → Q (.ref t) H'
def spMixed : Sp := fun vs H Q _ => ∃ (l : Addr) (us : List V) (cl : Int), vs = [.ref l, .int cl] ∧ H l = some (.lst us) ∧ us.length ≤ 1000 ∧ ∀ p ws H', H p = none → Same H H' → H' p = some (.lst ws) → ws.Perm us → Q (.ref p) H'
def spWhole : Sp := fun vs H Q _ => ∃ x t, vs = [x] ∧ Kd H x t ∧ Q (.bl (isInt x)) H
section
variable {P : Program} {w : World} {K : PySem.W.Frag} {mg : Str → Option Value} {c : Cs} {base : Heap}
theorem ok_size_by (T : Top K mg c) : Fd.Has P w K mg base CX0 2 "_law_size_by" ["_law_script", "_law_bound"] (spSizeBy K) := by
  have G__law_cell_at : Fd.Has P w K mg base CX0 1 "_law_cell_at" ["_law_script", "_law_k"] (spCell K) := ok_cell T
  refine T.d__law_size_by.ok sc__law_size_by (fun vs H Q E h => ?_) (fun f cdv A outer s H vs Q E hr h => ?_)
  · obtain ⟨a, ns, b, rfl, _⟩ := h; rfl
  · obtain ⟨a, ns, b, rfl, hs, hb, q⟩ := h
    have hr__law_cell_at := hr
    refine ⟨_, (pss_one (ps_ret (pe_op op_add pe_int (pe_op op_modN (Fd.pe_f G__law_cell_at hr__law_cell_at (by rfl) (pa_cons (pv 0) (pa_cons pe_int pa_nil))) (pv 1))))), ?_⟩
    refine ⟨_, rfl, a, ns, 0, rfl, hs, Int.le_refl 0, _, rfl, _, _, rfl, rfl, (show b ≠ 0 by omega), _, _, rfl, rfl, ?_⟩
    rw [Int.fmod_eq_emod_of_nonneg _ (by omega)]
    exact q
theorem ok_kind_by (T : Top K mg c) : Fd.Has P w K mg base CX0 2 "_law_kind_by" ["_law_script"] (spKindBy K) := by
  have G__law_cell_at : Fd.Has P w K mg base CX0 1 "_law_cell_at" ["_law_script", "_law_k"] (spCell K) := ok_cell T
  refine T.d__law_kind_by.ok sc__law_kind_by (fun vs H Q E h => ?_) (fun f cdv A outer s H vs Q E hr h => ?_)
  · obtain ⟨a, ns, rfl, _⟩ := h; rfl
  · obtain ⟨a, ns, rfl, hs, q⟩ := h
    have hr__law_cell_at := hr
    refine ⟨_, (pss_one (ps_ret (pe_op op_mod (Fd.pe_f G__law_cell_at hr__law_cell_at (by rfl) (pa_cons (pv 0) (pa_cons pe_int pa_nil))) pe_int))), ?_⟩
    exact ⟨_, rfl, a, ns, 1, rfl, hs, by decide, _, _, rfl, rfl, (by show (0 : Int) < 5; decide), q⟩
theorem ok_great (T : Top K mg c) : Fd.Has P w K mg base CX0 2 "_law_great" ["_law_script"] (spGreat K) := by
  have G__law_cell_at : Fd.Has P w K mg base CX0 1 "_law_cell_at" ["_law_script", "_law_k"] (spCell K) := ok_cell T
  refine T.d__law_great.ok sc__law_great (fun vs H Q E h => ?_) (fun f cdv A outer s H vs Q E hr h => ?_)
  · obtain ⟨a, ns, rfl, _⟩ := h; rfl
  · obtain ⟨a, ns, rfl, hs, q⟩ := h
    have hr__law_cell_at := hr
    refine ⟨_, (pss_one (ps_ret (pe_cmpR op_eq (pe_op op_mod (pe_op op_fdiv (Fd.pe_f G__law_cell_at hr__law_cell_at (by rfl) (pa_cons (pv 0) (pa_cons pe_int pa_nil))) pe_int) pe_int) pe_int (nomark _)))), ?_⟩
    refine ⟨_, rfl, a, ns, 0, rfl, hs, by decide, _, _, rfl, rfl, ⟨by decide, by decide⟩, _, _, rfl, rfl, (by show (0 : Int) < 9; decide), rfl, ?_⟩
    rw [vint]; exact q
theorem ok_net_by (T : Top K mg c) : Fd.Has P w K mg base CX0 3 "_law_net_by" ["_law_script", "_law_bound"] (spNetBy K) := by
  have G__law_cell_at : Fd.Has P w K mg base CX0 1 "_law_cell_at" ["_law_script", "_law_k"] (spCell K) := ok_cell T
  have G__law_size_by : Fd.Has P w K mg base CX0 2 "_law_size_by" ["_law_script", "_law_bound"] (spSizeBy K) := ok_size_by T
  have G__law_kind_by : Fd.Has P w K mg base CX0 2 "_law_kind_by" ["_law_script"] (spKindBy K) := ok_kind_by T
  have G__law_great : Fd.Has P w K mg base CX0 2 "_law_great" ["_law_script"] (spGreat K) := ok_great T
  have G__law_ties_by : Fd.Has P w K mg base CX0 2 "_law_ties_by" ["_law_script", "_law_size", "_law_kind"] (spTiesBy K) := ok_ties_by T
  refine T.d__law_net_by.ok sc__law_net_by (fun vs H Q E h => ?_) (fun f cdv A outer s H vs Q E hr h => ?_)
  · obtain ⟨a, ns, b, rfl, _⟩ := h; rfl
  · obtain ⟨a, ns, b, rfl, hs, hb, hb2, q⟩ := h
    have hr__law_size_by := hr
    have hr__law_kind_by := hr
    have hr__law_great := hr
    have hr__law_ties_by := hr
    have hr__law_cell_at := hr.mono (show 1 ≤ 2 by decide)
    refine ⟨_, (pss_cons (ps_set (i := 2) sc__law_net_by.nd rfl (Or.inl rfl) (Fd.pe_f G__law_size_by hr__law_size_by (by rfl) (pa_cons (pv 0) (pa_cons (pv 1) pa_nil))))
      (pss_cons (ps_set (i := 3) sc__law_net_by.nd rfl (Or.inl rfl) (Fd.pe_f G__law_kind_by hr__law_kind_by (by rfl) (pa_cons (pv 0) pa_nil)))
      (pss_cons (ps_if (pt_cmpR op_eq (pe_op op_mod (pe_op op_fdiv (Fd.pe_f G__law_cell_at hr__law_cell_at (by rfl) (pa_cons (pv 0) (pa_cons pe_int pa_nil))) pe_int) pe_int) pe_int (nomark _))
      (pss_one (ps_set (i := 2) sc__law_net_by.nd rfl (Or.inl rfl) (pe_op op_add pe_int (pe_op op_mod (pe_op op_fdiv (Fd.pe_f G__law_cell_at hr__law_cell_at (by rfl) (pa_cons (pv 0) (pa_cons pe_int pa_nil))) pe_int) pe_int))))
      pss_nil)
      (pss_cons (ps_if (pt_val (Fd.pe_f G__law_great hr__law_great (by rfl) (pa_cons (pv 0) pa_nil)))
      (pss_cons (ps_set (i := 2) sc__law_net_by.nd rfl (Or.inl rfl) (pe_op op_add pe_int (pe_op op_mod (pe_op op_fdiv (Fd.pe_f G__law_cell_at hr__law_cell_at (by rfl) (pa_cons (pv 0) (pa_cons pe_int pa_nil))) pe_int) pe_int)))
        (pss_one (ps_set (i := 3) sc__law_net_by.nd rfl (Or.inl rfl) (pe_op op_add pe_int (pe_op op_mul pe_int (pe_op op_mod (pv 3) pe_int))))))
      pss_nil)
      (pss_one (ps_ret (pe_tup (pa_cons (pv 2) (pa_cons (Fd.pe_f G__law_ties_by hr__law_ties_by (by rfl) (pa_cons (pv 0) (pa_cons (pv 2) (pa_cons (pv 3) pa_nil)))) pa_nil))))))))), ?_⟩
    refine ⟨_, rfl, _, rfl, a, ns, b, rfl, hs, hb, ?_⟩
    refine ⟨_, rfl, a, ns, rfl, hs, ?_⟩
    have bd := netSize_bd ns hb hb2
    -- the end, from any size and kind that are the mirror's
    have fin : ∀ sz kd : Int, sz = netSize ns b → kd = netKind ns → tTup (tCons (tVar 2) (tCons (tCall (spTiesBy K) [] E0 (tCons (tVar 0) (tCons (tVar 2) (tCons (tVar 3) tNil)))) tNil)) [some (.ref a), some (.int b), some (.int sz), some (.int kd)] H Q := fun sz kd e1 e2 => by
      subst e1 e2
      refine ⟨_, rfl, _, rfl, _, rfl, _, rfl, a, ns, _, _, rfl, hs, by omega, bd.2, fun p us H' hp s5 h5 np => ⟨(by show 2 ≤ sizeLine; decide), fun t ht => ?_⟩⟩
      have npt : p ≠ t := ne_of_none h5 ht
      refine q t p us _ hp (Same.trans s5 (Same.new ht)) (by rw [upd_ne npt]; exact h5) (np.tups fun x xs h2 => ?_) upd_same
      rw [upd_ne (ne_of_none h2 ht)]; exact h2
    refine ⟨_, rfl, a, ns, 0, rfl, hs, by decide, _, _, rfl, rfl, ⟨by decide, by decide⟩, _, _, rfl, rfl, (by show (0 : Int) < 9; decide), rfl, _, rfl, ?_⟩
    rw [vint]
    by_cases c6 : cell ns 0 / 11 % 9 = 6
    · rw [decide_eq_true c6]
      refine iteT ⟨_, rfl, a, ns, 0, rfl, hs, by decide, _, _, rfl, rfl, ⟨by decide, by decide⟩, _, _, rfl, rfl, (by show (0 : Int) < 11; decide), _, _, rfl, rfl, ?_⟩
      have cg : great ns = false := by unfold great; rw [c6]; rfl
      refine ⟨_, rfl, a, ns, rfl, hs, _, rfl, ?_⟩
      rw [cg]
      refine iteF ?_
      refine fin _ _ ?_ ?_
      · unfold netSize; rw [cg, if_neg Bool.false_ne_true, if_pos c6]
      · unfold netKind; rw [cg, if_neg Bool.false_ne_true]
    · rw [decide_eq_false c6]
      refine iteF ?_
      refine ⟨_, rfl, a, ns, rfl, hs, _, rfl, ?_⟩
      cases cg : great ns with
      | false =>
        refine iteF ?_
        refine fin _ _ ?_ ?_
        · unfold netSize; rw [cg, if_neg Bool.false_ne_true, if_neg c6]
        · unfold netKind; rw [cg, if_neg Bool.false_ne_true]
      | true =>
        refine iteT ⟨_, rfl, a, ns, 0, rfl, hs, by decide, _, _, rfl, rfl, ⟨by decide, by decide⟩, _, _, rfl, rfl, (by show (0 : Int) < 11; decide), _, _, rfl, rfl, ?_⟩
        refine ⟨_, rfl, _, _, rfl, rfl, (by show (0 : Int) < 2; decide), _, _, rfl, rfl, .inl ⟨by decide, by decide⟩, _, _, rfl, rfl, ?_⟩
        refine fin _ _ ?_ ?_
        · unfold netSize; rw [cg, if_pos rfl]
        · unfold netKind; rw [cg, if_pos rfl]
theorem ok_whole (T : Top K mg c) : Fd.Has P w K mg base CX0 1 "_law_whole" ["_law_found"] spWhole := by
  refine T.d__law_whole.ok sc__law_whole (fun vs H Q E h => ?_) (fun f cdv A outer s H vs Q E hr h => ?_)
  · obtain ⟨x, t, rfl, _⟩ := h; rfl
  · obtain ⟨x, t, rfl, k, q⟩ := h
    refine ⟨_, (pss_one (ps_ret (pe_and (pe_callB (r := rIsi K) call_isi (by rfl) T.n_isinstance boot_isinstance (pa_cons (pv 0) (pa_cons (pe_bltn (v := .ty "int") (by rfl) T.n_int boot_int rfl) pa_nil))) (pe_one (pe_not (pe_callB (r := rIsi K) call_isi (by rfl) T.n_isinstance boot_isinstance (pa_cons (pv 0) (pa_cons (pe_bltn (v := .ty "bool") (by rfl) T.n_bool boot_bool rfl) pa_nil)))))))), ?_⟩
    refine ⟨x, rfl, _, _, _, _, _, rfl, ClsV.ty _, k.tyx, kit_ty (kit_int t), _, rfl, ?_⟩
    have hv := k.int_iff
    by_cases c : (t = .int || t = .bool) = true
    · rw [if_pos c]
      refine ⟨x, rfl, _, _, _, _, _, rfl, ClsV.ty _, k.tyx, kit_ty (kit_bool t), _, rfl, ?_⟩
      show Q (.bl (!decide (t = .bool))) H
      have e : (!decide (t = .bool)) = isInt x := by
        rw [← hv]; revert c; cases t <;> simp
      rw [e]; exact q
    · rw [if_neg c]
      show Q (.bl false) H
      have e : false = isInt x := by
        rw [← hv]; revert c; cases t <;> simp
      rw [e]; exact q
end
end Od

namespace Od
open PySem PySem.Spec PyProof.Rows L2
def spSole (K : PySem.W.Frag) (c : Cs) (a : Addr) (cls : Value) (d : Option Addr) : Sp := fun vs H Q _ => vs = [.ref a] ∧ (∃ D, cls = .ref D ∧ d = none ∧ Leaf K c D) ∧ Q (.bl true) H
section
variable {P : Program} {w : World} {K : PySem.W.Frag} {mg : Str → Option Value} {c : Cs} {base : Heap}
theorem cls_ref {C : Addr} : ∀ u, RelV (V.ref C) u → u = Value.ref C := fun _ h => h
theorem b2i (b : Bool) (n : Int) : (V.int (n + (if b then 1 else 0))) = V.int (n + (if b then 1 else 0)) := rfl
end
end Od

namespace Od
open PySem PySem.Spec PyProof.Rows L2
def nbg (k : Int) (p : Pr) : Option Int := if p.1 = k then some p.2 else if p.2 = k then some p.1 else none
theorem nbr_eq (k : Int) : ∀ (ts : List Pr) (acc : List Int), ts.foldl (nbs k) acc = acc ++ ts.filterMap (nbg k)
  | [], acc => by simp
  | p :: ts, acc => by
    rw [List.foldl_cons, nbr_eq k ts]
    unfold nbs nbg
    by_cases a : p.1 = k
    · rw [if_pos a, List.filterMap_cons_some (b := p.2) (by rw [if_pos a]), List.append_assoc]; rfl
    · rw [if_neg a]
      by_cases b : p.2 = k
      · rw [if_pos b, List.filterMap_cons_some (b := p.1) (by rw [if_neg a, if_pos b]), List.append_assoc]; rfl
      · rw [if_neg b, List.filterMap_cons_none (by rw [if_neg a, if_neg b])]
theorem nbr_fm (ts : List Pr) (k : Int) : nbr ts k = ts.filterMap (nbg k) := by unfold nbr; rw [nbr_eq]; rfl
theorem nbr_up {n : Int} {ts : List Pr} (h : ∀ p ∈ ts, Tie n p) (up : ts.Pairwise plt) (k : Int) : (nbr ts k).Pairwise (· < ·) := by
  rw [nbr_fm, List.pairwise_filterMap]
  refine List.Pairwise.imp_of_mem (fun {p q} hp hq hpq x hx y hy => ?_) up
  obtain ⟨a1, a2, a3⟩ := h p hp
  obtain ⟨b1, b2, b3⟩ := h q hq
  unfold plt at hpq
  unfold nbg at hx hy
  by_cases c1 : p.1 = k
  · rw [if_pos c1] at hx; cases hx
    by_cases d1 : q.1 = k
    · rw [if_pos d1] at hy; cases hy; omega
    · rw [if_neg d1] at hy
      by_cases d2 : q.2 = k
      · rw [if_pos d2] at hy; cases hy; omega
      · rw [if_neg d2] at hy; cases hy
  · rw [if_neg c1] at hx
    by_cases c2 : p.2 = k
    · rw [if_pos c2] at hx; cases hx
      by_cases d1 : q.1 = k
      · rw [if_pos d1] at hy; cases hy; omega
      · rw [if_neg d1] at hy
        by_cases d2 : q.2 = k
        · rw [if_pos d2] at hy; cases hy; omega
        · rw [if_neg d2] at hy; cases hy
    · rw [if_neg c2] at hx; cases hx
theorem sorted_one {a b : List Int} (p : a.Perm b) (ha : a.Pairwise (· ≤ ·)) (hb : b.Pairwise (· < ·)) : a = b :=
  List.Perm.eq_of_pairwise (fun x y _ _ h1 h2 => Int.le_antisymm h1 h2) ha (hb.imp fun h => Int.le_of_lt h) p
theorem atMod {xs : List V} {k m : Int} (hm : (xs.length : Int) = m) (h0 : 0 < m) : ∃ v, atI xs (k % m) = some v ∧ v ∈ xs := by
  have a1 := Int.emod_nonneg k (show m ≠ 0 by omega)
  have a2 := Int.emod_lt_of_pos k h0
  have hl : (k % m).toNat < xs.length := by omega
  refine ⟨xs[(k % m).toNat], ?_, List.getElem_mem hl⟩
  have q := atI_nat (List.getElem?_eq_getElem hl)
  rwa [show (((k % m).toNat : Nat) : Int) = k % m by omega] at q
theorem tnx {D : Ends} {σ : St} {H : Hp} (h : D.nx σ H) : tNext D σ H := h
theorem tsq {t u : TS} {D : Ends} {σ : St} {H : Hp} (h : t { D with nx := u D } σ H) : tSeq t u D σ H := h
theorem if_no {t : TT} {u w : TS} {D : Ends} {σ : St} {H : Hp} {R : Hp → Prop} (h : ∀ Q' : Bool → Hp → Prop, (∀ H6, R H6 → Q' false H6) → t σ H Q') (k : ∀ H6, R H6 → w D σ H6) : tIfS t u w D σ H :=
  h _ fun H6 r => by rw [if_neg Bool.false_ne_true]; exact k H6 r

/-! ### parts, as mathematics -/
theorem nbr_mem {n : Int} {ts : List Pr} (h : ∀ p ∈ ts, Tie n p) {k q : Int} : q ∈ nbr ts k ↔ (k, q) ∈ ts ∨ (q, k) ∈ ts := by
  rw [nbr_fm, List.mem_filterMap]
  constructor
  · rintro ⟨⟨a, b⟩, hp, e⟩
    unfold nbg at e
    by_cases c1 : a = k
    · rw [if_pos c1] at e; cases e; subst c1; exact .inl hp
    · rw [if_neg c1] at e
      by_cases c2 : b = k
      · rw [if_pos c2] at e; cases e; subst c2; exact .inr hp
      · rw [if_neg c2] at e; cases e
  · rintro (hp | hp)
    · exact ⟨_, hp, by unfold nbg; rw [if_pos rfl]⟩
    · have t := h _ hp
      have : ¬ q = k := by have := t.2.1; simp only at this; omega
      exact ⟨_, hp, by unfold nbg; rw [if_neg this, if_pos rfl]⟩
theorem nbr_sym {n : Int} {ts : List Pr} (h : ∀ p ∈ ts, Tie n p) {k q : Int} (m : q ∈ nbr ts k) : k ∈ nbr ts q :=
  (nbr_mem h).mpr ((nbr_mem h).mp m).symm
theorem nbr_rng {n : Int} {ts : List Pr} (h : ∀ p ∈ ts, Tie n p) {k q : Int} (m : q ∈ nbr ts k) : 0 ≤ q ∧ q < n := by
  rcases (nbr_mem h).mp m with z | z
  · obtain ⟨a, b, c⟩ := h _ z; simp only at a b c; omega
  · obtain ⟨a, b, c⟩ := h _ z; simp only at a b c; omega
/-- what one comes to from a by open places -/
inductive Rch (nb : Int → List Int) (ok : Int → Prop) (a : Int) : Int → Prop
  | base : Rch nb ok a a
  | step {p q : Int} (h : Rch nb ok a p) (m : q ∈ nb p) (o : ok q) : Rch nb ok a q
theorem Rch.mono {nb : Int → List Int} {ok ok' : Int → Prop} {a p : Int} (h : Rch nb ok a p) (f : ∀ q, ok q → ok' q) : Rch nb ok' a p := by
  induction h with
  | base => exact .base
  | step _ m o ih => exact .step ih m (f _ o)
theorem Rch.ok_of {nb : Int → List Int} {ok : Int → Prop} {a p : Int} (h : Rch nb ok a p) (ha : ok a) : ok p := by
  cases h with
  | base => exact ha
  | step _ _ o => exact o
/-- the state of a search: sl seen, wl waiting, E what is still to be looked at -/
structure DI (nb : Int → List Int) (ok : Int → Prop) (n : Nat) (a : Int) (sl wl : List Int) (E : Int → Int → Prop) : Prop where
  nd : sl.Nodup
  rg : ∀ p ∈ sl, 0 ≤ p ∧ p < (n : Int)
  ini : a ∈ sl
  rch : ∀ p ∈ sl, Rch nb ok a p
  wt : ∀ p ∈ wl, p ∈ sl
  cl : ∀ p ∈ sl, p ∈ wl ∨ ∀ q ∈ nb p, ok q → q ∈ sl ∨ E p q
section
variable {nb : Int → List Int} {ok : Int → Prop} {n : Nat} {a : Int} {sl wl : List Int} {E : Int → Int → Prop}
theorem DI.start (h0 : 0 ≤ a) (h1 : a < (n : Int)) : DI nb ok n a [a] [a] (fun _ _ => False) :=
  ⟨List.pairwise_singleton _ _, fun p hp => by rw [List.mem_singleton.mp hp]; exact ⟨h0, h1⟩, List.mem_singleton.mpr rfl, fun p hp => by rw [List.mem_singleton.mp hp]; exact .base, fun p hp => hp, fun p hp => .inl hp⟩
theorem DI.len (D : DI nb ok n a sl wl E) : sl.length ≤ n := by
  have key := nat_nodup_len (sl.map Int.toNat) (List.range n) ?_ ?_
  · rw [List.length_map, List.length_range] at key; exact key
  · refine List.pairwise_map.mpr (List.Pairwise.imp_of_mem (fun {p q} hp hq ne e => ?_) D.nd)
    have h1 := D.rg p hp
    have h2 := D.rg q hq
    exact ne (by omega)
  · intro x hx
    obtain ⟨p, hp, rfl⟩ := List.mem_map.mp hx
    have h1 := D.rg p hp
    exact List.mem_range.mpr (by omega)
/-- the last one that waits is taken -/
theorem DI.pop (D : DI nb ok n a sl wl (fun _ _ => False)) {y : Int} (hy : wl.getLast? = some y) : DI nb ok n a sl wl.dropLast (fun p q => p = y ∧ q ∈ (nb y).drop 0) := by
  have e : wl = wl.dropLast ++ [y] := by
    cases wl with
    | nil => cases hy
    | cons b l => rw [List.getLast?_eq_some_getLast (by simp)] at hy; cases hy; exact (List.dropLast_concat_getLast (by simp)).symm
  refine ⟨D.nd, D.rg, D.ini, D.rch, fun p hp => D.wt p (List.dropLast_subset _ hp), fun p hp => ?_⟩
  rcases D.cl p hp with h | h
  · rw [e] at h
    rcases List.mem_append.mp h with z | z
    · exact .inl z
    · rw [List.mem_singleton] at z; subst z
      exact .inr fun q hq _ => .inr ⟨rfl, by rw [List.drop_zero]; exact hq⟩
  · exact .inr fun q hq o => (h q hq o).elim .inl False.elim
/-- a neighbour that is open and not seen -/
theorem DI.push {y q : Int} {i : Nat} (D : DI nb ok n a sl wl (fun p z => p = y ∧ z ∈ (nb y).drop i)) (hy : y ∈ sl) (hq : (nb y)[i]? = some q) (hr : 0 ≤ q ∧ q < (n : Int)) (ho : ok q) (hn : q ∉ sl) :
    DI nb ok n a (sl ++ [q]) (wl ++ [q]) (fun p z => p = y ∧ z ∈ (nb y).drop (i + 1)) := by
  have hm := List.mem_of_getElem? hq
  have ed : (nb y).drop i = q :: (nb y).drop (i + 1) := by
    obtain ⟨hi, e⟩ := List.getElem?_eq_some_iff.mp hq
    rw [List.drop_eq_getElem_cons hi, e]
  refine ⟨List.nodup_append.mpr ⟨D.nd, List.pairwise_singleton _ _, fun x hx z hz e => hn (by rw [← List.mem_singleton.mp hz, ← e]; exact hx)⟩, fun p hp => ?_, List.mem_append_left _ D.ini, fun p hp => ?_, fun p hp => ?_, fun p hp => ?_⟩
  · rcases List.mem_append.mp hp with z | z
    · exact D.rg p z
    · rw [List.mem_singleton.mp z]; exact hr
  · rcases List.mem_append.mp hp with z | z
    · exact D.rch p z
    · rw [List.mem_singleton.mp z]; exact .step (D.rch y hy) hm ho
  · rcases List.mem_append.mp hp with z | z
    · exact List.mem_append_left _ (D.wt p z)
    · exact List.mem_append_right _ z
  · rcases List.mem_append.mp hp with z | z
    · rcases D.cl p z with h | h
      · exact .inl (List.mem_append_left _ h)
      · refine .inr fun x hx o => ?_
        rcases h x hx o with h | ⟨e, h⟩
        · exact .inl (List.mem_append_left _ h)
        · rw [ed] at h
          rcases List.mem_cons.mp h with rfl | h
          · exact .inl (List.mem_append_right _ (List.mem_singleton.mpr rfl))
          · exact .inr ⟨e, h⟩
    · exact .inl (List.mem_append_right _ z)
/-- a neighbour that is closed, or seen -/
theorem DI.skip {y q : Int} {i : Nat} (D : DI nb ok n a sl wl (fun p z => p = y ∧ z ∈ (nb y).drop i)) (hq : (nb y)[i]? = some q) (h : ok q → q ∈ sl) :
    DI nb ok n a sl wl (fun p z => p = y ∧ z ∈ (nb y).drop (i + 1)) := by
  have ed : (nb y).drop i = q :: (nb y).drop (i + 1) := by
    obtain ⟨hi, e⟩ := List.getElem?_eq_some_iff.mp hq
    rw [List.drop_eq_getElem_cons hi, e]
  refine ⟨D.nd, D.rg, D.ini, D.rch, D.wt, fun p hp => (D.cl p hp).imp id fun k x hx o => ?_⟩
  rcases k x hx o with z | ⟨e, z⟩
  · exact .inl z
  · rw [ed] at z
    rcases List.mem_cons.mp z with rfl | z
    · exact .inl (h o)
    · exact .inr ⟨e, z⟩
theorem DI.done {y : Int} (D : DI nb ok n a sl wl (fun p z => p = y ∧ z ∈ (nb y).drop (nb y).length)) : DI nb ok n a sl wl (fun _ _ => False) :=
  ⟨D.nd, D.rg, D.ini, D.rch, D.wt, fun p hp => (D.cl p hp).imp id fun k x hx o => (k x hx o).imp id fun z => by
    have z := z.2
    rw [List.drop_length] at z; cases z⟩
theorem DI.fin (D : DI nb ok n a sl [] (fun _ _ => False)) (p : Int) : p ∈ sl ↔ Rch nb ok a p := by
  refine ⟨D.rch p, fun h => ?_⟩
  induction h with
  | base => exact D.ini
  | step _ m o ih =>
    rcases D.cl _ ih with z | z
    · cases z
    · exact (z _ m o).elim id False.elim
end

/-! ### the parts -/
open Classical in
noncomputable def partOf (nb : Int → List Int) (n : Nat) (ok : Int → Prop) (a : Int) : List Int := ((List.range n).map fun i : Nat => (i : Int)).filter fun p => decide (Rch nb ok a p)
open Classical in
/-- the parts by the first i places -/
noncomputable def partsTo (nb : Int → List Int) (n : Nat) (ok : Int → Prop) : Nat → List (List Int)
  | 0 => []
  | i + 1 => if ok (i : Int) ∧ ∀ L ∈ partsTo nb n ok i, (i : Int) ∉ L then partsTo nb n ok i ++ [partOf nb n ok (i : Int)] else partsTo nb n ok i
theorem up_range (n : Nat) : ((List.range n).map fun i : Nat => (i : Int)).Pairwise (· < ·) := by
  refine List.pairwise_map.mpr ?_
  exact List.pairwise_lt_range.imp fun h => by omega
theorem partOf_up (nb : Int → List Int) (n : Nat) (ok : Int → Prop) (a : Int) : (partOf nb n ok a).Pairwise (· < ·) := (up_range n).filter _
section
variable {nb : Int → List Int} {ok ok' : Int → Prop} {n : Nat} {a : Int}
theorem rch_rng (hb : ∀ {k q : Int}, q ∈ nb k → 0 ≤ q ∧ q < (n : Int)) (h0 : 0 ≤ a) (h1 : a < (n : Int)) {p : Int} (h : Rch nb ok a p) : 0 ≤ p ∧ p < (n : Int) := by
  cases h with
  | base => exact ⟨h0, h1⟩
  | step _ m _ => exact hb m
theorem partOf_mem (hb : ∀ {k q : Int}, q ∈ nb k → 0 ≤ q ∧ q < (n : Int)) (h0 : 0 ≤ a) (h1 : a < (n : Int)) {p : Int} : p ∈ partOf nb n ok a ↔ Rch nb ok a p := by
  unfold partOf
  rw [List.mem_filter]
  simp only [decide_eq_true_eq]
  refine ⟨fun h => h.2, fun h => ⟨?_, h⟩⟩
  have r := rch_rng hb h0 h1 h
  exact List.mem_map.mpr ⟨p.toNat, List.mem_range.mpr (by omega), by omega⟩
theorem up_one {A B : List Int} (ha : A.Pairwise (· < ·)) (hb : B.Pairwise (· < ·)) (h : ∀ p, p ∈ A ↔ p ∈ B) : A = B := by
  have na : A.Nodup := ha.imp fun h e => by omega
  have nb : B.Nodup := hb.imp fun h e => by omega
  exact sorted_one ((List.perm_ext_iff_of_nodup na nb).mpr h) (ha.imp fun h => Int.le_of_lt h) hb
theorem partOf_len (nb : Int → List Int) (n : Nat) (ok : Int → Prop) (a : Int) : (partOf nb n ok a).length ≤ n := by
  unfold partOf
  refine Nat.le_trans (List.length_filter_le _ _) ?_
  rw [List.length_map, List.length_range]; exact Nat.le_refl _
theorem partsTo_is {i : Nat} {L : List Int} (h : L ∈ partsTo nb n ok i) : ∃ b : Nat, b < i ∧ ok (b : Int) ∧ L = partOf nb n ok (b : Int) := by
  induction i with
  | zero => cases h
  | succ i ih =>
    unfold partsTo at h
    split at h
    · rename_i c
      rcases List.mem_append.mp h with z | z
      · obtain ⟨b, h1, h2⟩ := ih z; exact ⟨b, by omega, h2⟩
      · rw [List.mem_singleton] at z; exact ⟨i, by omega, c.1, z⟩
    · obtain ⟨b, h1, h2⟩ := ih h; exact ⟨b, by omega, h2⟩
theorem partsTo_len (i : Nat) : (partsTo nb n ok i).length ≤ i := by
  induction i with
  | zero => exact Nat.le_refl _
  | succ i ih =>
    unfold partsTo
    split
    · rw [List.length_append, List.length_singleton]; omega
    · omega
/-- open, and in no earlier part -/
def left (nb : Int → List Int) (n : Nat) (ok : Int → Prop) (i : Nat) (p : Int) : Prop := ok p ∧ ∀ L ∈ partsTo nb n ok i, p ∉ L
theorem rch_left (hb : ∀ {k q : Int}, q ∈ nb k → 0 ≤ q ∧ q < (n : Int)) (hs : ∀ {k q : Int}, q ∈ nb k → k ∈ nb q) {i : Nat} (hi : i ≤ n) (h0 : 0 ≤ a) (h1 : a < (n : Int)) (ha : left nb n ok i a) {p : Int} :
    Rch nb (left nb n ok i) a p ↔ Rch nb ok a p := by
  refine ⟨fun h => h.mono fun q o => o.1, fun h => ?_⟩
  induction h with
  | base => exact .base
  | step h m o ih =>
    rename_i p q
    refine .step ih m ⟨o, fun L hL hq => ?_⟩
    obtain ⟨b, hbi, ob, rfl⟩ := partsTo_is hL
    have b0 : (0 : Int) ≤ (b : Int) := by omega
    have b1 : (b : Int) < (n : Int) := by omega
    have r1 := (partOf_mem hb b0 b1).mp hq
    have lp := ih.ok_of ha
    exact lp.2 _ hL ((partOf_mem hb b0 b1).mpr (.step r1 (hs m) lp.1))
theorem partsTo_pos {i : Nat} {L : List Int} (hi : i ≤ n) (hb : ∀ {k q : Int}, q ∈ nb k → 0 ≤ q ∧ q < (n : Int)) (h : L ∈ partsTo nb n ok i) : 0 < L.length ∧ L.length ≤ n := by
  obtain ⟨b, hbi, ob, rfl⟩ := partsTo_is h
  refine ⟨List.length_pos_of_mem ((partOf_mem (a := (b : Int)) hb (by omega) (by omega)).mpr .base), partOf_len _ _ _ _⟩
end
end Od

namespace Od
open PySem PySem.Spec PyProof.Rows L2
/-! ### lists as data, compared -/
theorem eqvAll_map {α : Type} [DecidableEq α] (f : α → PyData) (h : ∀ x y, PyData.eqv (f x) (f y) = decide (x = y)) : ∀ a b : List α, PyData.eqvAll (a.map f) (b.map f) = decide (a = b)
  | [], [] => by simp [PyData.eqvAll]
  | [], _ :: _ => by simp [PyData.eqvAll]
  | _ :: _, [] => by simp [PyData.eqvAll]
  | x :: a, y :: b => by
    rw [List.map_cons, List.map_cons, PyData.eqvAll, h, eqvAll_map f h a b]
    by_cases c : x = y
    · by_cases d : a = b
      · subst c d; simp
      · rw [decide_eq_false d, decide_eq_false (fun z => d (List.cons.inj z).2), Bool.and_false]
    · rw [decide_eq_false c, decide_eq_false (fun z => c (List.cons.inj z).1), Bool.false_and]
theorem eqv_map {α : Type} [DecidableEq α] (f : α → PyData) (h : ∀ x y, PyData.eqv (f x) (f y) = decide (x = y)) (a b : List α) : PyData.eqv (.list (a.map f)) (.list (b.map f)) = decide (a = b) := by
  rw [PyData.eqv]; exact eqvAll_map f h a b
theorem shapedAll {α : Type} (f : α → PyData) (n : Nat) (h : ∀ x, (f x).canLay0 = true ∧ (f x).depth ≤ n) : ∀ a : List α, PyData.canLayAll0 (a.map f) = true ∧ PyData.depthAll (a.map f) ≤ n
  | [] => ⟨by simp [PyData.canLayAll0], by simp [PyData.depthAll]⟩
  | x :: a => by
    obtain ⟨h1, h2⟩ := shapedAll f n h a
    obtain ⟨h3, h4⟩ := h x
    rw [List.map_cons, PyData.canLayAll0, PyData.depthAll, h1, h3]
    exact ⟨rfl, Nat.max_le.mpr ⟨h4, h2⟩⟩
theorem shaped_map {α : Type} (f : α → PyData) (h : ∀ x, (f x).canLay0 = true ∧ (f x).depth ≤ 60) (a : List α) : SeqAt.shaped (.list (a.map f)) = true := by
  obtain ⟨h1, h2⟩ := shapedAll f 60 h a
  unfold SeqAt.shaped
  rw [PyData.canLay0, h1, PyData.depth, Bool.true_and, decide_eq_true_eq]
  omega
def dP (p : Pr) : PyData := .tuple [.int p.1, .int p.2]
def dPs (ts : List Pr) : PyData := .list (ts.map dP)
def dIs (ns : List Int) : PyData := .list (ns.map PyData.int)
theorem eqv_int (x y : Int) : PyData.eqv (.int x) (.int y) = decide (x = y) := by
  rw [PyData.eqv]; by_cases h : x = y
  · subst h; simp
  · rw [decide_eq_false h]; exact beq_eq_false_iff_ne.mpr h
theorem eqv_dP (p q : Pr) : PyData.eqv (dP p) (dP q) = decide (p = q) := by
  unfold dP
  rw [PyData.eqv, PyData.eqvAll, PyData.eqvAll, PyData.eqvAll, eqv_int, eqv_int, Bool.and_true]
  by_cases h : p = q
  · subst h; simp
  · rw [decide_eq_false h]
    by_cases c : p.1 = q.1
    · rw [decide_eq_false (fun z => h (Prod.ext c z)), Bool.and_false]
    · rw [decide_eq_false c, Bool.false_and]
theorem eqv_dPs (a b : List Pr) : PyData.eqv (dPs a) (dPs b) = decide (a = b) := eqv_map dP eqv_dP a b
theorem eqv_dIs (a b : List Int) : PyData.eqv (dIs a) (dIs b) = decide (a = b) := eqv_map PyData.int eqv_int a b
theorem shaped_dPs (a : List Pr) : SeqAt.shaped (dPs a) = true := shaped_map dP (fun x => ⟨by unfold dP; simp [PyData.canLay0, PyData.canLayAll0], by unfold dP; simp [PyData.depth, PyData.depthAll]⟩) a
theorem shaped_dIs (a : List Int) : SeqAt.shaped (dIs a) = true := shaped_map PyData.int (fun x => ⟨by simp [PyData.canLay0], by simp [PyData.depth]⟩) a
section
variable {K : PySem.W.Frag} {H : Hp}
theorem dpAll_ints : ∀ ns : List Int, DpAll K H (ns.map V.int) (ns.map PyData.int)
  | [] => .nil
  | n :: ns => .cons (.int n) (dpAll_ints ns)
theorem dp_ints {a : Addr} {ns : List Int} (h : SqL K H a (ns.map V.int)) : Dp K H (.ref a) (dIs ns) := .lst h (dpAll_ints ns)
theorem dpAll_prs : ∀ {us : List V} {ts : List Pr}, Prs H us ts → DpAll K H us (ts.map dP)
  | _, _, .nil => .nil
  | _, _, .cons ⟨a, h1, h2⟩ t => by
    subst h1
    exact .cons (.tup (SqT.of h2) (.cons (.int _) (.cons (.int _) .nil))) (dpAll_prs t)
theorem dp_prs {a : Addr} {us : List V} {ts : List Pr} (h : SqL K H a us) (p : Prs H us ts) : Dp K H (.ref a) (dPs ts) := .lst h (dpAll_prs p)
end
end Od

namespace Od
open PySem PySem.Spec PyProof.Rows L2
theorem pairSnoc {α β : Type} {F : α → β → Prop} {xs : List α} {ys : List β} {x : α} {y : β} (h : Paired F xs ys) (r : F x y) : Paired F (xs ++ [x]) (ys ++ [y]) := by
  induction h with
  | nil => exact .cons r .nil
  | cons q _ ih => exact .cons q ih
theorem nf_beside (n : Int) (lt ln : Addr) : (nf n lt ln).lookup ("beside" : Str) = none := nf_no _ _ _ (by decide +kernel) (by decide +kernel) (by decide +kernel)
theorem nf_m_ties (n : Int) (lt ln : Addr) : (nf n lt ln).lookup ("ties" : Str) = none := nf_no _ _ _ (by decide +kernel) (by decide +kernel) (by decide +kernel)
theorem setO_eq {w : World} {p : Addr} {S S' : Int → Bool} {n n' : Nat} (h1 : ∀ j, S j = S' j) (h2 : n = n') : SetO w p S n = SetO w p S' n' := by
  rw [show S = S' from funext h1, h2]
theorem inV_ints (p : Int) : ∀ ms : List Int, inV (.int p) (ms.map V.int) = decide (p ∈ ms)
  | [] => rfl
  | m :: ms => by
    have ih := inV_ints p ms
    unfold inV at ih ⊢
    rw [List.map_cons, List.any_cons, ih]
    have e : eqV (.int m) (.int p) = decide (m = p) := by
      by_cases h : m = p
      · subst h; simp [eqV]
      · simp [eqV, h]
    rw [e]
    by_cases h : m = p
    · subst h; rw [decide_eq_true rfl, decide_eq_true List.mem_cons_self]; rfl
    · rw [decide_eq_false h, Bool.false_or]
      by_cases h2 : p ∈ ms
      · rw [decide_eq_true h2, decide_eq_true (List.mem_cons_of_mem _ h2)]
      · rw [decide_eq_false h2, decide_eq_false]
        intro z
        rcases List.mem_cons.mp z with z | z
        · exact h z.symm
        · exact h2 z
theorem flat_ints (ms : List Int) : (ms.map V.int).all flatV = true := by
  rw [List.all_eq_true]
  intro v hv
  obtain ⟨m, _, rfl⟩ := List.mem_map.mp hv
  rfl
theorem kd_ints {H : Hp} {ms : List Int} : ∀ v ∈ ms.map V.int, ∃ t, Kd H v t := fun v hv => by
  obtain ⟨m, _, rfl⟩ := List.mem_map.mp hv
  exact ⟨_, .int m⟩
theorem all_rep (k : Nat) : (List.replicate k true).all id = true := by
  rw [List.all_eq_true]; intro b hb; exact (List.mem_replicate.mp hb).2
theorem plt_one {a b : List Pr} (p : a.Perm b) (ha : a.Pairwise plt) (hb : b.Pairwise plt) : a = b :=
  List.Perm.eq_of_pairwise (fun x y _ _ h1 h2 => by unfold plt at h1 h2; exact Prod.ext (by omega) (by omega)) ha hb p
theorem kd2 {H : Hp} {a b : V} (ha : ∃ u, Kd H a u) (hb : ∃ u, Kd H b u) : ∀ y ∈ [a, b], ∃ u, Kd H y u := fun y hy => by
  rcases List.mem_cons.mp hy with rfl | hy
  · exact ha
  · rw [List.mem_singleton] at hy; subst hy; exact hb
theorem kt_pr {H : Hp} {a : Addr} {p : Pr} (e : H a = some (.tup [.int p.1, .int p.2])) : Kt H (.ref a) .tuple := by
  refine ⟨.tup e, fun ys q => ?_⟩
  rw [tupOf_tup e] at q; cases q
  exact kd2 ⟨_, .int _⟩ ⟨_, .int _⟩
theorem Prs.kt {H : Hp} {us : List V} {ts : List Pr} (p : Prs H us ts) : ∀ y ∈ us, ∃ u, Kt H y u := fun y hy => by
  obtain ⟨i, hi⟩ := List.getElem?_of_mem hy
  obtain ⟨q, a, _, rfl, e⟩ := p.get hi
  exact ⟨_, kt_pr e⟩
theorem Prs.prOf {H : Hp} : ∀ {us : List V} {ts : List Pr}, Prs H us ts → us.map (prOf H) = ts
  | _, _, .nil => rfl
  | _, _, .cons ⟨a, h1, h2⟩ t => by
    subst h1
    rw [List.map_cons, Prs.prOf t]
    unfold Od.prOf
    rw [tupOf_tup h2]
theorem kl_lst {H : Hp} {a : Addr} {xs : List V} (e : H a = some (.lst xs)) (k : ∀ y ∈ xs, ∃ u, Kt H y u) : Kl H (.ref a) .list := by
  refine ⟨.lst e, fun ys q => ?_⟩
  rw [listOf_lst e] at q; cases q; exact k
/-- the places as keys -/
def mk (sl : List Int) : List (L2.Key × V) := sl.map fun p => (Sum.inl p, V.bl true)
theorem mk_val (q : Int) : ∀ sl : List Int, (valV (mk sl) (Sum.inl q : L2.Key)).isSome = decide (q ∈ sl)
  | [] => rfl
  | p :: sl => by
    show (valV ((Sum.inl p, V.bl true) :: mk sl) (Sum.inl q : L2.Key)).isSome = _
    by_cases e : p = q
    · subst e
      rw [valV_pos (by rfl), decide_eq_true List.mem_cons_self]; rfl
    · rw [valV_neg (by intro z; injection z with z; exact e z), mk_val q sl]
      by_cases m : q ∈ sl
      · rw [decide_eq_true m, decide_eq_true (List.mem_cons_of_mem _ m)]
      · rw [decide_eq_false m, decide_eq_false]
        intro z
        rcases List.mem_cons.mp z with z | z
        · exact e z.symm
        · exact m z
theorem mk_put {sl : List Int} {q : Int} (h : q ∉ sl) : putK (mk sl) (Sum.inl q : L2.Key) (V.bl true) = mk (sl ++ [q]) := by
  have hn : valV (mk sl) (Sum.inl q : L2.Key) = none := by
    have := mk_val q sl
    rw [decide_eq_false h] at this
    cases e : valV (mk sl) (Sum.inl q : L2.Key) with
    | none => rfl
    | some v => rw [e] at this; cases this
  rw [putK_new _ hn]
  unfold mk
  rw [List.map_append]; rfl
theorem mk_len (sl : List Int) : (mk sl).length = sl.length := by unfold mk; rw [List.length_map]
theorem mk_keys (sl : List Int) : (mk sl).map (·.1) = sl.map Sum.inl := by unfold mk; rw [List.map_map]; rfl
end Od

namespace Od
open PySem PySem.Spec PyProof.Rows L2
/-! ### roads -/
/-- the places E, each with its own address, as the entries of a dict -/
def rk (ad : Int → Addr) (E : List Int) : List (L2.Key × V) := E.map fun x => (Sum.inl x, V.ref (ad x))
theorem rk_len (ad : Int → Addr) (E : List Int) : (rk ad E).length = E.length := List.length_map _
theorem rk_val (ad : Int → Addr) (q : Int) : ∀ E : List Int, valV (rk ad E) (Sum.inl q : L2.Key) = if q ∈ E then some (.ref (ad q)) else none
  | [] => rfl
  | p :: E => by
    show valV ((Sum.inl p, V.ref (ad p)) :: rk ad E) (Sum.inl q : L2.Key) = _
    by_cases e : p = q
    · subst e
      rw [valV_pos (by rfl), if_pos List.mem_cons_self]
    · rw [valV_neg (by intro z; injection z with z; exact e z), rk_val ad q E]
      by_cases m : q ∈ E
      · rw [if_pos m, if_pos (List.mem_cons_of_mem _ m)]
      · rw [if_neg m, if_neg fun z => (List.mem_cons.mp z).elim (fun z => e z.symm) m]
theorem rk_put {ad : Int → Addr} {E : List Int} {q : Int} (a : Addr) (h : q ∉ E) : putK (rk ad E) (Sum.inl q : L2.Key) (.ref a) = rk (fun x => if x = q then a else ad x) (E ++ [q]) := by
  have hn : valV (rk ad E) (Sum.inl q : L2.Key) = none := by rw [rk_val, if_neg h]
  rw [putK_new _ hn]
  unfold rk
  rw [List.map_append, List.map_cons, List.map_nil]
  dsimp only
  rw [if_pos rfl]
  congr 1
  refine List.map_congr_left fun x hx => ?_
  rw [if_neg (show ¬ x = q from fun z => h (z ▸ hx))]
theorem rk_merge (af : Int → Addr) : ∀ (F E : List Int) (ad : Int → Addr), F.Nodup → (∀ x ∈ F, x ∉ E) → mergeK (rk ad E) (rk af F) = rk (fun x => if x ∈ F then af x else ad x) (E ++ F)
  | [], E, ad, _, _ => by
    rw [List.append_nil]
    show rk ad E = _
    unfold rk
    refine List.map_congr_left fun x _ => ?_
    dsimp only
    rw [if_neg (by intro z; cases z)]
  | q :: F, E, ad, nd, off => by
    obtain ⟨nq, nF⟩ := List.nodup_cons.mp nd
    show mergeK (putK (rk ad E) (Sum.inl q : L2.Key) (.ref (af q))) (rk af F) = _
    rw [rk_put _ (off q List.mem_cons_self), rk_merge af F (E ++ [q]) _ nF fun x hx z => ?_]
    · rw [List.append_assoc]
      show rk _ (E ++ q :: F) = _
      unfold rk
      refine List.map_congr_left fun x _ => ?_
      dsimp only
      by_cases c : x ∈ F
      · rw [if_pos c, if_pos (List.mem_cons_of_mem _ c)]
      · rw [if_neg c]
        by_cases d : x = q
        · subst d; rw [if_pos rfl, if_pos List.mem_cons_self]
        · rw [if_neg d, if_neg fun z => (List.mem_cons.mp z).elim d c]
    · rcases List.mem_append.mp z with z | z
      · exact off x (List.mem_cons_of_mem _ hx) z
      · exact nq (List.mem_singleton.mp z ▸ hx)
/-- the roads stand at d -/
structure RAt (H : Hp) (d : Addr) (E : List Int) (rd : Int → List Int) (ad : Int → Addr) : Prop where
  kv : H d = some (.dK (rk ad E))
  row : ∀ x ∈ E, H (ad x) = some (.lst ((rd x).map V.int))
theorem RAt.ex {H H' : Hp} {d : Addr} {E : List Int} {rd : Int → List Int} {ad : Int → Addr} (r : RAt H d E rd ad) (e : Same H H') : RAt H' d E rd ad :=
  ⟨e _ _ r.kv, fun x hx => e _ _ (r.row x hx)⟩
theorem RAt.get {H : Hp} {d : Addr} {E : List Int} {rd : Int → List Int} {ad : Int → Addr} (r : RAt H d E rd ad) {q : Int} (h : q ∈ E) : DGet H d (.int q) (some (.ref (ad q))) := by
  have := DGet.k (k := Sum.inl q) r.kv
  rw [rk_val, if_pos h] at this
  exact this
theorem RAt.has {H : Hp} {d : Addr} {E : List Int} {rd : Int → List Int} {ad : Int → Addr} (r : RAt H d E rd ad) (q : Int) : DGet H d (.int q) (if q ∈ E then some (.ref (ad q)) else none) := by
  have := DGet.k (k := Sum.inl q) r.kv
  rw [rk_val] at this
  exact this
theorem isSome_if {q : Int} {E : List Int} {a : Addr} : (if q ∈ E then some (V.ref a) else none).isSome = decide (q ∈ E) := by
  by_cases h : q ∈ E
  · rw [if_pos h, decide_eq_true h]; rfl
  · rw [if_neg h, decide_eq_false h]; rfl
end Od

namespace Od
open PySem PySem.Spec PyProof.Rows L2
/-! ### the tree of trails, as mathematics -/
theorem few_in {n : Nat} {l : List Int} (h : ∀ p ∈ l, 0 ≤ p ∧ p < (n : Int)) (nd : l.Nodup) : l.length ≤ n := by
  have key := nat_nodup_len (l.map Int.toNat) (List.range n) ?_ ?_
  · rw [List.length_map, List.length_range] at key; exact key
  · refine List.pairwise_map.mpr (List.Pairwise.imp_of_mem (fun {p q} hp hq ne e => ?_) nd)
    have h1 := h p hp
    have h2 := h q hq
    exact ne (by omega)
  · intro x hx
    obtain ⟨p, hp, rfl⟩ := List.mem_map.mp hx
    have h1 := h p hp
    exact List.mem_range.mpr (by omega)
/-- D has trails -/
structure Tr (nb : Int → List Int) (n : Nat) (D : List Int) (tr : Int → List Int) : Prop where
  nd : D.Nodup
  rg : ∀ p ∈ D, 0 ≤ p ∧ p < (n : Int)
  pos : ∀ p ∈ D, 0 < (tr p).length
  pre : ∀ p ∈ D, ∀ (i : Nat) (q : Int), (tr p)[i]? = some q → q ∈ D ∧ tr q = (tr p).take (i + 1)
  lst : ∀ p ∈ D, (tr p)[(tr p).length - 1]? = some p
  adj : ∀ p ∈ D, ∀ (i : Nat) (a b : Int), (tr p)[i]? = some a → (tr p)[i + 1]? = some b → b ∈ nb a
  hd : ∀ p ∈ D, ∀ h, (tr p)[0]? = some h → h ≤ p
theorem Tr.congr {nb : Int → List Int} {n : Nat} {D : List Int} {tr tr' : Int → List Int} (t : Tr nb n D tr) (e : ∀ p ∈ D, tr' p = tr p) : Tr nb n D tr' := by
  refine ⟨t.nd, t.rg, fun p hp => ?_, fun p hp i q h => ?_, fun p hp => ?_, fun p hp => ?_, fun p hp => ?_⟩
  · rw [e p hp]; exact t.pos p hp
  · rw [e p hp] at h ⊢
    obtain ⟨h1, h2⟩ := t.pre p hp i q h
    exact ⟨h1, (e q h1).trans h2⟩
  · rw [e p hp]; exact t.lst p hp
  · rw [e p hp]; exact t.adj p hp
  · rw [e p hp]; exact t.hd p hp
/-- a place more -/
theorem Tr.snoc {nb : Int → List Int} {n : Nat} {D : List Int} {tr : Int → List Int} {q : Int} {l : List Int} (t : Tr nb n D tr) (hq : q ∉ D) (rq : 0 ≤ q ∧ q < (n : Int)) (lp : 0 < (l ++ [q]).length)
    (h1 : l = [] ∨ ∃ y ∈ D, l = tr y ∧ q ∈ nb y) (h2 : ∀ h, (l ++ [q])[0]? = some h → h ≤ q) : Tr nb n (D ++ [q]) (fun x => if x = q then l ++ [q] else tr x) := by
  have off : ∀ p ∈ D, (if p = q then l ++ [q] else tr p) = tr p := fun p hp => if_neg (show ¬ p = q from fun z => hq (z ▸ hp))
  have t' := t.congr off
  have inl : ∀ (i : Nat) (z : Int), l[i]? = some z → z ∈ D ∧ tr z = l.take (i + 1) := fun i z hz => by
    rcases h1 with h1 | ⟨y, hy, h1, _⟩
    · rw [h1] at hz; cases hz
    · rw [h1] at hz ⊢; exact t.pre y hy i z hz
  have each : ∀ {R : Int → List Int → Prop}, (∀ p ∈ D, R p (tr p)) → R q (l ++ [q]) → ∀ p ∈ D ++ [q], R p (if p = q then l ++ [q] else tr p) := fun {R} a b p hp => by
    rcases List.mem_append.mp hp with z | z
    · rw [off p z]; exact a p z
    · obtain rfl := List.mem_singleton.mp z
      rw [if_pos rfl]; exact b
  refine ⟨List.nodup_append.mpr ⟨t.nd, List.pairwise_singleton _ _, fun x hx z hz e => hq (by rw [← List.mem_singleton.mp hz, ← e]; exact hx)⟩, fun p hp => ?_, each (R := fun _ L => 0 < L.length) t.pos lp, each (R := fun _ L => ∀ (i : Nat) (z : Int), L[i]? = some z → z ∈ D ++ [q] ∧ (if z = q then l ++ [q] else tr z) = L.take (i + 1)) (fun p hp i z hz => ?_) (fun i z hz => ?_), each (R := fun p L => L[L.length - 1]? = some p) t.lst (by simp), each (R := fun _ L => ∀ (i : Nat) (a b : Int), L[i]? = some a → L[i + 1]? = some b → b ∈ nb a) t.adj (fun i a b ha hb => ?_), each (R := fun p L => ∀ h, L[0]? = some h → h ≤ p) t.hd h2⟩
  · rcases List.mem_append.mp hp with z | z
    · exact t.rg p z
    · rw [List.mem_singleton.mp z]; exact rq
  · obtain ⟨a, b⟩ := t.pre p hp i z hz
    exact ⟨List.mem_append_left _ a, (off z a).trans b⟩
  · by_cases c : i < l.length
    · rw [List.getElem?_append_left c] at hz
      obtain ⟨a, b⟩ := inl i z hz
      refine ⟨List.mem_append_left _ a, ?_⟩
      rw [off z a, b, List.take_append_of_le_length (by omega)]
    · rw [List.getElem?_append_right (by omega)] at hz
      have e0 : i - l.length = 0 := by
        have := (List.getElem?_eq_some_iff.mp hz).1
        rw [List.length_singleton] at this; omega
      rw [e0] at hz
      cases hz
      refine ⟨List.mem_append_right _ (List.mem_singleton.mpr rfl), ?_⟩
      rw [if_pos rfl, List.take_of_length_le]
      rw [List.length_append, List.length_singleton]; omega
  · by_cases c : i + 1 < l.length
    · rw [List.getElem?_append_left c] at hb
      rw [List.getElem?_append_left (by omega)] at ha
      rcases h1 with h1 | ⟨y, hy, h1, _⟩
      · rw [h1] at c; cases c
      · rw [h1] at ha hb; exact t.adj y hy i a b ha hb
    · have il := (List.getElem?_eq_some_iff.mp hb).1
      rw [List.length_append, List.length_singleton] at il
      have ei : i + 1 = l.length := by omega
      rw [List.getElem?_append_right (by omega), ei, Nat.sub_self] at hb
      cases hb
      rw [List.getElem?_append_left (by omega)] at ha
      rcases h1 with h1 | ⟨y, hy, h1, hm⟩
      · rw [h1] at ei; cases ei
      · have := t.lst y hy
        rw [← h1, show l.length - 1 = i by omega, ha] at this
        cases this; exact hm
/-- closed -/
structure Cz (nb : Int → List Int) (n : Nat) (D : List Int) (tr : Int → List Int) (k : Nat) : Prop where
  t : Tr nb n D tr
  low : ∀ i : Nat, i < k → (i : Int) ∈ D
  same : ∀ p ∈ D, ∀ q ∈ nb p, q ∈ D ∧ (tr q)[0]? = (tr p)[0]?
/-- under way: O what was closed before, W what waits, E what is still to be looked at -/
structure Gw (nb : Int → List Int) (n : Nat) (f : Int) (O D W : List Int) (tr : Int → List Int) (E : Int → Int → Prop) : Prop where
  t : Tr nb n D tr
  sub : ∀ p ∈ O, p ∈ D
  low : ∀ p : Int, 0 ≤ p → p < f → p ∈ O
  old : ∀ p ∈ O, ∀ q ∈ nb p, q ∈ O ∧ (tr q)[0]? = (tr p)[0]?
  new : ∀ p ∈ D, p ∉ O → (tr p)[0]? = some f
  ini : f ∈ D
  wt : ∀ p ∈ W, p ∈ D ∧ p ∉ O
  cl : ∀ p ∈ D, p ∉ O → p ∈ W ∨ ∀ q ∈ nb p, q ∈ D ∨ E p q
section
variable {nb : Int → List Int} {n : Nat} {f : Int} {O D W : List Int} {tr : Int → List Int} {E : Int → Int → Prop}
theorem Cz.open_ {k : Nat} (c : Cz nb n D tr k) (hk : k < n) (hf : (k : Int) ∉ D) : Gw nb n k D (D ++ [(k : Int)]) [(k : Int)] (fun x => if x = (k : Int) then [(k : Int)] else tr x) (fun _ _ => False) := by
  have off : ∀ p ∈ D, (if p = (k : Int) then [(k : Int)] else tr p) = tr p := fun p hp => if_neg (show ¬ p = (k : Int) from fun z => hf (z ▸ hp))
  refine ⟨c.t.snoc (l := []) hf ⟨by omega, by omega⟩ (by simp) (.inl rfl) (fun h e => by cases e; exact Int.le_refl _), fun p hp => List.mem_append_left _ hp, fun p h0 h1 => ?_, fun p hp q hq => ?_, fun p hp no => ?_, List.mem_append_right _ (List.mem_singleton.mpr rfl), fun p hp => ?_, fun p hp no => ?_⟩
  · have := c.low p.toNat (by omega)
    rwa [show ((p.toNat : Nat) : Int) = p by omega] at this
  · obtain ⟨a, b⟩ := c.same p hp q hq
    refine ⟨a, ?_⟩
    rw [off p hp, off q a]; exact b
  · rcases List.mem_append.mp hp with z | z
    · exact absurd z no
    · obtain rfl := List.mem_singleton.mp z
      rw [if_pos rfl]; rfl
  · obtain rfl := List.mem_singleton.mp hp
    exact ⟨List.mem_append_right _ hp, hf⟩
  · rcases List.mem_append.mp hp with z | z
    · exact absurd z no
    · exact .inl z
theorem Gw.pop (g : Gw nb n f O D W tr (fun _ _ => False)) {y : Int} (hy : W.getLast? = some y) : Gw nb n f O D W.dropLast tr (fun p q => p = y ∧ q ∈ (nb y).drop 0) := by
  have e : W = W.dropLast ++ [y] := by
    cases W with
    | nil => cases hy
    | cons b l => rw [List.getLast?_eq_some_getLast (by simp)] at hy; cases hy; exact (List.dropLast_concat_getLast (by simp)).symm
  refine ⟨g.t, g.sub, g.low, g.old, g.new, g.ini, fun p hp => g.wt p (List.dropLast_subset _ hp), fun p hp no => ?_⟩
  rcases g.cl p hp no with h | h
  · rw [e] at h
    rcases List.mem_append.mp h with z | z
    · exact .inl z
    · rw [List.mem_singleton] at z; subst z
      exact .inr fun q hq => .inr ⟨rfl, by rw [List.drop_zero]; exact hq⟩
  · exact .inr fun q hq => (h q hq).elim .inl False.elim
theorem Gw.push {y q : Int} {i : Nat} (g : Gw nb n f O D W tr (fun p z => p = y ∧ z ∈ (nb y).drop i)) (hy : y ∈ D ∧ y ∉ O) (hq : (nb y)[i]? = some q) (hr : 0 ≤ q ∧ q < (n : Int)) (hn : q ∉ D) :
    Gw nb n f O (D ++ [q]) (W ++ [q]) (fun x => if x = q then tr y ++ [q] else tr x) (fun p z => p = y ∧ z ∈ (nb y).drop (i + 1)) := by
  have hm := List.mem_of_getElem? hq
  have off : ∀ p ∈ D, (if p = q then tr y ++ [q] else tr p) = tr p := fun p hp => if_neg (show ¬ p = q from fun z => hn (z ▸ hp))
  have ed : (nb y).drop i = q :: (nb y).drop (i + 1) := by
    obtain ⟨hi, e⟩ := List.getElem?_eq_some_iff.mp hq
    rw [List.drop_eq_getElem_cons hi, e]
  have py := g.t.pos y hy.1
  have hy0 : (tr y ++ [q])[0]? = some f := by rw [List.getElem?_append_left py]; exact g.new y hy.1 hy.2
  have qO : q ∉ O := fun z => hn (g.sub q z)
  have fq : f ≤ q := Int.not_lt.mp fun z => qO (g.low q hr.1 z)
  refine ⟨g.t.snoc hn hr (by simp) (.inr ⟨y, hy.1, rfl, hm⟩) (fun h e => by rw [hy0] at e; cases e; exact fq), fun p hp => List.mem_append_left _ (g.sub p hp), g.low, fun p hp z hz => ?_, fun p hp no => ?_, List.mem_append_left _ g.ini, fun p hp => ?_, fun p hp no => ?_⟩
  · obtain ⟨a, b⟩ := g.old p hp z hz
    refine ⟨a, ?_⟩
    rw [off p (g.sub p hp), off z (g.sub z a)]; exact b
  · rcases List.mem_append.mp hp with z | z
    · rw [off p z]; exact g.new p z no
    · obtain rfl := List.mem_singleton.mp z
      rw [if_pos rfl]; exact hy0
  · rcases List.mem_append.mp hp with z | z
    · exact ⟨List.mem_append_left _ (g.wt p z).1, (g.wt p z).2⟩
    · obtain rfl := List.mem_singleton.mp z
      exact ⟨List.mem_append_right _ z, qO⟩
  · rcases List.mem_append.mp hp with z | z
    · rcases g.cl p z no with h | h
      · exact .inl (List.mem_append_left _ h)
      · refine .inr fun x hx => ?_
        rcases h x hx with h | ⟨e, h⟩
        · exact .inl (List.mem_append_left _ h)
        · rw [ed] at h
          rcases List.mem_cons.mp h with rfl | h
          · exact .inl (List.mem_append_right _ (List.mem_singleton.mpr rfl))
          · exact .inr ⟨e, h⟩
    · exact .inl (List.mem_append_right _ z)
theorem Gw.skip {y q : Int} {i : Nat} (g : Gw nb n f O D W tr (fun p z => p = y ∧ z ∈ (nb y).drop i)) (hq : (nb y)[i]? = some q) (h : q ∈ D) : Gw nb n f O D W tr (fun p z => p = y ∧ z ∈ (nb y).drop (i + 1)) := by
  have ed : (nb y).drop i = q :: (nb y).drop (i + 1) := by
    obtain ⟨hi, e⟩ := List.getElem?_eq_some_iff.mp hq
    rw [List.drop_eq_getElem_cons hi, e]
  refine ⟨g.t, g.sub, g.low, g.old, g.new, g.ini, g.wt, fun p hp no => (g.cl p hp no).imp id fun k x hx => ?_⟩
  rcases k x hx with z | ⟨e, z⟩
  · exact .inl z
  · rw [ed] at z
    rcases List.mem_cons.mp z with rfl | z
    · exact .inl h
    · exact .inr ⟨e, z⟩
theorem Gw.done {y : Int} (g : Gw nb n f O D W tr (fun p z => p = y ∧ z ∈ (nb y).drop (nb y).length)) : Gw nb n f O D W tr (fun _ _ => False) :=
  ⟨g.t, g.sub, g.low, g.old, g.new, g.ini, g.wt, fun p hp no => (g.cl p hp no).imp id fun k x hx => (k x hx).imp id fun z => by
    have z := z.2
    rw [List.drop_length] at z; cases z⟩
theorem Gw.fin {k : Nat} (hs : ∀ {a b : Int}, b ∈ nb a → a ∈ nb b) (g : Gw nb n k O D [] tr (fun _ _ => False)) : Cz nb n D tr (k + 1) := by
  refine ⟨g.t, fun i hi => ?_, fun p hp q hq => ?_⟩
  · by_cases e : i = k
    · subst e; exact g.ini
    · exact g.sub _ (g.low (i : Int) (by omega) (by omega))
  · by_cases c : p ∈ O
    · obtain ⟨a, b⟩ := g.old p c q hq
      exact ⟨g.sub q a, b⟩
    · have hqD : q ∈ D := by
        rcases g.cl p hp c with z | z
        · cases z
        · exact (z q hq).elim id False.elim
      have qO : q ∉ O := fun z => c (g.old q z p (hs hq)).1
      exact ⟨hqD, by rw [g.new p hp c, g.new q hqD qO]⟩
theorem Cz.next {k : Nat} (c : Cz nb n D tr k) (h : (k : Int) ∈ D) : Cz nb n D tr (k + 1) :=
  ⟨c.t, fun i hi => by
    by_cases e : i = k
    · subst e; exact h
    · exact c.low i (by omega), c.same⟩
theorem Cz.start : Cz nb n [] tr 0 :=
  ⟨⟨List.nodup_nil, fun p hp => (by cases hp), fun p hp => (by cases hp), fun p hp => (by cases hp), fun p hp => (by cases hp), fun p hp => (by cases hp), fun p hp => (by cases hp)⟩, fun i hi => absurd hi (Nat.not_lt_zero _), fun p hp => (by cases hp)⟩

/-! ### sides and rings -/
theorem Tr.nod (t : Tr nb n D tr) {p : Int} (hp : p ∈ D) : (tr p).Nodup := by
  refine List.pairwise_iff_getElem.mpr fun i j hi hj hij e => ?_
  have h1 : (tr p)[i]? = some (tr p)[j] := by rw [List.getElem?_eq_getElem hi, e]
  have a := (t.pre p hp i _ h1).2
  have b := (t.pre p hp j _ (List.getElem?_eq_getElem hj)).2
  have := congrArg List.length (a.symm.trans b)
  rw [List.length_take, List.length_take] at this
  omega
theorem Tr.few (t : Tr nb n D tr) {p : Int} (hp : p ∈ D) : (tr p).length ≤ n :=
  few_in (fun q hq => by
    obtain ⟨i, hi⟩ := List.getElem?_of_mem hq
    exact t.rg q (t.pre p hp i q hi).1) (t.nod hp)
/-- from p one comes back along its trail -/
theorem Tr.back {ok : Int → Prop} {b : Int} (hs : ∀ {a b : Int}, b ∈ nb a → a ∈ nb b) (hok : ∀ q, ok q) (t : Tr nb n D tr) {p : Int} (hp : p ∈ D) (h : Rch nb ok b p) : ∀ (j : Nat) (q : Int), j < (tr p).length → (tr p)[(tr p).length - 1 - j]? = some q → Rch nb ok b q := by
  intro j
  induction j with
  | zero =>
    intro q hj hq
    rw [Nat.sub_zero, t.lst p hp] at hq; cases hq; exact h
  | succ j ih =>
    intro q hj hq
    obtain ⟨z, hz⟩ : ∃ z, (tr p)[(tr p).length - 1 - j]? = some z := ⟨_, List.getElem?_eq_getElem (by omega)⟩
    have h1 := ih z (by omega) hz
    have h2 := t.adj p hp ((tr p).length - 1 - (j + 1)) q z hq (by rw [show (tr p).length - 1 - (j + 1) + 1 = (tr p).length - 1 - j by omega]; exact hz)
    exact .step h1 (hs h2) (hok q)
/-- the least place of a part has a trail of its own -/
theorem Tr.least {ok : Int → Prop} {b e : Int} (hs : ∀ {a b : Int}, b ∈ nb a → a ∈ nb b) (hok : ∀ q, ok q) (t : Tr nb n D tr) (he : e ∈ D) (h : Rch nb ok b e) (le : ∀ q, Rch nb ok b q → e ≤ q) : (tr e).length = 1 := by
  have pe := t.pos e he
  obtain ⟨z, hz⟩ : ∃ z, (tr e)[0]? = some z := ⟨_, List.getElem?_eq_getElem pe⟩
  have h1 := t.back hs hok he h ((tr e).length - 1) z (by omega) (by rw [show (tr e).length - 1 - ((tr e).length - 1) = 0 by omega]; exact hz)
  have h2 := le z h1
  have h3 := t.hd e he z hz
  obtain rfl : z = e := by omega
  have h4 := congrArg List.length (t.pre z he 0 z hz).2
  rw [List.length_take] at h4; omega
/-- a ring of odd length -/
structure Ring (nb : Int → List Int) (n : Nat) (ms : List Int) : Prop where
  rg : ∀ p ∈ ms, 0 ≤ p ∧ p < (n : Int)
  nd : ms.Nodup
  odd : ms.length % 2 = 1
  big : 3 ≤ ms.length
  go : ∀ (i : Nat) (a b : Int), ms[i]? = some a → ms[i + 1]? = some b → b ∈ nb a
  cyc : ∀ a b, ms[ms.length - 1]? = some a → ms[0]? = some b → b ∈ nb a
/-- two sides -/
structure Sds (nb : Int → List Int) (n : Nat) (cs : List Int) : Prop where
  len : cs.length = n
  two : ∀ c ∈ cs, c = 0 ∨ c = 1
  tie : ∀ a b : Int, 0 ≤ a → b ∈ nb a → cs[a.toNat]? ≠ cs[b.toNat]?
  fst : ∀ (b e : Int), 0 ≤ e → e < (n : Int) → Rch nb (fun _ => True) b e → (∀ q, Rch nb (fun _ => True) b q → e ≤ q) → cs[e.toNat]? = some 0
theorem Ring.none {ms cs : List Int} (r : Ring nb n ms) (s : Sds nb n cs) : False := by
  have at_ : ∀ p ∈ ms, cs[p.toNat]? = some 0 ∨ cs[p.toNat]? = some 1 := fun p hp => by
    have h := r.rg p hp
    have sl := s.len
    obtain ⟨c, hc⟩ : ∃ c, cs[p.toNat]? = some c := ⟨_, List.getElem?_eq_getElem (by omega)⟩
    rw [hc]
    rcases s.two c (List.mem_of_getElem? hc) with z | z
    · exact .inl (by rw [z])
    · exact .inr (by rw [z])
  obtain ⟨a, ha⟩ : ∃ a, ms[0]? = some a := ⟨_, List.getElem?_eq_getElem (by have := r.big; omega)⟩
  have key : ∀ (i : Nat) (b : Int), ms[i]? = some b → (cs[b.toNat]? = cs[a.toNat]? ↔ i % 2 = 0) := by
    intro i
    induction i with
    | zero => intro b hb; rw [ha] at hb; cases hb; exact ⟨fun _ => rfl, fun _ => rfl⟩
    | succ i ih =>
      intro b hb
      obtain ⟨z, hz⟩ : ∃ z, ms[i]? = some z := ⟨_, List.getElem?_eq_getElem (by have := (List.getElem?_eq_some_iff.mp hb).1; omega)⟩
      have h1 := ih z hz
      have h2 := s.tie z b (r.rg z (List.mem_of_getElem? hz)).1 (r.go i z b hz hb)
      have zz := at_ z (List.mem_of_getElem? hz)
      have bb := at_ b (List.mem_of_getElem? hb)
      have aa := at_ a (List.mem_of_getElem? ha)
      rcases zz with z1 | z1 <;> rcases bb with b1 | b1 <;> rcases aa with a1 | a1 <;> rw [z1, a1] at h1 <;> rw [z1, b1] at h2 <;> rw [b1, a1] <;> simp at h1 h2 ⊢ <;> omega
  obtain ⟨b, hb⟩ : ∃ b, ms[ms.length - 1]? = some b := ⟨_, List.getElem?_eq_getElem (by have := r.big; omega)⟩
  have h1 := (key _ b hb).mpr (by have := r.odd; omega)
  exact s.tie b a (r.rg b (List.mem_of_getElem? hb)).1 (r.cyc b a hb ha) h1
end
end Od

namespace Od
open PySem PySem.Spec PyProof.Rows L2
/-! ### the ring that a tie closes -/
theorem filt_pre {P : Int → Bool} : ∀ (l : List Int), (∀ (i j : Nat) (x y : Int), i ≤ j → l[i]? = some x → l[j]? = some y → P y = true → P x = true) → ∀ (i : Nat) (x : Int), l[i]? = some x → (P x = true ↔ i < (l.filter P).length)
  | [], _, i, x, h => by cases h
  | z :: l, dn, i, x, h => by
    have ih := filt_pre (P := P) l fun i j x y le hx hy => dn (i + 1) (j + 1) x y (by omega) hx hy
    by_cases c : P z = true
    · rw [List.filter_cons, if_pos c, List.length_cons]
      match i, h with
      | 0, h => cases h; exact ⟨fun _ => by omega, fun _ => c⟩
      | i + 1, h =>
        have := ih i x h
        rw [this]; omega
    · rw [List.filter_cons, if_neg c]
      have no : ∀ (j : Nat) (y : Int), (z :: l)[j]? = some y → ¬ P y = true := fun j y hy py => c (dn 0 j z y (by omega) rfl hy py)
      have e : l.filter P = [] := List.filter_eq_nil_iff.mpr fun y hy => by
        obtain ⟨j, hj⟩ := List.getElem?_of_mem hy
        exact no (j + 1) y hj
      rw [e]
      exact ⟨fun py => absurd py (no i x h), fun z => absurd z (Nat.not_lt_zero _)⟩
def shr (A B : List Int) : Nat := (A.filter fun x => decide (x ∈ B)).length
def rng (A B : List Int) : List Int := A.drop (shr A B - 1) ++ (B.drop (shr A B)).reverse
section
variable {nb : Int → List Int} {n : Nat} {D : List Int} {tr : Int → List Int}
theorem Tr.at_in (t : Tr nb n D tr) {a b : Int} (ha : a ∈ D) (hb : b ∈ D) {i : Nat} {x : Int} (h : (tr a)[i]? = some x) (hx : x ∈ tr b) : (tr b)[i]? = some x := by
  obtain ⟨j, hj⟩ := List.getElem?_of_mem hx
  have e := (t.pre a ha i x h).2.symm.trans (t.pre b hb j x hj).2
  have l1 := (List.getElem?_eq_some_iff.mp h).1
  have l2 := (List.getElem?_eq_some_iff.mp hj).1
  have := congrArg List.length e
  rw [List.length_take, List.length_take] at this
  obtain rfl : i = j := by omega
  exact hj
theorem Tr.shared (t : Tr nb n D tr) {a b : Int} (ha : a ∈ D) (hb : b ∈ D) {i : Nat} {x : Int} (h : (tr a)[i]? = some x) : x ∈ tr b ↔ i < shr (tr a) (tr b) := by
  have := filt_pre (P := fun x => decide (x ∈ tr b)) (tr a) (fun i j x y le hx hy py => ?_) i x h
  · rw [decide_eq_true_eq] at this; exact this
  · rw [decide_eq_true_eq] at py ⊢
    have h1 := t.at_in ha hb hy py
    have e1 := (t.pre a ha j y hy).2.symm.trans (t.pre b hb j y h1).2
    have : ((tr a).take (j + 1))[i]? = some x := by rw [List.getElem?_take_of_lt (by omega)]; exact hx
    rw [e1] at this
    exact List.mem_of_mem_take (List.mem_of_getElem? this)
theorem rng_at {A B : List Int} {s : Nat} (e : shr A B = s) (h1 : 1 ≤ s) (hA : s ≤ A.length) (hB : s ≤ B.length) {i : Nat} {x : Int} (h : (rng A B)[i]? = some x) :
    (i < A.length - (s - 1) ∧ A[s - 1 + i]? = some x) ∨ (A.length - (s - 1) ≤ i ∧ i - (A.length - (s - 1)) < B.length - s ∧ B[B.length - 1 - (i - (A.length - (s - 1)))]? = some x) := by
  unfold rng at h
  rw [e] at h
  by_cases c : i < A.length - (s - 1)
  · rw [List.getElem?_append_left (by rw [List.length_drop]; exact c), List.getElem?_drop] at h
    exact .inl ⟨c, h⟩
  · rw [List.getElem?_append_right (by rw [List.length_drop]; omega), List.length_drop] at h
    have il := (List.getElem?_eq_some_iff.mp h).1
    rw [List.length_reverse, List.length_drop] at il
    rw [List.getElem?_reverse (by rw [List.length_drop]; exact il), List.length_drop, List.getElem?_drop] at h
    refine .inr ⟨by omega, il, ?_⟩
    rw [← h]; congr 1; omega
theorem rng_len {A B : List Int} {s : Nat} (e : shr A B = s) : (rng A B).length = (A.length - (s - 1)) + (B.length - s) := by
  unfold rng
  rw [List.length_append, List.length_reverse, List.length_drop, List.length_drop, e]
theorem Tr.shr_ok (t : Tr nb n D tr) {a b : Int} (ha : a ∈ D) (hb : b ∈ D) (hh : (tr a)[0]? = (tr b)[0]?) : 1 ≤ shr (tr a) (tr b) ∧ shr (tr a) (tr b) ≤ (tr a).length ∧ shr (tr a) (tr b) ≤ (tr b).length ∧ ∀ i, i < shr (tr a) (tr b) → (tr a)[i]? = (tr b)[i]? := by
  have pa := t.pos a ha
  obtain ⟨f, hf⟩ : ∃ f, (tr a)[0]? = some f := ⟨_, List.getElem?_eq_getElem pa⟩
  have h1 := (t.shared ha hb hf).mp (List.mem_of_getElem? (hh ▸ hf))
  have h2 : shr (tr a) (tr b) ≤ (tr a).length := List.length_filter_le _ _
  have eq : ∀ i, i < shr (tr a) (tr b) → (tr a)[i]? = (tr b)[i]? := fun i hi => by
    obtain ⟨x, hx⟩ : ∃ x, (tr a)[i]? = some x := ⟨_, List.getElem?_eq_getElem (by omega)⟩
    rw [hx, t.at_in ha hb hx ((t.shared ha hb hx).mpr hi)]
  refine ⟨h1, h2, ?_, eq⟩
  have := eq (shr (tr a) (tr b) - 1) (by omega)
  rw [List.getElem?_eq_getElem (show shr (tr a) (tr b) - 1 < (tr a).length by omega)] at this
  have := (List.getElem?_eq_some_iff.mp this.symm).1
  omega
theorem Tr.ring (hs : ∀ {a b : Int}, b ∈ nb a → a ∈ nb b) (t : Tr nb n D tr) {a b : Int} (ha : a ∈ D) (hb : b ∈ D) (hh : (tr a)[0]? = (tr b)[0]?) (ne : a ≠ b) (tie : b ∈ nb a) (par : (tr a).length % 2 = (tr b).length % 2) : Ring nb n (rng (tr a) (tr b)) := by
  obtain ⟨s1, sa, sb, eq⟩ := t.shr_ok ha hb hh
  have shd := fun {i : Nat} {x : Int} (h : (tr a)[i]? = some x) => t.shared ha hb h
  generalize hs_ : shr (tr a) (tr b) = s at s1 sa sb eq shd
  have len := rng_len hs_
  have la := t.lst a ha
  have lb := t.lst b hb
  have at_ := fun {i : Nat} {x : Int} (h : (rng (tr a) (tr b))[i]? = some x) => rng_at hs_ s1 sa sb h
  have more : ¬ ((tr a).length = s ∧ (tr b).length = s) := fun ⟨e1, e2⟩ => by
    have := eq (s - 1) (by omega)
    rw [e1] at la; rw [e2] at lb
    rw [la, lb] at this
    exact ne (Option.some.inj this)
  refine ⟨fun p hp => ?_, ?_, by omega, by omega, fun i x y hx hy => ?_, fun x y hx hy => ?_⟩
  · obtain ⟨i, hi⟩ := List.getElem?_of_mem hp
    rcases at_ hi with ⟨_, h⟩ | ⟨_, _, h⟩
    · exact t.rg p (t.pre a ha _ p h).1
    · exact t.rg p (t.pre b hb _ p h).1
  · unfold rng
    rw [hs_]
    refine List.nodup_append.mpr ⟨(t.nod ha).sublist (List.drop_sublist _ _), (List.reverse_perm _).nodup_iff.mpr ((t.nod hb).sublist (List.drop_sublist _ _)), fun x hx y hy e => ?_⟩
    subst e
    obtain ⟨i, hi⟩ := List.getElem?_of_mem hx
    rw [List.getElem?_drop] at hi
    obtain ⟨j, hj⟩ := List.getElem?_of_mem (List.mem_reverse.mp hy)
    rw [List.getElem?_drop] at hj
    have h1 := (shd hi).mp (List.mem_of_getElem? hj)
    have h2 := t.at_in ha hb hi (List.mem_of_getElem? hj)
    have e1 := (t.pre b hb _ x h2).2.symm.trans (t.pre b hb _ x hj).2
    have l1 := (List.getElem?_eq_some_iff.mp h2).1
    have l2 := (List.getElem?_eq_some_iff.mp hj).1
    have := congrArg List.length e1
    rw [List.length_take, List.length_take] at this
    omega
  · rcases at_ hx with ⟨c1, h1⟩ | ⟨c1, c2, h1⟩
    · rcases at_ hy with ⟨d1, g1⟩ | ⟨d1, d2, g1⟩
      · exact t.adj a ha (s - 1 + i) x y h1 (by rw [show s - 1 + i + 1 = s - 1 + (i + 1) by omega]; exact g1)
      · rw [show s - 1 + i = (tr a).length - 1 by omega, la] at h1
        rw [show i + 1 - ((tr a).length - (s - 1)) = 0 by omega, Nat.sub_zero, lb] at g1
        cases h1; cases g1; exact tie
    · rcases at_ hy with ⟨d1, g1⟩ | ⟨d1, d2, g1⟩
      · omega
      · exact hs (t.adj b hb _ y x g1 (by rw [← h1]; congr 1; omega))
  · have c1 : (tr a)[s - 1]? = some y := by
      rcases at_ hy with ⟨d1, g1⟩ | ⟨d1, d2, g1⟩
      · rw [Nat.add_zero] at g1; exact g1
      · omega
    rcases at_ hx with ⟨d1, g1⟩ | ⟨d1, d2, g1⟩
    · rw [len] at d1 g1
      have e2 : (tr b).length = s := by omega
      rw [show s - 1 + ((tr a).length - (s - 1) + ((tr b).length - s) - 1) = (tr a).length - 1 by omega, la] at g1
      cases g1
      rw [eq (s - 1) (by omega), ← e2, lb] at c1
      cases c1
      exact tie
    · rw [len] at d1 d2 g1
      rw [eq (s - 1) (by omega)] at c1
      exact hs (t.adj b hb _ y x c1 (by rw [← g1]; congr 1; omega))
/-- the sides that the trails tell -/
def col (tr : Int → List Int) (p : Int) : Int := (((tr p).length - 1 : Nat) : Int) % 2
theorem Cz.sides (hs : ∀ {a b : Int}, b ∈ nb a → a ∈ nb b) (hn : ∀ {a b : Int}, b ∈ nb a → 0 ≤ b ∧ b < (n : Int)) (c : Cz nb n D tr n) (h : ∀ a b : Int, b ∈ nb a → col tr a ≠ col tr b) : Sds nb n ((List.range n).map fun i : Nat => col tr (i : Int)) := by
  have at_ : ∀ p : Int, 0 ≤ p → p < (n : Int) → ((List.range n).map fun i : Nat => col tr (i : Int))[p.toNat]? = some (col tr p) := fun p h0 h1 => by
    rw [List.getElem?_map, List.getElem?_range (by omega)]
    show some (col tr ((p.toNat : Nat) : Int)) = _
    rw [show ((p.toNat : Nat) : Int) = p by omega]
  refine ⟨by rw [List.length_map, List.length_range], fun x hx => ?_, fun a b h0 hb => ?_, fun b e h0 h1 hr le => ?_⟩
  · obtain ⟨i, _, rfl⟩ := List.mem_map.mp hx
    unfold col; omega
  · have r1 := hn hb
    have r2 := hn (hs hb)
    rw [at_ a r2.1 r2.2, at_ b r1.1 r1.2]
    intro z; exact h a b hb (Option.some.inj z)
  · rw [at_ e h0 h1]
    have he := c.low e.toNat (by omega)
    rw [show ((e.toNat : Nat) : Int) = e by omega] at he
    have := c.t.least hs (fun _ => trivial) he hr le
    unfold col
    rw [this]; rfl
end
end Od

namespace Od
open PySem PySem.Spec PyProof.Rows L2
theorem RAt.mut {H : Hp} {d W : Addr} {D : List Int} {tr : Int → List Int} {ad : Int → Addr} (r : RAt H d D tr ad) (n1 : d ≠ W) (n2 : ∀ p ∈ D, ad p ≠ W) (o : HO) : RAt (upd H W o) d D tr ad :=
  ⟨by rw [upd_ne n1]; exact r.kv, fun x hx => by rw [upd_ne (n2 x hx)]; exact r.row x hx⟩
theorem RAt.put {H : Hp} {d a : Addr} {D l : List Int} {tr : Int → List Int} {ad : Int → Addr} {q : Int} (r : RAt H d D tr ad) (hq : q ∉ D) (ha : H a = some (.lst (l.map V.int))) :
    RAt (upd H d (.dK (rk (fun x => if x = q then a else ad x) (D ++ [q])))) d (D ++ [q]) (fun x => if x = q then l else tr x) (fun x => if x = q then a else ad x) := by
  refine ⟨upd_same, fun x hx => ?_⟩
  rcases List.mem_append.mp hx with z | z
  · have e : ¬ x = q := fun e => hq (e ▸ z)
    rw [if_neg e, if_neg e, upd_ne (ne_of (r.row x z) r.kv (fun z => nomatch z))]
    exact r.row x z
  · rw [if_pos (List.mem_singleton.mp z), if_pos (List.mem_singleton.mp z), upd_ne (ne_of ha r.kv (fun z => nomatch z))]
    exact ha
def spLengthen (C : Addr) : Sp := fun vs H Q _ => ∃ (x d : Addr) (n : Nat) (ts : List Pr) (k : Nat) (O D : List Int) (tr : Int → List Int) (ad : Int → Addr) (B : Hp), vs = [.ref x, .ref d, .int (k : Int)] ∧ NetAt C B x n ts ∧ Same B H ∧ B d = none ∧ RAt H d D tr ad ∧ Gw (nbr ts) n k O D [(k : Int)] tr (fun _ _ => False) ∧
  ∀ (D' : List Int) (tr' : Int → List Int) (ad' : Int → Addr) (H' : Hp), Cz (nbr ts) n D' tr' (k + 1) → Same B H' → RAt H' d D' tr' ad' → Q .non H'
def spTrails (C : Addr) : Sp := fun vs H Q _ => ∃ (x : Addr) (n : Nat) (ts : List Pr), vs = [.ref x] ∧ NetAt C H x n ts ∧
  ∀ (D : List Int) (tr : Int → List Int) (ad : Int → Addr) (p : Addr) (H' : Hp), Cz (nbr ts) n D tr n → H p = none → Same H H' → RAt H' p D tr ad → Q (.ref p) H'
def spSideAt : Sp := fun vs H Q _ => ∃ (p : Addr) (xs : List Int), vs = [.ref p] ∧ H p = some (.lst (xs.map V.int)) ∧ 0 < xs.length ∧ Q (.int (((xs.length - 1 : Nat) : Int) % 2)) H
section
variable {P : Program} {w : World} {K : PySem.W.Frag} {mg : Str → Option Value} {c : Cs} {base : Heap}
theorem ok_side_at (T : Top K mg c) : Fd.Has P w K mg base CX0 1 "side_at" ["trail"] spSideAt := by
  refine T.d_side_at.ok sc_side_at (fun vs H Q E h => ?_) (fun f cdv A outer s H vs Q E hr h => ?_)
  · obtain ⟨p, xs, rfl, _⟩ := h; rfl
  · obtain ⟨p, xs, rfl, hp, pos, q⟩ := h
    refine ⟨_, (pss_one (ps_ret (pe_op op_mod (pe_op op_sub (pe_callB call_len_seq (by rfl) T.n_len boot_len (pa_cons (pv 0) pa_nil)) pe_int) pe_int))), ?_⟩
    refine ⟨_, rfl, p, _, rfl, .inl (SqL.of hp), _, _, rfl, rfl, _, _, rfl, rfl, (by show (0 : Int) < 2; decide), ?_⟩
    rw [List.length_map, show ((xs.length : Nat) : Int) - 1 = ((xs.length - 1 : Nat) : Int) by omega]
    exact q
theorem ok_lengthen (T : Top K mg c) : Fd.Has P w K mg base CX0 4 "lengthen" ["net", "trails", "first"] (spLengthen c.Net) := by
  have G_Net_beside : Fd.MHas P w K mg base (L2N.CX P w) 3 c.Net "beside" ["self", "place"] (spBeside c.Net c.NoPlace) := ok_beside T
  refine T.d_lengthen.ok sc_lengthen (fun vs H Q E h => ?_) (fun f cdv A outer s H vs Q E hr h => ?_)
  · obtain ⟨x, d, n, ts, k, O, D, tr, ad, B, rfl, _⟩ := h; rfl
  · obtain ⟨x, d, n, ts, k, O, D, tr, ad, B, rfl, N, sB, hd, R, G, q⟩ := h
    have hr_Net_beside := hr
    have n40 := N.hi
    refine ⟨_, (pss_cons (ps_set (i := 3) sc_lengthen.nd rfl (Or.inl rfl) (pe_lst (pa_cons (pv 2) pa_nil)))
      (pss_one (ps_while PassesOwn.never (pt_truth (pv 3) (by intro _; rfl))
      (pss_cons (ps_set (i := 4) sc_lengthen.nd rfl (Or.inl rfl) (pe_bm0 PySem.F.plainAttrs_list PySem.F.slot_list_pop PySem.F.type_list_pop mt_pop (pv 3)))
        (pss_one (ps_for PassesOwn.never rfl (pi_list (Fd.pe_mN G_Net_beside (pv 0) T.cl_Net hr_Net_beside Fd.pass00 (pa_cons (pv 4) pa_nil))) (pg_name (i := 5) sc_lengthen.nd rfl (Or.inl rfl))
        (pss_one (ps_if (pt_cmp (pc_dnotin (hu_of hr) (pv 5) (pv 1)))
          (pss_cons (ps_asg (pe_op op_cat (pe_dget (hu_of hr) (pv 1) (pv 4) (fun _ _ => rfl)) (pe_lst (pa_cons (pv 5) pa_nil))) (pg_sub (pv 1) (pv 5) (set_dict (hu_of hr))))
            (pss_one (ps_expr (pe_bm PySem.F.plainAttrs_list PySem.F.slot_list_append PySem.F.type_list_append mt_append (pv 3) (pa_cons (pv 5) pa_nil)))))
          pss_nil)))))))), ?_⟩
    refine ⟨_, rfl, (by show 1 ≤ sizeLine; decide), fun W hW => ?_⟩
    have hWB : B W = none := sB.free hW
    have ndW : d ≠ W := ne_of_none R.kv hW
    refine ⟨fun m σ H' => ∃ v4 v5 D1 W1 tr1 ad1, σ = [some (.ref x), some (.ref d), some (.int (k : Int)), some (.ref W), v4, v5] ∧ Same B H' ∧ RAt H' d D1 tr1 ad1 ∧ (∀ p ∈ D1, ad1 p ≠ W) ∧ H' W = some (.lst (W1.map V.int)) ∧ Gw (nbr ts) n k O D1 W1 tr1 (fun _ _ => False) ∧ m = 2 * (n - D1.length) + W1.length ∧ m ≤ 2 * n,
      ⟨_, none, none, D, [(k : Int)], tr, ad, rfl, Same.trans sB (Same.new hW), R.ex (Same.new hW), fun p hp => ne_of_none (R.row p hp) hW, upd_same, G, rfl, by have l0 := List.length_pos_of_mem G.ini; have l1 := few_in G.t.rg G.t.nd; show 2 * (n - D.length) + 1 ≤ 2 * n; omega⟩, ?_⟩
    rintro m σ H1 ⟨v4, v5, D1, W1, tr1, ad1, rfl, s1, R1, nw1, hW1, G1, rfl, mb⟩
    refine ⟨_, rfl, _, .inl ⟨_, SqL.of hW1, rfl⟩, ?_⟩
    by_cases cw : W1 = []
    · subst cw
      dsimp only
      rw [if_neg (by simp)]
      exact q D1 tr1 ad1 H1 (G1.fin fun h => nbr_sym N.tie h) s1 R1
    · have hlen : 0 < W1.length := List.length_pos_iff.mpr cw
      obtain ⟨y, hy⟩ : ∃ y, W1[W1.length - 1]? = some y := ⟨_, List.getElem?_eq_getElem (by omega)⟩
      have hyl : W1.getLast? = some y := by rw [List.getLast?_eq_getElem?]; exact hy
      have hyD := G1.wt y (List.mem_of_getElem? hy)
      have yr := G1.t.rg y hyD.1
      dsimp only
      rw [if_pos (by simpa using cw)]
      refine ⟨fun σ H' => ∃ v4 v5 D2 W2 tr2 ad2, σ = [some (.ref x), some (.ref d), some (.int (k : Int)), some (.ref W), v4, v5] ∧ Same B H' ∧ RAt H' d D2 tr2 ad2 ∧ (∀ p ∈ D2, ad2 p ≠ W) ∧ H' W = some (.lst (W2.map V.int)) ∧ Gw (nbr ts) n k O D2 W2 tr2 (fun _ _ => False) ∧ 2 * (n - D2.length) + W2.length < 2 * (n - D1.length) + W1.length, ?_, ?_⟩
      · rintro σ' H' ⟨v4, v5, D2, W2, tr2, ad2, e1, e2, e3, e4, e5, e6, e7⟩
        exact ⟨_, e7, v4, v5, D2, W2, tr2, ad2, e1, e2, e3, e4, e5, e6, rfl, by omega⟩
      have G2 := G1.pop hyl
      have dl : W1.dropLast.length = W1.length - 1 := List.length_dropLast
      refine ⟨_, rfl, .inl ⟨rfl, _, SqL.of hW1⟩, W, _, V.int y, rfl, rfl, hW1, by rw [List.length_map, List.getElem?_map, hy]; rfl, ?_⟩
      have s2 : Same B (upd H1 W (.lst (W1.map V.int).dropLast)) := Same.mut s1 hWB
      have R2 := R1.mut ndW nw1 (.lst (W1.map V.int).dropLast)
      have hW2 : upd H1 W (.lst (W1.map V.int).dropLast) W = some (.lst (W1.dropLast.map V.int)) := by rw [upd_same, List.map_dropLast]
      generalize upd H1 W (.lst (W1.map V.int).dropLast) = H2 at s2 R2 hW2 ⊢
      have N2 := N.ex s2
      obtain ⟨dx, lt, ln, us, rs, a1, _⟩ := N2.at_
      obtain ⟨yn, rfl⟩ : ∃ yn : Nat, y = (yn : Int) := ⟨y.toNat, by omega⟩
      refine ⟨_, rfl, x, dx, _, rfl, a1, nf_beside _ _ _, _, rfl, x, n, ts, _, _, rfl, N2, .int _, fun i e hi D0 hD0 => ?_, fun z => ?_⟩
      rotate_left
      · have : isPl (.int (yn : Int)) n = true := decide_eq_true ⟨by omega, by omega⟩
        rw [this] at z; cases z
      injection e with e
      obtain rfl : yn = i := by omega
      have nDd : D0 ≠ d := fun z => by rw [z, R2.kv] at hD0; cases hD0
      have nDW : D0 ≠ W := fun z => by rw [z, hW2] at hD0; cases hD0
      have len1 := few_in G1.t.rg G1.t.nd
      refine ⟨D0, rfl, ⟨_, SqL.of upd_same⟩, for_list (K := K) (a := D0) (xs := (nbr ts (yn : Int)).map V.int) (fun i σ H' => ∃ v5 D2 W2 tr2 ad2, σ = [some (.ref x), some (.ref d), some (.int (k : Int)), some (.ref W), some (.int (yn : Int)), v5] ∧ Same B H' ∧ H' D0 = some (.lst ((nbr ts (yn : Int)).map V.int)) ∧ RAt H' d D2 tr2 ad2 ∧ (∀ p ∈ D2, ad2 p ≠ W) ∧ H' W = some (.lst (W2.map V.int)) ∧ ((yn : Int) ∈ D2 ∧ (yn : Int) ∉ O) ∧
          Gw (nbr ts) n k O D2 W2 tr2 (fun p z => p = (yn : Int) ∧ z ∈ (nbr ts (yn : Int)).drop i) ∧ 2 * (n - D2.length) + W2.length < 2 * (n - D1.length) + W1.length)
        ⟨v5, D1, W1.dropLast, tr1, ad1, rfl, Same.trans s2 (Same.new hD0), upd_same, R2.ex (Same.new hD0), nw1, by rw [upd_ne nDW.symm]; exact hW2, hyD, G2, by omega⟩ (fun i σ H' _ ⟨_, _, _, _, _, _, _, e, _⟩ => SqL.of e) ?_ ?_⟩
      · rintro i z σ H3 hi ⟨v5, D2, W2, tr2, ad2, rfl, s3, hD3, R3, nw3, hW3, hy3, G3, ms⟩
        rw [List.getElem?_map] at hi
        obtain ⟨j, hj, rfl⟩ := Option.map_eq_some_iff.mp hi
        have jr := nbr_rng N.tie (List.mem_of_getElem? hj)
        have len2 := few_in G3.t.rg G3.t.nd
        refine ⟨_, rfl, _, rfl, d, _, rfl, R3.has j, _, rfl, ?_⟩
        rw [isSome_if]
        by_cases cs : j ∈ D2
        · rw [decide_eq_true cs]
          refine iteF ?_
          exact ⟨_, D2, W2, tr2, ad2, rfl, s3, hD3, R3, nw3, hW3, hy3, G3.skip hj cs, ms⟩
        · rw [decide_eq_false cs]
          refine iteT ?_
          have G4 := G3.push hy3 hj jr cs
          have len4 := few_in G4.t.rg G4.t.nd
          rw [List.length_append, List.length_singleton] at len4
          have ly := G3.t.few hy3.1
          refine ⟨_, rfl, _, rfl, d, _, rfl, R3.get hy3.1, _, rfl, (by show 1 ≤ sizeLine; decide), fun l8 g8 => ?_⟩
          have b8 := Same.new (o := .lst [V.int j]) g8
          have e8 : upd H3 l8 (.lst [V.int j]) l8 = some (.lst [V.int j]) := upd_same
          generalize upd H3 l8 (.lst [V.int j]) = H4 at b8 e8 ⊢
          refine ⟨ad2 (yn : Int), l8, _, _, rfl, rfl, b8 _ _ (R3.row _ hy3.1), e8, len40 (by rw [List.length_map, List.length_singleton]; omega), fun l9 g9 => ?_⟩
          have b9 := Same.trans b8 (Same.new (o := .lst ((tr2 (yn : Int)).map V.int ++ [V.int j])) g9)
          have e9 : upd H4 l9 (.lst ((tr2 (yn : Int)).map V.int ++ [V.int j])) l9 = some (.lst ((tr2 (yn : Int) ++ [j]).map V.int)) := by rw [upd_same, List.map_append]; rfl
          have n9 : l9 ≠ W := (ne_of_none (b8 _ _ hW3) g9).symm
          generalize upd H4 l9 (.lst ((tr2 (yn : Int)).map V.int ++ [V.int j])) = H5 at b9 e9 ⊢
          have R5 := R3.ex b9
          refine ⟨_, rfl, _, rfl, d, _, rfl, DPut.k (k := .inl j) R5.kv (by rw [rk_len, sizeLine_eq]; omega), ?_⟩
          rw [rk_put l9 cs]
          have s6 : Same B (upd H5 d (.dK (rk (fun x => if x = j then l9 else ad2 x) (D2 ++ [j])))) := Same.mut (Same.trans s3 b9) hd
          have R6 := R5.put cs e9
          have hW6 : upd H5 d (.dK (rk (fun x => if x = j then l9 else ad2 x) (D2 ++ [j]))) W = some (.lst (W2.map V.int)) := by rw [upd_ne ndW.symm]; exact b9 _ _ hW3
          have hD6 : upd H5 d (.dK (rk (fun x => if x = j then l9 else ad2 x) (D2 ++ [j]))) D0 = some (.lst ((nbr ts (yn : Int)).map V.int)) := by rw [upd_ne nDd]; exact b9 _ _ hD3
          generalize upd H5 d (.dK (rk (fun x => if x = j then l9 else ad2 x) (D2 ++ [j]))) = H6 at s6 R6 hW6 hD6 ⊢
          have nw6 : ∀ p ∈ D2 ++ [j], (if p = j then l9 else ad2 p) ≠ W := fun p hp => by
            by_cases e : p = j
            · rw [if_pos e]; exact n9
            · rw [if_neg e]
              rcases List.mem_append.mp hp with z | z
              · exact nw3 p z
              · exact absurd (List.mem_singleton.mp z) e
          refine ⟨_, rfl, .inl ⟨rfl, _, SqL.of hW6⟩, _, rfl, W, _, _, rfl, rfl, hW6, len40 (by rw [List.length_map]; omega), ?_⟩
          refine ⟨_, D2 ++ [j], W2 ++ [j], _, _, rfl, Same.mut s6 hWB, by rw [upd_ne nDW]; exact hD6, R6.mut ndW nw6 _, nw6, by rw [upd_same, List.map_append]; rfl, ⟨List.mem_append_left _ hy3.1, hy3.2⟩, G4, ?_⟩
          rw [List.length_append, List.length_append, List.length_singleton]; omega
      · rintro σ H3 ⟨v5, D2, W2, tr2, ad2, rfl, s3, hD3, R3, nw3, hW3, hy3, G3, ms⟩
        rw [List.length_map] at G3
        exact ⟨_, v5, D2, W2, tr2, ad2, rfl, s3, R3, nw3, hW3, G3.done, ms⟩
theorem ok_trails (T : Top K mg c) : Fd.Has P w K mg base CX0 5 "trails_in" ["net"] (spTrails c.Net) := by
  have G_lengthen : Fd.Has P w K mg base CX0 4 "lengthen" ["net", "trails", "first"] (spLengthen c.Net) := ok_lengthen T
  refine T.d_trails_in.ok sc_trails_in (fun vs H Q E h => ?_) (fun f cdv A outer s H vs Q E hr h => ?_)
  · obtain ⟨x, n, ts, rfl, _⟩ := h; rfl
  · obtain ⟨x, n, ts, rfl, N, q⟩ := h
    have hr_lengthen := hr
    have n40 := N.hi
    refine ⟨_, (pss_cons (ps_set (i := 1) sc_trails_in.nd rfl (Or.inl rfl) pe_dnewK)
      (pss_cons (ps_for PassesOwn.never rfl (pi_range1 (by rfl) T.n_range (pa_cons (pe_fld (pv 0) rfl) pa_nil)) (pg_name (i := 2) sc_trails_in.nd rfl (Or.inl rfl))
      (pss_one (ps_if (pt_cmp (pc_dnotin (hu_of hr) (pv 2) (pv 1)))
        (pss_cons (ps_asg (pe_lst (pa_cons (pv 2) pa_nil)) (pg_sub (pv 1) (pv 2) (set_dict (hu_of hr))))
          (pss_one (ps_expr (Fd.pe_f G_lengthen hr_lengthen (by rfl) (pa_cons (pv 0) (pa_cons (pv 1) (pa_cons (pv 2) pa_nil)))))))
        pss_nil)))
      (pss_one (ps_ret (pv 1))))), ?_⟩
    refine fun d hd => ?_
    have s0 := Same.new (o := .dK []) hd
    have e0 : upd H d (.dK []) d = some (.dK []) := upd_same
    generalize upd H d (.dK []) = H0 at s0 e0 ⊢
    have hdH : H d = none := hd
    obtain ⟨dx, lt, ln, us, rs, a1, _⟩ := (N.ex s0).at_
    refine ⟨_, rfl, x, c.Net, dx, _, _, rfl, a1, T.cl_Net, T.a_Net_size, nf_size _ _ _, (n : Int), rfl, by omega, by omega, for_range (lo := 0) (n := n) (fun i σ H' => ∃ v2 D tr ad, σ = [some (.ref x), some (.ref d), v2] ∧ Same H H' ∧ RAt H' d D tr ad ∧ Cz (nbr ts) n D tr i)
      ⟨none, [], fun _ => [], fun _ => 0, rfl, s0, ⟨e0, fun z hz => (by cases hz)⟩, .start⟩ ?_ ?_⟩
    · rintro i σ H1 hi ⟨v2, D, tr, ad, rfl, s1, R, C⟩
      rw [show (0 : Int) + (i : Int) = (i : Int) from Int.zero_add _]
      have len1 := few_in C.t.rg C.t.nd
      refine ⟨_, rfl, _, rfl, d, _, rfl, R.has (i : Int), _, rfl, ?_⟩
      rw [isSome_if]
      by_cases cs : (i : Int) ∈ D
      · rw [decide_eq_true cs]
        refine iteF ?_
        exact ⟨_, D, tr, ad, rfl, s1, R, C.next cs⟩
      · rw [decide_eq_false cs]
        refine iteT ?_
        have G := C.open_ hi cs
        refine ⟨_, rfl, (by show 1 ≤ sizeLine; decide), fun l8 g8 => ?_⟩
        have b8 := Same.new (o := .lst [V.int (i : Int)]) g8
        have e8 : upd H1 l8 (.lst [V.int (i : Int)]) l8 = some (.lst ([(i : Int)].map V.int)) := upd_same
        generalize upd H1 l8 (.lst [V.int (i : Int)]) = H2 at b8 e8 ⊢
        have R2 := R.ex b8
        refine ⟨_, rfl, _, rfl, d, _, rfl, DPut.k (k := .inl (i : Int)) R2.kv (by rw [rk_len, sizeLine_eq]; omega), ?_⟩
        rw [rk_put l8 cs]
        have s3 : Same H (upd H2 d (.dK (rk (fun x => if x = (i : Int) then l8 else ad x) (D ++ [(i : Int)])))) := Same.mut (Same.trans s1 b8) hdH
        have R3 := R2.put cs e8
        generalize upd H2 d (.dK (rk (fun x => if x = (i : Int) then l8 else ad x) (D ++ [(i : Int)]))) = H3 at s3 R3 ⊢
        refine ⟨_, rfl, _, rfl, _, rfl, x, d, n, ts, i, D, D ++ [(i : Int)], _, _, H, rfl, N, s3, hdH, R3, G, fun D' tr' ad' H' C' s' R' => ?_⟩
        exact ⟨_, D', tr', ad', rfl, s', R', C'⟩
    · rintro σ H1 ⟨v2, D, tr, ad, rfl, s1, R, C⟩
      exact ⟨_, rfl, q D tr ad d H1 C hdH s1 R⟩
end
end Od

namespace Od
open PySem PySem.Spec PyProof.Rows L2
def spRingOf : Sp := fun vs H Q _ => ∃ (p q : Addr) (A B : List Int), vs = [.ref p, .ref q] ∧ H p = some (.lst (A.map V.int)) ∧ H q = some (.lst (B.map V.int)) ∧ A.length ≤ 400 ∧ B.length ≤ 400 ∧ 1 ≤ shr A B ∧
  ∀ (r : Addr) (H' : Hp), H r = none → Same H H' → H' r = some (.lst ((rng A B).map V.int)) → Q (.ref r) H'
def spSides (C : Addr) : Sp := fun vs H Q _ => ∃ (x : Addr) (n : Nat) (ts : List Pr), vs = [.ref x] ∧ NetAt C H x n ts ∧
  (∀ (cs : List Int) (p : Addr) (H' : Hp), Sds (nbr ts) n cs → H p = none → Same H H' → H' p = some (.lst (cs.map V.int)) → Q (.ref p) H') ∧ ((∃ ms, Ring (nbr ts) n ms) → ∀ H', Same H H' → Q .non H')
def spOddRing (C : Addr) : Sp := fun vs H Q _ => ∃ (x : Addr) (n : Nat) (ts : List Pr), vs = [.ref x] ∧ NetAt C H x n ts ∧
  (∀ (ms : List Int) (p : Addr) (H' : Hp), Ring (nbr ts) n ms → H p = none → Same H H' → H' p = some (.lst (ms.map V.int)) → Q (.ref p) H') ∧ ((∃ cs, Sds (nbr ts) n cs) → ∀ H', Same H H' → Q .non H')
section
variable {n : Nat} {ts : List Pr} {D : List Int} {tr : Int → List Int}
/-- ties up to i go from side to side -/
def Goes (tr : Int → List Int) (ts : List Pr) (i : Nat) : Prop := ∀ (j : Nat) (z : Pr), j < i → ts[j]? = some z → col tr z.1 ≠ col tr z.2
theorem Goes.all (tie : ∀ p ∈ ts, Tie n p) (g : Goes tr ts ts.length) : ∀ a b : Int, b ∈ nbr ts a → col tr a ≠ col tr b := fun a b h => by
  rcases (nbr_mem tie).mp h with z | z
  · obtain ⟨j, hj⟩ := List.getElem?_of_mem z
    exact g j _ (List.getElem?_eq_some_iff.mp hj).1 hj
  · obtain ⟨j, hj⟩ := List.getElem?_of_mem z
    exact (g j _ (List.getElem?_eq_some_iff.mp hj).1 hj).symm
theorem Goes.snoc {i : Nat} {z : Pr} (g : Goes tr ts i) (h : ts[i]? = some z) (ne : col tr z.1 ≠ col tr z.2) : Goes tr ts (i + 1) := fun j y hj hy => by
  by_cases e : j = i
  · subst e; rw [h] at hy; cases hy; exact ne
  · exact g j y (by omega) hy
theorem Cz.all (C : Cz (nbr ts) n D tr n) {p : Int} (h0 : 0 ≤ p) (h1 : p < (n : Int)) : p ∈ D := by
  have := C.low p.toNat (by omega)
  rwa [show ((p.toNat : Nat) : Int) = p by omega] at this
theorem Cz.ring_ (tie : ∀ p ∈ ts, Tie n p) (C : Cz (nbr ts) n D tr n) {z : Pr} (hz : z ∈ ts) (e : col tr z.1 = col tr z.2) : Ring (nbr ts) n (rng (tr z.1) (tr z.2)) ∧ 1 ≤ shr (tr z.1) (tr z.2) := by
  obtain ⟨h0, h1, h2⟩ := tie z hz
  have hb : z.2 ∈ nbr ts z.1 := (nbr_mem tie).mpr (.inl hz)
  have m1 := C.all h0 (show z.1 < (n : Int) by omega)
  have m2 := C.all (show 0 ≤ z.2 by omega) h2
  have hd := (C.same _ m1 _ hb).2.symm
  have p1 := C.t.pos _ m1
  have p2 := C.t.pos _ m2
  exact ⟨C.t.ring (fun h => nbr_sym tie h) m1 m2 hd (by omega) hb (by unfold col at e; omega), (C.t.shr_ok m1 m2 hd).1⟩
end
section
variable {P : Program} {w : World} {K : PySem.W.Frag} {mg : Str → Option Value} {c : Cs} {base : Heap}
theorem ok_ring_of (T : Top K mg c) : Fd.Has P w K mg base CX0 1 "ring_of" ["trail", "other_trail"] spRingOf := by
  refine T.d_ring_of.ok sc_ring_of (fun vs H Q E h => ?_) (fun f cdv A outer s H vs Q E hr h => ?_)
  · obtain ⟨p, q, A, B, rfl, _⟩ := h; rfl
  · obtain ⟨p, q, A, B, rfl, hp, hq, la, lb, s1, hres⟩ := h
    refine ⟨_, (pss_cons (ps_set (i := 2) sc_ring_of.nd rfl (Or.inl rfl) (pe_callB call_len_seq (by rfl) T.n_len boot_len (pa_cons (pe_lc (own := [("place", 3)]) (g := gName 3) rfl sc_ring_of.nd (pi_list (pv 0)) (blkOk_by (own := [("place", 3)]) (N := N_ring_of) (sc := defScope S_ring_of) (by decide +kernel)) (fun _ _ _ _ _ => pg_name (i := 3) sc_ring_of.nd rfl (Or.inl rfl)) (fun _ _ _ _ _ => (pts_one (pt_cmpR (r := rIn K false) op_in_seq (pv 3) (pv 1) (by rfl)))) (fun _ _ _ _ _ => (pv 3))) pa_nil)))
      (pss_one (ps_ret (pe_op op_cat (pe_slice sl_list (pv 0) (po_some (pe_op op_sub (pv 2) pe_int)) po_none) (pe_revL (pe_slice sl_list (pv 1) (po_some (pv 2)) po_none)))))), ?_⟩
    refine ⟨_, rfl, p, rfl, ⟨_, SqL.of hp⟩, fun D hD => ?_⟩
    refine lc_list (xs := A.map V.int) (fun j Hc => Same H Hc ∧ Hc D = some (.lst (((A.take j).filter fun x => decide (x ∈ B)).map V.int))) ⟨Same.new hD, upd_same⟩ (fun j Hc _ e => SqL.of (e.1 _ _ hp)) ?_ ?_
    · rintro j v Hc hj ⟨s7, hDc⟩
      have jl := (List.getElem?_eq_some_iff.mp hj).1
      rw [List.length_map] at jl
      rw [List.getElem?_map] at hj
      obtain ⟨z, hz, rfl⟩ := Option.map_eq_some_iff.mp hj
      have tk : A.take (j + 1) = A.take j ++ [z] := by rw [List.take_succ, hz]; rfl
      refine ⟨rfl, _, rfl, _, rfl, q, _, rfl, .inl (SqL.of (s7 _ _ hq)), rfl, flat_ints B, _, rfl, ?_⟩
      rw [inV_ints]
      by_cases cm : z ∈ B
      · rw [decide_eq_true cm]
        refine iteT ⟨_, rfl, _, hDc, ?_, Same.mut s7 hD, ?_⟩
        · rw [List.length_map]
          have hfl := List.length_filter_le (fun x => decide (x ∈ B)) (A.take j)
          rw [List.length_take] at hfl
          exact len40 (n := ((A.take j).filter fun x => decide (x ∈ B)).length + 1) (by omega)
        · rw [upd_same, tk, List.filter_append, List.map_append, List.filter_cons, if_pos (decide_eq_true cm)]; rfl
      · rw [decide_eq_false cm]
        refine iteF ⟨s7, ?_⟩
        rw [hDc, tk, List.filter_append, List.filter_cons, if_neg (by rw [decide_eq_false cm]; exact Bool.false_ne_true), List.filter_nil, List.append_nil]
    rintro H1 ⟨s2, hD1⟩
    rw [List.length_map, List.take_length] at hD1
    refine ⟨D, _, rfl, .inl (SqL.of hD1), ?_⟩
    rw [List.length_map, show (A.filter fun x => decide (x ∈ B)).length = shr A B from rfl]
    have hp1 := s2 _ _ hp
    have hq1 := s2 _ _ hq
    generalize hs : shr A B = s at s1
    refine ⟨_, rfl, _, rfl, _, _, rfl, rfl, _, rfl, p, _, rfl, SqL.of hp1, fun pb hpb => ?_⟩
    have b2 := Same.new (o := .lst (cutV (A.map V.int) (some ((s : Int) - 1)) none)) hpb
    have epb : upd H1 pb (.lst (cutV (A.map V.int) (some ((s : Int) - 1)) none)) pb = some (.lst ((A.drop (s - 1)).map V.int)) := by rw [upd_same, show (s : Int) - 1 = ((s - 1 : Nat) : Int) by omega, Sl.cut_from, List.map_drop]
    generalize upd H1 pb _ = H2 at b2 epb ⊢
    refine ⟨_, rfl, _, rfl, _, rfl, q, _, rfl, SqL.of (b2 _ _ hq1), fun pc hpc => ?_⟩
    have b3 := Same.new (o := .lst (cutV (B.map V.int) (some (s : Int)) none)) hpc
    have epc : upd H2 pc (.lst (cutV (B.map V.int) (some (s : Int)) none)) pc = some (.lst ((B.drop s).map V.int)) := by rw [upd_same, Sl.cut_from, List.map_drop]
    generalize upd H2 pc _ = H3 at b3 epc ⊢
    refine ⟨pc, _, rfl, SqL.of epc, fun pd hpd => ?_⟩
    have b4 := Same.new (o := .lst ((B.drop s).map V.int).reverse) hpd
    have epd : upd H3 pd (.lst ((B.drop s).map V.int).reverse) pd = some (.lst ((B.drop s).reverse.map V.int)) := by rw [upd_same, List.map_reverse]
    generalize upd H3 pd _ = H4 at b4 epd ⊢
    have b14 := Same.trans (Same.trans b2 b3) b4
    refine ⟨pb, pd, _, _, rfl, rfl, (Same.trans b3 b4) _ _ epb, epd, len40 (by rw [List.length_map, List.length_map, List.length_reverse, List.length_drop, List.length_drop]; omega), fun pe hpe => ?_⟩
    have s24 := Same.trans s2 b14
    refine hres pe _ (s24.free hpe) (Same.trans s24 (Same.new hpe)) ?_
    rw [upd_same]
    unfold rng
    rw [hs, List.map_append]
theorem ok_sides (T : Top K mg c) : Fd.Has P w K mg base CX0 6 "sides" ["net"] (spSides c.Net) := by
  have G_trails_in : Fd.Has P w K mg base CX0 5 "trails_in" ["net"] (spTrails c.Net) := ok_trails T
  have G_side_at : Fd.Has P w K mg base CX0 1 "side_at" ["trail"] spSideAt := ok_side_at T
  have G_Net_ties : Fd.MHas P w K mg base CX0 1 c.Net "ties" ["self"] (spTies c.Net) := ok_ties T
  refine T.d_sides.ok sc_sides (fun vs H Q E h => ?_) (fun f cdv A outer s H vs Q E hr h => ?_)
  · obtain ⟨x, n, ts, rfl, _⟩ := h; rfl
  · obtain ⟨x, n, ts, rfl, N, q1, q2⟩ := h
    have hr_trails_in := hr
    have hr_side_at := hr.mono (show 1 ≤ 5 by decide)
    have hr_Net_ties := hr.mono (show 1 ≤ 5 by decide)
    have n40 := N.hi
    have tie := N.tie
    refine ⟨_, (pss_cons (ps_set (i := 1) sc_sides.nd rfl (Or.inr rfl) (Fd.pe_f G_trails_in hr_trails_in (by rfl) (pa_cons (pv 0) pa_nil)))
      (pss_cons (ps_setLc (i := 2) (own := [("place", 5)]) (g := gName 5) rfl sc_sides.nd rfl rfl (sw_true rfl rfl rfl (by decide +kernel)) (pi_range1 (by rfl) T.n_range (pa_cons (pe_fld (pv 0) rfl) pa_nil)) (blkOk_by (own := [("place", 5)]) (N := N_sides) (sc := defScope S_sides) (by decide +kernel)) (fun _ _ _ _ _ => pg_name (i := 5) sc_sides.nd rfl (Or.inl rfl)) (fun _ _ _ _ _ => pts_nil) (fun _ _ _ _ _ => (Fd.pe_f G_side_at hr_side_at (by rfl) (pa_cons (pe_dget (hu_of hr) (pv 1) (pv 5) (fun _ _ => rfl)) pa_nil))))
      (pss_cons (ps_for PassesOwn.never rfl (pi_list (Fd.pe_m0 G_Net_ties (pv 0) T.cl_Net hr_Net_ties)) (pg_tup rfl (pgs_cons (pg_name (i := 3) sc_sides.nd rfl (Or.inl rfl)) (pgs_cons (pg_name (i := 4) sc_sides.nd rfl (Or.inl rfl)) pgs_nil)))
      (pss_one (ps_if (pt_cmpR op_eq (pe_ix ix_list (pv 2) (pv 3) (fun _ _ => rfl)) (pe_ix ix_list (pv 2) (pv 4) (fun _ _ => rfl)) (nomark _))
        (pss_one (ps_ret pe_non))
        pss_nil)))
      (pss_one (ps_ret (pv 2)))))), ?_⟩
    refine ⟨_, rfl, x, n, ts, rfl, N, fun D tr ad d H1 C hd s1 R => ?_⟩
    obtain ⟨dx, lt, ln, us, rs, a1, _⟩ := (N.ex s1).at_
    refine ⟨_, rfl, x, c.Net, dx, _, _, rfl, a1, T.cl_Net, T.a_Net_size, nf_size _ _ _, (n : Int), rfl, by omega, by omega, fun L hL => ?_⟩
    refine lc_range (lo := 0) (n := n) (fun i Hc => Same H1 Hc ∧ Hc L = some (.lst (((List.range i).map fun i : Nat => col tr (i : Int)).map V.int))) ⟨Same.new hL, upd_same⟩ ?_ ?_
    · rintro i Hc hi ⟨s2, hLc⟩
      rw [show (0 : Int) + (i : Int) = (i : Int) from Int.zero_add _]
      have R2 := R.ex s2
      have hi' := C.low i hi
      refine ⟨rfl, tyes ?_⟩
      refine ⟨_, rfl, _, rfl, d, _, rfl, R2.get hi', ad (i : Int), tr (i : Int), rfl, R2.row _ hi', C.t.pos _ hi', _, hLc, ?_, Same.mut s2 hL, ?_⟩
      · rw [List.length_map, List.length_map, List.length_range]; exact len40 (by omega)
      · rw [upd_same, List.range_succ, List.map_append, List.map_append]; rfl
    rintro H2 ⟨s2, hL2⟩
    have s12 := Same.trans s1 s2
    have hLH : H L = none := s1.free hL
    have at_ : ∀ p : Int, 0 ≤ p → p < (n : Int) → atI (((List.range n).map fun i : Nat => col tr (i : Int)).map V.int) p = some (V.int (col tr p)) := fun p h0 h1 => by
      have e : (((List.range n).map fun i : Nat => col tr (i : Int)).map V.int)[p.toNat]? = some (V.int (col tr p)) := by
        rw [List.getElem?_map, List.getElem?_map, List.getElem?_range (by omega)]
        show some (V.int (col tr ((p.toNat : Nat) : Int))) = _
        rw [show ((p.toNat : Nat) : Int) = p by omega]
      have := atI_nat e
      rwa [show ((p.toNat : Nat) : Int) = p by omega] at this
    obtain ⟨dx', lt', ln', us', rs', a2, _⟩ := (N.ex s12).at_
    refine ⟨_, rfl, x, dx', _, rfl, a2, nf_m_ties _ _ _, x, n, ts, rfl, N.ex s12, fun p6 u6 hp6 pr6 => ?_⟩
    have b6 := Same.new (o := .lst u6) hp6
    have e6 : upd H2 p6 (.lst u6) p6 = some (.lst u6) := upd_same
    have pr6' := pr6.ex b6
    have lu := pr6.len
    generalize upd H2 p6 (.lst u6) = H3 at b6 e6 pr6' ⊢
    have s13 := Same.trans s12 b6
    refine ⟨p6, rfl, ⟨_, SqL.of e6⟩, for_list (K := K) (a := p6) (xs := u6) (fun i σ H' => ∃ v3 v4 v5, σ = [some (.ref x), some (.ref d), some (.ref L), v3, v4, v5] ∧ Same H3 H' ∧ Goes tr ts i)
      ⟨_, _, _, rfl, Same.refl _, fun j z hj => absurd hj (Nat.not_lt_zero _)⟩ (fun i σ H' _ ⟨_, _, _, _, e, _⟩ => SqL.of (e _ _ e6)) ?_ ?_⟩
    · rintro i v σ H4 hi ⟨v3, v4, v5, rfl, s4, go⟩
      obtain ⟨z, b, hz, rfl, hb⟩ := pr6'.get hi
      have hb4 := s4 _ _ hb
      have tz := tie z (List.mem_of_getElem? hz)
      obtain ⟨t0, t1, t2⟩ := tz
      refine ⟨b, _, rfl, SqT.of hb4, rfl, _, _, rfl, _, _, rfl, rfl, ?_⟩
      have hL4 := s4 _ _ (b6 _ _ hL2)
      refine ⟨_, rfl, _, rfl, L, _, z.1, _, rfl, rfl, SqL.of hL4, at_ z.1 t0 (by omega), _, rfl, _, rfl, L, _, z.2, _, rfl, rfl, SqL.of hL4, at_ z.2 (by omega) t2, rfl, _, rfl, ?_⟩
      by_cases ce : col tr z.1 = col tr z.2
      · rw [show decide (V.int (col tr z.1) = V.int (col tr z.2)) = true from decide_eq_true (by rw [ce])]
        refine iteT ?_
        exact q2 ⟨_, (C.ring_ tie (List.mem_of_getElem? hz) ce).1⟩ _ (Same.trans s13 s4)
      · rw [show decide (V.int (col tr z.1) = V.int (col tr z.2)) = false from decide_eq_false (by intro e; injection e with e; exact ce e)]
        refine iteF ⟨_, _, _, rfl, s4, go.snoc hz ce⟩
    · rintro σ H4 ⟨v3, v4, v5, rfl, s4, go⟩
      rw [lu] at go
      exact ⟨_, rfl, q1 _ L H4 (C.sides (fun h => nbr_sym tie h) (fun h => nbr_rng tie h) (go.all tie)) hLH (Same.trans s13 s4) (s4 _ _ (b6 _ _ hL2))⟩
theorem ok_odd_ring (T : Top K mg c) : Fd.Has P w K mg base CX0 6 "odd_ring" ["net"] (spOddRing c.Net) := by
  have G_trails_in : Fd.Has P w K mg base CX0 5 "trails_in" ["net"] (spTrails c.Net) := ok_trails T
  have G_side_at : Fd.Has P w K mg base CX0 1 "side_at" ["trail"] spSideAt := ok_side_at T
  have G_ring_of : Fd.Has P w K mg base CX0 1 "ring_of" ["trail", "other_trail"] spRingOf := ok_ring_of T
  have G_Net_ties : Fd.MHas P w K mg base CX0 1 c.Net "ties" ["self"] (spTies c.Net) := ok_ties T
  refine T.d_odd_ring.ok sc_odd_ring (fun vs H Q E h => ?_) (fun f cdv A outer s H vs Q E hr h => ?_)
  · obtain ⟨x, n, ts, rfl, _⟩ := h; rfl
  · obtain ⟨x, n, ts, rfl, N, q1, q2⟩ := h
    have hr_trails_in := hr
    have hr_side_at := hr.mono (show 1 ≤ 5 by decide)
    have hr_ring_of := hr.mono (show 1 ≤ 5 by decide)
    have hr_Net_ties := hr.mono (show 1 ≤ 5 by decide)
    have n40 := N.hi
    have tie := N.tie
    refine ⟨_, (pss_cons (ps_set (i := 1) sc_odd_ring.nd rfl (Or.inl rfl) (Fd.pe_f G_trails_in hr_trails_in (by rfl) (pa_cons (pv 0) pa_nil)))
      (pss_cons (ps_for PassesOwn.never rfl (pi_list (Fd.pe_m0 G_Net_ties (pv 0) T.cl_Net hr_Net_ties)) (pg_tup rfl (pgs_cons (pg_name (i := 2) sc_odd_ring.nd rfl (Or.inl rfl)) (pgs_cons (pg_name (i := 3) sc_odd_ring.nd rfl (Or.inl rfl)) pgs_nil)))
      (pss_one (ps_if (pt_cmpR op_eq (Fd.pe_f G_side_at hr_side_at (by rfl) (pa_cons (pe_dget (hu_of hr) (pv 1) (pv 2) (fun _ _ => rfl)) pa_nil)) (Fd.pe_f G_side_at hr_side_at (by rfl) (pa_cons (pe_dget (hu_of hr) (pv 1) (pv 3) (fun _ _ => rfl)) pa_nil)) (nomark _))
        (pss_one (ps_ret (Fd.pe_f G_ring_of hr_ring_of (by rfl) (pa_cons (pe_dget (hu_of hr) (pv 1) (pv 2) (fun _ _ => rfl)) (pa_cons (pe_dget (hu_of hr) (pv 1) (pv 3) (fun _ _ => rfl)) pa_nil)))))
        pss_nil)))
      (pss_one (ps_ret pe_non)))), ?_⟩
    refine ⟨_, rfl, x, n, ts, rfl, N, fun D tr ad d H1 C hd s1 R => ?_⟩
    obtain ⟨dx', lt', ln', us', rs', a2, _⟩ := (N.ex s1).at_
    refine ⟨_, rfl, x, dx', _, rfl, a2, nf_m_ties _ _ _, x, n, ts, rfl, N.ex s1, fun p6 u6 hp6 pr6 => ?_⟩
    have b6 := Same.new (o := .lst u6) hp6
    have e6 : upd H1 p6 (.lst u6) p6 = some (.lst u6) := upd_same
    have pr6' := pr6.ex b6
    have lu := pr6.len
    generalize upd H1 p6 (.lst u6) = H3 at b6 e6 pr6' ⊢
    have s13 := Same.trans s1 b6
    refine ⟨p6, rfl, ⟨_, SqL.of e6⟩, for_list (K := K) (a := p6) (xs := u6) (fun i σ H' => ∃ v3 v4, σ = [some (.ref x), some (.ref d), v3, v4] ∧ Same H3 H' ∧ Goes tr ts i)
      ⟨_, _, rfl, Same.refl _, fun j z hj => absurd hj (Nat.not_lt_zero _)⟩ (fun i σ H' _ ⟨_, _, _, e, _⟩ => SqL.of (e _ _ e6)) ?_ ?_⟩
    · rintro i v σ H4 hi ⟨v3, v4, rfl, s4, go⟩
      obtain ⟨z, b, hz, rfl, hb⟩ := pr6'.get hi
      have hb4 := s4 _ _ hb
      obtain ⟨t0, t1, t2⟩ := tie z (List.mem_of_getElem? hz)
      have R4 := R.ex (Same.trans b6 s4)
      have m1 := C.all t0 (show z.1 < (n : Int) by omega)
      have m2 := C.all (show 0 ≤ z.2 by omega) t2
      have k1 := C.t.few m1
      have k2 := C.t.few m2
      refine ⟨b, _, rfl, SqT.of hb4, rfl, _, _, rfl, _, _, rfl, rfl, ?_⟩
      refine ⟨_, rfl, _, rfl, d, _, rfl, R4.get m1, ad z.1, tr z.1, rfl, R4.row _ m1, C.t.pos _ m1, _, rfl, _, rfl, d, _, rfl, R4.get m2, ad z.2, tr z.2, rfl, R4.row _ m2, C.t.pos _ m2, rfl, _, rfl, ?_⟩
      by_cases ce : col tr z.1 = col tr z.2
      · have ce' := ce
        unfold col at ce'
        rw [ce', decide_eq_true rfl]
        refine iteT ?_
        obtain ⟨rg, s1'⟩ := C.ring_ tie (List.mem_of_getElem? hz) ce
        refine ⟨_, rfl, _, rfl, d, _, rfl, R4.get m1, _, rfl, _, rfl, d, _, rfl, R4.get m2, ad z.1, ad z.2, _, _, rfl, R4.row _ m1, R4.row _ m2, by omega, by omega, s1', fun r H' hr' s' er => ?_⟩
        have s14 := Same.trans s13 s4
        exact q1 _ r H' rg (s14.free hr') (Same.trans s14 s') er
      · have ce' := ce
        unfold col at ce'
        rw [decide_eq_false (by intro e; injection e with e; exact ce' e)]
        refine iteF ⟨_, _, rfl, s4, go.snoc hz ce⟩
    · rintro σ H4 ⟨v3, v4, rfl, s4, go⟩
      rw [lu] at go
      exact q2 ⟨_, C.sides (fun h => nbr_sym tie h) (fun h => nbr_rng tie h) (go.all tie)⟩ H4 (Same.trans s13 s4)
end
end Od

namespace Od
open PySem PySem.Spec PyProof.Rows L2
def opn (cl : List Bool) (p : Int) : Prop := cl[p.toNat]? = some false
def spReached (C : Addr) : Sp := fun vs H Q _ => ∃ (x l : Addr) (n : Nat) (ts : List Pr) (a : Int) (cl : List Bool), vs = [.ref x, .int a, .ref l] ∧ NetAt C H x n ts ∧ H l = some (.lst (cl.map V.bl)) ∧ cl.length = n ∧ 0 ≤ a ∧ a < (n : Int) ∧
  ∀ (ns : List Int) (p : Addr) (H' : Hp), ns.Pairwise (· < ·) → (∀ k, k ∈ ns ↔ Rch (nbr ts) (opn cl) a k) → H p = none → Same H H' → H' p = some (.lst (ns.map V.int)) → Q (.ref p) H'
section
variable {P : Program} {w : World} {K : PySem.W.Frag} {mg : Str → Option Value} {c : Cs} {base : Heap}
end
end Od

namespace Od
open PySem PySem.Spec PyProof.Rows L2
theorem opn_set {cl : List Bool} {k p : Int} (hk : 0 ≤ k) (hp : 0 ≤ p) : opn (cl.set k.toNat true) p ↔ opn cl p ∧ p ≠ k := by
  unfold opn
  by_cases c : k.toNat = p.toNat
  · have e : p = k := by omega
    subst e
    rw [List.getElem?_set_self']
    constructor
    · intro h
      cases hc : cl[p.toNat]? with
      | none => rw [hc] at h; cases h
      | some b => rw [hc] at h; cases h
    · rintro ⟨_, h⟩; exact absurd rfl h
  · rw [List.getElem?_set_ne c]
    exact ⟨fun h => ⟨h, fun e => c (by rw [e])⟩, fun h => h.1⟩
theorem opn_rep (n : Nat) {p : Int} (h0 : 0 ≤ p) (h1 : p < (n : Int)) : opn (List.replicate n false) p := by
  unfold opn
  rw [List.getElem?_replicate, if_pos (by omega)]
theorem Rch.iff {nb : Int → List Int} {ok ok' : Int → Prop} {n : Nat} {a p : Int} (hb : ∀ {k q : Int}, q ∈ nb k → 0 ≤ q ∧ q < (n : Int)) (h : ∀ q, 0 ≤ q → q < (n : Int) → (ok q ↔ ok' q)) : Rch nb ok a p ↔ Rch nb ok' a p := by
  constructor
  · intro r
    induction r with
    | base => exact .base
    | step _ m o ih => exact .step ih m ((h _ (hb m).1 (hb m).2).mp o)
  · intro r
    induction r with
    | base => exact .base
    | step _ m o ih => exact .step ih m ((h _ (hb m).1 (hb m).2).mpr o)
theorem left_succ {nb : Int → List Int} {ok : Int → Prop} {n i : Nat} {p : Int} (c : left nb n ok i (i : Int)) : left nb n ok (i + 1) p ↔ left nb n ok i p ∧ p ∉ partOf nb n ok (i : Int) := by
  have e : partsTo nb n ok (i + 1) = partsTo nb n ok i ++ [partOf nb n ok (i : Int)] := by
    rw [partsTo]; exact if_pos c
  unfold left
  rw [e]
  constructor
  · rintro ⟨o, h⟩
    exact ⟨⟨o, fun L hL => h L (List.mem_append_left _ hL)⟩, h _ (List.mem_append_right _ (List.mem_singleton.mpr rfl))⟩
  · rintro ⟨⟨o, h⟩, h2⟩
    refine ⟨o, fun L hL => ?_⟩
    rcases List.mem_append.mp hL with z | z
    · exact h L z
    · rw [List.mem_singleton.mp z]; exact h2
theorem parts_yes {nb : Int → List Int} {ok : Int → Prop} {n i : Nat} (c : left nb n ok i (i : Int)) : partsTo nb n ok (i + 1) = partsTo nb n ok i ++ [partOf nb n ok (i : Int)] := by
  rw [partsTo]; exact if_pos c
theorem parts_no {nb : Int → List Int} {ok : Int → Prop} {n i : Nat} (c : ¬ left nb n ok i (i : Int)) : partsTo nb n ok (i + 1) = partsTo nb n ok i := by
  rw [partsTo]; exact if_neg c
theorem left_no {nb : Int → List Int} {ok : Int → Prop} {n i : Nat} {p : Int} (c : ¬ left nb n ok i (i : Int)) : left nb n ok (i + 1) p ↔ left nb n ok i p := by
  unfold left; rw [parts_no c]
/-- one row more -/
theorem RowsAt.snoc {H H' : Hp} {p : Addr} {n : Nat} {f g : Nat → List Int} {rs : List Addr} (R : RowsAt H H' p n f rs) {r : Addr} {L : List Int} (hr : H' r = some (.lst (L.map V.int))) (hn : H r = none) (hne : r ≠ p) (hni : r ∉ rs)
    (h1 : ∀ i, i < n → g i = f i) (h2 : g n = L) : RowsAt H (upd H' p (.lst ((rs ++ [r]).map V.ref))) p (n + 1) g (rs ++ [r]) := by
  refine ⟨by rw [List.length_append, R.len]; rfl, List.nodup_append.mpr ⟨R.nd, List.pairwise_singleton _ _, fun a ha b hb e => hni (by rw [← List.mem_singleton.mp hb, ← e]; exact ha)⟩, upd_same, R.new, fun a ha => ?_, fun i a ha => ?_⟩
  · rcases List.mem_append.mp ha with z | z
    · exact R.rnew a z
    · rw [List.mem_singleton.mp z]; exact hn
  · by_cases ci : i < n
    · rw [List.getElem?_append_left (by rw [R.len]; exact ci)] at ha
      rw [upd_ne (R.ne (List.mem_of_getElem? ha)), h1 i ci]
      exact R.row i a ha
    · rw [List.getElem?_append_right (by rw [R.len]; omega), R.len] at ha
      have ei : i = n := by
        cases hk : i - n with
        | zero => omega
        | succ k => rw [hk] at ha; simp at ha
      subst ei
      rw [Nat.sub_self] at ha
      simp at ha
      subst ha
      rw [upd_ne hne, h2]; exact hr
/-- another object is written -/
theorem RowsAt.other {H H' : Hp} {p : Addr} {n : Nat} {f : Nat → List Int} {rs : List Addr} {b : Addr} {o : HO} (R : RowsAt H H' p n f rs) (h1 : b ∉ rs) (h2 : b ≠ p) : RowsAt H (upd H' b o) p n f rs :=
  ⟨R.len, R.nd, by rw [upd_ne h2.symm]; exact R.at_, R.new, R.rnew, fun i a h => by
    have z : a ≠ b := fun z => h1 (by rw [← z]; exact List.mem_of_getElem? h)
    rw [upd_ne z]; exact R.row i a h⟩
def okOf (ms : List Int) (p : Int) : Prop := p ∉ ms
/-- the parts as the rows of a list -/
noncomputable def prow (ts : List Pr) (n : Nat) (ms : List Int) (i : Nat) (j : Nat) : List Int := (partsTo (nbr ts) n (okOf ms) i).getD j []
def spParts (C B : Addr) : Sp := fun vs H Q E => ∃ (x l : Addr) (n : Nat) (ts : List Pr) (xs : List V), vs = [.ref x, .ref l] ∧ NetAt C H x n ts ∧ H l = some (.lst xs) ∧ (∀ v ∈ xs, ∃ t, Kd H v t) ∧
  ((∃ ms : List Int, xs = ms.map V.int ∧ (∀ m ∈ ms, 0 ≤ m ∧ m < (n : Int)) ∧ ∀ (p : Addr) (rs : List Addr) (H' : Hp), Same H H' → RowsAt H H' p (partsTo (nbr ts) n (okOf ms) n).length (prow ts n ms n) rs → Q (.ref p) H') ∨
  ((∃ v ∈ xs, isPl v n = false) ∧ ∀ H', Same H H' → E (.ref B) none H'))
section
variable {P : Program} {w : World} {K : PySem.W.Frag} {mg : Str → Option Value} {c : Cs} {base : Heap}
end
end Od

namespace Od
open PySem PySem.Spec PyProof.Rows L2
theorem RowsAt.old {H0 H H' : Hp} {p : Addr} {n : Nat} {f : Nat → List Int} {rs : List Addr} (R : RowsAt H H' p n f rs) (s : Same H0 H) : RowsAt H0 H' p n f rs :=
  ⟨R.len, R.nd, R.at_, s.free R.new, fun a h => s.free (R.rnew a h), R.row⟩
def spNear : Sp := fun vs H Q _ => ∃ (n : Nat) (l : Addr) (us : List V) (ts : List Pr), vs = [.int n, .ref l] ∧ n ≤ 40 ∧ H l = some (.lst us) ∧ Prs H us ts ∧ (∀ p ∈ ts, Tie n p) ∧ ts.Pairwise plt ∧ ts.length ≤ 1000 ∧
  ∀ p rs H', Same H H' → RowsAt H H' p n (fun i => nbr ts (i : Int)) rs → Q (.ref p) H'
section
variable {P : Program} {w : World} {K : PySem.W.Frag} {mg : Str → Option Value} {c : Cs} {base : Heap}
theorem ok_near (T : Top K mg c) : Fd.Has P w K mg base CX0 1 "_law_near" ["_law_size", "_law_ties"] spNear := by
  refine T.d__law_near.ok sc__law_near (fun vs H Q E h => ?_) (fun f cdv A outer s H vs Q E hr h => ?_)
  · obtain ⟨n, l, us, ts, rfl, _⟩ := h; rfl
  · obtain ⟨n, l, us, ts, rfl, hn, hl, hp, ht, hup, hz, q⟩ := h
    refine ⟨_, (pss_cons (ps_setLc (i := 2) (own := [("_law_place", 5)]) (g := gName 5) rfl sc__law_near.nd rfl rfl (sw_true rfl rfl rfl (by decide +kernel)) (pi_range1 (by rfl) T.n_range (pa_cons (pv 0) pa_nil)) (blkOk_by (own := [("_law_place", 5)]) (N := N__law_near) (sc := defScope S__law_near) (by decide +kernel)) (fun _ _ _ _ _ => pg_name (i := 5) sc__law_near.nd rfl (Or.inl rfl)) (fun _ _ _ _ _ => pts_nil) (fun _ _ _ _ _ => (pe_lst pa_nil)))
      (pss_cons (ps_for PassesOwn.never rfl (pi_list (pv 1)) (pg_tup rfl (pgs_cons (pg_name (i := 3) sc__law_near.nd rfl (Or.inl rfl)) (pgs_cons (pg_name (i := 4) sc__law_near.nd rfl (Or.inl rfl)) pgs_nil)))
      (pss_cons (ps_expr (pe_bm PySem.F.plainAttrs_list PySem.F.slot_list_append PySem.F.type_list_append mt_append (pe_ix ix_list (pv 2) (pv 3) (fun _ _ => rfl)) (pa_cons (pv 4) pa_nil)))
        (pss_one (ps_expr (pe_bm PySem.F.plainAttrs_list PySem.F.slot_list_append PySem.F.type_list_append mt_append (pe_ix ix_list (pv 2) (pv 4) (fun _ _ => rfl)) (pa_cons (pv 3) pa_nil))))))
      (pss_one (ps_ret (pe_lc (own := [("_law_row", 6)]) (g := gName 6) rfl sc__law_near.nd (pi_list (pv 2)) (blkOk_by (own := [("_law_row", 6)]) (N := N__law_near) (sc := defScope S__law_near) (by decide +kernel)) (fun _ _ _ _ _ => pg_name (i := 6) sc__law_near.nd rfl (Or.inl rfl)) (fun _ _ _ _ _ => pts_nil) (fun _ _ _ _ _ => (pe_callB (r := rSortedI K) cr_sortedI (by rfl) T.n_sorted boot_sorted (pa_cons (pv 6) pa_nil)))))))), ?_⟩
    refine ⟨_, rfl, (n : Int), rfl, by omega, by omega, fun D hD => ?_⟩
    have e0 : ((n : Int)).toNat = n := by simp
    refine lc_range (lo := 0) (n := ((n : Int)).toNat) (fun i Hc => ∃ rs, Same H Hc ∧ RowsAt H Hc D i (fun _ => []) rs) ⟨[], Same.new hD, rfl, List.nodup_nil, upd_same, hD, fun a z => (by cases z), fun i a z => (by simp at z)⟩ ?_ ?_
    · rintro i Hc hi ⟨rs, s5, R⟩
      refine ⟨rfl, tyes (iteT ?_)⟩
      refine ⟨Nat.zero_le _, fun r hr' => ?_⟩
      have nDr : D ≠ r := ne_of_none R.at_ hr'
      refine ⟨_, by rw [upd_ne nDr]; exact R.at_, by rw [List.length_map, R.len, sizeLine_eq]; omega, rs ++ [r], Same.mut (Same.trans s5 (Same.new hr')) hD, by rw [List.length_append, R.len]; rfl, ?_, by rw [upd_same, List.map_append]; rfl, hD, fun a ha => ?_, fun j a ha => ?_⟩
      · refine List.nodup_append.mpr ⟨R.nd, List.pairwise_singleton _ _, fun a ha b hb z => ?_⟩
        rw [List.mem_singleton] at hb
        obtain ⟨j, hj, e⟩ := List.getElem_of_mem ha
        have h1 := R.row j a (by rw [List.getElem?_eq_getElem hj, e])
        rw [z, hb, hr'] at h1; cases h1
      · rcases List.mem_append.mp ha with z | z
        · exact R.rnew a z
        · rw [List.mem_singleton.mp z]; exact s5.free hr'
      · by_cases cj : j < rs.length
        · rw [List.getElem?_append_left cj] at ha
          have h1 := R.row j a ha
          rw [upd_ne (R.ne (List.mem_of_getElem? ha)), upd_ne (ne_of_none h1 hr')]
          exact h1
        · rw [List.getElem?_append_right (by omega)] at ha
          have : a = r := by
            cases hk : j - rs.length with
            | zero => rw [hk] at ha; simp at ha; exact ha.symm
            | succ k => rw [hk] at ha; simp at ha
          rw [this, upd_ne nDr.symm, upd_same]; rfl
    · rintro Hc ⟨rs, s5, R⟩
      rw [e0] at R
      refine ⟨_, rfl, l, rfl, ⟨us, SqL.of (s5 _ _ hl)⟩, for_list (K := K) (a := l) (xs := us) (fun i σ H' => ∃ v3 v4, σ = [some (.int n), some (.ref l), some (.ref D), v3, v4, none, none] ∧ Same H H' ∧ RowsAt H H' D n (fun j => nbr (ts.take i) (j : Int)) rs)
        ⟨none, none, rfl, s5, R⟩ (fun i σ H' _ ⟨_, _, _, s6, _⟩ => s6.seq (SqL.of hl)) ?_ ?_⟩
      · rintro i y σ H' hi ⟨v3, v4, rfl, s6, R6⟩
        obtain ⟨p, t, hti, rfl, htt⟩ := hp.get hi
        have hmem := List.mem_of_getElem? hti
        obtain ⟨b1, b2, b3⟩ := ht p hmem
        obtain ⟨p1, p2⟩ := p
        simp only at b1 b2 b3 htt
        obtain ⟨x1, rfl⟩ : ∃ x1 : Nat, p1 = (x1 : Int) := ⟨p1.toNat, by omega⟩
        obtain ⟨x2, rfl⟩ : ∃ x2 : Nat, p2 = (x2 : Int) := ⟨p2.toNat, by omega⟩
        have tk : ts.take (i + 1) = ts.take i ++ [((x1 : Int), (x2 : Int))] := by rw [List.take_succ, hti]; rfl
        obtain ⟨a1, ha1⟩ : ∃ a, rs[x1]? = some a := ⟨_, List.getElem?_eq_getElem (by rw [R6.len]; omega)⟩
        obtain ⟨a2, ha2⟩ : ∃ a, rs[x2]? = some a := ⟨_, List.getElem?_eq_getElem (by rw [R6.len]; omega)⟩
        have g1 : (rs.map V.ref)[x1]? = some (V.ref a1) := by rw [List.getElem?_map, ha1]; rfl
        have g2 : (rs.map V.ref)[x2]? = some (V.ref a2) := by rw [List.getElem?_map, ha2]; rfl
        have r1 := R6.row x1 a1 ha1
        have small : ∀ k (l' : List Pr), l'.length ≤ 1000 → ((nbr l' k).map V.int).length < sizeLine := fun k l' hl' => by
          have := nbr_len k l' []
          rw [List.length_map, sizeLine_eq]
          unfold nbr
          simp only [List.length_nil] at this
          omega
        have lt : (ts.take i).length ≤ 1000 := by rw [List.length_take]; omega
        refine ⟨t, _, rfl, SqT.of (s6 _ _ htt), rfl, _, _, rfl, _, _, rfl, rfl, ?_⟩
        refine ⟨_, rfl, _, rfl, D, _, _, _, rfl, rfl, SqL.of R6.at_, atI_nat g1, .inl ⟨rfl, _, SqL.of r1⟩, _, rfl, a1, _, _, rfl, rfl, r1, small _ _ lt, ?_⟩
        have R7 := R6.set ha1 (x2 : Int)
        have r2 := R7.row x2 a2 ha2
        have ne12 : x2 ≠ x1 := by omega
        simp only [if_neg ne12] at r2
        refine ⟨_, rfl, _, rfl, D, _, _, _, rfl, rfl, SqL.of R7.at_, atI_nat g2, .inl ⟨rfl, _, SqL.of r2⟩, _, rfl, a2, _, _, rfl, rfl, r2, small _ _ lt, ?_⟩
        have R8 := R7.set ha2 (x1 : Int)
        simp only [if_neg ne12] at R8
        have n1 := R6.rnew a1 (List.mem_of_getElem? ha1)
        have n2 := R6.rnew a2 (List.mem_of_getElem? ha2)
        refine ⟨_, _, rfl, Same.mut (Same.mut s6 n1) n2, ?_⟩
        have ef : (fun j : Nat => nbr (ts.take (i + 1)) (j : Int)) = (fun j : Nat => if j = x2 then nbr (ts.take i) (x2 : Int) ++ [(x1 : Int)] else if j = x1 then nbr (ts.take i) (x1 : Int) ++ [(x2 : Int)] else nbr (ts.take i) (j : Int)) := by
          funext j
          rw [tk, nbr_snoc]
          unfold nbs
          simp only
          by_cases c2 : j = x2
          · subst c2
            rw [if_neg (by omega), if_pos rfl, if_pos rfl]
          · rw [if_neg c2]
            by_cases c1 : j = x1
            · subst c1; rw [if_pos rfl, if_pos rfl]
            · rw [if_neg (by omega), if_neg (by omega), if_neg c1]
        rw [ef]
        exact R8
      · rintro σ H' ⟨v3, v4, rfl, s6, R6⟩
        rw [hp.len, List.take_length] at R6
        refine ⟨_, rfl, D, rfl, ⟨_, SqL.of R6.at_⟩, fun D2 hD2 => ?_⟩
        have lrs := R6.len
        refine lc_list (xs := rs.map V.ref) (fun i Hc => ∃ rs2, Same H' Hc ∧ RowsAt H' Hc D2 i (fun j => nbr ts (j : Int)) rs2) ⟨[], Same.new hD2, rfl, List.nodup_nil, upd_same, hD2, fun a z => (by cases z), fun i a z => (by simp at z)⟩ (fun i Hc _ ⟨_, e, _⟩ => SqL.of (e _ _ R6.at_)) ?_ ?_
        · rintro i y Hc hi ⟨rs2, s7, R7⟩
          rw [List.getElem?_map] at hi
          obtain ⟨r, hri, rfl⟩ := Option.map_eq_some_iff.mp hi
          have il : i < n := by
            have h1 := (List.getElem?_eq_some_iff.mp hri).1
            omega
          refine ⟨rfl, tyes (iteT ?_)⟩
          refine ⟨_, rfl, r, nbr ts (i : Int), rfl, SqL.of (s7 _ _ (R6.row i r hri)), fun ns' r2 pm up hr2 => ?_⟩
          obtain rfl : ns' = nbr ts (i : Int) := sorted_one pm up (nbr_up ht hup _)
          have nD : D2 ≠ r2 := ne_of_none R7.at_ hr2
          have nR : r2 ∉ rs2 := fun z => by
            obtain ⟨j, hj⟩ := List.getElem?_of_mem z
            have h1 := R7.row j r2 hj
            rw [hr2] at h1; cases h1
          have R8 := (R7.keep (Same.new (o := .lst ((nbr ts (i : Int)).map V.int)) hr2)).snoc (g := fun j => nbr ts (j : Int)) (r := r2) upd_same (s7.free hr2) nD.symm nR (fun _ _ => rfl) rfl
          rw [List.map_append] at R8
          exact ⟨_, by rw [upd_ne nD]; exact R7.at_, by rw [List.length_map, R7.len, sizeLine_eq]; omega, rs2 ++ [r2], Same.mut (Same.trans s7 (Same.new hr2)) hD2, R8⟩
        · rintro Hc ⟨rs2, s7, R7⟩
          rw [List.length_map, lrs] at R7
          exact q D2 rs2 Hc (Same.trans s6 s7) (R7.old s6)
end
end Od

namespace Od
open PySem PySem.Spec PyProof.Rows L2
def spPart : Sp := fun vs H Q _ => ∃ (l th : Addr) (n : Nat) (ts : List Pr) (a : Int) (rs : List Addr) (kvs : List (L2.Key × V)) (ok : Int → Prop), vs = [.ref l, .int a, .ref th] ∧ n ≤ 40 ∧ (∀ p ∈ ts, Tie n p) ∧ 0 ≤ a ∧ a < (n : Int) ∧
  H l = some (.lst (rs.map V.ref)) ∧ rs.length = n ∧ (∀ (i : Nat) (r : Addr), rs[i]? = some r → H r = some (.lst ((nbr ts (i : Int)).map V.int))) ∧
  H th = some (.dK kvs) ∧ (∀ q : Int, 0 ≤ q → q < (n : Int) → ((valV kvs (Sum.inl q : L2.Key)).isSome = true ↔ ok q)) ∧
  ∀ (ns : List Int) (p : Addr) (H' : Hp), ns.Pairwise (· < ·) → (∀ k, k ∈ ns ↔ Rch (nbr ts) ok a k) → H p = none → Same H H' → H' p = some (.lst (ns.map V.int)) → Q (.ref p) H'
section
variable {P : Program} {w : World} {K : PySem.W.Frag} {mg : Str → Option Value} {c : Cs} {base : Heap}
theorem ok_part (T : Top K mg c) : Fd.Has P w K mg base CX0 1 "_law_part" ["_law_near_here", "_law_place", "_law_there"] spPart := by
  refine T.d__law_part.ok sc__law_part (fun vs H Q E h => ?_) (fun f cdv A outer s H vs Q E hr h => ?_)
  · obtain ⟨l, th, n, ts, a, rs, kvs, ok, rfl, _⟩ := h; rfl
  · obtain ⟨l, th, n, ts, a, rs, kvs, ok, rfl, n40, tie, h0, h1, hl, lrs, hrow, hth, hok, q⟩ := h
    refine ⟨_, (pss_cons (ps_set (i := 3) sc__law_part.nd rfl (Or.inl rfl) (pe_disp (pps_cons (pv 1) pe_bl pps_nil) (by rfl) (by rfl) (fun z => by cases z) (by decide)))
      (pss_cons (ps_set (i := 4) sc__law_part.nd rfl (Or.inl rfl) (pe_lst (pa_cons (pv 1) pa_nil)))
      (pss_cons (ps_while PassesOwn.never (pt_cmpR (op_neD hr.units) (pv 4) (pe_lst pa_nil) (nomark _))
      (pss_cons (ps_set (i := 5) sc__law_part.nd rfl (Or.inl rfl) (pe_bm0 PySem.F.plainAttrs_list PySem.F.slot_list_pop PySem.F.type_list_pop mt_pop (pv 4)))
        (pss_one (ps_for PassesOwn.never rfl (pi_list (pe_ix ix_list (pv 0) (pv 5) (fun _ _ => rfl))) (pg_name (i := 6) sc__law_part.nd rfl (Or.inl rfl))
        (pss_one (ps_if (PW.pt (pw_and (pt_cmp (pc_din (hu_of hr) (pv 6) (pv 2))) (pw_and1 (pt_cmp (pc_dnotin (hu_of hr) (pv 6) (pv 3))))))
          (pss_cons (ps_asg pe_bl (pg_sub (pv 3) (pv 6) (set_dict (hu_of hr))))
            (pss_one (ps_expr (pe_bm PySem.F.plainAttrs_list PySem.F.slot_list_append PySem.F.type_list_append mt_append (pv 4) (pa_cons (pv 6) pa_nil)))))
          pss_nil))))))
      (pss_one (ps_ret (pe_callB (call_sortedDI rfl) (by rfl) T.n_sorted boot_sorted (pa_cons (pv 3) pa_nil))))))), ?_⟩
    dsimp only [cxOf, Cx.nox]
    refine fun M hM => ⟨_, rfl, upd_same, [(Sum.inl a, .bl true)], rfl, (by show 1 ≤ 15; decide), ?_⟩
    have s0 : Same H (upd (upd H M (.dK [])) M (.dK (mergeK [] [(Sum.inl a, .bl true)]))) := Same.mut (Same.new hM) hM
    have hM0 : upd (upd H M (.dK [])) M (.dK (mergeK [] [(Sum.inl a, .bl true)])) M = some (.dK (mk [a])) := by rw [upd_same]; rfl
    generalize upd (upd H M (.dK [])) M (.dK (mergeK [] [(Sum.inl a, .bl true)])) = H0 at s0 hM0 ⊢
    refine ⟨_, rfl, (by show 1 ≤ sizeLine; decide), fun W hW => ?_⟩
    have nMW : M ≠ W := ne_of_none hM0 hW
    have hWH : H W = none := s0.free hW
    refine ⟨fun m σ H' => ∃ v5 v6 sl wl, σ = [some (.ref l), some (.int a), some (.ref th), some (.ref M), some (.ref W), v5, v6] ∧ Same H H' ∧ H' M = some (.dK (mk sl)) ∧ H' W = some (.lst (wl.map V.int)) ∧ DI (nbr ts) ok n a sl wl (fun _ _ => False) ∧ m = 2 * (n - sl.length) + wl.length ∧ m ≤ 2 * n,
      ⟨_, none, none, [a], [a], rfl, Same.trans s0 (Same.new hW), by rw [upd_ne nMW, hM0], upd_same, DI.start h0 h1, rfl, by show 2 * (n - 1) + 1 ≤ 2 * n; omega⟩, ?_⟩
    rintro m σ H1 ⟨v5, v6, sl, wl, rfl, s1, hM1, hW1, D, rfl, mb⟩
    refine ⟨_, rfl, Nat.zero_le _, fun e0 f0 => ?_⟩
    have b0 := Same.new (o := .lst []) f0
    refine ⟨dIs wl, dIs [], dp_ints (SqL.of (b0 _ _ hW1)), dp_ints (SqL.of upd_same), shaped_dIs _, shaped_dIs _, _, rfl, ?_⟩
    rw [eqv_dIs]
    have s1 := Same.trans s1 b0
    have hM1 := b0 _ _ hM1
    have hW1 := b0 _ _ hW1
    generalize upd H1 e0 (.lst []) = H1 at s1 hM1 hW1 ⊢
    by_cases cw : wl = []
    · subst cw
      rw [decide_eq_true rfl]
      dsimp only
      rw [if_neg (by decide)]
      refine ⟨_, rfl, M, _, sl, rfl, .inl hM1, mk_keys sl, by have := D.len; omega, fun ns p pm up hp => ?_⟩
      have nd : ns.Nodup := pm.nodup_iff.mpr D.nd
      have up' : ns.Pairwise (· < ·) := (up.and nd).imp fun {a b} h => by
        have h1 := h.1
        have h2 := h.2
        omega
      refine q ns p _ up' (fun k => ?_) (s1.free hp) (Same.trans s1 (Same.new hp)) upd_same
      rw [pm.mem_iff, D.fin k]
    · have hlen : 0 < wl.length := List.length_pos_iff.mpr cw
      obtain ⟨y, hy⟩ : ∃ y, wl[wl.length - 1]? = some y := ⟨_, List.getElem?_eq_getElem (by omega)⟩
      have hyl : wl.getLast? = some y := by rw [List.getLast?_eq_getElem?]; exact hy
      have hyw : y ∈ wl := List.mem_of_getElem? hy
      have hys : y ∈ sl := D.wt y hyw
      have yr := D.rg y hys
      rw [decide_eq_false cw]
      dsimp only
      rw [if_pos (by decide)]
      refine ⟨fun σ H' => ∃ v5 v6 sl2 wl2, σ = [some (.ref l), some (.int a), some (.ref th), some (.ref M), some (.ref W), v5, v6] ∧ Same H H' ∧ H' M = some (.dK (mk sl2)) ∧ H' W = some (.lst (wl2.map V.int)) ∧ DI (nbr ts) ok n a sl2 wl2 (fun _ _ => False) ∧ 2 * (n - sl2.length) + wl2.length < 2 * (n - sl.length) + wl.length, ?_, ?_⟩
      · rintro σ' H' ⟨v5, v6, sl2, wl2, e1, e2, e3, e4, e5, e6⟩
        exact ⟨_, e6, v5, v6, sl2, wl2, e1, e2, e3, e4, e5, rfl, by omega⟩
      have D1 := D.pop hyl
      have dl : wl.dropLast.length = wl.length - 1 := List.length_dropLast
      refine ⟨_, rfl, .inl ⟨rfl, _, SqL.of hW1⟩, W, _, V.int y, rfl, rfl, hW1, by rw [List.length_map, List.getElem?_map, hy]; rfl, ?_⟩
      have s2 : Same H (upd H1 W (.lst (wl.map V.int).dropLast)) := Same.mut s1 hWH
      have hM2 : upd H1 W (.lst (wl.map V.int).dropLast) M = some (.dK (mk sl)) := by rw [upd_ne nMW]; exact hM1
      have hW2 : upd H1 W (.lst (wl.map V.int).dropLast) W = some (.lst (wl.dropLast.map V.int)) := by rw [upd_same, List.map_dropLast]
      generalize upd H1 W (.lst (wl.map V.int).dropLast) = H2 at s2 hM2 hW2 ⊢
      obtain ⟨yn, rfl⟩ : ∃ yn : Nat, y = (yn : Int) := ⟨y.toNat, by omega⟩
      obtain ⟨r, hr'⟩ : ∃ r, rs[yn]? = some r := ⟨_, List.getElem?_eq_getElem (by omega)⟩
      have g : (rs.map V.ref)[yn]? = some (V.ref r) := by rw [List.getElem?_map, hr']; rfl
      have hrr := hrow yn r hr'
      refine ⟨_, rfl, _, rfl, l, _, _, _, rfl, rfl, SqL.of (s2 _ _ hl), atI_nat g, r, rfl, ⟨_, SqL.of (s2 _ _ hrr)⟩, for_list (K := K) (a := r) (xs := (nbr ts (yn : Int)).map V.int) (fun i σ H' => ∃ v6 sl2 wl2, σ = [some (.ref l), some (.int a), some (.ref th), some (.ref M), some (.ref W), some (.int (yn : Int)), v6] ∧ Same H H' ∧ H' M = some (.dK (mk sl2)) ∧ H' W = some (.lst (wl2.map V.int)) ∧ (yn : Int) ∈ sl2 ∧
          DI (nbr ts) ok n a sl2 wl2 (fun p z => p = (yn : Int) ∧ z ∈ (nbr ts (yn : Int)).drop i) ∧ 2 * (n - sl2.length) + wl2.length < 2 * (n - sl.length) + wl.length)
        ⟨v6, sl, wl.dropLast, rfl, s2, hM2, hW2, hys, D1, by omega⟩ (fun i σ H' _ ⟨_, _, _, _, e, _⟩ => SqL.of (e _ _ hrr)) ?_ ?_⟩
      · rintro i z σ H3 hi ⟨v6, sl2, wl2, rfl, s3, hM3, hW3, hy3, D3, ms⟩
        rw [List.getElem?_map] at hi
        obtain ⟨k, hk, rfl⟩ := Option.map_eq_some_iff.mp hi
        have kr := nbr_rng tie (List.mem_of_getElem? hk)
        have len3 := D3.len
        have hk1 := hok k kr.1 kr.2
        refine ⟨_, rfl, _, rfl, th, _, rfl, DGet.k (k := .inl k) (s3 _ _ hth), _, rfl, ?_⟩
        cases ho : (valV kvs (Sum.inl k : L2.Key)).isSome with
        | false =>
          refine iteF ?_
          refine ⟨_, sl2, wl2, rfl, s3, hM3, hW3, hy3, D3.skip hk (fun o => ?_), ms⟩
          rw [hk1.mpr o] at ho; cases ho
        | true =>
          have o := hk1.mp ho
          refine iteT ⟨_, rfl, _, rfl, M, _, rfl, DGet.k (k := .inl k) hM3, _, rfl, ?_⟩
          rw [mk_val]
          by_cases cs : k ∈ sl2
          · rw [decide_eq_true cs]
            refine iteF ?_
            exact ⟨_, sl2, wl2, rfl, s3, hM3, hW3, hy3, D3.skip hk (fun _ => cs), ms⟩
          · rw [decide_eq_false cs]
            refine iteT ?_
            have D4 := D3.push hy3 hk kr o cs
            have len4 := D4.len
            rw [List.length_append, List.length_singleton] at len4
            refine ⟨_, rfl, _, rfl, M, _, rfl, DPut.k (k := .inl k) hM3 (by rw [mk_len, sizeLine_eq]; omega), ?_⟩
            rw [mk_put cs]
            refine ⟨_, rfl, .inl ⟨rfl, _, SqL.of (by rw [upd_ne nMW.symm]; exact hW3)⟩, _, rfl, W, _, _, rfl, rfl, by rw [upd_ne nMW.symm]; exact hW3, ?_, ?_⟩
            · rw [List.length_map, sizeLine_eq]; omega
            · refine ⟨_, sl2 ++ [k], wl2 ++ [k], rfl, Same.mut (Same.mut s3 hM) hWH, ?_, ?_, List.mem_append_left _ hy3, D4, ?_⟩
              · rw [upd_ne nMW, upd_same]
              · rw [upd_same, List.map_append]; rfl
              · rw [List.length_append, List.length_append, List.length_singleton]; omega
      · rintro σ H3 ⟨v6, sl2, wl2, rfl, s3, hM3, hW3, hy3, D3, ms⟩
        rw [List.length_map] at D3
        exact ⟨_, v6, sl2, wl2, rfl, s3, hM3, hW3, D3.done, ms⟩
end
end Od

namespace Od
open PySem PySem.Spec PyProof.Rows L2
/-- the places below i that are not taken away -/
def thr (ms : List Int) : Nat → List Int
  | 0 => []
  | i + 1 => if (i : Int) ∈ ms then thr ms i else thr ms i ++ [(i : Int)]
theorem thr_mem {ms : List Int} : ∀ {i : Nat} {q : Int}, q ∈ thr ms i ↔ 0 ≤ q ∧ q < (i : Int) ∧ q ∉ ms
  | 0, q => ⟨fun h => (by cases h), fun h => (by omega)⟩
  | i + 1, q => by
    unfold thr
    by_cases c : (i : Int) ∈ ms
    · rw [if_pos c, thr_mem]
      constructor
      · rintro ⟨a, b, d⟩; exact ⟨a, by omega, d⟩
      · rintro ⟨a, b, d⟩
        refine ⟨a, ?_, d⟩
        have : q ≠ (i : Int) := fun z => d (z ▸ c)
        omega
    · rw [if_neg c, List.mem_append, thr_mem, List.mem_singleton]
      constructor
      · rintro (⟨a, b, d⟩ | rfl)
        · exact ⟨a, by omega, d⟩
        · exact ⟨by omega, by omega, c⟩
      · rintro ⟨a, b, d⟩
        by_cases e : q = (i : Int)
        · exact .inr e
        · exact .inl ⟨a, by omega, d⟩
theorem thr_nd (ms : List Int) : ∀ i, (thr ms i).Nodup
  | 0 => List.nodup_nil
  | i + 1 => by
    unfold thr
    by_cases c : (i : Int) ∈ ms
    · rw [if_pos c]; exact thr_nd ms i
    · rw [if_neg c]
      refine List.nodup_append.mpr ⟨thr_nd ms i, List.pairwise_singleton _ _, fun a ha b hb e => ?_⟩
      rw [List.mem_singleton] at hb
      have := (thr_mem.mp ha).2.1
      omega
theorem thr_len (ms : List Int) : ∀ i, (thr ms i).length ≤ i
  | 0 => Nat.le_refl _
  | i + 1 => by
    have ih := thr_len ms i
    unfold thr
    by_cases c : (i : Int) ∈ ms
    · rw [if_pos c]; omega
    · rw [if_neg c, List.length_append, List.length_singleton]; omega
theorem merge_mk : ∀ (s2 s1 : List Int), (s1 ++ s2).Nodup → mergeK (mk s1) (mk s2) = mk (s1 ++ s2)
  | [], s1, _ => by rw [List.append_nil]; rfl
  | q :: s2, s1, nd => by
    have hq : q ∉ s1 := fun z => (List.nodup_append.mp nd).2.2 q z q List.mem_cons_self rfl
    have e : s1 ++ q :: s2 = (s1 ++ [q]) ++ s2 := by rw [List.append_assoc]; rfl
    rw [e] at nd ⊢
    rw [← merge_mk s2 (s1 ++ [q]) nd, ← mk_put hq]
    rfl
theorem mk_put' (sl : List Int) (q : Int) : ∃ sl', putK (mk sl) (Sum.inl q : L2.Key) (V.bl true) = mk sl' ∧ (∀ p, p ∈ sl' ↔ p ∈ sl ∨ p = q) ∧ sl'.length ≤ sl.length + 1 := by
  by_cases h : q ∈ sl
  · refine ⟨sl, ?_, fun p => ⟨.inl, fun z => z.elim id fun e => e ▸ h⟩, Nat.le_succ _⟩
    unfold putK
    rw [valV_any, mk_val, decide_eq_true h, if_pos rfl]
    unfold mk
    rw [List.map_map]
    refine List.map_congr_left fun x _ => ?_
    show (if (Sum.inl x : L2.Key) = Sum.inl q then ((Sum.inl x : L2.Key), V.bl true) else (Sum.inl x, V.bl true)) = _
    by_cases e : (Sum.inl x : L2.Key) = Sum.inl q
    · rw [if_pos e]
    · rw [if_neg e]
  · exact ⟨sl ++ [q], mk_put h, fun p => by rw [List.mem_append, List.mem_singleton], by rw [List.length_append]; exact Nat.le_refl _⟩
theorem atI_last {xs : List V} {v : V} : atI (xs ++ [v]) (-1) = some v := by
  unfold atI ixN
  rw [List.length_append, List.length_singleton, if_neg (by decide), if_pos (by omega)]
  have : (-1 + ((xs.length + 1 : Nat) : Int)).toNat = xs.length := by omega
  rw [this]
  show (xs ++ [v])[xs.length]? = some v
  rw [List.getElem?_append_right (Nat.le_refl _), Nat.sub_self]; rfl
end Od

namespace Od
open PySem PySem.Spec PyProof.Rows L2
def spPartsL : Sp := fun vs H Q _ => ∃ (n : Nat) (l t : Addr) (us : List V) (ts : List Pr) (ms : List Int), vs = [.int n, .ref l, .ref t] ∧ 1 ≤ n ∧ n ≤ 40 ∧ H l = some (.lst us) ∧ Prs H us ts ∧ (∀ p ∈ ts, Tie n p) ∧ ts.Pairwise plt ∧ ts.length ≤ 1000 ∧ H t = some (.lst (ms.map V.int)) ∧
  ∀ (p : Addr) (rs : List Addr) (H' : Hp), Same H H' → RowsAt H H' p (partsTo (nbr ts) n (okOf ms) n).length (prow ts n ms n) rs → Q (.ref p) H'
section
variable {P : Program} {w : World} {K : PySem.W.Frag} {mg : Str → Option Value} {c : Cs} {base : Heap}
theorem ok_partsL (T : Top K mg c) : Fd.Has P w K mg base CX0 2 "_law_parts" ["_law_size", "_law_ties", "_law_taken"] spPartsL := by
  have G__law_near : Fd.Has P w K mg base CX0 1 "_law_near" ["_law_size", "_law_ties"] spNear := ok_near T
  have G__law_part : Fd.Has P w K mg base CX0 1 "_law_part" ["_law_near_here", "_law_place", "_law_there"] spPart := ok_part T
  refine T.d__law_parts.ok sc__law_parts (fun vs H Q E h => ?_) (fun f cdv A outer s H vs Q E hr h => ?_)
  · obtain ⟨n, l, t, us, ts, ms, rfl, _⟩ := h; rfl
  · obtain ⟨n, l, t, us, ts, ms, rfl, n1, n40, hl, hp, tie, up, few, ht, q⟩ := h
    have hr__law_near := hr
    have hr__law_part := hr
    refine ⟨_, (pss_cons (ps_set (i := 3) sc__law_parts.nd rfl (Or.inl rfl) (Fd.pe_f G__law_near hr__law_near (by rfl) (pa_cons (pv 0) (pa_cons (pv 1) pa_nil))))
      (pss_cons (ps_set (i := 5) sc__law_parts.nd rfl (Or.inl rfl) (pe_callTy (call_dictP rfl) (by rfl) T.n_dict boot_dict (pa_cons (pe_lc (own := [("_law_place", 4)]) (g := gName 4) rfl sc__law_parts.nd (pi_range1 (by rfl) T.n_range (pa_cons (pv 0) pa_nil)) (blkOk_by (own := [("_law_place", 4)]) (N := N__law_parts) (sc := defScope S__law_parts) (by decide +kernel)) (fun _ _ _ _ _ => pg_name (i := 4) sc__law_parts.nd rfl (Or.inl rfl)) (fun _ _ _ _ _ => (pts_one (pt_cmpR (r := rIn K true) op_notIn_seq (pv 4) (pv 2) (by rfl)))) (fun _ _ _ _ _ => (pe_tup (pa_cons (pv 4) (pa_cons pe_bl pa_nil))))) pa_nil)))
      (pss_cons (ps_set (i := 6) sc__law_parts.nd rfl (Or.inl rfl) (pe_lst pa_nil))
      (pss_cons (ps_set (i := 7) sc__law_parts.nd rfl (Or.inl rfl) pe_dnewK)
      (pss_cons (ps_for PassesOwn.never rfl (pi_range1 (by rfl) T.n_range (pa_cons (pv 0) pa_nil)) (pg_name (i := 4) sc__law_parts.nd rfl (Or.inl rfl))
      (pss_one (ps_if (PW.pt (pw_and (pt_cmp (pc_din (hu_of hr) (pv 4) (pv 5))) (pw_and1 (pt_cmp (pc_dnotin (hu_of hr) (pv 4) (pv 7))))))
        (pss_cons (ps_expr (pe_bm PySem.F.plainAttrs_list PySem.F.slot_list_append PySem.F.type_list_append mt_append (pv 6) (pa_cons (Fd.pe_f G__law_part hr__law_part (by rfl) (pa_cons (pv 3) (pa_cons (pv 4) (pa_cons (pv 5) pa_nil)))) pa_nil)))
          (pss_one (ps_for PassesOwn.never rfl (pi_list (pe_ix ix_list (pv 6) (pe_un un_neg pe_int) (fun _ _ => rfl))) (pg_name (i := 8) sc__law_parts.nd rfl (Or.inl rfl))
          (pss_one (ps_asg pe_bl (pg_sub (pv 7) (pv 8) (set_dict (hu_of hr))))))))
        pss_nil)))
      (pss_one (ps_ret (pv 6)))))))), ?_⟩
    dsimp only [cxOf, Cx.nox]
    refine ⟨_, rfl, _, rfl, n, l, us, ts, rfl, n40, hl, hp, tie, up, few, fun nl rs H1 s1 R => ?_⟩
    have hnl := R.at_
    have hrow := R.row
    have lrs := R.len
    have ht1 := s1 _ _ ht
    refine ⟨_, rfl, (n : Int), rfl, by omega, by omega, fun D hD => ?_⟩
    refine lc_range (lo := 0) (n := n) (fun i Hc => ∃ ps, Same H1 Hc ∧ Hc D = some (.lst (ps.map V.ref)) ∧ ps.length ≤ i ∧ Paired (fun (p : Addr) (kv : L2.Key × V) => Hc p = some (.tup [kV kv.1, kv.2])) ps (mk (thr ms i))) ⟨[], Same.new hD, upd_same, Nat.le_refl _, .nil⟩ ?_ ?_
    · rintro i Hc hi ⟨ps, s2, hDc, lp, pr⟩
      rw [show (0 : Int) + (i : Int) = (i : Int) from Int.zero_add _]
      refine ⟨rfl, _, rfl, _, rfl, t, _, rfl, .inl (SqL.of (s2 _ _ ht1)), rfl, flat_ints ms, _, rfl, ?_⟩
      rw [inV_ints]
      by_cases cm : (i : Int) ∈ ms
      · rw [decide_eq_true cm]
        refine iteF ⟨ps, s2, hDc, by omega, ?_⟩
        rw [thr, if_pos cm]; exact pr
      · rw [decide_eq_false cm]
        refine iteT ⟨_, rfl, (by show 2 ≤ sizeLine; decide), fun r hr' => ?_⟩
        have nD : D ≠ r := ne_of_none hDc hr'
        have b1 : Same Hc (upd Hc r (.tup [.int (i : Int), .bl true])) := Same.new hr'
        refine ⟨_, by rw [upd_ne nD]; exact hDc, by rw [List.length_map, sizeLine_eq]; omega, ps ++ [r], Same.mut (Same.trans s2 b1) hD, by rw [upd_same, List.map_append]; rfl, by rw [List.length_append, List.length_singleton]; omega, ?_⟩
        rw [thr, if_neg cm]
        unfold mk at pr ⊢
        rw [List.map_append]
        refine pairSnoc (L2.Paired.mapP pr fun p kv e => ?_) ?_
        · rw [upd_ne (ne_of e hDc (fun z => nomatch z)), upd_ne (ne_of_none e hr')]; exact e
        · rw [upd_ne nD.symm]; exact upd_same
    rintro H2 ⟨ps, s2, hD2, lp, pr⟩
    refine ⟨D, ps, mk (thr ms n), rfl, SqL.of hD2, L2.Paired.mapP pr fun p kv e => SqT.of e, fun th hth0 => ?_⟩
    have em : mergeK [] (mk (thr ms n)) = mk (thr ms n) := merge_mk (thr ms n) [] (thr_nd ms n)
    rw [em]
    have s3 : Same H1 (upd H2 th (.dK (mk (thr ms n)))) := Same.trans s2 (Same.new hth0)
    have hth : upd H2 th (.dK (mk (thr ms n))) th = some (.dK (mk (thr ms n))) := upd_same
    generalize upd H2 th (.dK (mk (thr ms n))) = H3 at s3 hth ⊢
    have hok : ∀ q : Int, 0 ≤ q → q < (n : Int) → ((valV (mk (thr ms n)) (Sum.inl q : L2.Key)).isSome = true ↔ okOf ms q) := fun q h0 h1 => by
      rw [mk_val, decide_eq_true_eq, thr_mem]
      exact ⟨fun z => z.2.2, fun z => ⟨h0, h1, z⟩⟩
    have hb : ∀ {k q : Int}, q ∈ nbr ts k → 0 ≤ q ∧ q < (n : Int) := fun m => nbr_rng tie m
    -- found, met
    refine ⟨Nat.zero_le _, fun F hF => ?_⟩
    refine fun M hM => ?_
    have nFM : F ≠ M := fun z => by rw [← z, upd_same] at hM; cases hM
    have s13 : Same H H3 := Same.trans s1 s3
    have hFH : H F = none := s13.free hF
    have s4 : Same H3 (upd (upd H3 F (.lst [])) M (.dK [])) := Same.trans (Same.new hF) (Same.new hM)
    have hMH : H M = none := s13.free ((Same.new hF).free hM)
    have hF4 : upd (upd H3 F (.lst [])) M (.dK []) F = some (.lst []) := by rw [upd_ne nFM]; exact upd_same
    have hM4 : upd (upd H3 F (.lst [])) M (.dK []) M = some (.dK (mk [])) := by rw [upd_same]; rfl
    have hF3 : H3 F = none := hF
    have hM3 : H3 M = none := (Same.new hF).free hM
    generalize upd (upd H3 F (.lst [])) M (.dK []) = H4 at s4 hF4 hM4 ⊢
    refine ⟨_, rfl, (n : Int), rfl, by omega, by omega, for_range (lo := 0) (n := n) (fun i σ H' => ∃ v4 v8 sl fs, σ = [some (.int n), some (.ref l), some (.ref t), some (.ref nl), v4, some (.ref th), some (.ref F), some (.ref M), v8] ∧ Same H3 H' ∧ H' M = some (.dK (mk sl)) ∧ (∀ p : Int, p ∈ sl ↔ ∃ L ∈ partsTo (nbr ts) n (okOf ms) i, p ∈ L) ∧ sl.length ≤ i * n ∧
        RowsAt H3 H' F (partsTo (nbr ts) n (okOf ms) i).length (prow ts n ms i) fs)
      ⟨_, none, [], [], rfl, s4, hM4, fun p => ⟨fun z => (by cases z), fun ⟨L, hL, _⟩ => (by cases hL)⟩, by simp, ⟨rfl, List.nodup_nil, hF4, hF3, fun a z => (by cases z), fun i a z => (by simp at z)⟩⟩ ?_ ?_⟩
    · rintro i σ H5 hi ⟨v4, v8, sl, fs, rfl, s5, hM5, mem, lsl, RF⟩
      rw [show (0 : Int) + (i : Int) = (i : Int) from Int.zero_add _]
      have lenP := partsTo_len (nb := nbr ts) (n := n) (ok := okOf ms) i
      refine ⟨_, rfl, _, rfl, th, _, rfl, DGet.k (k := .inl (i : Int)) (s5 _ _ hth), _, rfl, ?_⟩
      have hoi := hok (i : Int) (by omega) (by omega)
      have skip : ¬ left (nbr ts) n (okOf ms) i (i : Int) → (∀ p : Int, p ∈ sl ↔ ∃ L ∈ partsTo (nbr ts) n (okOf ms) (i + 1), p ∈ L) ∧ sl.length ≤ (i + 1) * n ∧
          RowsAt H3 H5 F (partsTo (nbr ts) n (okOf ms) (i + 1)).length (prow ts n ms (i + 1)) fs := fun no => by
        have e := parts_no no
        refine ⟨fun p => ?_, ?_, ?_⟩
        · rw [e]; exact mem p
        · rw [Nat.succ_mul]; omega
        · unfold prow; rw [e]; exact RF
      cases ho : (valV (mk (thr ms n)) (Sum.inl (i : Int) : L2.Key)).isSome with
      | false =>
        refine iteF ?_
        obtain ⟨e4, e5, e6⟩ := skip fun z => by
          rw [hoi.mpr z.1] at ho; cases ho
        exact ⟨_, _, sl, fs, rfl, s5, hM5, e4, e5, e6⟩
      | true =>
        refine iteT ⟨_, rfl, _, rfl, M, _, rfl, DGet.k (k := .inl (i : Int)) hM5, _, rfl, ?_⟩
        rw [mk_val]
        by_cases cs : (i : Int) ∈ sl
        · rw [decide_eq_true cs]
          refine iteF ?_
          obtain ⟨e4, e5, e6⟩ := skip fun z => by
            obtain ⟨L, hL, hm⟩ := (mem _).mp cs
            exact z.2 L hL hm
          exact ⟨_, _, sl, fs, rfl, s5, hM5, e4, e5, e6⟩
        · rw [decide_eq_false cs]
          have yes : left (nbr ts) n (okOf ms) i (i : Int) := ⟨hoi.mp ho, fun L hL hm => cs ((mem _).mpr ⟨L, hL, hm⟩)⟩
          refine iteT ⟨_, rfl, .inl ⟨rfl, _, SqL.of RF.at_⟩, _, rfl, _, rfl, _, rfl, nl, th, n, ts, (i : Int), rs, mk (thr ms n), okOf ms, rfl, n40, tie, by omega, by omega, s5 _ _ (s3 _ _ hnl), lrs, fun j r hj => s5 _ _ (s3 _ _ (hrow j r hj)), s5 _ _ hth, hok, fun ns r H6 upn memn hr0 s6 hr6 => ?_⟩
          have eL : ns = partOf (nbr ts) n (okOf ms) (i : Int) := up_one upn (partOf_up _ _ _ _) fun p => by
            rw [memn p, partOf_mem hb (by omega) (by omega)]
          rw [eL] at hr6
          have lenL := partOf_len (nbr ts) n (okOf ms) (i : Int)
          have eP := parts_yes yes
          generalize partOf (nbr ts) n (okOf ms) (i : Int) = L at hr6 lenL eP
          clear memn upn eL ns
          have nrM : r ≠ M := fun z => by rw [z, hM5] at hr0; cases hr0
          have nrF : r ≠ F := fun z => by rw [z, RF.at_] at hr0; cases hr0
          have hrH : H3 r = none := s5.free hr0
          have nrR : r ∉ fs := fun z => by
            obtain ⟨j, hj⟩ := List.getElem?_of_mem z
            have h1 := RF.row j r hj
            rw [hr0] at h1; cases h1
          have nMR : M ∉ fs := fun z => by
            obtain ⟨j, hj⟩ := List.getElem?_of_mem z
            have h1 := RF.row j M hj
            rw [hM5] at h1; cases h1
          have RF6 := RF.keep s6
          refine ⟨F, _, _, rfl, rfl, RF6.at_, by rw [List.length_map, RF6.len, sizeLine_eq]; omega, ?_⟩
          have R7 := RF6.snoc (g := prow ts n ms (i + 1)) hr6 hrH nrF nrR (fun j hj => by unfold prow; rw [eP, List.getD_eq_getElem?_getD, List.getD_eq_getElem?_getD, List.getElem?_append_left hj]) (by unfold prow; rw [eP, List.getD_eq_getElem?_getD, List.getElem?_append_right (Nat.le_refl _), Nat.sub_self]; rfl)
          have elen : (partsTo (nbr ts) n (okOf ms) i).length + 1 = (partsTo (nbr ts) n (okOf ms) (i + 1)).length := by rw [eP, List.length_append]; rfl
          rw [elen, List.map_append] at R7
          have s7 : Same H3 (upd H6 F (.lst (fs.map V.ref ++ [V.ref r]))) := Same.mut (Same.trans s5 s6) hF3
          have hM7 : upd H6 F (.lst (fs.map V.ref ++ [V.ref r])) M = some (.dK (mk sl)) := by rw [upd_ne nFM.symm]; exact s6 _ _ hM5
          have hr7 : upd H6 F (.lst (fs.map V.ref ++ [V.ref r])) r = some (.lst (L.map V.int)) := by rw [upd_ne nrF]; exact hr6
          have hF7 : upd H6 F (.lst (fs.map V.ref ++ [V.ref r])) F = some (.lst (fs.map V.ref ++ [V.ref r])) := upd_same
          have R7' : RowsAt H3 (upd H6 F (.lst (fs.map V.ref ++ [V.ref r]))) F (partsTo (nbr ts) n (okOf ms) (i + 1)).length (prow ts n ms (i + 1)) (fs ++ [r]) := R7
          generalize upd H6 F (.lst (fs.map V.ref ++ [V.ref r])) = H7 at s7 hM7 hr7 hF7 R7' ⊢
          clear R7
          have nMR' : M ∉ fs ++ [r] := fun z => by
            rcases List.mem_append.mp z with z | z
            · exact nMR z
            · exact nrM (List.mem_singleton.mp z).symm
          refine ⟨_, rfl, _, rfl, F, _, _, _, rfl, rfl, SqL.of hF7, atI_last, r, rfl, ⟨_, SqL.of hr7⟩, for_list (K := K) (a := r) (xs := L.map V.int) (fun j σ H' => ∃ v8 sl', σ = [some (V.int n), some (.ref l), some (.ref t), some (.ref nl), some (.int (i : Int)), some (.ref th), some (.ref F), some (.ref M), v8] ∧ Same H3 H' ∧ H' M = some (.dK (mk sl')) ∧ (∀ p : Int, p ∈ sl' ↔ p ∈ sl ∨ p ∈ L.take j) ∧ sl'.length ≤ i * n + j ∧ H' r = some (.lst (L.map V.int)) ∧
              RowsAt H3 H' F (partsTo (nbr ts) n (okOf ms) (i + 1)).length (prow ts n ms (i + 1)) (fs ++ [r]))
            ⟨v8, sl, rfl, s7, hM7, fun p => by rw [List.take_zero]; exact ⟨.inl, fun z => z.elim id fun z => by cases z⟩, lsl, hr7, R7'⟩ (fun j σ H' _ ⟨_, _, _, _, _, _, _, e, _⟩ => SqL.of e) ?_ ?_⟩
          · rintro j v σ H8 hj ⟨v8, sl', rfl, s8, hM8, mem8, lsl8, hr8, R8⟩
            rw [List.getElem?_map] at hj
            obtain ⟨k, hk, rfl⟩ := Option.map_eq_some_iff.mp hj
            have tk : L.take (j + 1) = L.take j ++ [k] := by rw [List.take_succ, hk]; rfl
            have jl := (List.getElem?_eq_some_iff.mp hk).1
            have sz : sl'.length < 2000 := by
              have h1 : i * n ≤ 40 * 40 := Nat.mul_le_mul (by omega) n40
              omega
            obtain ⟨sl2, e1, e2, e3⟩ := mk_put' sl' k
            refine ⟨_, rfl, _, rfl, M, _, rfl, DPut.k (k := .inl k) hM8 (by rw [mk_len, sizeLine_eq]; omega), ?_⟩
            rw [e1]
            refine ⟨_, sl2, rfl, Same.mut s8 hM3, upd_same, fun p => ?_, by omega, by rw [upd_ne nrM]; exact hr8, R8.other nMR' nFM.symm⟩
            rw [e2 p, mem8 p, tk, List.mem_append, List.mem_singleton, or_assoc]
          · rintro σ H8 ⟨v8, sl', rfl, s8, hM8, mem8, lsl8, hr8, R8⟩
            rw [List.length_map] at lsl8
            rw [List.length_map, List.take_length] at mem8
            refine ⟨_, _, sl', fs ++ [r], rfl, s8, hM8, fun p => ?_, by rw [Nat.succ_mul]; omega, R8⟩
            rw [mem8 p, mem p, eP]
            constructor
            · rintro (⟨L', h1, h2⟩ | h)
              · exact ⟨L', List.mem_append_left _ h1, h2⟩
              · exact ⟨L, List.mem_append_right _ (List.mem_singleton.mpr rfl), h⟩
            · rintro ⟨L', h1, h2⟩
              rcases List.mem_append.mp h1 with z | z
              · exact .inl ⟨L', z, h2⟩
              · rw [List.mem_singleton] at z; subst z; exact .inr h2
    · rintro σ H5 ⟨v4, v8, sl, fs, rfl, s5, hM5, mem, lsl, RF⟩
      exact ⟨_, rfl, q F fs H5 (Same.trans s13 s5) (RF.old s13)⟩
end
end Od

namespace Od
open PySem PySem.Spec PyProof.Rows L2
def mm (a b : Int) : Pr := (if b < a then b else a, if b > a then b else a)
theorem shaped_dP (p : Pr) : SeqAt.shaped (dP p) = true := by unfold SeqAt.shaped dP; simp [PyData.canLay0, PyData.canLayAll0, PyData.depth, PyData.depthAll]
theorem any_dP (p : Pr) : ∀ ts : List Pr, ((ts.map dP).any fun z => PyData.eqv z (dP p)) = decide (p ∈ ts)
  | [] => rfl
  | t :: ts => by
    rw [List.map_cons, List.any_cons, any_dP p ts, eqv_dP]
    by_cases h : t = p
    · subst h; simp
    · rw [decide_eq_false h, Bool.false_or]
      by_cases h2 : p ∈ ts
      · rw [decide_eq_true h2, decide_eq_true (List.mem_cons_of_mem _ h2)]
      · rw [decide_eq_false h2, decide_eq_false]
        intro z
        rcases List.mem_cons.mp z with z | z
        · exact h z.symm
        · exact h2 z
theorem good_nd {H : Hp} {k : Addr} {us : List V} {ts : List Pr} {n : Nat} (h : H k = some (.lst us)) (p : Prs H us ts) (tie : ∀ x ∈ ts, Tie n x) (nd : ts.Nodup) (h1 : 1 ≤ n) (h2 : n ≤ 40) : Good H (.int n) (.ref k) n ts := by
  refine ⟨rfl, h1, h2, us, listOf_lst h, ⟨fun y hy => ?_, by rw [p.prOf]; exact nd⟩, p.prOf.symm⟩
  obtain ⟨i, hi⟩ := List.getElem?_of_mem hy
  obtain ⟨z, b, hz, rfl, e⟩ := p.get hi
  exact (isTie_of (tupOf_tup e) (tie z (List.mem_of_getElem? hz))).1
def spLaw (K : PySem.W.Frag) : Sp := fun vs H Q _ => ∃ (a : Addr) (ns : List Int), vs = [.ref a] ∧ SqL K H a (ns.map V.int) ∧ ns.length ≤ 63 ∧ ∀ H', Q (.bl true) H'
theorem any_rep (k : Nat) : (List.replicate k false).any id = false := by
  induction k with
  | zero => rfl
  | succ k ih => rw [List.replicate_succ, List.any_cons, ih]; rfl
theorem mm_tie {n : Int} {ts : List Pr} (tie : ∀ p ∈ ts, Tie n p) {a b : Int} (h : b ∈ nbr ts a) : mm a b ∈ ts := by
  rcases (nbr_mem tie).mp h with z | z
  · obtain ⟨_, t, _⟩ := tie _ z
    simp only at t
    unfold mm; rw [if_neg (by omega), if_pos (by omega)]; exact z
  · obtain ⟨_, t, _⟩ := tie _ z
    simp only at t
    unfold mm; rw [if_pos (by omega), if_neg (by omega)]; exact z
def spSidesL : Sp := fun vs H Q _ => ∃ (n : Nat) (l r : Addr) (us : List V) (ts : List Pr) (cs : List Int), vs = [.int n, .ref l, .ref r] ∧ 1 ≤ n ∧ n ≤ 40 ∧ H l = some (.lst us) ∧ Prs H us ts ∧ (∀ p ∈ ts, Tie n p) ∧ ts.Pairwise plt ∧ H r = some (.lst (cs.map V.int)) ∧ Sds (nbr ts) n cs ∧
  ∀ H', Same H H' → Q (.bl true) H'
def spRingL : Sp := fun vs H Q _ => ∃ (n : Nat) (l r : Addr) (us : List V) (ts : List Pr) (ms : List Int), vs = [.int n, .ref l, .ref r] ∧ n ≤ 40 ∧ H l = some (.lst us) ∧ Prs H us ts ∧ (∀ p ∈ ts, Tie n p) ∧ H r = some (.lst (ms.map V.int)) ∧ Ring (nbr ts) n ms ∧
  ∀ H', Same H H' → Q (.bl true) H'
theorem part_fst {n : Nat} {ts : List Pr} (tie : ∀ p ∈ ts, Tie n p) {cs : List Int} (s : Sds (nbr ts) n cs) {L : List Int} (h : L ∈ partsTo (nbr ts) n (okOf []) n) : ∃ e, L[0]? = some e ∧ 0 ≤ e ∧ e < (n : Int) ∧ cs[e.toNat]? = some 0 := by
  have hb : ∀ {k q : Int}, q ∈ nbr ts k → 0 ≤ q ∧ q < (n : Int) := fun h => nbr_rng tie h
  have pos := (partsTo_pos (Nat.le_refl n) hb h).1
  obtain ⟨b, hbi, _, rfl⟩ := partsTo_is h
  have mem := fun (p : Int) => partOf_mem (nb := nbr ts) (ok := okOf []) hb (show (0 : Int) ≤ (b : Int) by omega) (show (b : Int) < (n : Int) by omega) (p := p)
  obtain ⟨e, he⟩ : ∃ e, (partOf (nbr ts) n (okOf []) (b : Int))[0]? = some e := ⟨_, List.getElem?_eq_getElem pos⟩
  have re := (mem e).mp (List.mem_of_getElem? he)
  have rr := rch_rng hb (show (0 : Int) ≤ (b : Int) by omega) (show (b : Int) < (n : Int) by omega) re
  refine ⟨e, he, rr.1, rr.2, s.fst (b : Int) e rr.1 rr.2 (re.mono fun _ _ => trivial) fun q hq => ?_⟩
  have hq' := (mem q).mpr (hq.mono fun _ _ => (fun z => by cases z))
  have up := partOf_up (nbr ts) n (okOf []) (b : Int)
  obtain ⟨j, hj⟩ := List.getElem?_of_mem hq'
  by_cases c : j = 0
  · subst c; rw [he] at hj; cases hj; exact Int.le_refl _
  · obtain ⟨h1, e1⟩ := List.getElem?_eq_some_iff.mp he
    obtain ⟨h2, e2⟩ := List.getElem?_eq_some_iff.mp hj
    have := List.pairwise_iff_getElem.mp up 0 j h1 h2 (by omega)
    rw [e1, e2] at this; omega
section
variable {P : Program} {w : World} {K : PySem.W.Frag} {mg : Str → Option Value} {c : Cs} {base : Heap}
theorem ok_sidesL (T : Top K mg c) : Fd.Has P w K mg base CX0 3 "_law_sides" ["_law_size", "_law_ties", "_law_found"] spSidesL := by
  have G__law_whole : Fd.Has P w K mg base CX0 1 "_law_whole" ["_law_found"] spWhole := ok_whole T
  have G__law_parts : Fd.Has P w K mg base CX0 2 "_law_parts" ["_law_size", "_law_ties", "_law_taken"] spPartsL := ok_partsL T
  refine T.d__law_sides.ok sc__law_sides (fun vs H Q E h => ?_) (fun f cdv A outer s H vs Q E hr h => ?_)
  · obtain ⟨n, l, r, us, ts, cs, rfl, _⟩ := h; rfl
  · obtain ⟨n, l, r, us, ts, cs, rfl, n1, n40, hl, pl, tie, up, hy, sd, q⟩ := h
    have hr__law_whole := hr.mono (show 1 ≤ 2 by decide)
    have hr__law_parts := hr
    have lc := sd.len
    have lus := pl.len
    have few := few_ties (n := (n : Int)) (by omega) tie (plt_nodup up)
    have ate : ∀ e : Int, 0 ≤ e → e < (n : Int) → ∃ x, cs[e.toNat]? = some x ∧ atI (cs.map V.int) e = some (V.int x) := fun e h0 h1 => by
      obtain ⟨x, hx⟩ : ∃ x, cs[e.toNat]? = some x := ⟨_, List.getElem?_eq_getElem (by omega)⟩
      have q1 : atI (cs.map V.int) ((e.toNat : Nat) : Int) = some (V.int x) := atI_nat (by rw [List.getElem?_map, hx]; rfl)
      rw [show ((e.toNat : Nat) : Int) = e by omega] at q1
      exact ⟨x, hx, q1⟩
    refine ⟨_, (pss_cons (ps_if (PW.pt (pw_or (pt_not (pt_val (pe_callB (r := rIsi K) call_isi (by rfl) T.n_isinstance boot_isinstance (pa_cons (pv 2) (pa_cons (pe_bltn (v := .ty "list") (by rfl) T.n_list boot_list rfl) pa_nil))))) (pw_or1 (pt_cmpR op_ne (pe_callB call_len_seq (by rfl) T.n_len boot_len (pa_cons (pv 2) pa_nil)) (pv 0) (nomark _)))))
      (pss_one (ps_ret pe_bl))
      pss_nil)
      (pss_cons (ps_if (pt_not (pt_val (pe_callB (cr_all rfl) (by rfl) T.n_all boot_all (pa_cons (pe_lc (own := [("_law_side", 6)]) (g := gName 6) rfl sc__law_sides.nd (pi_list (pv 2)) (blkOk_by (own := [("_law_side", 6)]) (N := N__law_sides) (sc := defScope S__law_sides) (by decide +kernel)) (fun _ _ _ _ _ => pg_name (i := 6) sc__law_sides.nd rfl (Or.inl rfl)) (fun _ _ _ _ _ => pts_nil) (fun _ _ _ _ _ => (pe_and (Fd.pe_f G__law_whole hr__law_whole (by rfl) (pa_cons (pv 6) pa_nil)) (pe_one (pe_chain op_le op_le pe_int (pv 6) pe_int))))) pa_nil))))
      (pss_one (ps_ret pe_bl))
      pss_nil)
      (pss_cons (ps_if (pt_val (pe_callB (cr_any rfl) (by rfl) T.n_any boot_any (pa_cons (pe_lc (own := [("_law_one", 3), ("_law_other", 4)]) (g := gTup K 2 (gCons (gName 3) (gCons (gName 4) gNil))) rfl sc__law_sides.nd (pi_list (pv 1)) (blkOk_by (own := [("_law_one", 3), ("_law_other", 4)]) (N := N__law_sides) (sc := defScope S__law_sides) (by decide +kernel)) (fun _ _ _ _ _ => (pg_tup rfl (pgs_cons (pg_name (i := 3) sc__law_sides.nd rfl (Or.inl rfl)) (pgs_cons (pg_name (i := 4) sc__law_sides.nd rfl (Or.inl rfl)) pgs_nil)))) (fun _ _ _ _ _ => pts_nil) (fun _ _ _ _ _ => (pe_cmpR op_eq (pe_ix (r := rIxL K) ix_list (pv 2) (pv 3) (fun _ _ => rfl)) (pe_ix (r := rIxL K) ix_list (pv 2) (pv 4) (fun _ _ => rfl)) (nomark _)))) pa_nil)))
      (pss_one (ps_ret pe_bl))
      pss_nil)
      (pss_one (ps_ret (pe_callB (cr_all rfl) (by rfl) T.n_all boot_all (pa_cons (pe_lc (own := [("_law_part_here", 5)]) (g := gName 5) rfl sc__law_sides.nd (pi_list (Fd.pe_f G__law_parts hr__law_parts (by rfl) (pa_cons (pv 0) (pa_cons (pv 1) (pa_cons (pe_lst pa_nil) pa_nil))))) (blkOk_by (own := [("_law_part_here", 5)]) (N := N__law_sides) (sc := defScope S__law_sides) (by decide +kernel)) (fun _ _ _ _ _ => pg_name (i := 5) sc__law_sides.nd rfl (Or.inl rfl)) (fun _ _ _ _ _ => pts_nil) (fun _ _ _ _ _ => (pe_cmpR op_eq (pe_ix (r := rIxL K) ix_list (pv 2) (pe_ix (r := rIxL K) ix_list (pv 5) pe_int (fun _ _ => rfl)) (fun _ _ => rfl)) pe_int (nomark _)))) pa_nil))))))), ?_⟩
    refine tsq (if_no (R := Same H) (fun Q' hq => ?_) fun H1 s1 => ?_)
    · refine ⟨_, rfl, _, _, _, _, _, rfl, ClsV.ty _, (Kd.lst hy).tyx, kit_ty (kit_list _), _, rfl, ?_⟩
      rw [decide_eq_true rfl]
      refine iteF ⟨_, rfl, r, _, rfl, .inl (SqL.of hy), _, rfl, rfl, _, rfl, ?_⟩
      rw [vint, List.length_map, decide_eq_true (by omega)]
      exact hq _ (Same.refl H)
    have hy1 := s1 _ _ hy
    refine tnx ?_
    dsimp only
    refine tsq (if_no (R := Same H1) (fun Q' hq => ?_) fun H2 s2 => ?_)
    · refine ⟨_, rfl, r, rfl, ⟨_, SqL.of hy1⟩, fun D hD => ?_⟩
      refine lc_list (xs := cs.map V.int) (fun j Hc => Same H1 Hc ∧ Hc D = some (.lst ((List.replicate j true).map V.bl))) ⟨Same.new hD, upd_same⟩ (fun j Hc _ e => SqL.of (e.1 _ _ hy1)) ?_ ?_
      · rintro j v Hc hj ⟨s7, hDc⟩
        have jl := (List.getElem?_eq_some_iff.mp hj).1
        rw [List.length_map] at jl
        rw [List.getElem?_map] at hj
        obtain ⟨z, hz, rfl⟩ := Option.map_eq_some_iff.mp hj
        have zt := sd.two z (List.mem_of_getElem? hz)
        refine ⟨rfl, tyes (iteT ?_)⟩
        refine ⟨_, rfl, V.int z, _, rfl, .int _, _, rfl, ?_⟩
        refine iteT ⟨_, rfl, 0, z, rfl, rfl, _, rfl, ?_⟩
        rw [decide_eq_true (show 0 ≤ z by omega)]
        refine iteT ⟨z, 1, rfl, rfl, ?_⟩
        dsimp only
        rw [decide_eq_true (show z ≤ 1 by omega)]
        refine ⟨_, hDc, by rw [List.length_map, List.length_replicate, sizeLine_eq]; omega, Same.mut s7 hD, ?_⟩
        rw [upd_same, List.replicate_succ', List.map_append]; rfl
      · rintro Hc ⟨s7, hDc⟩
        refine ⟨D, _, rfl, SqL.of hDc, _, rfl, ?_⟩
        rw [all_rep]
        exact hq _ s7
    have hy2 := s2 _ _ hy1
    have s02 := Same.trans s1 s2
    have hl2 := s02 _ _ hl
    have pl2 := pl.ex s02
    refine tnx ?_
    dsimp only
    refine tsq (if_no (R := Same H2) (fun Q' hq => ?_) fun H3 s3 => ?_)
    · refine ⟨_, rfl, l, rfl, ⟨_, SqL.of hl2⟩, fun D hD => ?_⟩
      refine lc_list (xs := us) (fun j Hc => Same H2 Hc ∧ Hc D = some (.lst ((List.replicate j false).map V.bl))) ⟨Same.new hD, upd_same⟩ (fun j Hc _ e => SqL.of (e.1 _ _ hl2)) ?_ ?_
      · rintro j v Hc hj ⟨s7, hDc⟩
        have jl := (List.getElem?_eq_some_iff.mp hj).1
        obtain ⟨z, b, hz, rfl, hb⟩ := pl2.get hj
        obtain ⟨t0, t1, t2⟩ := tie z (List.mem_of_getElem? hz)
        obtain ⟨x1, hx1, at1⟩ := ate z.1 t0 (by omega)
        obtain ⟨x2, hx2, at2⟩ := ate z.2 (by omega) t2
        have ne := sd.tie z.1 z.2 t0 ((nbr_mem tie).mpr (.inl (List.mem_of_getElem? hz)))
        rw [hx1, hx2] at ne
        refine ⟨b, _, rfl, SqT.of (s7 _ _ hb), rfl, _, _, rfl, _, _, rfl, rfl, rfl, tyes ?_⟩
        refine ⟨_, rfl, _, rfl, r, _, z.1, V.int x1, rfl, rfl, SqL.of (s7 _ _ hy2), at1, _, rfl, _, rfl, r, _, z.2, V.int x2, rfl, rfl, SqL.of (s7 _ _ hy2), at2, rfl, ?_⟩
        rw [vint, decide_eq_false (show ¬ x1 = x2 from fun e => ne (by rw [e]))]
        refine ⟨_, hDc, by rw [List.length_map, List.length_replicate, sizeLine_eq]; omega, Same.mut s7 hD, ?_⟩
        rw [upd_same, List.replicate_succ', List.map_append]; rfl
      · rintro Hc ⟨s7, hDc⟩
        refine ⟨D, _, rfl, SqL.of hDc, _, rfl, ?_⟩
        rw [any_rep]
        exact hq _ s7
    have s03 := Same.trans s02 s3
    have hy3 := s3 _ _ hy2
    refine tnx ?_
    dsimp only
    refine ⟨_, rfl, _, rfl, Nat.zero_le _, fun l8 g8 => ?_⟩
    have b8 := Same.new (o := .lst []) g8
    have e8 : upd H3 l8 (.lst []) l8 = some (.lst (([] : List Int).map V.int)) := upd_same
    generalize upd H3 l8 (.lst []) = H4 at b8 e8 ⊢
    have s04 := Same.trans s03 b8
    refine ⟨n, l, l8, us, ts, [], rfl, n1, n40, s04 _ _ hl, pl.ex s04, tie, up, by omega, e8, fun p rs H5 s5 R => ?_⟩
    have s05 := Same.trans s04 s5
    have hy5 := s05 _ _ hy
    have lr := R.len
    have lp := partsTo_len (nb := nbr ts) (n := n) (ok := okOf []) n
    refine ⟨p, rfl, ⟨_, SqL.of R.at_⟩, fun D hD => ?_⟩
    refine lc_list (xs := rs.map V.ref) (fun j Hc => Same H5 Hc ∧ Hc D = some (.lst ((List.replicate j true).map V.bl))) ⟨Same.new hD, upd_same⟩ (fun j Hc _ e => SqL.of (e.1 _ _ R.at_)) ?_ ?_
    · rintro j v Hc hj ⟨s7, hDc⟩
      have jl := (List.getElem?_eq_some_iff.mp hj).1
      rw [List.length_map] at jl
      rw [List.getElem?_map] at hj
      obtain ⟨z, hz, rfl⟩ := Option.map_eq_some_iff.mp hj
      have row := s7 _ _ (R.row j z hz)
      have inL : prow ts n [] n j ∈ partsTo (nbr ts) n (okOf []) n := by
        unfold prow
        rw [List.getD_eq_getElem?_getD, List.getElem?_eq_getElem (show j < (partsTo (nbr ts) n (okOf []) n).length by omega)]
        exact List.getElem_mem _
      obtain ⟨e, he, e0, e1, ce⟩ := part_fst tie sd inL
      obtain ⟨x, hx, atx⟩ := ate e e0 e1
      rw [ce] at hx; cases hx
      refine ⟨rfl, tyes ?_⟩
      refine ⟨_, rfl, _, rfl, z, _, (0 : Int), V.int e, rfl, rfl, SqL.of row, atI_nat (j := 0) (by rw [List.getElem?_map, he]; rfl), r, _, e, V.int 0, rfl, rfl, SqL.of (s7 _ _ hy5), atx, rfl, ?_⟩
      rw [decide_eq_true rfl]
      refine ⟨_, hDc, by rw [List.length_map, List.length_replicate, sizeLine_eq]; omega, Same.mut s7 hD, ?_⟩
      rw [upd_same, List.replicate_succ', List.map_append]; rfl
    · rintro Hc ⟨s7, hDc⟩
      refine ⟨D, _, rfl, SqL.of hDc, ?_⟩
      rw [all_rep]
      exact q _ (Same.trans s05 s7)
theorem ok_ringL (T : Top K mg c) : Fd.Has P w K mg base CX0 2 "_law_ring" ["_law_size", "_law_ties", "_law_found"] spRingL := by
  have G__law_whole : Fd.Has P w K mg base CX0 1 "_law_whole" ["_law_found"] spWhole := ok_whole T
  refine T.d__law_ring.ok sc__law_ring (fun vs H Q E h => ?_) (fun f cdv A outer s H vs Q E hr h => ?_)
  · obtain ⟨n, l, r, us, ts, ms, rfl, _⟩ := h; rfl
  · obtain ⟨n, l, y, us, ts, ms, rfl, n40, hl, pl, tie, hy, rg, q⟩ := h
    have hr__law_whole := hr
    have lm := few_in rg.rg rg.nd
    have big := rg.big
    have odd := rg.odd
    have ll : (ms.map V.int).length = ms.length := List.length_map _
    refine ⟨_, (pss_cons (ps_if (PW.pt (pw_or (pt_not (pt_val (pe_callB (r := rIsi K) call_isi (by rfl) T.n_isinstance boot_isinstance (pa_cons (pv 2) (pa_cons (pe_bltn (v := .ty "list") (by rfl) T.n_list boot_list rfl) pa_nil))))) (pw_or (pt_cmpR op_lt (pe_callB call_len_seq (by rfl) T.n_len boot_len (pa_cons (pv 2) pa_nil)) pe_int (nomark _)) (pw_or1 (pt_cmpR op_eq (pe_op op_mod (pe_callB call_len_seq (by rfl) T.n_len boot_len (pa_cons (pv 2) pa_nil)) pe_int) pe_int (nomark _))))))
      (pss_one (ps_ret pe_bl))
      pss_nil)
      (pss_cons (ps_if (pt_not (pt_val (pe_callB (cr_all rfl) (by rfl) T.n_all boot_all (pa_cons (pe_lc (own := [("_law_place", 6)]) (g := gName 6) rfl sc__law_ring.nd (pi_list (pv 2)) (blkOk_by (own := [("_law_place", 6)]) (N := N__law_ring) (sc := defScope S__law_ring) (by decide +kernel)) (fun _ _ _ _ _ => pg_name (i := 6) sc__law_ring.nd rfl (Or.inl rfl)) (fun _ _ _ _ _ => pts_nil) (fun _ _ _ _ _ => (pe_and (Fd.pe_f G__law_whole hr__law_whole (by rfl) (pa_cons (pv 6) pa_nil)) (pe_one (pe_chain op_le op_lt pe_int (pv 6) (pv 0)))))) pa_nil))))
      (pss_one (ps_ret pe_bl))
      pss_nil)
      (pss_cons (ps_if (pt_cmpR op_lt (St2.pe_lenD (by rfl) T.n_len (by rfl) T.n_set (pv 2)) (pe_callB call_len_seq (by rfl) T.n_len boot_len (pa_cons (pv 2) pa_nil)) (nomark _))
      (pss_one (ps_ret pe_bl))
      pss_nil)
      (pss_cons (ps_for PassesOwn.never rfl (pi_range1 (by rfl) T.n_range (pa_cons (pe_callB call_len_seq (by rfl) T.n_len boot_len (pa_cons (pv 2) pa_nil)) pa_nil)) (pg_name (i := 3) sc__law_ring.nd rfl (Or.inl rfl))
      (pss_cons (ps_set (i := 4) sc__law_ring.nd rfl (Or.inl rfl) (pe_ix ix_list (pv 2) (pv 3) (fun _ _ => rfl)))
        (pss_cons (ps_set (i := 5) sc__law_ring.nd rfl (Or.inl rfl) (pe_ix ix_list (pv 2) (pe_op op_modN (pe_op op_add (pv 3) pe_int) (pe_callB call_len_seq (by rfl) T.n_len boot_len (pa_cons (pv 2) pa_nil))) (fun _ _ => rfl)))
        (pss_one (ps_if (pt_cmpR (r := rNotInD K) (op_notInD (Sd.u65 hr)) (pe_tup (pa_cons (pe_callB (call_min2 rfl) (by rfl) T.n_min boot_min (pa_cons (pv 4) (pa_cons (pv 5) pa_nil))) (pa_cons (pe_callB (call_max2 rfl) (by rfl) T.n_max boot_max (pa_cons (pv 4) (pa_cons (pv 5) pa_nil))) pa_nil))) (pv 1) (by rfl))
        (pss_one (ps_ret pe_bl))
        pss_nil)))))
      (pss_one (ps_ret pe_bl)))))), ?_⟩
    dsimp only [cxOf, Cx.nox]
    refine tsq (if_no (R := Same H) (fun Q' hq => ?_) fun H1 s1 => ?_)
    · refine ⟨_, rfl, _, _, _, _, _, rfl, ClsV.ty _, (Kd.lst hy).tyx, kit_ty (kit_list _), _, rfl, ?_⟩
      rw [decide_eq_true rfl]
      refine iteF ⟨_, rfl, y, _, rfl, .inl (SqL.of hy), _, _, rfl, rfl, _, rfl, ?_⟩
      rw [ll, decide_eq_false (by omega)]
      refine iteF ⟨_, rfl, y, _, rfl, .inl (SqL.of hy), _, _, rfl, rfl, (by show (0 : Int) < 2; decide), rfl, _, rfl, ?_⟩
      rw [vint, ll, decide_eq_false (by omega)]
      exact hq _ (Same.refl H)
    have hy1 := s1 _ _ hy
    refine tnx ?_
    dsimp only
    refine tsq (if_no (R := Same H1) (fun Q' hq => ?_) fun H2 s2 => ?_)
    · refine ⟨_, rfl, y, rfl, ⟨_, SqL.of hy1⟩, fun D hD => ?_⟩
      refine lc_list (xs := ms.map V.int) (fun j Hc => Same H1 Hc ∧ Hc D = some (.lst ((List.replicate j true).map V.bl))) ⟨Same.new hD, upd_same⟩ (fun j Hc _ e => SqL.of (e.1 _ _ hy1)) ?_ ?_
      · rintro j v Hc hj ⟨s7, hDc⟩
        have jl := (List.getElem?_eq_some_iff.mp hj).1
        rw [List.getElem?_map] at hj
        obtain ⟨z, hz, rfl⟩ := Option.map_eq_some_iff.mp hj
        have zr := rg.rg z (List.mem_of_getElem? hz)
        refine ⟨rfl, tyes (iteT ?_)⟩
        refine ⟨_, rfl, V.int z, _, rfl, .int _, _, rfl, ?_⟩
        refine iteT ⟨_, rfl, 0, z, rfl, rfl, _, rfl, ?_⟩
        rw [decide_eq_true zr.1]
        refine iteT ⟨_, rfl, z, (n : Int), rfl, rfl, ?_⟩
        dsimp only
        rw [decide_eq_true zr.2]
        refine ⟨_, hDc, by rw [List.length_map, List.length_replicate, sizeLine_eq]; omega, Same.mut s7 hD, ?_⟩
        rw [upd_same, List.replicate_succ', List.map_append]; rfl
      · rintro Hc ⟨s7, hDc⟩
        refine ⟨D, _, rfl, SqL.of hDc, _, rfl, ?_⟩
        rw [all_rep]
        exact hq _ s7
    have s02 := Same.trans s1 s2
    have hy2 := s2 _ _ hy1
    refine tnx ?_
    dsimp only
    refine tsq (if_no (R := Same H2) (fun Q' hq => ?_) fun H3 s3 => ?_)
    · refine ⟨_, rfl, y, ms, rfl, SqL.of hy2, by omega, _, rfl, y, _, rfl, .inl (SqL.of hy2), _, _, rfl, rfl, _, rfl, ?_⟩
      rw [ll, St2.dist_nd rg.nd, decide_eq_false (by omega)]
      exact hq _ (Same.refl H2)
    have s03 := Same.trans s02 s3
    have hy3 := s3 _ _ hy2
    refine tnx ?_
    dsimp only [gName]
    refine ⟨_, rfl, y, _, rfl, .inl (SqL.of hy3), (((ms.map V.int).length : Nat) : Int), rfl, by rw [ll]; omega, by rw [ll]; omega, for_range (lo := 0) (n := (ms.map V.int).length) (fun i σ H' => ∃ v3 v4 v5 v6, σ = [some (.int n), some (.ref l), some (.ref y), v3, v4, v5, v6] ∧ Same H H') ⟨none, none, none, none, rfl, s03⟩ ?_ ?_⟩
    · rintro i σ H4 hi ⟨v3, v4, v5, v6, rfl, s4⟩
      rw [show (0 : Int) + (i : Int) = (i : Int) from Int.zero_add _]
      rw [ll] at hi
      obtain ⟨a, ha⟩ : ∃ a, ms[i]? = some a := ⟨_, List.getElem?_eq_getElem hi⟩
      have hy4 := s4 _ _ hy
      have ata : atI (ms.map V.int) (i : Int) = some (V.int a) := atI_nat (by rw [List.getElem?_map, ha]; rfl)
      obtain ⟨k, hk, kl⟩ : ∃ k : Nat, ((i : Int) + 1).fmod ((ms.length : Nat) : Int) = (k : Int) ∧ (k = i + 1 ∧ i + 1 < ms.length ∨ k = 0 ∧ i = ms.length - 1) := by
        rw [Int.fmod_eq_emod_of_nonneg _ (by omega)]
        by_cases cc : i + 1 < ms.length
        · exact ⟨i + 1, by rw [Int.emod_eq_of_lt (by omega) (by omega)]; omega, .inl ⟨rfl, cc⟩⟩
        · refine ⟨0, ?_, .inr ⟨rfl, by omega⟩⟩
          rw [show (i : Int) + 1 = ((ms.length : Nat) : Int) by omega, Int.emod_self]; rfl
      obtain ⟨b, hb⟩ : ∃ b, ms[k]? = some b := ⟨_, List.getElem?_eq_getElem (by omega)⟩
      have atb : atI (ms.map V.int) (((i : Int) + 1).fmod (((ms.map V.int).length : Nat) : Int)) = some (V.int b) := by
        rw [ll, hk]; exact atI_nat (by rw [List.getElem?_map, hb]; rfl)
      have st : b ∈ nbr ts a := by
        rcases kl with ⟨e1, e2⟩ | ⟨e1, e2⟩
        · subst e1; exact rg.go i a b ha hb
        · subst e1; rw [e2] at ha; exact rg.cyc a b ha hb
      have tied := mm_tie tie st
      refine ⟨_, rfl, _, rfl, y, _, (i : Int), V.int a, rfl, rfl, SqL.of hy4, ata, ?_⟩
      refine ⟨_, rfl, _, rfl, _, _, rfl, rfl, _, rfl, y, _, rfl, .inl (SqL.of hy4), _, _, rfl, rfl, (show (((ms.map V.int).length : Nat) : Int) ≠ 0 by rw [ll]; omega), y, _, _, V.int b, rfl, rfl, SqL.of hy4, atb, ?_⟩
      refine ⟨_, rfl, _, rfl, a, b, rfl, ?_⟩
      refine ⟨_, rfl, _, rfl, a, b, rfl, (by show 2 ≤ sizeLine; decide), fun r hr' => ?_⟩
      have b1 := Same.new (o := .tup [.int (mm a b).1, .int (mm a b).2]) hr'
      have er : upd H4 r (.tup [.int (mm a b).1, .int (mm a b).2]) r = some (.tup [.int (mm a b).1, .int (mm a b).2]) := upd_same
      have s5 := Same.trans s4 b1
      refine ⟨_, rfl, dP (mm a b), ts.map dP, .tup (SqT.of er) (.cons (.int _) (.cons (.int _) .nil)), dp_prs (SqL.of (s5 _ _ hl)) (pl.ex s5), shaped_dP _, shaped_dPs _, _, rfl, ?_⟩
      rw [any_dP, decide_eq_true tied]
      exact iteF ⟨_, _, _, _, rfl, s5⟩
    · rintro σ H4 ⟨v3, v4, v5, v6, rfl, s4⟩
      exact q H4 s4
end
end Od

namespace Od
open PySem PySem.Spec PyProof.Rows L2
theorem at_last {xs : List V} {v : V} : atI (xs ++ [v]) (-1) = some v := by
  unfold atI ixN
  rw [List.length_append, List.length_singleton, if_neg (by decide), if_pos (by omega)]
  rw [show (-1 + ((xs.length + 1 : Nat) : Int)).toNat = xs.length by omega]
  show (xs ++ [v])[xs.length]? = _
  rw [List.getElem?_append_right (Nat.le_refl _), Nat.sub_self]; rfl
section
variable {P : Program} {w : World} {K : PySem.W.Frag} {mg : Str → Option Value} {c : Cs} {base : Heap}
theorem ok_law (T : Top K mg c) {fl : Addr} {fdl : FuncData} (FL : Fun K "law" "law" S_law fl fdl) : FnOk P w K mg base CX0 8 fl fdl ["_law_script"] (spLaw K) := by
  have G__law_net_by : Fd.Has P w K mg base CX0 3 "_law_net_by" ["_law_script", "_law_bound"] (spNetBy K) := ok_net_by T
  have G_Net : Fd.IHas P w K mg base (L2N.CX P w) 6 c.Net ["self", "size", "ties"] (spInit c.Net c.BadNet) := ok_init T
  have G_Net_ties : Fd.MHas P w K mg base CX0 1 c.Net "ties" ["self"] (spTies c.Net) := ok_ties T
  have G_sides : Fd.Has P w K mg base CX0 6 "sides" ["net"] (spSides c.Net) := ok_sides T
  have G_odd_ring : Fd.Has P w K mg base CX0 6 "odd_ring" ["net"] (spOddRing c.Net) := ok_odd_ring T
  have G__law_sides : Fd.Has P w K mg base CX0 3 "_law_sides" ["_law_size", "_law_ties", "_law_found"] spSidesL := ok_sidesL T
  have G__law_ring : Fd.Has P w K mg base CX0 2 "_law_ring" ["_law_size", "_law_ties", "_law_found"] spRingL := ok_ringL T
  refine FL.ok sc_law (fun vs H Q E h => ?_) (fun cdv A outer s H vs Q E hr h => ?_)
  · obtain ⟨a, ns, rfl, _⟩ := h; rfl
  · obtain ⟨a, ns, rfl, hs, hlen, q⟩ := h
    have hr__law_net_by := hr.mono (show 3 ≤ 7 by decide)
    have hr_Net := hr
    have hr_Net_ties := hr.mono (show 1 ≤ 7 by decide)
    have hr_sides := hr.mono (show 6 ≤ 7 by decide)
    have hr_odd_ring := hr.mono (show 6 ≤ 7 by decide)
    have hr__law_sides := hr.mono (show 3 ≤ 7 by decide)
    have hr__law_ring := hr.mono (show 2 ≤ 7 by decide)
    refine ⟨_, (pss_cons (ps_asg (Fd.pe_f G__law_net_by hr__law_net_by (by rfl) (pa_cons (pv 0) (pa_cons pe_int pa_nil))) (pg_tup rfl (pgs_cons (pg_name (i := 1) sc_law.nd rfl (Or.inl rfl)) (pgs_cons (pg_name (i := 2) sc_law.nd rfl (Or.inl rfl)) pgs_nil))))
      (pss_cons (ps_set (i := 3) sc_law.nd rfl (Or.inl rfl) (Fd.pe_mk G_Net hr_Net (by rfl) T.c_Net Fd.pass00 (pa_cons (pv 1) (pa_cons (pe_callTy call_list_of (by rfl) T.n_list boot_list (pa_cons (pv 2) pa_nil)) pa_nil))))
      (pss_cons (ps_set (i := 4) sc_law.nd rfl (Or.inl rfl) (Fd.pe_f G_sides hr_sides (by rfl) (pa_cons (pv 3) pa_nil)))
      (pss_cons (ps_set (i := 5) sc_law.nd rfl (Or.inl rfl) (Fd.pe_f G_odd_ring hr_odd_ring (by rfl) (pa_cons (pv 3) pa_nil)))
      (pss_cons (ps_if (pt_cmpR (op_neD hr.units) (Fd.pe_m0 G_Net_ties (pv 3) T.cl_Net hr_Net_ties) (pv 2) (nomark _))
      (pss_one (ps_ret pe_bl))
      pss_nil)
      (pss_cons (ps_if (pt_cmpR op_isN (pv 4) pe_non (nomark _))
      (pss_cons (ps_if (pt_not (pt_val (Fd.pe_f G__law_ring hr__law_ring (by rfl) (pa_cons (pv 1) (pa_cons (pv 2) (pa_cons (pv 5) pa_nil))))))
        (pss_one (ps_ret pe_bl))
        pss_nil)
        (pss_cons (ps_expr (pe_bm PySem.F.plainAttrs_list PySem.F.slot_list_append PySem.F.type_list_append mt_append (pv 5) (pa_cons (pe_un un_neg pe_int) pa_nil)))
        (pss_one (ps_ret (pe_and (Fd.pe_f G__law_ring hr__law_ring (by rfl) (pa_cons (pv 1) (pa_cons (pv 2) (pa_cons (Fd.pe_f G_odd_ring hr_odd_ring (by rfl) (pa_cons (pv 3) pa_nil)) pa_nil)))) (pe_and (pe_cmpR op_isN (Fd.pe_f G_sides hr_sides (by rfl) (pa_cons (pv 3) pa_nil)) pe_non (nomark _)) (pe_one (pe_cmpR op_eq (pe_ix ix_list (pv 5) (pe_un un_neg pe_int) (fun _ _ => rfl)) (pe_un un_neg pe_int) (nomark _)))))))))
      pss_nil)
      (pss_cons (ps_if (PW.pt (pw_or (pt_cmpR op_notN (pv 5) pe_non (nomark _)) (pw_or1 (pt_not (pt_val (Fd.pe_f G__law_sides hr__law_sides (by rfl) (pa_cons (pv 1) (pa_cons (pv 2) (pa_cons (pv 4) pa_nil)))))))))
      (pss_one (ps_ret pe_bl))
      pss_nil)
      (pss_cons (ps_expr (pe_bm PySem.F.plainAttrs_list PySem.F.slot_list_append PySem.F.type_list_append mt_append (pv 4) (pa_cons pe_int pa_nil)))
      (pss_one (ps_ret (pe_and (Fd.pe_f G__law_sides hr__law_sides (by rfl) (pa_cons (pv 1) (pa_cons (pv 2) (pa_cons (Fd.pe_f G_sides hr_sides (by rfl) (pa_cons (pv 3) pa_nil)) pa_nil)))) (pe_one (pe_cmpR op_eq (pe_ix ix_list (pv 4) (pe_un un_neg pe_int) (fun _ _ => rfl)) pe_int (nomark _)))))))))))))), ?_⟩
    refine ⟨_, rfl, a, ns, 11, rfl, hs, by decide, by decide, fun t p us H1 hp s1 hp1 np ht => ?_⟩
    have bd := netSize_bd ns (b := 11) (by decide) (by decide)
    have tie := fun (x : Pr) (hx : x ∈ netTies ns 11) => tiesBy_tie hx
    have upT : (netTies ns 11).Pairwise plt := tiesBy_up _ _ _
    generalize netTies ns 11 = ts at np tie upT
    obtain ⟨n, hn⟩ : ∃ n : Nat, netSize ns 11 = (n : Int) := ⟨(netSize ns 11).toNat, by omega⟩
    rw [hn] at bd tie ht
    have prs1 := np.prs
    have lus := prs1.len
    refine ⟨t, _, rfl, SqT.of ht, rfl, _, _, rfl, _, _, rfl, rfl, ?_⟩
    -- the net
    refine ⟨_, rfl, _, rfl, p, us, rfl, .inl (SqL.of hp1), fun k hk => ?_⟩
    have s2 : Same H1 (upd H1 k (.lst us)) := Same.new hk
    have hk2 : upd H1 k (.lst us) k = some (.lst us) := upd_same
    have prs2 := prs1.ex s2
    generalize upd H1 k (.lst us) = H2 at s2 hk2 prs2 ⊢
    have good := good_nd (n := n) hk2 prs2 tie (plt_nodup upT) (by omega) (by omega)
    intro x dx hx hdx ne
    refine ⟨H2, x, dx, _, _, _, _, rfl, fun b o e => by rw [upd_ne (ne_of_none e hx), upd_ne (ne_of_none e hdx)]; exact e, hx, upd_same, .int _, kl_lst hk2 prs2.kt, .inl ⟨n, ts, good, fun tsN H3 pmN s3 N => ⟨rfl, ?_⟩⟩⟩
    obtain rfl : tsN = ts := plt_one pmN N.up upT
    have N3 : NetAt c.Net H3 x n tsN := N.ex newp_same
    have s13 := Same.trans s2 s3
    have hp3 := s13 _ _ hp1
    have prs3 := prs1.ex s13
    clear N good prs2 hk2
    have n40 := N3.hi
    have n1 := N3.lo
    -- sides, and a ring
    refine ⟨_, rfl, x, n, tsN, rfl, N3, fun cs l H4 sd hl s4 el => ?_, fun ⟨ms0, rg0⟩ H4 s4 => ?_⟩
    · refine ⟨_, rfl, x, n, tsN, rfl, N3.ex s4, fun ms r H5 rg hr' s5 er => (rg.none sd).elim, fun _ H5 s5 => ?_⟩
      have s35 := Same.trans s4 s5
      have el5 := s5 _ _ el
      refine tnx ?_
      dsimp only
      refine tsq (if_no (R := Same H5) (fun Q' hq => ?_) fun H6 s6 => ?_)
      · obtain ⟨dx', lt', ln', us', rs', a1, _⟩ := (N3.ex s35).at_
        refine ⟨_, rfl, x, dx', _, rfl, a1, nf_m_ties _ _ _, x, n, tsN, rfl, N3.ex s35, fun p6 u6 hp6 pr6 => ?_⟩
        have b6 := Same.new (o := .lst u6) hp6
        refine ⟨_, rfl, dPs tsN, dPs tsN, dp_prs (SqL.of upd_same) (pr6.ex b6), dp_prs (SqL.of (b6 _ _ (s35 _ _ hp3))) (prs3.ex (Same.trans s35 b6)), shaped_dPs _, shaped_dPs _, _, rfl, ?_⟩
        rw [eqv_dPs, decide_eq_true rfl]
        exact hq _ b6
      have s36 := Same.trans s35 s6
      have s46 := Same.trans s5 s6
      refine tnx ?_
      dsimp only
      refine tsq (if_no (R := Same H6) (fun Q' hq => ?_) fun H7 s7 => ?_)
      · refine ⟨_, rfl, rfl, _, rfl, ?_⟩
        exact hq _ (Same.refl H6)
      have s37 := Same.trans s36 s7
      have s47 := Same.trans s46 s7
      refine tnx ?_
      dsimp only
      refine tsq (if_no (R := Same H7) (fun Q' hq => ?_) fun H8 s8 => ?_)
      · refine ⟨_, rfl, rfl, _, rfl, ?_⟩
        refine iteF ⟨_, rfl, _, rfl, _, rfl, n, p, l, us, tsN, cs, rfl, n1, n40, s37 _ _ hp3, prs3.ex s37, tie, upT, s47 _ _ el, sd, fun H' s' => ⟨_, rfl, ?_⟩⟩
        exact hq _ s'
      have s38 := Same.trans s37 s8
      have el8 := (Same.trans s47 s8) _ _ el
      have lcs := sd.len
      refine tnx ?_
      dsimp only
      refine ⟨_, rfl, .inl ⟨rfl, _, SqL.of el8⟩, l, _, _, rfl, rfl, el8, len40 (by rw [List.length_map]; omega), ?_⟩
      have s39 : Same H3 (upd H8 l (.lst (cs.map V.int ++ [V.int 2]))) := Same.mut s38 hl
      have el9 : upd H8 l (.lst (cs.map V.int ++ [V.int 2])) l = some (.lst (cs.map V.int ++ [V.int 2])) := upd_same
      generalize upd H8 l (.lst (cs.map V.int ++ [V.int 2])) = H9 at s39 el9 ⊢
      refine ⟨_, rfl, _, rfl, _, rfl, x, n, tsN, rfl, N3.ex s39, fun cs2 l2 HA sd2 hl2 sA el2 => ?_, fun ⟨ms0, rg0⟩ HA sA => (rg0.none sd).elim⟩
      have s3A := Same.trans s39 sA
      refine ⟨n, p, l2, us, tsN, cs2, rfl, n1, n40, s3A _ _ hp3, prs3.ex s3A, tie, upT, el2, sd2, fun HB sB => ?_⟩
      refine ⟨_, rfl, iteT ?_⟩
      refine ⟨_, rfl, _, rfl, l, _, (-1 : Int), V.int 2, rfl, rfl, SqL.of ((Same.trans sA sB) _ _ el9), at_last, rfl, ?_⟩
      rw [decide_eq_true rfl]
      exact q _
    · refine ⟨_, rfl, x, n, tsN, rfl, N3.ex s4, fun ms r H5 rg hr' s5 er => ?_, fun ⟨cs, sd⟩ H5 s5 => (rg0.none sd).elim⟩
      have s35 := Same.trans s4 s5
      have hr3 : H3 r = none := s4.free hr'
      refine tnx ?_
      dsimp only
      refine tsq (if_no (R := Same H5) (fun Q' hq => ?_) fun H6 s6 => ?_)
      · obtain ⟨dx', lt', ln', us', rs', a1, _⟩ := (N3.ex s35).at_
        refine ⟨_, rfl, x, dx', _, rfl, a1, nf_m_ties _ _ _, x, n, tsN, rfl, N3.ex s35, fun p6 u6 hp6 pr6 => ?_⟩
        have b6 := Same.new (o := .lst u6) hp6
        refine ⟨_, rfl, dPs tsN, dPs tsN, dp_prs (SqL.of upd_same) (pr6.ex b6), dp_prs (SqL.of (b6 _ _ (s35 _ _ hp3))) (prs3.ex (Same.trans s35 b6)), shaped_dPs _, shaped_dPs _, _, rfl, ?_⟩
        rw [eqv_dPs, decide_eq_true rfl]
        exact hq _ b6
      have s36 := Same.trans s35 s6
      refine tnx ?_
      dsimp only
      refine ⟨_, rfl, rfl, _, rfl, ?_⟩
      refine iteT ?_
      refine tsq (if_no (R := Same H6) (fun Q' hq => ?_) fun H7 s7 => ?_)
      · refine ⟨_, rfl, _, rfl, _, rfl, n, p, r, us, tsN, ms, rfl, n40, s36 _ _ hp3, prs3.ex s36, tie, s6 _ _ er, rg, fun H' s' => ⟨_, rfl, ?_⟩⟩
        exact hq _ s'
      have s37 := Same.trans s36 s7
      have er7 := (Same.trans s6 s7) _ _ er
      have lms := few_in rg.rg rg.nd
      refine tnx ?_
      dsimp only
      refine ⟨_, rfl, .inl ⟨rfl, _, SqL.of er7⟩, _, rfl, r, _, _, rfl, rfl, er7, len40 (by rw [List.length_map]; omega), ?_⟩
      have s38 : Same H3 (upd H7 r (.lst (ms.map V.int ++ [V.int (-1)]))) := Same.mut s37 hr3
      have er8 : upd H7 r (.lst (ms.map V.int ++ [V.int (-1)])) r = some (.lst (ms.map V.int ++ [V.int (-1)])) := upd_same
      generalize upd H7 r (.lst (ms.map V.int ++ [V.int (-1)])) = H8 at s38 er8 ⊢
      refine ⟨_, rfl, _, rfl, _, rfl, x, n, tsN, rfl, N3.ex s38, fun ms2 r2 H9 rg2 hr2 s9 er2 => ?_, fun ⟨cs, sd⟩ H9 s9 => (rg0.none sd).elim⟩
      have s39 := Same.trans s38 s9
      refine ⟨n, p, r2, us, tsN, ms2, rfl, n40, s39 _ _ hp3, prs3.ex s39, tie, er2, rg2, fun HA sA => ?_⟩
      have s3A := Same.trans s39 sA
      refine ⟨_, rfl, iteT ?_⟩
      refine ⟨_, rfl, x, n, tsN, rfl, N3.ex s3A, fun cs2 l2 HB sd2 hl2 sB el2 => (rg0.none sd2).elim, fun _ HB sB => ⟨rfl, ?_⟩⟩
      have s8B := Same.trans (Same.trans s9 sA) sB
      refine ⟨_, rfl, iteT ?_⟩
      refine ⟨_, rfl, _, rfl, r, _, (-1 : Int), V.int (-1), rfl, rfl, SqL.of (s8B _ _ er8), at_last, _, rfl, rfl, ?_⟩
      rw [decide_eq_true rfl]
      exact q _
end
end Od

namespace Od
open PySem PySem.Spec PyProof.Rows L2
theorem kit_self {K : PySem.W.Frag} {D : Addr} : PySem.W.kitOne K (.ref D) (.ref D) = some true := if_pos (beq_self_eq_true _)
theorem kit_own {K : PySem.W.Frag} {D C : Addr} {b : Bool} (i : PySem.W.isClsIn K C = true) (t : PySem.W.typeIn K (.ref C) = some (.type "type")) (s : PySem.W.subIn K (.ref D) (.ref C) = some b) (sd : PySem.W.subIn K (.ref D) (.ref D) = some true) :
    PySem.W.kitOne K (.ref D) (.ref C) = some b := by
  unfold PySem.W.kitOne
  by_cases c : D = C
  · subst c
    rw [if_pos (beq_self_eq_true _), ← s, sd]
  · rw [if_neg (by rw [beq_iff_eq]; intro z; injection z with z; exact c z)]
    unfold PySem.W.kitCls
    have h : ((PySem.W.clsIn K C).isSome && PySem.W.typeIn K (.ref C) == some (.type "type")) = true := by
      rw [t, show (PySem.W.clsIn K C).isSome = true from i]; rfl
    simp only [h, if_true]
    exact s
theorem kit_val {K : PySem.W.Frag} {D : Addr} (s : PySem.W.subIn K (.ref D) (.type "ValueError") = some true) : PySem.W.kitOne K (.ref D) (.type "ValueError") = some true := by
  unfold PySem.W.kitOne
  rw [if_neg (by rw [beq_iff_eq]; intro z; cases z)]
  unfold PySem.W.kitCls
  have h : PySem.W.kitMeta "ValueError" = true := by decide +kernel
  simp only [h, if_true]
  exact s
end Od

namespace Od
open PySem PySem.Spec PyProof.Rows L2
open PySem.W (mg_of mg_none_of)
theorem all_mk {l : PySem.W.OpenLaw} {w : World} {K : PySem.W.Frag} {h : Heap} {mg : Str → Option Value} {fa : Addr} (X : K.In h) (G : h.Ns mainGlobals mg) (hfa : mg "law" = some (.ref fa))
    {CNetError CBadNet CNoPlace CNet : Addr} {tkMOST_PLACES : Tok} {f1 f2 f3 f4 f5 f6 f7 f8 f9 f10 f11 f12 f13 f14 f15 f16 f17 f18 f19 f20 f21 f22 f23 f24 f25 f26 f27 f28 : Addr} {od1 an1 od2 an2 od3 an3 od4 an4 od5 an5 od6 an6 od7 an7 od8 an8 od9 an9 od10 an10 od11 an11 od12 an12 od13 an13 od14 an14 od15 an15 od16 an16 od17 an17 od18 an18 od19 an19 od20 an20 od21 an21 od22 an22 od23 an23 od24 an24 od25 an25 od26 an26 od27 an27 od28 an28 : Option Addr} {sl1 sl2 sl3 sl4 sl5 sl6 sl7 sl8 sl9 sl10 sl11 sl12 sl13 sl14 sl15 sl16 sl17 sl18 sl19 sl20 sl21 sl22 sl23 sl24 sl25 sl26 sl27 sl28 : Array (Option Value)} {oc1 kV1 dc1 pm1 cd1 ct1 oc2 kV2 dc2 pm2 cd2 ct2 oc3 kV3 dc3 pm3 cd3 ct3 oc4 kV4 dc4 pm4 cd4 ct4 oc5 kV5 dc5 pm5 cd5 ct5 oc6 kV6 dc6 pm6 cd6 ct6 oc7 kV7 dc7 pm7 cd7 ct7 oc8 kV8 dc8 pm8 cd8 ct8 oc9 kV9 dc9 pm9 cd9 ct9 oc10 kV10 dc10 pm10 cd10 ct10 oc11 kV11 dc11 pm11 cd11 ct11 oc12 kV12 dc12 pm12 cd12 ct12 oc13 kV13 dc13 pm13 cd13 ct13 oc14 kV14 dc14 pm14 cd14 ct14 oc15 kV15 dc15 pm15 cd15 ct15 oc16 kV16 dc16 pm16 cd16 ct16 oc17 kV17 dc17 pm17 cd17 ct17 oc18 kV18 dc18 pm18 cd18 ct18 oc19 kV19 dc19 pm19 cd19 ct19 oc20 kV20 dc20 pm20 cd20 ct20 oc21 kV21 dc21 pm21 cd21 ct21 oc22 kV22 dc22 pm22 cd22 ct22 oc23 kV23 dc23 pm23 cd23 ct23 oc24 kV24 dc24 pm24 cd24 ct24 oc25 kV25 dc25 pm25 cd25 ct25 oc26 kV26 dc26 pm26 cd26 ct26 oc27 kV27 dc27 pm27 cd27 ct27 oc28 kV28 dc28 pm28 cd28 ct28 : Value}
    (gNetError : PySem.W.nsIn K mainGlobals "NetError" = some (some (.ref CNetError)))
    (gBadNet : PySem.W.nsIn K mainGlobals "BadNet" = some (some (.ref CBadNet)))
    (gNoPlace : PySem.W.nsIn K mainGlobals "NoPlace" = some (some (.ref CNoPlace)))
    (gNet : PySem.W.nsIn K mainGlobals "Net" = some (some (.ref CNet)))
    (xNetError : PySem.W.excIn K CNetError [.type "ValueError", .type "Exception", .type "BaseException", .type "object"] "ValueError.__new__" = true)
    (pNetError : PySem.W.keepIn K (.ref CNetError) = true)
    (bNetError : PySem.W.subIn K (.ref CNetError) (.type "BaseException") = some true)
    (tNetError : PySem.W.typeIn K (.ref CNetError) = some (.type "type"))
    (hNetError : PySem.W.hasDictIn K CNetError = true)
    (iNetError : PySem.W.isClsIn K CNetError = true)
    (sNetError : PySem.W.subIn K (.ref CNetError) (.ref CNetError) = some true)
    (xBadNet : PySem.W.excIn K CBadNet [.type "ValueError", .type "Exception", .type "BaseException", .type "object"] "ValueError.__new__" = true)
    (pBadNet : PySem.W.keepIn K (.ref CBadNet) = true)
    (bBadNet : PySem.W.subIn K (.ref CBadNet) (.type "BaseException") = some true)
    (tBadNet : PySem.W.typeIn K (.ref CBadNet) = some (.type "type"))
    (hBadNet : PySem.W.hasDictIn K CBadNet = true)
    (iBadNet : PySem.W.isClsIn K CBadNet = true)
    (sBadNet : PySem.W.subIn K (.ref CBadNet) (.ref CBadNet) = some true)
    (xNoPlace : PySem.W.excIn K CNoPlace [.type "ValueError", .type "Exception", .type "BaseException", .type "object"] "ValueError.__new__" = true)
    (pNoPlace : PySem.W.keepIn K (.ref CNoPlace) = true)
    (bNoPlace : PySem.W.subIn K (.ref CNoPlace) (.type "BaseException") = some true)
    (tNoPlace : PySem.W.typeIn K (.ref CNoPlace) = some (.type "type"))
    (hNoPlace : PySem.W.hasDictIn K CNoPlace = true)
    (iNoPlace : PySem.W.isClsIn K CNoPlace = true)
    (sNoPlace : PySem.W.subIn K (.ref CNoPlace) (.ref CNoPlace) = some true)
    (oG : PySem.W.specialIn K (.builtin "object.__class__") "__get__" = some (some (.builtin "getset_descriptor.__get__")))
    (oT : PySem.W.takesIn K (.builtin "object.__class__") = some true)
    (e1BadNet : PySem.W.findIn K (.ref CBadNet) "__getattribute__" = some (some (.builtin "BaseException.__getattribute__")))
    (e2BadNet : PySem.W.findIn K (.ref CBadNet) "__getattr__" = some none)
    (e3BadNet : PySem.W.findIn K (.ref CBadNet) "__class__" = some (some (.builtin "object.__class__")))
    (e4BadNet : PySem.W.mroIn K CBadNet (.type "object") = some true)
    (e5BadNet : PySem.W.subIn K (.ref CBadNet) (.type "ValueError") = some true)
    (e6BadNet : PySem.W.subIn K (.ref CBadNet) (.ref CNetError) = some true)
    (uBadNet_NoPlace : PySem.W.subIn K (.ref CBadNet) (.ref CNoPlace) = some false)
    (e1NoPlace : PySem.W.findIn K (.ref CNoPlace) "__getattribute__" = some (some (.builtin "BaseException.__getattribute__")))
    (e2NoPlace : PySem.W.findIn K (.ref CNoPlace) "__getattr__" = some none)
    (e3NoPlace : PySem.W.findIn K (.ref CNoPlace) "__class__" = some (some (.builtin "object.__class__")))
    (e4NoPlace : PySem.W.mroIn K CNoPlace (.type "object") = some true)
    (e5NoPlace : PySem.W.subIn K (.ref CNoPlace) (.type "ValueError") = some true)
    (e6NoPlace : PySem.W.subIn K (.ref CNoPlace) (.ref CNetError) = some true)
    (uNoPlace_BadNet : PySem.W.subIn K (.ref CNoPlace) (.ref CBadNet) = some false)
    (pgNet : PySem.W.plainGet K CNet Str.empty = true)
    (hdNet : PySem.W.hasDictIn K CNet = true)
    (poNet : PySem.W.plainOver K CNet = true)
    (saNet : PySem.W.findIn K (.ref CNet) "__setattr__" = some (some (.builtin "object.__setattr__")))
    (mkNet : PySem.W.makesIn K CNet = true)
    (kcNet : PySem.W.keepIn K (.ref CNet) = true)
    (nNet_size : PySem.W.findIn K (.ref CNet) "size" = some none)
    (nNet__ties : PySem.W.findIn K (.ref CNet) "_ties" = some none)
    (nNet__near : PySem.W.findIn K (.ref CNet) "_near" = some none)
    (zisinstance : PySem.W.nsIn K mainGlobals "isinstance" = some none)
    (zint : PySem.W.nsIn K mainGlobals "int" = some none)
    (zbool : PySem.W.nsIn K mainGlobals "bool" = some none)
    (ztuple : PySem.W.nsIn K mainGlobals "tuple" = some none)
    (zlist : PySem.W.nsIn K mainGlobals "list" = some none)
    (zstr : PySem.W.nsIn K mainGlobals "str" = some none)
    (zlen : PySem.W.nsIn K mainGlobals "len" = some none)
    (zset : PySem.W.nsIn K mainGlobals "set" = some none)
    (zdict : PySem.W.nsIn K mainGlobals "dict" = some none)
    (zsorted : PySem.W.nsIn K mainGlobals "sorted" = some none)
    (zrange : PySem.W.nsIn K mainGlobals "range" = some none)
    (zenumerate : PySem.W.nsIn K mainGlobals "enumerate" = some none)
    (zzip : PySem.W.nsIn K mainGlobals "zip" = some none)
    (zall : PySem.W.nsIn K mainGlobals "all" = some none)
    (zany : PySem.W.nsIn K mainGlobals "any" = some none)
    (zmin : PySem.W.nsIn K mainGlobals "min" = some none)
    (zmax : PySem.W.nsIn K mainGlobals "max" = some none)
    (zValueError : PySem.W.nsIn K mainGlobals "ValueError" = some none)
    (cMOST_PLACES : PySem.W.nsIn K mainGlobals "MOST_PLACES" = some (some (.int 40 tkMOST_PLACES)))
    (a1 : PySem.W.nsIn K mainGlobals "is_number" = some (some (.ref f1)))
    (l1 : K.lookup f1 = some ⟨oc1, od1, .func (PySem.W.fnOf "is_number" "is_number" (defArgs S_is_number) (defBody S_is_number) (defScope S_is_number) .none kV1 dc1 pm1 an1 cd1 ct1), sl1⟩)
    (c1 : PySem.W.codeIn K cd1 "is_number" = true)
    (k1 : PySem.W.keepIn K (.ref f1) = true)
    (a2 : PySem.W.nsIn K mainGlobals "is_place" = some (some (.ref f2)))
    (l2 : K.lookup f2 = some ⟨oc2, od2, .func (PySem.W.fnOf "is_place" "is_place" (defArgs S_is_place) (defBody S_is_place) (defScope S_is_place) .none kV2 dc2 pm2 an2 cd2 ct2), sl2⟩)
    (c2 : PySem.W.codeIn K cd2 "is_place" = true)
    (k2 : PySem.W.keepIn K (.ref f2) = true)
    (a3 : PySem.W.nsIn K mainGlobals "is_tie" = some (some (.ref f3)))
    (l3 : K.lookup f3 = some ⟨oc3, od3, .func (PySem.W.fnOf "is_tie" "is_tie" (defArgs S_is_tie) (defBody S_is_tie) (defScope S_is_tie) .none kV3 dc3 pm3 an3 cd3 ct3), sl3⟩)
    (c3 : PySem.W.codeIn K cd3 "is_tie" = true)
    (k3 : PySem.W.keepIn K (.ref f3) = true)
    (a4 : PySem.W.nsIn K mainGlobals "rising_ties" = some (some (.ref f4)))
    (l4 : K.lookup f4 = some ⟨oc4, od4, .func (PySem.W.fnOf "rising_ties" "rising_ties" (defArgs S_rising_ties) (defBody S_rising_ties) (defScope S_rising_ties) .none kV4 dc4 pm4 an4 cd4 ct4), sl4⟩)
    (c4 : PySem.W.codeIn K cd4 "rising_ties" = true)
    (k4 : PySem.W.keepIn K (.ref f4) = true)
    (a5 : PySem.W.nsIn K mainGlobals "neighbours" = some (some (.ref f5)))
    (l5 : K.lookup f5 = some ⟨oc5, od5, .func (PySem.W.fnOf "neighbours" "neighbours" (defArgs S_neighbours) (defBody S_neighbours) (defScope S_neighbours) .none kV5 dc5 pm5 an5 cd5 ct5), sl5⟩)
    (c5 : PySem.W.codeIn K cd5 "neighbours" = true)
    (k5 : PySem.W.keepIn K (.ref f5) = true)
    (a6 : PySem.W.findIn K (.ref CNet) "__init__" = some (some (.ref f6)))
    (i6 : PySem.W.isFn K (.ref f6) = true)
    (l6 : K.lookup f6 = some ⟨oc6, od6, .func (PySem.W.fnOf "__init__" "Net.__init__" (defArgs S_Net___init__) (defBody S_Net___init__) (defScope S_Net___init__) .none kV6 dc6 pm6 an6 cd6 ct6), sl6⟩)
    (c6 : PySem.W.codeIn K cd6 "Net.__init__" = true)
    (k6 : PySem.W.keepIn K (.ref f6) = true)
    (a7 : PySem.W.findIn K (.ref CNet) "ties" = some (some (.ref f7)))
    (i7 : PySem.W.isFn K (.ref f7) = true)
    (l7 : K.lookup f7 = some ⟨oc7, od7, .func (PySem.W.fnOf "ties" "Net.ties" (defArgs S_Net_ties) (defBody S_Net_ties) (defScope S_Net_ties) .none kV7 dc7 pm7 an7 cd7 ct7), sl7⟩)
    (c7 : PySem.W.codeIn K cd7 "Net.ties" = true)
    (k7 : PySem.W.keepIn K (.ref f7) = true)
    (a8 : PySem.W.findIn K (.ref CNet) "beside" = some (some (.ref f8)))
    (i8 : PySem.W.isFn K (.ref f8) = true)
    (l8 : K.lookup f8 = some ⟨oc8, od8, .func (PySem.W.fnOf "beside" "Net.beside" (defArgs S_Net_beside) (defBody S_Net_beside) (defScope S_Net_beside) .none kV8 dc8 pm8 an8 cd8 ct8), sl8⟩)
    (c8 : PySem.W.codeIn K cd8 "Net.beside" = true)
    (k8 : PySem.W.keepIn K (.ref f8) = true)
    (a9 : PySem.W.nsIn K mainGlobals "trails_in" = some (some (.ref f9)))
    (l9 : K.lookup f9 = some ⟨oc9, od9, .func (PySem.W.fnOf "trails_in" "trails_in" (defArgs S_trails_in) (defBody S_trails_in) (defScope S_trails_in) .none kV9 dc9 pm9 an9 cd9 ct9), sl9⟩)
    (c9 : PySem.W.codeIn K cd9 "trails_in" = true)
    (k9 : PySem.W.keepIn K (.ref f9) = true)
    (a10 : PySem.W.nsIn K mainGlobals "lengthen" = some (some (.ref f10)))
    (l10 : K.lookup f10 = some ⟨oc10, od10, .func (PySem.W.fnOf "lengthen" "lengthen" (defArgs S_lengthen) (defBody S_lengthen) (defScope S_lengthen) .none kV10 dc10 pm10 an10 cd10 ct10), sl10⟩)
    (c10 : PySem.W.codeIn K cd10 "lengthen" = true)
    (k10 : PySem.W.keepIn K (.ref f10) = true)
    (a11 : PySem.W.nsIn K mainGlobals "side_at" = some (some (.ref f11)))
    (l11 : K.lookup f11 = some ⟨oc11, od11, .func (PySem.W.fnOf "side_at" "side_at" (defArgs S_side_at) (defBody S_side_at) (defScope S_side_at) .none kV11 dc11 pm11 an11 cd11 ct11), sl11⟩)
    (c11 : PySem.W.codeIn K cd11 "side_at" = true)
    (k11 : PySem.W.keepIn K (.ref f11) = true)
    (a12 : PySem.W.nsIn K mainGlobals "sides" = some (some (.ref f12)))
    (l12 : K.lookup f12 = some ⟨oc12, od12, .func (PySem.W.fnOf "sides" "sides" (defArgs S_sides) (defBody S_sides) (defScope S_sides) .none kV12 dc12 pm12 an12 cd12 ct12), sl12⟩)
    (c12 : PySem.W.codeIn K cd12 "sides" = true)
    (k12 : PySem.W.keepIn K (.ref f12) = true)
    (a13 : PySem.W.nsIn K mainGlobals "ring_of" = some (some (.ref f13)))
    (l13 : K.lookup f13 = some ⟨oc13, od13, .func (PySem.W.fnOf "ring_of" "ring_of" (defArgs S_ring_of) (defBody S_ring_of) (defScope S_ring_of) .none kV13 dc13 pm13 an13 cd13 ct13), sl13⟩)
    (c13 : PySem.W.codeIn K cd13 "ring_of" = true)
    (k13 : PySem.W.keepIn K (.ref f13) = true)
    (a14 : PySem.W.nsIn K mainGlobals "odd_ring" = some (some (.ref f14)))
    (l14 : K.lookup f14 = some ⟨oc14, od14, .func (PySem.W.fnOf "odd_ring" "odd_ring" (defArgs S_odd_ring) (defBody S_odd_ring) (defScope S_odd_ring) .none kV14 dc14 pm14 an14 cd14 ct14), sl14⟩)
    (c14 : PySem.W.codeIn K cd14 "odd_ring" = true)
    (k14 : PySem.W.keepIn K (.ref f14) = true)
    (a15 : PySem.W.nsIn K mainGlobals "_law_whole" = some (some (.ref f15)))
    (l15 : K.lookup f15 = some ⟨oc15, od15, .func (PySem.W.fnOf "_law_whole" "_law_whole" (defArgs S__law_whole) (defBody S__law_whole) (defScope S__law_whole) .none kV15 dc15 pm15 an15 cd15 ct15), sl15⟩)
    (c15 : PySem.W.codeIn K cd15 "_law_whole" = true)
    (k15 : PySem.W.keepIn K (.ref f15) = true)
    (a16 : PySem.W.nsIn K mainGlobals "_law_cell_at" = some (some (.ref f16)))
    (l16 : K.lookup f16 = some ⟨oc16, od16, .func (PySem.W.fnOf "_law_cell_at" "_law_cell_at" (defArgs S__law_cell_at) (defBody S__law_cell_at) (defScope S__law_cell_at) .none kV16 dc16 pm16 an16 cd16 ct16), sl16⟩)
    (c16 : PySem.W.codeIn K cd16 "_law_cell_at" = true)
    (k16 : PySem.W.keepIn K (.ref f16) = true)
    (a17 : PySem.W.nsIn K mainGlobals "_law_tied" = some (some (.ref f17)))
    (l17 : K.lookup f17 = some ⟨oc17, od17, .func (PySem.W.fnOf "_law_tied" "_law_tied" (defArgs S__law_tied) (defBody S__law_tied) (defScope S__law_tied) .none kV17 dc17 pm17 an17 cd17 ct17), sl17⟩)
    (c17 : PySem.W.codeIn K cd17 "_law_tied" = true)
    (k17 : PySem.W.keepIn K (.ref f17) = true)
    (a18 : PySem.W.nsIn K mainGlobals "_law_ties_by" = some (some (.ref f18)))
    (l18 : K.lookup f18 = some ⟨oc18, od18, .func (PySem.W.fnOf "_law_ties_by" "_law_ties_by" (defArgs S__law_ties_by) (defBody S__law_ties_by) (defScope S__law_ties_by) .none kV18 dc18 pm18 an18 cd18 ct18), sl18⟩)
    (c18 : PySem.W.codeIn K cd18 "_law_ties_by" = true)
    (k18 : PySem.W.keepIn K (.ref f18) = true)
    (a19 : PySem.W.nsIn K mainGlobals "_law_size_by" = some (some (.ref f19)))
    (l19 : K.lookup f19 = some ⟨oc19, od19, .func (PySem.W.fnOf "_law_size_by" "_law_size_by" (defArgs S__law_size_by) (defBody S__law_size_by) (defScope S__law_size_by) .none kV19 dc19 pm19 an19 cd19 ct19), sl19⟩)
    (c19 : PySem.W.codeIn K cd19 "_law_size_by" = true)
    (k19 : PySem.W.keepIn K (.ref f19) = true)
    (a20 : PySem.W.nsIn K mainGlobals "_law_kind_by" = some (some (.ref f20)))
    (l20 : K.lookup f20 = some ⟨oc20, od20, .func (PySem.W.fnOf "_law_kind_by" "_law_kind_by" (defArgs S__law_kind_by) (defBody S__law_kind_by) (defScope S__law_kind_by) .none kV20 dc20 pm20 an20 cd20 ct20), sl20⟩)
    (c20 : PySem.W.codeIn K cd20 "_law_kind_by" = true)
    (k20 : PySem.W.keepIn K (.ref f20) = true)
    (a21 : PySem.W.nsIn K mainGlobals "_law_great" = some (some (.ref f21)))
    (l21 : K.lookup f21 = some ⟨oc21, od21, .func (PySem.W.fnOf "_law_great" "_law_great" (defArgs S__law_great) (defBody S__law_great) (defScope S__law_great) .none kV21 dc21 pm21 an21 cd21 ct21), sl21⟩)
    (c21 : PySem.W.codeIn K cd21 "_law_great" = true)
    (k21 : PySem.W.keepIn K (.ref f21) = true)
    (a22 : PySem.W.nsIn K mainGlobals "_law_net_by" = some (some (.ref f22)))
    (l22 : K.lookup f22 = some ⟨oc22, od22, .func (PySem.W.fnOf "_law_net_by" "_law_net_by" (defArgs S__law_net_by) (defBody S__law_net_by) (defScope S__law_net_by) .none kV22 dc22 pm22 an22 cd22 ct22), sl22⟩)
    (c22 : PySem.W.codeIn K cd22 "_law_net_by" = true)
    (k22 : PySem.W.keepIn K (.ref f22) = true)
    (a23 : PySem.W.nsIn K mainGlobals "_law_near" = some (some (.ref f23)))
    (l23 : K.lookup f23 = some ⟨oc23, od23, .func (PySem.W.fnOf "_law_near" "_law_near" (defArgs S__law_near) (defBody S__law_near) (defScope S__law_near) .none kV23 dc23 pm23 an23 cd23 ct23), sl23⟩)
    (c23 : PySem.W.codeIn K cd23 "_law_near" = true)
    (k23 : PySem.W.keepIn K (.ref f23) = true)
    (a24 : PySem.W.nsIn K mainGlobals "_law_part" = some (some (.ref f24)))
    (l24 : K.lookup f24 = some ⟨oc24, od24, .func (PySem.W.fnOf "_law_part" "_law_part" (defArgs S__law_part) (defBody S__law_part) (defScope S__law_part) .none kV24 dc24 pm24 an24 cd24 ct24), sl24⟩)
    (c24 : PySem.W.codeIn K cd24 "_law_part" = true)
    (k24 : PySem.W.keepIn K (.ref f24) = true)
    (a25 : PySem.W.nsIn K mainGlobals "_law_parts" = some (some (.ref f25)))
    (l25 : K.lookup f25 = some ⟨oc25, od25, .func (PySem.W.fnOf "_law_parts" "_law_parts" (defArgs S__law_parts) (defBody S__law_parts) (defScope S__law_parts) .none kV25 dc25 pm25 an25 cd25 ct25), sl25⟩)
    (c25 : PySem.W.codeIn K cd25 "_law_parts" = true)
    (k25 : PySem.W.keepIn K (.ref f25) = true)
    (a26 : PySem.W.nsIn K mainGlobals "_law_sides" = some (some (.ref f26)))
    (l26 : K.lookup f26 = some ⟨oc26, od26, .func (PySem.W.fnOf "_law_sides" "_law_sides" (defArgs S__law_sides) (defBody S__law_sides) (defScope S__law_sides) .none kV26 dc26 pm26 an26 cd26 ct26), sl26⟩)
    (c26 : PySem.W.codeIn K cd26 "_law_sides" = true)
    (k26 : PySem.W.keepIn K (.ref f26) = true)
    (a27 : PySem.W.nsIn K mainGlobals "_law_ring" = some (some (.ref f27)))
    (l27 : K.lookup f27 = some ⟨oc27, od27, .func (PySem.W.fnOf "_law_ring" "_law_ring" (defArgs S__law_ring) (defBody S__law_ring) (defScope S__law_ring) .none kV27 dc27 pm27 an27 cd27 ct27), sl27⟩)
    (c27 : PySem.W.codeIn K cd27 "_law_ring" = true)
    (k27 : PySem.W.keepIn K (.ref f27) = true)
    (a28 : PySem.W.nsIn K mainGlobals "law" = some (some (.ref f28)))
    (l28 : K.lookup f28 = some ⟨oc28, od28, .func (PySem.W.fnOf "law" "law" (defArgs S_law) (defBody S_law) (defScope S_law) .none kV28 dc28 pm28 an28 cd28 ct28), sl28⟩)
    (c28 : PySem.W.codeIn K cd28 "law" = true)
    (k28 : PySem.W.keepIn K (.ref f28) = true) :
    ∃ fd : FuncData, (∀ (s : Shared) (v : Value), BindsTo s fd ⟨[v], []⟩ [("_law_script", v)]) ∧ ∀ base : Heap, K.In base → base.Ns mainGlobals mg → FnOk l.prog w K mg base CX0 8 fa fd ["_law_script"] (spLaw K) := by
  have e := hfa.symm.trans (mg_of X G a28)
  cases e
  have F1 := fun_mk (st := S_is_number) l1 c1 k1
  have B1 := F1.binds (ps := ["thing"]) fun _ _ _ _ _ _ us hl => match us, hl with | [_], _ => rfl
  have F2 := fun_mk (st := S_is_place) l2 c2 k2
  have B2 := F2.binds (ps := ["thing", "size"]) fun _ _ _ _ _ _ us hl => match us, hl with | [_, _], _ => rfl
  have F3 := fun_mk (st := S_is_tie) l3 c3 k3
  have B3 := F3.binds (ps := ["thing", "size"]) fun _ _ _ _ _ _ us hl => match us, hl with | [_, _], _ => rfl
  have F4 := fun_mk (st := S_rising_ties) l4 c4 k4
  have B4 := F4.binds (ps := ["size", "ties"]) fun _ _ _ _ _ _ us hl => match us, hl with | [_, _], _ => rfl
  have F5 := fun_mk (st := S_neighbours) l5 c5 k5
  have B5 := F5.binds (ps := ["size", "ties"]) fun _ _ _ _ _ _ us hl => match us, hl with | [_, _], _ => rfl
  have F6 := fun_mk (st := S_Net___init__) l6 c6 k6
  have B6 := F6.binds (ps := ["self", "size", "ties"]) fun _ _ _ _ _ _ us hl => match us, hl with | [_, _, _], _ => rfl
  have F7 := fun_mk (st := S_Net_ties) l7 c7 k7
  have B7 := F7.binds (ps := ["self"]) fun _ _ _ _ _ _ us hl => match us, hl with | [_], _ => rfl
  have F8 := fun_mk (st := S_Net_beside) l8 c8 k8
  have B8 := F8.binds (ps := ["self", "place"]) fun _ _ _ _ _ _ us hl => match us, hl with | [_, _], _ => rfl
  have F9 := fun_mk (st := S_trails_in) l9 c9 k9
  have B9 := F9.binds (ps := ["net"]) fun _ _ _ _ _ _ us hl => match us, hl with | [_], _ => rfl
  have F10 := fun_mk (st := S_lengthen) l10 c10 k10
  have B10 := F10.binds (ps := ["net", "trails", "first"]) fun _ _ _ _ _ _ us hl => match us, hl with | [_, _, _], _ => rfl
  have F11 := fun_mk (st := S_side_at) l11 c11 k11
  have B11 := F11.binds (ps := ["trail"]) fun _ _ _ _ _ _ us hl => match us, hl with | [_], _ => rfl
  have F12 := fun_mk (st := S_sides) l12 c12 k12
  have B12 := F12.binds (ps := ["net"]) fun _ _ _ _ _ _ us hl => match us, hl with | [_], _ => rfl
  have F13 := fun_mk (st := S_ring_of) l13 c13 k13
  have B13 := F13.binds (ps := ["trail", "other_trail"]) fun _ _ _ _ _ _ us hl => match us, hl with | [_, _], _ => rfl
  have F14 := fun_mk (st := S_odd_ring) l14 c14 k14
  have B14 := F14.binds (ps := ["net"]) fun _ _ _ _ _ _ us hl => match us, hl with | [_], _ => rfl
  have F15 := fun_mk (st := S__law_whole) l15 c15 k15
  have B15 := F15.binds (ps := ["_law_found"]) fun _ _ _ _ _ _ us hl => match us, hl with | [_], _ => rfl
  have F16 := fun_mk (st := S__law_cell_at) l16 c16 k16
  have B16 := F16.binds (ps := ["_law_script", "_law_k"]) fun _ _ _ _ _ _ us hl => match us, hl with | [_, _], _ => rfl
  have F17 := fun_mk (st := S__law_tied) l17 c17 k17
  have B17 := F17.binds (ps := ["_law_kind", "_law_cell", "_law_one", "_law_other", "_law_size"]) fun _ _ _ _ _ _ us hl => match us, hl with | [_, _, _, _, _], _ => rfl
  have F18 := fun_mk (st := S__law_ties_by) l18 c18 k18
  have B18 := F18.binds (ps := ["_law_script", "_law_size", "_law_kind"]) fun _ _ _ _ _ _ us hl => match us, hl with | [_, _, _], _ => rfl
  have F19 := fun_mk (st := S__law_size_by) l19 c19 k19
  have B19 := F19.binds (ps := ["_law_script", "_law_bound"]) fun _ _ _ _ _ _ us hl => match us, hl with | [_, _], _ => rfl
  have F20 := fun_mk (st := S__law_kind_by) l20 c20 k20
  have B20 := F20.binds (ps := ["_law_script"]) fun _ _ _ _ _ _ us hl => match us, hl with | [_], _ => rfl
  have F21 := fun_mk (st := S__law_great) l21 c21 k21
  have B21 := F21.binds (ps := ["_law_script"]) fun _ _ _ _ _ _ us hl => match us, hl with | [_], _ => rfl
  have F22 := fun_mk (st := S__law_net_by) l22 c22 k22
  have B22 := F22.binds (ps := ["_law_script", "_law_bound"]) fun _ _ _ _ _ _ us hl => match us, hl with | [_, _], _ => rfl
  have F23 := fun_mk (st := S__law_near) l23 c23 k23
  have B23 := F23.binds (ps := ["_law_size", "_law_ties"]) fun _ _ _ _ _ _ us hl => match us, hl with | [_, _], _ => rfl
  have F24 := fun_mk (st := S__law_part) l24 c24 k24
  have B24 := F24.binds (ps := ["_law_near_here", "_law_place", "_law_there"]) fun _ _ _ _ _ _ us hl => match us, hl with | [_, _, _], _ => rfl
  have F25 := fun_mk (st := S__law_parts) l25 c25 k25
  have B25 := F25.binds (ps := ["_law_size", "_law_ties", "_law_taken"]) fun _ _ _ _ _ _ us hl => match us, hl with | [_, _, _], _ => rfl
  have F26 := fun_mk (st := S__law_sides) l26 c26 k26
  have B26 := F26.binds (ps := ["_law_size", "_law_ties", "_law_found"]) fun _ _ _ _ _ _ us hl => match us, hl with | [_, _, _], _ => rfl
  have F27 := fun_mk (st := S__law_ring) l27 c27 k27
  have B27 := F27.binds (ps := ["_law_size", "_law_ties", "_law_found"]) fun _ _ _ _ _ _ us hl => match us, hl with | [_, _, _], _ => rfl
  have F28 := fun_mk (st := S_law) l28 c28 k28
  have B28 := F28.binds (ps := ["_law_script"]) fun _ _ _ _ _ _ us hl => match us, hl with | [_], _ => rfl
  have T : Top K mg ⟨CNetError, CBadNet, CNoPlace, CNet⟩ := ⟨mg_none_of X G zisinstance,
    mg_none_of X G zint,
    mg_none_of X G zbool,
    mg_none_of X G ztuple,
    mg_none_of X G zlist,
    mg_none_of X G zstr,
    mg_none_of X G zlen,
    mg_none_of X G zset,
    mg_none_of X G zdict,
    mg_none_of X G zsorted,
    mg_none_of X G zrange,
    mg_none_of X G zenumerate,
    mg_none_of X G zzip,
    mg_none_of X G zall,
    mg_none_of X G zany,
    mg_none_of X G zmin,
    mg_none_of X G zmax,
    mg_none_of X G zValueError,
    ⟨mg_of X G gNetError, xNetError, pNetError, bNetError, tNetError, PySem.W.exm_ref bNetError hNetError tNetError sNetError⟩,
    ⟨mg_of X G gBadNet, xBadNet, pBadNet, bBadNet, tBadNet, PySem.W.exm_ref bBadNet hBadNet tBadNet sBadNet⟩,
    ⟨mg_of X G gNoPlace, xNoPlace, pNoPlace, bNoPlace, tNoPlace, PySem.W.exm_ref bNoPlace hNoPlace tNoPlace sNoPlace⟩,
    mg_of X G gNet,
    ⟨pgNet, hdNet, poNet, saNet⟩,
    nNet_size,
    nNet__ties,
    nNet__near,
    ⟨⟨e1BadNet, e2BadNet, bBadNet, hBadNet, e3BadNet, oG, oT, e4BadNet⟩, kit_val e5BadNet, kit_own iNetError tNetError e6BadNet sBadNet, true, false, kit_self, kit_own iNoPlace tNoPlace uBadNet_NoPlace sBadNet, by decide⟩,
    ⟨⟨e1NoPlace, e2NoPlace, bNoPlace, hNoPlace, e3NoPlace, oG, oT, e4NoPlace⟩, kit_val e5NoPlace, kit_own iNetError tNetError e6NoPlace sNoPlace, false, true, kit_own iBadNet tBadNet uNoPlace_BadNet sNoPlace, kit_self, by decide⟩,
    ⟨_, mg_of X G cMOST_PLACES⟩,
    ⟨_, _, mg_of X G a1, F1, B1⟩,
    ⟨_, _, mg_of X G a2, F2, B2⟩,
    ⟨_, _, mg_of X G a3, F3, B3⟩,
    ⟨_, _, mg_of X G a4, F4, B4⟩,
    ⟨_, _, mg_of X G a5, F5, B5⟩,
    ⟨_, _, ⟨mkNet, a6, i6, kcNet⟩, F6, B6⟩,
    ⟨_, _, ⟨a7, i7, k7⟩, F7, B7⟩,
    ⟨_, _, ⟨a8, i8, k8⟩, F8, B8⟩,
    ⟨_, _, mg_of X G a9, F9, B9⟩,
    ⟨_, _, mg_of X G a10, F10, B10⟩,
    ⟨_, _, mg_of X G a11, F11, B11⟩,
    ⟨_, _, mg_of X G a12, F12, B12⟩,
    ⟨_, _, mg_of X G a13, F13, B13⟩,
    ⟨_, _, mg_of X G a14, F14, B14⟩,
    ⟨_, _, mg_of X G a15, F15, B15⟩,
    ⟨_, _, mg_of X G a16, F16, B16⟩,
    ⟨_, _, mg_of X G a17, F17, B17⟩,
    ⟨_, _, mg_of X G a18, F18, B18⟩,
    ⟨_, _, mg_of X G a19, F19, B19⟩,
    ⟨_, _, mg_of X G a20, F20, B20⟩,
    ⟨_, _, mg_of X G a21, F21, B21⟩,
    ⟨_, _, mg_of X G a22, F22, B22⟩,
    ⟨_, _, mg_of X G a23, F23, B23⟩,
    ⟨_, _, mg_of X G a24, F24, B24⟩,
    ⟨_, _, mg_of X G a25, F25, B25⟩,
    ⟨_, _, mg_of X G a26, F26, B26⟩,
    ⟨_, _, mg_of X G a27, F27, B27⟩,
    ⟨_, _, mg_of X G a28, F28, B28⟩⟩
  exact ⟨_, fun s v => .of_eq rfl, fun base _ _ => ok_law T F28⟩
theorem walk {l : PySem.W.OpenLaw} {q : Program} {loose : List Str} {XP : (Str → Option Value) → Heap → Prop} {YP : World → Heap → Prop} {d : DefRec} {K : Params → PySem.W.Frag} (hn : l.most = some 63) (hdf : d.params.defaults = [])
    (hY : ∀ (w : World) (h : Heap), YP w h → (K w.params).In h)
    (F : ∀ (w : World) (mg : Str → Option Value) (fa : Addr) (h : Heap), (K w.params).In h → h.Ns mainGlobals mg → mg d.name = some (.ref fa) →
      ∃ fd : FuncData, (∀ (s : Shared) (u : Value), BindsTo s fd ⟨[u], []⟩ [("_law_script", u)]) ∧ ∀ base : Heap, (K w.params).In base → base.Ns mainGlobals mg → FnOk l.prog w (K w.params) mg base CX0 8 fa fd ["_law_script"] (spLaw (K w.params))) :
    PySem.W.WalkO q loose XP YP l.row.toRowW d [] (fun f vs => PySem.call f vs) :=
  walk_of (n := 63) (k := 8) (x := "_law_script") (CX := fun _ => CX0) (sp := fun w => spLaw (K w.params)) hn (by decide) hdf ⟨rfl, by decide, by decide⟩ hY F (fun _ _ a ns hl _ hS => ⟨a, ns, rfl, hS, hl, fun _ => rfl⟩) fun _ _ _ _ _ z => z
end Od

open PySem PySem.W PyProof.Rows
set_option maxRecDepth 100000 in
set_option maxHeartbeats 0 in
theorem PySem.Challenge.cw_oddpairs_k09_whole_two_sides_or_a_ring_holds : PySem.Challenge.rw_oddpairs_k09_whole_two_sides_or_a_ring.Holds := by
  w_on; o_law; k_head; (case hw => w_witness2)
  k_fill
  refine Od.walk (l := PySem.Challenge.rw_oddpairs_k09_whole_two_sides_or_a_ring) rfl rfl (fun w h Y => PySem.W.kIn_of Y) ?F
  case F =>
    intro w mg fa h KX G hmg
    refine' Od.all_mk KX G hmg ?gNetError ?gBadNet ?gNoPlace ?gNet ?xNetError ?pNetError ?bNetError ?tNetError ?hNetError ?iNetError ?sNetError ?xBadNet ?pBadNet ?bBadNet ?tBadNet ?hBadNet ?iBadNet ?sBadNet ?xNoPlace ?pNoPlace ?bNoPlace ?tNoPlace ?hNoPlace ?iNoPlace ?sNoPlace ?oG ?oT ?e1BadNet ?e2BadNet ?e3BadNet ?e4BadNet ?e5BadNet ?e6BadNet ?uBadNet_NoPlace ?e1NoPlace ?e2NoPlace ?e3NoPlace ?e4NoPlace ?e5NoPlace ?e6NoPlace ?uNoPlace_BadNet ?pgNet ?hdNet ?poNet ?saNet ?mkNet ?kcNet ?nNet_size ?nNet__ties ?nNet__near ?zisinstance ?zint ?zbool ?ztuple ?zlist ?zstr ?zlen ?zset ?zdict ?zsorted ?zrange ?zenumerate ?zzip ?zall ?zany ?zmin ?zmax ?zValueError ?cMOST_PLACES ?a1 ?l1 ?c1 ?k1 ?a2 ?l2 ?c2 ?k2 ?a3 ?l3 ?c3 ?k3 ?a4 ?l4 ?c4 ?k4 ?a5 ?l5 ?c5 ?k5 ?a6 ?i6 ?l6 ?c6 ?k6 ?a7 ?i7 ?l7 ?c7 ?k7 ?a8 ?i8 ?l8 ?c8 ?k8 ?a9 ?l9 ?c9 ?k9 ?a10 ?l10 ?c10 ?k10 ?a11 ?l11 ?c11 ?k11 ?a12 ?l12 ?c12 ?k12 ?a13 ?l13 ?c13 ?k13 ?a14 ?l14 ?c14 ?k14 ?a15 ?l15 ?c15 ?k15 ?a16 ?l16 ?c16 ?k16 ?a17 ?l17 ?c17 ?k17 ?a18 ?l18 ?c18 ?k18 ?a19 ?l19 ?c19 ?k19 ?a20 ?l20 ?c20 ?k20 ?a21 ?l21 ?c21 ?k21 ?a22 ?l22 ?c22 ?k22 ?a23 ?l23 ?c23 ?k23 ?a24 ?l24 ?c24 ?k24 ?a25 ?l25 ?c25 ?k25 ?a26 ?l26 ?c26 ?k26 ?a27 ?l27 ?c27 ?k27 ?a28 ?l28 ?c28 ?k28
    (case gNetError => k_is)
    (case gBadNet => k_is)
    (case gNoPlace => k_is)
    (case gNet => k_is)
    (case xNetError => k_exc)
    (case pNetError => k_is)
    (case bNetError => k_is)
    (case tNetError => k_is)
    (case hNetError => k_is)
    (case iNetError => k_is)
    (case sNetError => first | rfl | k_is)
    (case xBadNet => k_exc)
    (case pBadNet => k_is)
    (case bBadNet => k_is)
    (case tBadNet => k_is)
    (case hBadNet => k_is)
    (case iBadNet => k_is)
    (case sBadNet => first | rfl | k_is)
    (case xNoPlace => k_exc)
    (case pNoPlace => k_is)
    (case bNoPlace => k_is)
    (case tNoPlace => k_is)
    (case hNoPlace => k_is)
    (case iNoPlace => k_is)
    (case sNoPlace => first | rfl | k_is)
    (case oG => k_is)
    (case oT => k_is)
    (case e1BadNet => k_is)
    (case e2BadNet => k_is)
    (case e3BadNet => k_is)
    (case e4BadNet => k_is)
    (case e5BadNet => k_is)
    (case e6BadNet => k_is)
    (case uBadNet_NoPlace => k_is)
    (case e1NoPlace => k_is)
    (case e2NoPlace => k_is)
    (case e3NoPlace => k_is)
    (case e4NoPlace => k_is)
    (case e5NoPlace => k_is)
    (case e6NoPlace => k_is)
    (case uNoPlace_BadNet => k_is)
    (case pgNet => k_is)
    (case hdNet => k_is)
    (case poNet => k_is)
    (case saNet => k_is)
    (case mkNet => k_is)
    (case kcNet => k_is)
    (case nNet_size => k_is)
    (case nNet__ties => k_is)
    (case nNet__near => k_is)
    (case zisinstance => k_is)
    (case zint => k_is)
    (case zbool => k_is)
    (case ztuple => k_is)
    (case zlist => k_is)
    (case zstr => k_is)
    (case zlen => k_is)
    (case zset => k_is)
    (case zdict => k_is)
    (case zsorted => k_is)
    (case zrange => k_is)
    (case zenumerate => k_is)
    (case zzip => k_is)
    (case zall => k_is)
    (case zany => k_is)
    (case zmin => k_is)
    (case zmax => k_is)
    (case zValueError => k_is)
    (case cMOST_PLACES => k_is)
    (case a1 => k_is)
    (case l1 => k_is)
    (case c1 => k_is)
    (case k1 => k_is)
    (case a2 => k_is)
    (case l2 => k_is)
    (case c2 => k_is)
    (case k2 => k_is)
    (case a3 => k_is)
    (case l3 => k_is)
    (case c3 => k_is)
    (case k3 => k_is)
    (case a4 => k_is)
    (case l4 => k_is)
    (case c4 => k_is)
    (case k4 => k_is)
    (case a5 => k_is)
    (case l5 => k_is)
    (case c5 => k_is)
    (case k5 => k_is)
    (case a6 => k_is)
    (case i6 => k_is)
    (case l6 => k_is)
    (case c6 => k_is)
    (case k6 => k_is)
    (case a7 => k_is)
    (case i7 => k_is)
    (case l7 => k_is)
    (case c7 => k_is)
    (case k7 => k_is)
    (case a8 => k_is)
    (case i8 => k_is)
    (case l8 => k_is)
    (case c8 => k_is)
    (case k8 => k_is)
    (case a9 => k_is)
    (case l9 => k_is)
    (case c9 => k_is)
    (case k9 => k_is)
    (case a10 => k_is)
    (case l10 => k_is)
    (case c10 => k_is)
    (case k10 => k_is)
    (case a11 => k_is)
    (case l11 => k_is)
    (case c11 => k_is)
    (case k11 => k_is)
    (case a12 => k_is)
    (case l12 => k_is)
    (case c12 => k_is)
    (case k12 => k_is)
    (case a13 => k_is)
    (case l13 => k_is)
    (case c13 => k_is)
    (case k13 => k_is)
    (case a14 => k_is)
    (case l14 => k_is)
    (case c14 => k_is)
    (case k14 => k_is)
    (case a15 => k_is)
    (case l15 => k_is)
    (case c15 => k_is)
    (case k15 => k_is)
    (case a16 => k_is)
    (case l16 => k_is)
    (case c16 => k_is)
    (case k16 => k_is)
    (case a17 => k_is)
    (case l17 => k_is)
    (case c17 => k_is)
    (case k17 => k_is)
    (case a18 => k_is)
    (case l18 => k_is)
    (case c18 => k_is)
    (case k18 => k_is)
    (case a19 => k_is)
    (case l19 => k_is)
    (case c19 => k_is)
    (case k19 => k_is)
    (case a20 => k_is)
    (case l20 => k_is)
    (case c20 => k_is)
    (case k20 => k_is)
    (case a21 => k_is)
    (case l21 => k_is)
    (case c21 => k_is)
    (case k21 => k_is)
    (case a22 => k_is)
    (case l22 => k_is)
    (case c22 => k_is)
    (case k22 => k_is)
    (case a23 => k_is)
    (case l23 => k_is)
    (case c23 => k_is)
    (case k23 => k_is)
    (case a24 => k_is)
    (case l24 => k_is)
    (case c24 => k_is)
    (case k24 => k_is)
    (case a25 => k_is)
    (case l25 => k_is)
    (case c25 => k_is)
    (case k25 => k_is)
    (case a26 => k_is)
    (case l26 => k_is)
    (case c26 => k_is)
    (case k26 => k_is)
    (case a27 => k_is)
    (case l27 => k_is)
    (case c27 => k_is)
    (case k27 => k_is)
    (case a28 => k_is)
    (case l28 => k_is)
    (case c28 => k_is)
    (case k28 => k_is)
