import PyProof.Rows.All
import Wide.All
import OpenK.AllK
import Wide.FinOn
import HandS.TupSets
import HandS.SortInts
import HandS.SortRule
import HandS.Strs
import HandS.ForExc
import HandS.ForMost
import HandS.ExcCtx
import HandS.HotCalls
import HandS.ExcIs
import HandS.IsInst
import HandS.More
import HandS.Flow
import HandS.Evl
import HandS.SetIn
import HandS.Deep
import HandS.Walk
import HandS.Small
import PySem.Challenge.RW_oddpairs_k01_nets
set_option Elab.async false
set_option linter.all false
set_option maxRecDepth 100000
set_option maxHeartbeats 4000000

/-! Sets of tuples of ints, up to a thousand members: the masks 7, 31, 127, 511, 2047. -/
namespace Bs
open PySem PySem.Spec PyProof.Rows L2

/-- the masks that come while a set grows one by one to a thousand -/
def Msk (m : Nat) : Prop := m = 7 ∨ m = 31 ∨ m = 127 ∨ m = 511 ∨ m = 2047

/-! ### the round of the leaps -/
def st5 (m x : Nat) : Nat := (x * 5 + 1) % (m + 1)
/-- f steps from x: where one stands, and a number whose bits tell where one was -/
def trail (m : Nat) : Nat → Nat → Nat → Nat × Nat
  | 0, x, acc => (x, acc)
  | f + 1, x, acc => trail m f (st5 m x) (acc ||| (1 <<< x))
theorem lcgI_front (m : Nat) : ∀ (k x : Nat), lcgI m x (k + 1) = lcgI m (st5 m x) k
  | 0, _ => rfl
  | k + 1, x => by
    show (lcgI m x (k + 1) * 5 + 1) % (m + 1) = (lcgI m (st5 m x) k * 5 + 1) % (m + 1)
    rw [lcgI_front m k x]
theorem trail_at (m : Nat) : ∀ (f x acc : Nat), (trail m f x acc).1 = lcgI m x f
  | 0, _, _ => rfl
  | f + 1, x, acc => (trail_at m f _ _).trans (lcgI_front m f x).symm
theorem trail_bit (m j : Nat) : ∀ (f x acc : Nat), (trail m f x acc).2.testBit j = true → acc.testBit j = true ∨ ∃ b, b < f ∧ lcgI m x b = j
  | 0, _, _, h => .inl h
  | f + 1, x, acc, h => by
    rcases trail_bit m j f _ _ h with c | ⟨b, hb, e⟩
    · rw [Nat.testBit_or, Nat.one_shiftLeft, Nat.testBit_two_pow, Bool.or_eq_true, decide_eq_true_eq] at c
      rcases c with c | c
      · exact .inl c
      · exact .inr ⟨0, Nat.succ_pos _, c⟩
    · exact .inr ⟨b + 1, Nat.succ_lt_succ hb, (lcgI_front m b x).trans e⟩
theorem trail_all {m : Nat} (h : Msk m) : trail m (m + 1) 0 0 = (0, 2 ^ (m + 1) - 1) := by
  rcases h with e | e | e | e | e <;> subst e <;> decide +kernel
theorem lcgI_plus (m x a : Nat) : ∀ k, lcgI m (lcgI m x a) k = lcgI m x (a + k)
  | 0 => rfl
  | k + 1 => congrArg (st5 m) (lcgI_plus m x a k)
theorem round_all {m : Nat} (h : Msk m) {i j : Nat} (hi : i ≤ m) (hj : j ≤ m) : ∃ k, k ≤ m ∧ lcgI m i k = j := by
  have T := trail_all h
  have back : lcgI m 0 (m + 1) = 0 := by rw [← trail_at m (m + 1) 0 0, T]
  have hit : ∀ y, y ≤ m → ∃ b, b ≤ m ∧ lcgI m 0 b = y := fun y hy => by
    have q : (trail m (m + 1) 0 0).2.testBit y = true := by
      rw [T]
      show (2 ^ (m + 1) - 1).testBit y = true
      rw [Nat.testBit_two_pow_sub_one, decide_eq_true_eq]
      omega
    rcases trail_bit m y _ _ _ q with c | ⟨b, hb, e⟩
    · rw [Nat.zero_testBit] at c; cases c
    · exact ⟨b, Nat.le_of_lt_succ hb, e⟩
  obtain ⟨a, ha, ea⟩ := hit i hi
  obtain ⟨b, hb, eb⟩ := hit j hj
  subst ea
  by_cases c : a ≤ b
  · exact ⟨b - a, by omega, by rw [lcgI_plus, Nat.add_sub_cancel' c]; exact eb⟩
  · refine ⟨m + 1 + b - a, by omega, ?_⟩
    rw [lcgI_plus, show a + (m + 1 + b - a) = m + 1 + b by omega, ← lcgI_plus m 0 (m + 1) b, back]
    exact eb
theorem begins {m : Nat} (h : Msk m) (x : Int) {j : Nat} (hj : j ≤ m) : ∃ n, n ≤ m + 12 ∧ runI m (SetTable.bits x) n = j := by
  obtain ⟨k, hk, e⟩ := round_all h (runI_le m (SetTable.bits x) 12) hj
  exact ⟨12 + k, by omega, (runI_tail (bits_lt x) k).trans e⟩
theorem way_top {m : Nat} {x : Int} {k : Nat} : way m x k ≤ m := by
  have hi : SetTable.bits x % (m + 1) ≤ m := Nat.le_of_lt_succ (Nat.mod_lt _ (Nat.succ_pos _))
  have r := runEnd_bd hi
  have q : (nth m (runAt m (SetTable.bits x % (m + 1)) (SetTable.bits x)) k).j + _ ≤ m := nth_in (m := m) k _ (by
    show SetTable.bits x % (m + 1) + (SetTable.runEnd m (SetTable.bits x % (m + 1)) - SetTable.bits x % (m + 1)) ≤ m
    omega)
  exact Nat.le_trans (Nat.le_add_right _ _) q
theorem comes {m : Nat} (h : Msk m) (x : Int) {j : Nat} (hj : j ≤ m) : ∃ k, k < 10 * SetTable.turns m ∧ way m x k = j := by
  obtain ⟨n, hn, e⟩ := begins h x hj
  obtain ⟨k, hk, e2⟩ := run_nth m (SetTable.bits x) n
  refine ⟨k, by unfold SetTable.turns; omega, ?_⟩
  show (nth m _ k).j = j
  rw [e2]
  exact e

/-! ### tables -/
/-- a table in which each hash is found again, no slot between being empty -/
structure Tab (t : SetTable) (hs : List Int) : Prop where
  up : Ris t.place.toList
  dm : t.dummies = #[]
  sz : t.place.toList.length = hs.length
  ms : Msk t.mask
  bd : ∀ x ∈ t.place.toList, x ≤ t.mask
  fd : ∀ (i : Nat) (x : Int) (j : Nat), hs[i]? = some x → t.place.toList[i]? = some j → ∃ k, way t.mask x k = j ∧ ∀ k', k' < k → way t.mask x k' ∈ t.place.toList
theorem Tab.gap {t : SetTable} {hs : List Int} (T : Tab t hs) (hl : hs.length ≤ t.mask) (x : Int) :
    ∃ K, K < 10 * SetTable.turns t.mask ∧ way t.mask x K ∉ t.place.toList ∧ ∀ k, k < K → way t.mask x k ∈ t.place.toList := by
  have z := T.sz
  obtain ⟨j, hj, hn⟩ := st_missing t.place.toList (t.mask + 1) (by omega)
  obtain ⟨k, hk, e⟩ := comes T.ms x (Nat.le_of_lt_succ hj)
  obtain ⟨K, a, b, c⟩ := st_least (p := fun k => way t.mask x k ∉ t.place.toList) k (fun q => hn (e ▸ q))
  exact ⟨K, Nat.lt_of_le_of_lt a hk, b, fun k' q => Classical.byContradiction fun y => c k' q y⟩
theorem Tab.ahead {t : SetTable} {hs : List Int} (T : Tab t hs) {x : Int} {K i j : Nat} (hK : way t.mask x K ∉ t.place.toList) (hi : hs[i]? = some x) (hj : t.place.toList[i]? = some j) : ∃ k, k < K ∧ way t.mask x k = j := by
  obtain ⟨k, e, hb⟩ := T.fd i x j hi hj
  refine ⟨k, Nat.lt_of_not_le fun c => ?_, e⟩
  rcases Nat.lt_or_eq_of_le c with c | c
  · exact hK (hb K c)
  · subst c
    exact hK (e ▸ List.mem_of_getElem? hj)
theorem Tab.place {t : SetTable} {hs : List Int} (T : Tab t hs) {x : Int} {K : Nat} (hK : way t.mask x K ∉ t.place.toList) (hb : ∀ k, k < K → way t.mask x k ∈ t.place.toList) :
    ∃ p t1, t.put (way t.mask x K) = (t1, p) ∧ p ≤ hs.length ∧ Tab t1 (hs.take p ++ x :: hs.drop p) ∧ t1.mask = t.mask ∧ t1.led = t.led ∧ t1.plain = t.plain ∧ t1.fill = hs.length + 1 := by
  obtain ⟨j, hj⟩ : ∃ j, j = way t.mask x K := ⟨_, rfl⟩
  have top : j ≤ t.mask := by rw [hj]; exact way_top
  rw [← hj] at hK ⊢
  have lo : SetTable.below t.place j ≤ t.place.toList.length := (below_cut T.up j).1
  have lh : SetTable.below t.place j ≤ hs.length := by rw [← T.sz]; exact lo
  have pp := put_place t j
  have up : ∀ {y : Nat}, y ∈ t.place.toList → y ∈ (t.put j).1.place.toList := fun hy => by rw [pp]; exact mem_ins.2 (.inr hy)
  have ln : (t.put j).1.place.toList.length = hs.length + 1 := by rw [pp, len_ins _ lo, T.sz]
  refine ⟨SetTable.below t.place j, (t.put j).1, rfl, lh, ⟨?_, put_dm T.dm j, ?_, T.ms, fun y hy => ?_, fun i x' j' a b => ?_⟩, rfl, rfl, rfl, ?_⟩
  · exact ris_insert T.up fun e => hK (List.mem_of_getElem? (by rw [Array.getElem?_toList]; exact e))
  · rw [len_ins _ lh]; exact ln
  · rw [pp] at hy
    rcases mem_ins.1 hy with z | z
    · rw [z]; exact top
    · exact T.bd y z
  · rw [tins_get hs lh] at a
    rw [pp, tins_get _ lo] at b
    show ∃ k, way t.mask x' k = j' ∧ ∀ k', k' < k → way t.mask x' k' ∈ (t.put j).1.place.toList
    have old : ∀ i', hs[i']? = some x' → t.place.toList[i']? = some j' → ∃ k, way t.mask x' k = j' ∧ ∀ k', k' < k → way t.mask x' k' ∈ (t.put j).1.place.toList := fun i' a' b' => by
      obtain ⟨k, e, z⟩ := T.fd i' x' j' a' b'
      exact ⟨k, e, fun k' q => up (z k' q)⟩
    by_cases c : i < SetTable.below t.place j
    · rw [if_pos c] at a b; exact old i a b
    · by_cases d : i = SetTable.below t.place j
      · rw [if_neg c, if_pos d] at a b
        cases a; cases b
        exact ⟨K, hj.symm, fun k' q => up (hb k' q)⟩
      · rw [if_neg c, if_neg d] at a b; exact old _ a b
  · show (t.put j).1.place.size + (t.put j).1.dummies.size = hs.length + 1
    rw [put_dm T.dm j, ← Array.length_toList, ln]; rfl

/-! ### a table laid anew -/
theorem sits {m : Nat} (hm : Msk m) (ow : Array (Option Nat)) (x : Int) {j : Nat} (hj : j ≤ m) (hf : oAt ow j = none) :
    ∃ K, SetTable.layClean.free m ow (SetTable.turns m) (SetTable.bits x % (m + 1)) (SetTable.bits x) = some (way m x K) ∧ oAt ow (way m x K) = none ∧ ∀ k, k < K → oAt ow (way m x k) ≠ none := by
  obtain ⟨n, hn, e⟩ := begins hm x hj
  have hw : way m x (off m (SetTable.bits x % (m + 1)) (SetTable.bits x) n) = j := by
    show (nth m (runAt m (SetTable.bits x % (m + 1)) (SetTable.bits x)) _).j = j
    rw [nth_off, itL_run]; exact e
  obtain ⟨K, k1, k2, k3⟩ := st_least (p := fun k => oAt ow (way m x k) = none) _ (show oAt ow (way m x _) = none from hw ▸ hf)
  refine ⟨K, free_spec m ow (SetTable.turns m) n _ _ K (by unfold SetTable.turns; omega) k1 (fun k q => ?_) ?_, k2, k3⟩
  · exact Option.isNone_eq_false_iff.mpr (Option.isSome_iff_ne_none.mpr (k3 k q))
  · exact Option.isNone_iff_eq_none.mpr k2
theorem sits_more {m : Nat} (hm : Msk m) {dn : List Int} {ow : Array (Option Nat)} (W : Own m dn ow) (hl : dn.length ≤ m) (x : Int) :
    ∃ j, SetTable.layClean.free m ow (SetTable.turns m) (SetTable.bits x % (m + 1)) (SetTable.bits x) = some j ∧ Own m (dn ++ [x]) (ow.setIfInBounds j (some dn.length)) := by
  obtain ⟨ps, hps, hin⟩ := W.ps
  obtain ⟨j0, h0, n0⟩ := st_missing ps (m + 1) (by omega)
  have f0 : oAt ow j0 = none := Classical.byContradiction fun z => n0 (hin j0 (Nat.le_of_lt_succ h0) z)
  obtain ⟨K, e1, e2, e3⟩ := sits hm ow x (Nat.le_of_lt_succ h0) f0
  have hjm : way m x K ≤ m := way_top
  have own := oAt_set_self (owner := ow) (j := way m x K) (some dn.length) (by rw [W.sz]; exact Nat.lt_succ_of_le hjm)
  have keep : ∀ {i : Nat}, oAt ow i ≠ none → oAt (ow.setIfInBounds (way m x K) (some dn.length)) i ≠ none := fun {i} hi => by
    by_cases c : i = way m x K
    · rw [c, own]; exact fun z => nomatch z
    · rw [oAt_set_ne _ c]; exact hi
  refine ⟨way m x K, e1, by rw [Array.size_setIfInBounds]; exact W.sz, fun j k hj e => ?_, fun k hk => ?_, way m x K :: ps, by rw [List.length_cons, List.length_append, hps]; rfl, fun j hj e => ?_⟩
  · by_cases c : j = way m x K
    · rw [c, own] at e
      cases e
      exact ⟨x, K, by rw [List.getElem?_append_right (Nat.le_refl _), Nat.sub_self]; rfl, c.symm, fun k' q => keep (e3 k' q)⟩
    · rw [oAt_set_ne _ c] at e
      obtain ⟨y, K', a, b, d⟩ := W.at_ j k hj e
      exact ⟨y, K', by rw [List.getElem?_append_left (List.getElem?_eq_some_iff.mp a).1]; exact a, b, fun k' q => keep (d k' q)⟩
  · rw [List.length_append, List.length_singleton] at hk
    by_cases c : k < dn.length
    · obtain ⟨j, hj, e⟩ := W.all k c
      exact ⟨j, hj, by rw [oAt_set_ne _ (fun z => by rw [z, e2] at e; cases e)]; exact e⟩
    · exact ⟨way m x K, hjm, by rw [own, show k = dn.length by omega]⟩
  · by_cases c : j = way m x K
    · exact c ▸ List.mem_cons_self
    · rw [oAt_set_ne _ c] at e
      exact List.mem_cons_of_mem _ (hin j hj e)
theorem sits_all {m : Nat} (hm : Msk m) : ∀ (rest dn : List Int) (ow : Array (Option Nat)), Own m dn ow → dn.length + rest.length ≤ m →
    ∃ ow', rest.foldl (stepF m) (some (ow, dn.length)) = some (ow', (dn ++ rest).length) ∧ Own m (dn ++ rest) ow'
  | [], dn, ow, W, _ => ⟨ow, by rw [List.append_nil]; rfl, by rw [List.append_nil]; exact W⟩
  | x :: rest, dn, ow, W, hl => by
    obtain ⟨j, e, W1⟩ := sits_more hm W (by rw [List.length_cons] at hl; omega) x
    have l1 : (dn ++ [x]).length = dn.length + 1 := List.length_append
    obtain ⟨ow', f, W2⟩ := sits_all hm rest (dn ++ [x]) _ W1 (by rw [l1]; rw [List.length_cons] at hl; omega)
    have ea : dn ++ [x] ++ rest = dn ++ x :: rest := by rw [List.append_assoc]; rfl
    rw [ea] at W2
    rw [ea, l1] at f
    exact ⟨ow', by rw [List.foldl_cons, stepF_some e]; exact f, W2⟩
theorem anew (t : SetTable) {hs : Array Int} {wanted M : Nat} (hw : SetTable.sizeAbove wanted - 1 = M) (hM : Msk M) (hn : hs.size ≤ M) :
    ∃ t' order, t.relaid hs wanted = some (t', order) ∧ order.toList.Perm (List.range hs.size) ∧ Tab t' (order.toList.map fun i => hs.getD i 0) ∧ t'.mask = M ∧ t'.led = t.led ∧ t'.plain = t.plain := by
  obtain ⟨ow, f, W⟩ := sits_all hM hs.toList [] _ (Own.init M) (by show 0 + hs.size ≤ M; omega)
  rw [List.nil_append] at W
  have lay : SetTable.layClean M hs = some ow := by
    rw [layClean_eq, show hs.toList.foldl (stepF M) (some (Array.replicate (M + 1) none, 0)) = _ from f]; rfl
  have hr : t.relaid hs wanted = some (tabOf t M ow, ((liveOf M ow).map (·.2)).toArray) := by rw [relaid_eq, hw, lay]; rfl
  obtain ⟨r1, r2⟩ := ris_live (fun j => ow.getD j none) (List.range (M + 1)) (by unfold Ris; exact List.pairwise_lt_range)
  have r1' : Ris ((liveOf M ow).map (·.1)) := r1
  have r2' : ∀ x ∈ (liveOf M ow).map (·.1), x ∈ List.range (M + 1) := r2
  have le : (liveOf M ow).length = hs.size := by
    obtain ⟨ps, p1, p2⟩ := W.ps
    have nd : ((liveOf M ow).map (·.1)).Nodup := List.Pairwise.imp (fun h => Nat.ne_of_lt h) r1'
    have a := nat_nodup_len ((liveOf M ow).map (·.1)) ps nd fun x hx => by
      obtain ⟨⟨y, k⟩, hq, rfl⟩ := List.mem_map.mp hx
      obtain ⟨b1, b2⟩ := (mem_live W.sz).1 hq
      exact p2 y b1 (by rw [b2]; exact fun z => nomatch z)
    have b := nat_nodup_len (List.range hs.size) ((liveOf M ow).map (·.2)) List.nodup_range fun k hk => by
      obtain ⟨j, b1, b2⟩ := W.all k (List.mem_range.mp hk)
      exact List.mem_map.mpr ⟨(j, k), (mem_live W.sz).2 ⟨b1, b2⟩, rfl⟩
    rw [List.length_map, p1] at a
    rw [List.length_map, List.length_range] at b
    exact Nat.le_antisymm a b
  refine ⟨_, _, hr, perm_range hs.size _ (by rw [List.toList_toArray, List.length_map]; exact le) fun k hk => ?_, ⟨r1', rfl, ?_, hM, fun x hx => ?_, fun i x j a b => ?_⟩, rfl, rfl, rfl⟩
  · obtain ⟨j, b1, b2⟩ := W.all k hk
    exact List.mem_map.mpr ⟨(j, k), (mem_live W.sz).2 ⟨b1, b2⟩, rfl⟩
  · show ((liveOf M ow).map (·.1)).length = (((liveOf M ow).map (·.2)).map fun i => hs.getD i 0).length
    rw [List.length_map, List.length_map, List.length_map]
  · exact Nat.le_of_lt_succ (List.mem_range.mp (r2' x hx))
  · have a' : (((liveOf M ow).map (·.2)).map fun i => hs.getD i 0)[i]? = some x := a
    have b' : ((liveOf M ow).map (·.1))[i]? = some j := b
    rw [List.getElem?_map, List.getElem?_map] at a'
    rw [List.getElem?_map] at b'
    cases hq : (liveOf M ow)[i]? with
    | none => rw [hq] at b'; cases b'
    | some q =>
      rw [hq] at a' b'
      cases b'
      obtain ⟨b1, b2⟩ := (mem_live W.sz).1 (List.mem_of_getElem? (show (liveOf M ow)[i]? = some (q.1, q.2) from hq))
      obtain ⟨y, K, c1, c2, c3⟩ := W.at_ q.1 q.2 b1 b2
      have ey : hs.getD q.2 0 = y := by rw [Array.getD_eq_getD_getElem?, ← Array.getElem?_toList, c1]; rfl
      have ex : y = x := ey.symm.trans (Option.some.inj a')
      subst ex
      refine ⟨K, c2, fun k' q' => ?_⟩
      show way M y k' ∈ (liveOf M ow).map (·.1)
      cases z : oAt ow (way M y k') with
      | none => exact absurd z (c3 k' q')
      | some k2 => exact List.mem_map.mpr ⟨(_, k2), (mem_live W.sz).2 ⟨way_top, z⟩, rfl⟩
end Bs

namespace Bs
open PySem PySem.Spec PyProof.Rows L2

/-- at a stands the set of the tuples L (address and ints), its entries es, its table t -/
structure At (P : Program) (w : World) (h : Heap) (a : Addr) (L : List (Addr × List Int)) (es : Array (Int × Value)) (ep : Nat) (t : SetTable) : Prop where
  ob : ∃ o, h.get? a = some o ∧ o.ExactSet ∧ o.data = .set es ep t
  rw_ : es.toList = rowsOf P w L
  tb : Tab t (L.map fun p => thash P w p.2)
  nd : (L.map (·.2)).Nodup
  tp : ∀ p ∈ L, IsT P w h p.2 p.1
  pl : t.plain = true
  ld : w.params.followText "set-order" = true ∨ t.led = true
  rm : L.length * 5 < t.mask * 3
  fw : L.length < 1200
section
variable {P : Program} {w : World} {A : Around} {E : Value → Shared → Prop} {s : Shared}
variable {a : Addr} {L : List (Addr × List Int)} {es : Array (Int × Value)} {ep : Nat} {t : SetTable}
theorem rows_len (h : es.toList = rowsOf P w L) : es.size = L.length := by
  rw [← Array.length_toList, h]; exact List.length_map _
theorem At.n (R : At P w s.heap a L es ep t) : es.size = L.length := rows_len R.rw_
theorem fits_of {n : Nat} (dm : t.dummies = #[]) (hz : t.place.toList.length = n) (hm : n ≤ t.mask) : t.fits n = true := by
  unfold SetTable.fits SetTable.fill
  rw [dm, Bool.and_eq_true, beq_iff_eq, decide_eq_true_eq]
  exact ⟨hz, by show t.place.size + 0 ≤ t.mask; rw [show t.place.size = n from hz]; exact hm⟩
theorem At.fits (R : At P w s.heap a L es ep t) : t.fits es.size = true := by
  have q := R.rm
  refine fits_of R.tb.dm ?_ (by rw [R.n]; omega)
  rw [R.tb.sz, List.length_map, R.n]
theorem At.row (R : At P w s.heap a L es ep t) {i : Nat} {p : Addr × List Int} (h : L[i]? = some p) : es[i]? = some (thash P w p.2, Value.ref p.1) := by
  rw [← Array.getElem?_toList, R.rw_]
  show (L.map _)[i]? = _
  rw [List.getElem?_map, h]; rfl
theorem no_way (hm : Msk t.mask) : ¬ t.gaveWay = true := by
  unfold SetTable.gaveWay
  rcases hm with e | e | e | e | e <;> rw [e] <;> decide
theorem nth_dummy (m : Nat) : ∀ (n : Nat) (p : SetTable.Probe), p.dummy = none → (nth m p n).dummy = none
  | 0, _, h => h
  | n + 1, p, h => nth_dummy m n (adv m p) (by unfold adv; split <;> exact h)
abbrev go0 (m : Nat) (x : Int) : SetTable.Probe := runAt m (SetTable.bits x % (m + 1)) (SetTable.bits x)

/-- the search from the c-th step of the way on, whether one is to be added or not -/
theorem seek (R : At P w s.heap a L es ep t) {x : Addr} {k : List Int} {ad : Bool} (hx : IsT P w s.heap k x) (hu : A.units < cLine) {K : Nat} (hKf : K < 10 * SetTable.turns t.mask)
    (hK : way t.mask (thash P w k) K ∉ t.place.toList) (hKb : ∀ c, c < K → way t.mask (thash P w k) c ∈ t.place.toList) {Q : SetFound → Shared → Prop}
    (hin : k ∈ L.map (·.2) → ∀ o : Option Nat, (ad = false → o.isSome = true) → Q (.there o) s) (hout : k ∉ L.map (·.2) → Q (.free (way t.mask (thash P w k) K) false) s) :
    ∀ (f c : Nat) (stand : Option SetTable.Probe), stand.getD (t.probeStart (thash P w k)) = nth t.mask (go0 t.mask (thash P w k)) c → c ≤ K → K - c < f →
      (∀ (i : Nat) p, L[i]? = some p → p.2 = k → ∃ c', c ≤ c' ∧ c' < K ∧ t.place.toList[i]? = some (way t.mask (thash P w k) c')) →
      wpAny (model P w) A (setSearchFrom a (.ref x) (thash P w k) ad f stand) Q E s
  | 0, _, _, _, _, hf, _ => absurd hf (Nat.not_lt_zero _)
  | f + 1, c, stand, hst, hc, hf, hre => by
    obtain ⟨o, ho, hex, hd⟩ := R.ob
    rw [setSearchFrom_succ]
    refine wpAny_bind (wpAny_setState_of ho hd R.fits ?_)
    dsimp only
    refine wp_if_neg (no_way R.tb.ms) ?_
    try refine wpAny_bind (wpAny_pure ?_)
    have step : ∀ q, nth t.mask (nth t.mask (go0 t.mask (thash P w k)) c) q = nth t.mask (go0 t.mask (thash P w k)) (c + q) := fun q => (nth_add t.mask c _ q).symm
    have sj : ∀ q, (nth t.mask (nth t.mask (go0 t.mask (thash P w k)) c) q).j = way t.mask (thash P w k) (c + q) := fun q => congrArg SetTable.Probe.j (step q)
    have cK : c + (K - c) = K := Nat.add_sub_cancel' hc
    have spec := go_spec t R.tb.up R.tb.dm (fun i => (es[i]?.map (·.1)).getD 0) (thash P w k) (10 * SetTable.turns t.mask) (K - c) (nth t.mask (go0 t.mask (thash P w k)) c) (nth_dummy _ c _ rfl) (by omega)
      (fun q hq => by rw [sj]; exact hKb _ (by omega)) (by rw [sj, cK]; exact hK)
    have hashAt : ∀ (i : Nat) p, L[i]? = some p → (es[i]?.map (·.1)).getD 0 = thash P w p.2 := fun i p hp => by rw [R.row hp]; rfl
    have far : ∀ (c' i0 : Nat) p0, c ≤ c' → L[i0]? = some p0 → p0.2 = k → t.place.toList[i0]? = some (way t.mask (thash P w k) c') →
        t.place.toList[i0]? = some (nth t.mask (nth t.mask (go0 t.mask (thash P w k)) c) (c' - c)).j ∧ (es[i0]?.map (·.1)).getD 0 = thash P w k := fun c' i0 p0 h1 h2 h3 h4 => by
      refine ⟨?_, (hashAt i0 p0 h2).trans (congrArg _ h3)⟩
      rw [sj, Nat.add_sub_cancel' h1]; exact h4
    rcases spec with ⟨q, i, hq, hi, hh, hno, hpr⟩ | ⟨hno, hpr⟩
    · rw [show t.probe (fun i => (es[i]?.map (·.1)).getD 0) (thash P w k) (stand.getD (t.probeStart (thash P w k))) = _ from (congrArg _ hst).trans hpr]
      dsimp only
      rw [sj] at hi ⊢
      rw [step]
      have hil : i < L.length := by
        have h1 := (List.getElem?_eq_some_iff.mp hi).1
        rw [R.tb.sz, List.length_map] at h1; exact h1
      obtain ⟨p, hp⟩ : ∃ p, L[i]? = some p := ⟨_, List.getElem?_eq_getElem hil⟩
      have hmem : p ∈ L := List.mem_of_getElem? hp
      have more : p.2 ≠ k → wpAny (model P w) A (setSearchFrom a (.ref x) (thash P w k) ad f (some (nth t.mask (go0 t.mask (thash P w k)) (c + (q + 1))))) Q E s := fun hne => by
        refine seek R hx hu hKf hK hKb hin hout f _ _ rfl (by omega) (by omega) fun i0 p0 h0 hk0 => ?_
        obtain ⟨c', a1, a2, a3⟩ := hre i0 p0 h0 hk0
        refine ⟨c', Nat.lt_of_not_le fun z => ?_, a2, a3⟩
        obtain ⟨b1, b2⟩ := far c' i0 p0 a1 h0 hk0 a3
        rcases Nat.lt_or_eq_of_le (show c' ≤ c + q from z) with y | y
        · exact hno (c' - c) i0 (by omega) b1 b2
        · rw [y] at a3
          have s0 := (slot_live R.tb.up a3).symm.trans (slot_live R.tb.up hi)
          cases s0
          rw [hp] at h0
          cases h0
          exact hne hk0
      have rest : wpAny (model P w) A (searchRest a (.ref x) (thash P w k) ad f es t (way t.mask (thash P w k) (c + q)) i (nth t.mask (go0 t.mask (thash P w k)) (c + (q + 1)))) Q E s := by
        unfold searchRest
        rw [R.row hp]
        dsimp only
        refine wpAny_bind (wpAny_holding (wpAny_eqBool_tuple hu (R.tp p hmem) hx ?_))
        refine wpAny_bind (wpAny_setState_of ho hd R.fits ?_)
        dsimp only
        have live : ∀ e : Bool, (e = true → wpAny (model P w) A (pure (SetFound.there (some i)) : Sem SetFound) Q E s) → (e = false → wpAny (model P w) A (setSearchFrom a (.ref x) (thash P w k) ad f (some (nth t.mask (go0 t.mask (thash P w k)) (c + (q + 1))))) Q E s) →
            wpAny (model P w) A (do
              let some same := t.sameMemory t.moves t.mask | unsupported "set.changed-during-lookup:is-the-new-block-at-the-old-address"
              let still ← match (if same then t.slot (way t.mask (thash P w k) (c + q)) else .empty) with
                | .live i' => match es[i']? with
                  | some (_, y') => do pure (if ← isSame y' (.ref p.1) then some i' else none)
                  | none => pure none
                | _ => pure none
              match still with
              | none => rule "set.search.anew"; setSearchFrom a (.ref x) (thash P w k) ad f none
              | some i' => if e = true then pure (SetFound.there (some i')) else setSearchFrom a (.ref x) (thash P w k) ad f (some (nth t.mask (go0 t.mask (thash P w k)) (c + (q + 1))))) Q E s := fun e he hf => by
          rw [sameMem]
          dsimp only
          simp only [if_true, slot_live R.tb.up hi, R.row hp]
          refine wpAny_bind (wpAny_isSame_ref_self (wpAny_bind (wpAny_pure ?_)))
          simp only [if_true]
          cases e with
          | true => exact wp_if_pos rfl (he rfl)
          | false => exact wp_if_neg (by decide) (hf rfl)
        by_cases hkk : p.2 = k
        · have there : ∀ o : Option Nat, (ad = false → o.isSome = true) → Q (.there o) s := hin (List.mem_map.mpr ⟨p, hmem, hkk⟩)
          cases ad with
          | true =>
            refine wp_if_pos (by simp [hkk]) ?_
            exact wpAny_pure (there none fun z => nomatch z)
          | false =>
            refine wp_if_neg (by simp) ?_
            try refine wpAny_bind (wpAny_pure ?_)
            rw [decide_eq_true hkk]
            exact live true (fun _ => wpAny_pure (there (some i) fun _ => rfl)) (fun z => nomatch z)
        · refine wp_if_neg (by simp [hkk]) ?_
          try refine wpAny_bind (wpAny_pure ?_)
          rw [decide_eq_false hkk]
          exact live false (fun z => nomatch z) (fun _ => more hkk)
      by_cases hl : t.led = true
      · refine wp_if_neg (by simp [hl]) ?_
        try refine wpAny_bind (wpAny_pure ?_)
        exact rest
      · refine wp_if_pos (by simp [hl]) ?_
        refine wpAny_bind (seen_tup hx (fun y hy => ?_) ?_)
        · obtain ⟨e, he, ee⟩ := List.mem_map.mp hy
          have he2 : e ∈ es.toList := by
            have he1 : e ∈ es ∧ e.1 = thash P w k := by simpa using he
            simpa using he1.1
          rw [R.rw_] at he2
          obtain ⟨p2, hp2, e2⟩ := List.mem_map.mp he2
          exact ⟨p2.2, p2.1, by rw [← ee, ← e2], R.tp p2 hp2⟩
        · refine wp_if_neg (by decide) ?_
          try refine wpAny_bind (wpAny_pure ?_)
          exact rest
    · rw [show t.probe (fun i => (es[i]?.map (·.1)).getD 0) (thash P w k) (stand.getD (t.probeStart (thash P w k))) = _ from (congrArg _ hst).trans hpr, sj, cK]
      dsimp only
      refine wpAny_pure (hout fun hm => ?_)
      obtain ⟨p0, h0, hk0⟩ := List.mem_map.mp hm
      obtain ⟨i0, h00⟩ := List.getElem?_of_mem h0
      obtain ⟨c', a1, a2, a3⟩ := hre i0 p0 h00 hk0
      obtain ⟨b1, b2⟩ := far c' i0 p0 a1 h00 hk0 a3
      exact hno (c' - c) i0 (by omega) b1 b2
theorem search (R : At P w s.heap a L es ep t) {x : Addr} {k : List Int} {ad : Bool} (hx : IsT P w s.heap k x) (hu : A.units < cLine) {Q : SetFound → Shared → Prop}
    (hin : k ∈ L.map (·.2) → ∀ o : Option Nat, (ad = false → o.isSome = true) → Q (.there o) s)
    (hout : ∀ K, k ∉ L.map (·.2) → way t.mask (thash P w k) K ∉ t.place.toList → (∀ c, c < K → way t.mask (thash P w k) c ∈ t.place.toList) → Q (.free (way t.mask (thash P w k) K) false) s) :
    wpAny (model P w) A (setSearch a (.ref x) (thash P w k) ad) Q E s := by
  have hr := R.rm
  obtain ⟨K, hKf, hK, hKb⟩ := R.tb.gap (by rw [List.length_map]; omega) (thash P w k)
  have big : K < 100000 := by
    have : 10 * SetTable.turns t.mask ≤ 20620 := by
      unfold SetTable.turns
      rcases R.tb.ms with e | e | e | e | e <;> omega
    omega
  unfold setSearch
  refine seek R hx hu hKf hK hKb hin (fun z => hout K z hK hKb) 100000 0 none rfl (Nat.zero_le _) (by omega) fun i p hp hk => ?_
  have hi : (L.map fun p => thash P w p.2)[i]? = some (thash P w k) := by rw [List.getElem?_map, hp, ← hk]; rfl
  have hil : i < t.place.toList.length := by rw [R.tb.sz]; exact (List.getElem?_eq_some_iff.mp hi).1
  obtain ⟨c, hc, e⟩ := R.tb.ahead hK hi (List.getElem?_eq_getElem hil)
  exact ⟨c, Nat.zero_le _, hc, by rw [List.getElem?_eq_getElem hil, e]⟩
/-- is the tuple in the set? -/
theorem find (R : At P w s.heap a L es ep t) {x : Addr} {k : List Int} (hx : IsT P w s.heap k x) (hu : A.units < cLine) {Q : Option Nat → Shared → Prop}
    (hQ : ∀ o : Option Nat, o.isSome = decide (k ∈ L.map (·.2)) → Q o s) : wpAny (model P w) A (setFind a (.ref x) (thash P w k)) Q E s := by
  obtain ⟨o, ho, hex, hd⟩ := R.ob
  unfold setFind
  rw [show (100000 : Nat) = 99999 + 1 from rfl]
  unfold setFindIn
  refine wpAny_bind (wpAny_setState_of ho hd R.fits ?_)
  dsimp only
  refine wp_if_neg (by simp [byScan, Value.scannable]) ?_
  try refine wpAny_bind (wpAny_pure ?_)
  refine wpAny_bind (search (ad := false) R hx hu (fun hm o h => ?_) fun K hm _ _ => ?_)
  · dsimp only
    exact wpAny_pure (hQ o (by rw [decide_eq_true hm]; exact h rfl))
  · dsimp only
    exact wpAny_pure (hQ none (by rw [decide_eq_false hm]; rfl))
end
end Bs

namespace Bs
open PySem PySem.Spec PyProof.Rows L2
section
variable {P : Program} {w : World} {A : Around} {E : Value → Shared → Prop} {s : Shared}
variable {a : Addr} {L : List (Addr × List Int)} {es : Array (Int × Value)} {ep : Nat} {t : SetTable}

/-- how large the next table is, and that it has room -/
theorem grows {m n : Nat} (hm : Msk m) (h1 : n * 5 < m * 3) (h2 : (n + 1) * 5 ≥ m * 3) (h3 : n + 1 < 1200) :
    ∃ M, SetTable.sizeAbove (SetTable.grown (n + 1)) - 1 = M ∧ Msk M ∧ SetTable.sizeAbove (SetTable.grown (n + 1)) ≤ 2048 ∧ (n + 1) * 5 < M * 3 ∧ n + 1 ≤ m := by
  have k5 : SetTable.sizeAbove (SetTable.grown 5) = 32 := by decide +kernel
  have k19 : SetTable.sizeAbove (SetTable.grown 19) = 128 := by decide +kernel
  have k77 : SetTable.sizeAbove (SetTable.grown 77) = 512 := by decide +kernel
  have k307 : SetTable.sizeAbove (SetTable.grown 307) = 2048 := by decide +kernel
  rcases hm with e | e | e | e | e <;> subst e
  · obtain rfl : n = 4 := by omega
    exact ⟨31, by rw [k5], .inr (.inl rfl), by rw [k5]; decide, by decide, by decide⟩
  · obtain rfl : n = 18 := by omega
    exact ⟨127, by rw [k19], .inr (.inr (.inl rfl)), by rw [k19]; decide, by decide, by decide⟩
  · obtain rfl : n = 76 := by omega
    exact ⟨511, by rw [k77], .inr (.inr (.inr (.inl rfl))), by rw [k77]; decide, by decide, by decide⟩
  · obtain rfl : n = 306 := by omega
    exact ⟨2047, by rw [k307], .inr (.inr (.inr (.inr rfl))), by rw [k307]; decide, by decide, by decide⟩
  · omega

theorem relay {o : Obj} (ho : s.heap.get? a = some o) (hex : o.ExactSet) (hd : o.data = .set es ep t) (hr : es.toList = rowsOf P w L) (T : Tab t (L.map fun p => thash P w p.2)) (hm : L.length ≤ t.mask)
    (nd : (L.map (·.2)).Nodup) (tp : ∀ p ∈ L, IsT P w s.heap p.2 p.1) (pl : t.plain = true) (ld : w.params.followText "set-order" = true ∨ t.led = true) (fw : L.length < 1200) {wanted M : Nat}
    (hw : SetTable.sizeAbove wanted - 1 = M) (hM : Msk M) (h2 : SetTable.sizeAbove wanted ≤ 2048) (hn : L.length * 5 < M * 3) {Q : Unit → Shared → Prop}
    (hQ : ∀ h' L' es' ep' t', Heap.SameBut a s.heap h' → At P w h' a L' es' ep' t' → L'.Perm L → Q () { s with heap := h' }) : wpAny (model P w) A (setRelay a wanted) Q E s := by
  have hsl := rows_len hr
  obtain ⟨t', order, e, hp, T', em, el, epl⟩ := anew t (hs := es.map (·.1)) hw hM (by rw [Array.size_map, hsl]; omega)
  rw [Array.size_map, hsl] at hp
  obtain ⟨L2, r1, r2, r3⟩ := order_rows L es order hr hp
  rw [← r3] at T'
  have hs2 : (order.filterMap (es[·]?)).size = es.size := by rw [rows_len r1, r2.length_eq, hsl]
  rw [setRelay_eq]
  refine wpAny_bind (wpAny_setState_of ho hd (fits_of T.dm (by rw [T.sz, List.length_map, hsl]) (by rw [hsl]; exact hm)) ?_)
  dsimp only
  refine wp_if_neg (by rw [sizeLine_eq]; omega) ?_
  try refine wpAny_bind (wpAny_pure ?_)
  rw [e]
  dsimp only
  refine wpAny_bind ?_
  refine wp_if_neg (by rw [hs2]; simp) ?_
  try refine wpAny_bind (wpAny_pure ?_)
  refine wpAny_pure ?_
  dsimp only
  refine wpAny_storeSet_of ho hd ?_ (by rw [hs2, hsl, sizeLine_eq]; omega)
  have sb : Heap.SameBut a s.heap (s.heap.update a (Obj.putSet (order.filterMap (es[·]?)) t')) := Heap.SameBut.update ..
  refine hQ _ L2 _ (ep + 1) t' sb ⟨⟨_, store_at ho hd, ⟨hex.1, hex.2.1, hex.2.2⟩, rfl⟩, r1, T', (r2.map (·.2)).nodup_iff.mpr nd, fun p q => isT_same (tp p (r2.mem_iff.mp q)) ho hd sb, by rw [epl]; exact pl, by rw [el]; exact ld, ?_, by rw [r2.length_eq]; exact fw⟩ r2
  rw [r2.length_eq, em]; exact hn

/-- one more, or none where it is there -/
theorem add (R : At P w s.heap a L es ep t) {x : Addr} {k : List Int} (hx : IsT P w s.heap k x) (hu : A.units < cLine) (hf : L.length + 1 < 1200) {Q : Bool → Shared → Prop}
    (hQ : ∀ b h' L' es' ep' t', Heap.SameBut a s.heap h' → At P w h' a L' es' ep' t' → (k ∈ L.map (·.2) → L' = L) → (k ∉ L.map (·.2) → L'.Perm ((x, k) :: L)) → Q b { s with heap := h' }) :
    wpAny (model P w) A (setAddHashed a (.ref x) (thash P w k)) Q E s := by
  obtain ⟨o, ho, hex, hd⟩ := R.ob
  have hrm := R.rm
  unfold setAddHashed
  refine wpAny_holding ?_
  rw [show (100000 : Nat) = 99999 + 1 from rfl, setAddHashedIn_succ]
  refine wpAny_bind (wpAny_setState_of ho hd R.fits ?_)
  dsimp only
  refine wp_if_neg (by simp [byScan, Value.scannable]) ?_
  try refine wpAny_bind (wpAny_pure ?_)
  refine wpAny_bind (search (ad := true) R hx hu (fun hm oo _ => ?_) fun K hm hK hb => ?_)
  · dsimp only
    exact wpAny_pure (hQ false s.heap L es ep t (Heap.SameBut.refl a s.heap) R (fun _ => rfl) fun z => absurd hm z)
  · dsimp only
    refine wpAny_bind (wpAny_setState_of ho hd R.fits ?_)
    dsimp only
    obtain ⟨p, t1, ep1, q2, q3, q4, q5, q6, q9⟩ := R.tb.place hK hb
    rw [ep1]
    have hp1 : t1.plain = true := q6.trans R.pl
    dsimp only
    first
      | (refine wpAny_bind ?_; refine wp_if_pos hp1 ?_; refine hashBy_tup hx ?_)
      | refine wp_if_pos hp1 (wpAny_bind (hashBy_tup hx ?_))
    simp only [if_true]
    have hin : (SetTable.insertAt es p (thash P w k, Value.ref x)).toList = rowsOf P w (L.take p ++ (x, k) :: L.drop p) := by
      rw [SetTable.toList_insertAt, rows_put, R.rw_]
    have pm := put_perm L p (x, k)
    have hhs : (L.take p ++ (x, k) :: L.drop p).map (fun p => thash P w p.2) = (L.map fun p => thash P w p.2).take p ++ thash P w k :: (L.map fun p => thash P w p.2).drop p := by
      rw [List.map_append, List.map_cons, List.map_take, List.map_drop]
    rw [← hhs] at q3
    generalize SetTable.insertAt es p (thash P w k, Value.ref x) = es1 at hin ⊢
    generalize L.take p ++ (x, k) :: L.drop p = L1 at pm q3 hin
    have ln : L1.length = L.length + 1 := pm.length_eq
    have nd1 : (L1.map (·.2)).Nodup := (pm.map (·.2)).nodup_iff.mpr (List.nodup_cons.mpr ⟨hm, R.nd⟩)
    have n1 : es1.size = L.length + 1 := (rows_len hin).trans ln
    refine wpAny_bind (wpAny_storeSet_of ho hd ?_ (by rw [n1, sizeLine_eq]; omega))
    have sb : Heap.SameBut a s.heap (s.heap.update a (Obj.putSet es1 t1)) := Heap.SameBut.update ..
    have ho1 := store_at (es' := es1) (t' := t1) ho hd
    generalize s.heap.update a (Obj.putSet es1 t1) = h1 at sb ho1 ⊢
    have tp1 : ∀ p ∈ L1, IsT P w h1 p.2 p.1 := fun p hp => by
      rcases List.mem_cons.mp (pm.mem_iff.mp hp) with e | hp
      · rw [e]; exact isT_same hx ho hd sb
      · exact isT_same (R.tp p hp) ho hd sb
    have ld1 : w.params.followText "set-order" = true ∨ t1.led = true := by rw [q5]; exact R.ld
    have full : t1.tooFull = decide ((L.length + 1) * 5 ≥ t.mask * 3) := by
      unfold SetTable.tooFull
      rw [q9, q4, List.length_map]
    by_cases hfu : t1.tooFull = true
    · first
        | (refine wpAny_bind ?_; refine wp_if_pos (by simp [hfu]) ?_)
        | (refine wp_if_pos (by simp [hfu]) ?_; refine wpAny_bind ?_)
      rw [full, decide_eq_true_eq] at hfu
      obtain ⟨M, g1, g2, g3, g4, g5⟩ := grows R.tb.ms hrm hfu hf
      rw [R.n]
      refine relay (s := { s with heap := h1 }) ho1 ⟨hex.1, hex.2.1, hex.2.2⟩ rfl hin q3 (by rw [ln, q4]; exact g5) nd1 tp1 hp1 ld1 (by rw [ln]; exact hf) g1 g2 g3 (by rw [ln]; exact g4) ?_
      intro h2 L2 es2 ep2 t2 sb2 R2 pm2
      exact wpAny_pure (hQ true h2 L2 es2 ep2 t2 (sb.trans sb2) R2 (fun z => absurd z hm) fun _ => pm2.trans pm)
    · first
        | refine wp_if_neg (by simp [hfu]) ?_
        | (refine wpAny_bind ?_; refine wp_if_neg (by simp [hfu]) ?_; refine wpAny_pure ?_)
      refine wpAny_pure (hQ true h1 L1 es1 (ep + 1) t1 sb ⟨⟨_, ho1, ⟨hex.1, hex.2.1, hex.2.2⟩, rfl⟩, hin, q3, nd1, tp1, hp1, ld1, ?_, by rw [ln]; exact hf⟩ (fun z => absurd z hm) fun _ => pm)
      rw [full, decide_eq_true_eq] at hfu
      rw [ln, q4]; omega
theorem fresh {h : Heap} {b : Addr} (ho : h.get? b = some { cls := .type "set", dict := none, data := .set #[] 0 (.fresh 0 0 (!w.params.followText "set-order")) }) : At P w h b [] #[] 0 (.fresh 0 0 (!w.params.followText "set-order")) := by
  refine ⟨⟨_, ho, ⟨rfl, rfl, rfl⟩, rfl⟩, rfl, ⟨List.Pairwise.nil, rfl, rfl, .inl rfl, fun x hx => (by cases hx), fun i x j hi => (by simp at hi)⟩, List.nodup_nil, fun p hp => (by cases hp), rfl, ?_, (by show 0 * 5 < 7 * 3; decide), (by show 0 < 1200; decide)⟩
  show _ ∨ (!w.params.followText "set-order") = true
  cases w.params.followText "set-order"
  · exact .inr rfl
  · exact .inl rfl

/-! ### sorted(s), the members pairs -/
theorem sorted_pairs (R : At P w s.heap a L es ep t) (hh : A.handled = none) (h2 : ∀ p ∈ L, ∃ i j, p.2 = [i, j]) {Q : Value → Shared → Prop}
    (hQ : ∀ s' p (out : Array Value) (c : Nat) (L' : List (Addr × List Int)), (∀ b o, s.heap.get? b = some o → s'.heap.get? b = some o) → s'.gens = s.gens → s'.os = s.os → s.heap.objs.size ≤ p →
      s'.heap.get? p = some (seqObj "list" out c) → out.toList = L'.map (fun q => Value.ref q.1) → L'.Perm L →
      L'.Pairwise (fun q r => SrtO.lexB (r.2.headD 0, r.2.getD 1 0) (q.2.headD 0, q.2.getD 1 0) = false) → Q (.ref p) s') :
    wpAny (model P w) A (call (.builtin "sorted") [.ref a]) Q E s := by
  obtain ⟨o, ho, hex, hd⟩ := R.ob
  have hsz := R.n
  have hfw := R.fw
  refine Calls.call_function_entry kind_sorted plain_sorted entry_sorted (args_sorted1 _) ?_
  unfold Builtin.«sorted»
  refine wpAny_bind (m := checkCount "sorted" 1 1 _) (wpAny_pure ?_)
  refine wpAny_bind (collect_set (A := A.in1) hh ⟨o, ho, hex.1, hd⟩ R.fits (by unfold scanBound; omega) R.tb.up R.ld fun s1 vs k1 hz g1 o1 pm => ?_)
  have hes : es.toList.map (·.2) = L.map fun q => Value.ref q.1 := by
    rw [R.rw_]
    exact List.map_map
  rw [hes] at pm
  -- an address has one key
  have one : ∀ q ∈ L, ∀ r ∈ L, q.1 = r.1 → q = r := fun q hq r hr e => by
    have a1 := R.tp q hq
    rw [e] at a1
    exact Prod.ext e (a1.inj (R.tp r hr))
  -- the key of a value
  let key : Value → Int × Int := fun v => match L.find? (fun q => decide (Value.ref q.1 = v)) with
    | some q => (q.2.headD 0, q.2.getD 1 0)
    | none => (0, 0)
  have hkey : ∀ q ∈ L, key (.ref q.1) = (q.2.headD 0, q.2.getD 1 0) := fun q hq => by
    show (match L.find? (fun r => decide (Value.ref r.1 = Value.ref q.1)) with
      | some q => (q.2.headD 0, q.2.getD 1 0)
      | none => ((0 : Int), (0 : Int))) = _
    cases hf : L.find? (fun r => decide (Value.ref r.1 = Value.ref q.1)) with
    | none => exact absurd (decide_eq_true rfl) (List.find?_eq_none.mp hf q hq)
    | some r =>
      have e0 := List.find?_some hf
      have e1 : Value.ref r.1 = Value.ref q.1 := of_decide_eq_true (by simpa using e0)
      injection e1 with e1
      rw [one r (List.mem_of_find?_eq_some hf) q hq e1]
  have hvl : vs.length ≤ sizeLine := by rw [pm.length_eq, List.length_map, sizeLine_eq]; omega
  refine wpAny_bind (wpAny_newList ?_ hvl)
  have hoL : (s1.heap.push (seqObj "list" vs.toArray 0)).get? s1.heap.objs.size = some (seqObj "list" vs.toArray 0) := Heap.get?_push_size _ rfl
  have pr : ∀ v ∈ vs, Srt.IsPair (s1.heap.push (seqObj "list" vs.toArray 0)) v (key v).1 (key v).2 := fun v hv => by
    obtain ⟨q, hq, rfl⟩ := List.mem_map.mp (pm.mem_iff.mp hv)
    rw [hkey q hq]
    obtain ⟨i, j, eij⟩ := h2 q hq
    have it : IsT P w (s1.heap.push (seqObj "list" vs.toArray 0)) q.2 q.1 := isT_keep (R.tp q hq) fun b u e => Heap.get?_push_of_some _ (k1 b u e)
    rw [eij] at it ⊢
    obtain ⟨ob, items, n, h1, h3, h4, h5⟩ := it
    have hI := ints_of_items (P := P) (w := w) h5
    obtain ⟨ls, hls⟩ : ∃ ls, ls = items.toList := ⟨_, rfl⟩
    rw [← hls] at hI
    cases hI with
    | cons _ t1 r1 =>
      cases r1 with
      | cons _ t2 r2 =>
        cases r2
        have hit : items = #[.int i t1, .int j t2] := by
          rw [← Array.toArray_toList (xs := items), ← hls]
        exact ⟨q.1, ob, t1, t2, n, rfl, h1, h3, by rw [h4, hit]; rfl⟩
  have ncls : ∀ u, (s1.heap.push (seqObj "list" vs.toArray 0)).get? s1.heap.objs.size = some u → u.cls ≠ .type "tuple" := fun u e c => by
    rw [hoL] at e
    cases e
    exact absurd (Value.type.inj c) (by decide)
  refine wpAny_bind (wpAny_holding (wpAny_call_entry slot_list_sort ⟨_, hoL, rfl⟩ entry_list_sort
    (SrtO.list_sort_ord (s := { s1 with heap := s1.heap.push (seqObj "list" vs.toArray 0) }) (SrtO.swo_lex key) hoL hvl (fun z => SrtO.pairs_sortableO (by omega) pr ncls) fun out o1' o2' => ⟨_, rfl, ?_⟩) (args_list_sort _)))
  obtain ⟨c, hc⟩ := sortedHeap_at (vs := vs) (out := out.toArray) hoL
  have hm : ∀ v ∈ out, ∃ q ∈ L, v = Value.ref q.1 := fun v hv => by
    obtain ⟨q, hq, e⟩ := List.mem_map.mp (pm.mem_iff.mp (o2'.perm.mem_iff.mp hv))
    exact ⟨q, hq, e.symm⟩
  have ord : ∀ us : List Value, (∀ v ∈ us, ∃ q ∈ L, v = Value.ref q.1) → ∃ L1 : List (Addr × List Int), us = L1.map (fun q => Value.ref q.1) ∧ ∀ q ∈ L1, q ∈ L := fun us => by
    induction us with
    | nil => exact fun _ => ⟨[], rfl, fun q hq => (by cases hq)⟩
    | cons v us ih =>
      intro hv
      obtain ⟨q, hq, e⟩ := hv v List.mem_cons_self
      obtain ⟨L1, e1, hs⟩ := ih fun u hu => hv u (List.mem_cons_of_mem _ hu)
      exact ⟨q :: L1, by rw [List.map_cons, e, e1], fun r hr => by
        rcases List.mem_cons.mp hr with z | z
        · exact z ▸ hq
        · exact hs r z⟩
  obtain ⟨L', e', hs'⟩ := ord out hm
  have inj : ∀ q ∈ L', ∀ r ∈ L', Value.ref q.1 = Value.ref r.1 → q = r := fun q hq r hr e => by
    injection e with e
    exact one q (hs' q hq) r (hs' r hr) e
  have pL : L'.Perm L := by
    have p1 : (L'.map fun q => Value.ref q.1).Perm (L.map fun q => Value.ref q.1) := by rw [← e']; exact o2'.perm.trans pm
    have nL : L.Nodup := nodup_of_map R.nd
    have nr : (L.map fun q => Value.ref q.1).Nodup := List.pairwise_map.mpr (List.Pairwise.imp_of_mem (fun {q r} hq hr hne e => by
      injection e with e
      exact hne (one q hq r hr e)) nL)
    have n1 : L'.Nodup := nodup_of_map (p1.nodup_iff.mpr nr)
    refine (List.perm_ext_iff_of_nodup n1 nL).mpr fun q => ⟨hs' q, fun hq => ?_⟩
    obtain ⟨r, hr, e⟩ := List.mem_map.mp (p1.mem_iff.mpr (List.mem_map.mpr ⟨q, hq, rfl⟩))
    injection e with e
    exact one r (hs' r hr) q hq e ▸ hr
  refine wpAny_pure ⟨_, rfl, hQ _ s1.heap.objs.size out.toArray c L' (fun b u e => ?_) g1 o1 hz hc e' pL ?_⟩
  · have q := k1 b u e
    have hlt := Heap.lt_size q
    show (sortedHeap (s1.heap.push (seqObj "list" vs.toArray 0)) s1.heap.objs.size vs out.toArray).get? b = some u
    rw [sortedHeap_old (Nat.ne_of_lt hlt) (by rw [size_push']; exact Nat.lt_succ_of_lt hlt)]
    exact Heap.get?_push_of_some _ q
  · rw [e'] at o1'
    refine List.Pairwise.imp_of_mem (fun {q r} hq hr h => ?_) (List.pairwise_map.mp o1')
    rw [← hkey q (hs' q hq), ← hkey r (hs' r hr)]
    exact h
end
end Bs

namespace Bs
open PySem PySem.Spec PyProof.Rows L2
/-- the set at a, its members' ints told by L; that the tuples stand is told by the heap -/
def Set0 (P : Program) (w : World) (h : Heap) (a : Addr) (L : List (Addr × List Int)) : Prop :=
  ∃ es ep t, (∃ o, h.get? a = some o ∧ o.ExactSet ∧ o.data = .set es ep t) ∧ es.toList = rowsOf P w L ∧ Tab t (L.map fun p => thash P w p.2) ∧ (L.map (·.2)).Nodup ∧ t.plain = true ∧
    (w.params.followText "set-order" = true ∨ t.led = true) ∧ L.length * 5 < t.mask * 3 ∧ L.length < 1200
def SO (P : Program) (w : World) (a : Addr) (L : List (Addr × List Int)) : HO := .ext fun h => Set0 P w h a L
theorem At.set0 {P : Program} {w : World} {h : Heap} {a : Addr} {L : List (Addr × List Int)} {es : Array (Int × Value)} {ep : Nat} {t : SetTable} (R : At P w h a L es ep t) : Set0 P w h a L :=
  ⟨es, ep, t, R.ob, R.rw_, R.tb, R.nd, R.pl, R.ld, R.rm, R.fw⟩
theorem Set0.at {P : Program} {w : World} {h : Heap} {a : Addr} {L : List (Addr × List Int)} (R : Set0 P w h a L) (ht : ∀ p ∈ L, IsT P w h p.2 p.1) : ∃ es ep t, At P w h a L es ep t := by
  obtain ⟨es, ep, t, h1, h2, h3, h4, h5, h6, h7, h8⟩ := R
  exact ⟨es, ep, t, h1, h2, h3, h4, ht, h5, h6, h7, h8⟩
theorem so_ok {P : Program} {w : World} {H : Hp} {h : Heap} {a : Addr} {L : List (Addr × List Int)} (R : Set0 P w h a L) : ObjOk P w H h a (SO P w a L) := by
  have ⟨es, ep, t, ⟨o, ho, r⟩, q⟩ := R
  refine ⟨R, ⟨o, ho⟩, fun h1 h2 p k => ?_⟩
  obtain ⟨es', ep', t', ⟨o', ho', r'⟩, q'⟩ := p
  exact ⟨es', ep', t', ⟨o', k o' ho', r'⟩, q'⟩
theorem Set0.type {P : Program} {w : World} {s : Shared} {a : Addr} {L : List (Addr × List Int)} (R : Set0 P w s.heap a L) : s.TypeIs (.ref a) "set" ∧ ∀ b, Value.ref a = .ref b → ∃ ob, s.heap.get? b = some ob ∧ ob.dict = none := by
  obtain ⟨es, ep, t, ⟨o, ho, hx, hd⟩, _⟩ := R
  exact ⟨⟨o, ho, hx.1⟩, fun b e => by cases e; exact ⟨o, ho, hx.2.1⟩⟩
/-- all members stand as tuples -/
def Tups (K : PySem.W.Frag) (H : Hp) (L : List (Addr × List Int)) : Prop := ∀ p ∈ L, SqT K H p.1 (p.2.map V.int)
section
variable {X : Cx}
theorem isTs {pins : List (Addr × Obj)} {σ : L2.St} {H : Hp} {s : Shared} {L : List (Addr × List Int)} (I : Inv X pins σ H s) (h : Tups X.K H L) : ∀ p ∈ L, IsT X.prog X.w s.heap p.2 p.1 := fun p hp => Inv.isT I (h p hp)
/-- set() -/
def rNew (P : Program) (w : World) : List V → Hp → VK → Prop := fun xs H Q => xs = [] ∧ ∀ p, H p = none → Q (.ref p) (upd H p (SO P w p []))
theorem cr_new : CallR X (.type "set") (rNew X.prog X.w) := by
  intro pins s σ H xs us Q I r h
  obtain ⟨rfl, q⟩ := h
  cases r
  refine setR_new fun new => ?_
  exact ⟨.ref _, upd H s.heap.objs.size (SO X.prog X.w s.heap.objs.size []), I.laid (t' := s.toks) (fun b u e => Heap.get?_push_of_some _ e) (Nat.le_refl _) (so_ok (fresh (Heap.get?_push_size _ rfl)).set0), rfl, q _ (I.hok.fresh (Nat.le_refl _))⟩
/-- (i, j) in s -/
def rIn (K : PySem.W.Frag) (P : Program) (w : World) (neg : Bool) : V → V → Hp → VK → Prop := fun x y H Q => ∃ (b : Addr) (k : List Int) (a : Addr) (L : List (Addr × List Int)), x = .ref b ∧ y = .ref a ∧ SqT K H b (k.map V.int) ∧ H a = some (SO P w a L) ∧ Tups K H L ∧
  Q (.bl (xor neg (decide (k ∈ L.map (·.2))))) H
theorem contains_at {s : Shared} {a b : Addr} {k : List Int} {L : List (Addr × List Int)} {A : Around} {E : Value → Shared → Prop} {Q : Bool → Shared → Prop} (hu : A.units + 64 < cLine)
    (R : Set0 X.prog X.w s.heap a L) (hL : ∀ p ∈ L, IsT X.prog X.w s.heap p.2 p.1) (hk : IsT X.prog X.w s.heap k b)
    (h : ∀ t', Q (decide (k ∈ L.map (·.2))) { s with toks := t' }) : wpAny (model X.prog X.w) A (contains (.ref a) (.ref b)) Q E s := by
  have hT := R.type.1
  unfold contains
  try with_reducible refine wpAny_holding ?_
  refine wpAny_bind (wpAny_specialOf hT F.slot_set_contains.lookup ?_)
  show wpAny _ _ (if (some (Value.builtin "set.__contains__") == some Value.none) = true then _ else _) _ E s
  rw [if_neg (by rw [beq_builtin_none]; exact Bool.false_ne_true)]
  refine wpAny_bind (wpAny_callSpecialUnlessNone?_slot (name := Str.ofString "__contains__") hT F.slot_set_contains
    (wpAny_call_entry F.slot_set_contains hT entry_set_contains ?_ (F.args_set_contains_2 _ _)))
  unfold Builtin.«frozenset.__contains__» Builtin.Frozenset.oneOther
  simp only [List.isEmpty_nil, bind_assoc]
  unfold Builtin.Frozenset.addrOf Builtin.Frozenset.withSetAsKey setContains
  refine wpAny_bind (wpAny_pure ?_)
  try dsimp only
  refine wpAny_bind (wpAny_pure ?_)
  try dsimp only
  refine wpAny_bind (wpAny_tryCatch ?_)
  refine wpAny_holding ?_
  refine wpAny_bind (wpAny_pyHash_tuple (knd := intKind X.prog X.w) ?_ hk ?_)
  · exact Nat.lt_of_le_of_lt (Nat.add_le_add_left (by decide) _) hu
  · obtain ⟨es, ep, t, R1⟩ := Set0.at R hL
    refine wpAny_bind (find (s := { s with toks := s.toks + (k.length + 1) }) R1 hk ?_ fun r hr => ?_)
    · exact Nat.lt_of_le_of_lt (Nat.add_le_add_left (by decide) _) hu
    · refine wpAny_pure ?_
      show wpAny _ _ (ret (Value.bool r.isSome)) _ _ _
      rw [hr]
      exact wpAny_pure ⟨_, rfl, wpAny_truthy_bool (h _)⟩
theorem or_in (hu : X.A.units + 64 < cLine) : OpR X (compareOp .In) (rIn X.K X.prog X.w false) := by
  intro pins s σ H x y v u Q I rx ry h
  obtain ⟨b, k, a, L, rfl, rfl, hb, ha, hL, q⟩ := h
  cases rx; cases ry
  show wpAny _ _ (do return Value.bool (← contains (.ref a) (.ref b))) _ _ s
  refine wpAny_bind (contains_at (X := X) hu (I.hok a _ ha).1 (isTs I hL) (Inv.isT I hb) fun t' => wpAny_pure ?_)
  rw [Bool.false_xor] at q
  exact ⟨.bl (decide (k ∈ L.map fun p : Addr × List Int => p.2)), H, I.tok _, rfl, q⟩
theorem or_notin (hu : X.A.units + 64 < cLine) : OpR X (compareOp .NotIn) (rIn X.K X.prog X.w true) := by
  intro pins s σ H x y v u Q I rx ry h
  obtain ⟨b, k, a, L, rfl, rfl, hb, ha, hL, q⟩ := h
  cases rx; cases ry
  show wpAny _ _ (do return Value.bool (!(← contains (.ref a) (.ref b)))) _ _ s
  refine wpAny_bind (contains_at (X := X) hu (I.hok a _ ha).1 (isTs I hL) (Inv.isT I hb) fun t' => wpAny_pure ?_)
  rw [Bool.true_xor] at q
  exact ⟨.bl (!decide (k ∈ L.map fun p : Addr × List Int => p.2)), H, I.tok _, rfl, q⟩
/-- s.add((i, j)) -/
def rAdd (K : PySem.W.Frag) (P : Program) (w : World) : V → List V → Hp → VK → Prop := fun x xs H Q => ∃ (a b : Addr) (k : List Int) (L : List (Addr × List Int)), x = V.ref a ∧ xs = [V.ref b] ∧ H a = some (SO P w a L) ∧ SqT K H b (k.map V.int) ∧ Tups K H L ∧ L.length + 1 < 1200 ∧
  ∀ L', (k ∈ L.map (·.2) → L' = L) → (k ∉ L.map (·.2) → L'.Perm ((b, k) :: L)) → Q .non (upd H a (SO P w a L'))
theorem mt_add (hu : X.A.units + 64 < cLine) : MtR X "set.add" (rAdd X.K X.prog X.w) := by
  intro pins s σ H x xs v us Q I rx rxs h
  obtain ⟨a, b, k, L, rfl, rfl, ha, hb, hL, room, q⟩ := h
  cases rx
  cases rxs with
  | cons ry rt =>
    cases rt; cases ry
    have R0 : Set0 X.prog X.w s.heap a L := (I.hok a _ ha).1
    have hT := R0.type.1
    obtain ⟨es, ep, t, R⟩ := R0.at (isTs I hL)
    have hk := Inv.isT I hb
    refine wpAny_call_entry F.slot_set_add hT F.entry_set_add ?_ (F.args_set_add_2 _ _)
    unfold Builtin.«set.add» Builtin.Frozenset.oneOther
    simp only [List.isEmpty_nil, bind_assoc]
    unfold Builtin.Frozenset.addrOf setAdd
    refine wpAny_bind (wpAny_pure ?_)
    try dsimp only
    refine wpAny_bind (wpAny_pure ?_)
    try dsimp only
    refine wpAny_bind ?_
    refine wpAny_holding ?_
    refine wpAny_bind (wpAny_pyHash_tuple (knd := intKind X.prog X.w) (Nat.lt_of_le_of_lt (Nat.add_le_add_left (by decide) _) hu) hk ?_)
    refine add (s := { s with toks := s.toks + (k.length + 1) }) R hk (Nat.lt_of_le_of_lt (Nat.add_le_add_left (by decide) _) hu) room fun bb h' L' es' ep' t' sb R' c1 c2 => ?_
    show wpAny _ _ (ret Value.none) _ _ _
    have he : ∃ u, h'.get? a = some u := by
      obtain ⟨o, ho, _⟩ := R'.ob
      exact ⟨o, ho⟩
    exact wpAny_pure ⟨_, rfl, .non, upd H a (SO X.prog X.w a L'), I.write (e := a) (t' := s.toks + (k.length + 1)) (by rw [ha]; trivial) (.inl rfl) (fun b u hb hu => (sb.2 b hb).trans hu) he (so_ok R'.set0), rfl, q L' c1 c2⟩
def tAdd (K : PySem.W.Frag) (P : Program) (w : World) (to : TE) (t : TA) : TE := fun σ H Q => to σ H fun x H1 => (∃ a L, x = V.ref a ∧ H1 a = some (SO P w a L)) ∧ t σ H1 fun xs H2 => rAdd K P w x xs H2 Q
variable {o e : Expr} {es : List Expr} {to : TE} {t : TA} {apos cpos : Pos}
theorem pe_add (hu : X.A.units + 64 < cLine) (ho : PE X o to) (ha : PA X (e :: es) t)
    (hbase : attributeBase o "add" X.env (eval o X.env) = eval o X.env := by rfl)
    (hfew : ((backTo cpos (starEach (e :: es) X.env)).all (fun x => !x.1) && (backToKw cpos (keywordEach [] X.env)).all (fun x => x.1.isSome)
      && decide ((e :: es).length + ([] : List Keyword).length + (if ([] : List Keyword).isEmpty then 0 else 1) < 30)) = true := by rfl)
    (hline : (apos.endLine == cpos.line) = true := by rfl) (hs : starEach (e :: es) X.env = (false, eval e X.env) :: starEach es X.env := by rfl) (hplain : (backTo cpos (starEach es X.env)).any (·.1) = false := by rfl) :
    PE X (.Call (.Attribute o "add" apos) (e :: es) [] cpos) (tAdd X.K X.prog X.w to t) := by
  refine ⟨fun pins s σ H Q I h => ?_⟩
  refine wpAny_Call_method_late hbase hfew hline rfl (thn (ho.run pins s σ H _ I h) fun v s1 ⟨x, H1, I1, r1, ty, q1⟩ => ?_)
  obtain ⟨a, L, rfl, hka⟩ := ty
  have R : Set0 X.prog X.w s1.heap a L := (I1.hok a _ hka).1
  cases r1
  refine ⟨"set", "set.add", F.plainAttrs_set, F.slot_set_add, F.type_set_add, R.type.1, R.type.2, ?_⟩
  have hA := ha.run cpos pins s1 σ H1 _ I1 q1
  rw [hs] at hA ⊢
  refine Calls.callWith_builtin (by show (false || (backTo cpos (starEach es X.env)).any (·.1)) = false; rw [hplain]; rfl) (Calls.evalArgs_plain ?_)
  exact thn hA fun us s2 ⟨vs, H2, I2, r2, q2⟩ => mt_add hu pins s2 σ H2 (.ref a) vs (.ref a) us Q I2 rfl r2 q2
/-- sorted(s), its members pairs -/
def ltK (q r : Addr × List Int) : Bool := SrtO.lexB (q.2.headD 0, q.2.getD 1 0) (r.2.headD 0, r.2.getD 1 0)
def rSorted (K : PySem.W.Frag) (P : Program) (w : World) : List V → Hp → VK → Prop := fun vs H Q => ∃ (a : Addr) (L : List (Addr × List Int)), vs = [V.ref a] ∧ H a = some (SO P w a L) ∧ Tups K H L ∧ (∀ p ∈ L, ∃ i j, p.2 = [i, j]) ∧
  ∀ (L' : List (Addr × List Int)) (p : Addr), L'.Perm L → (L'.map (·.2)).Nodup → L'.Pairwise (fun q r => ltK r q = false) → H p = none → Q (.ref p) (upd H p (.lst (L'.map fun q => V.ref q.1)))
theorem cr_sorted (hc : X.calm = true) : CallR X (.builtin "sorted") (rSorted X.K X.prog X.w) := by
  intro pins s σ H vs us Q I r h
  obtain ⟨a, L, rfl, ha, hL, h2, q⟩ := h
  obtain ⟨es, ep, t, R⟩ := Set0.at (I.hok a _ ha).1 (isTs I hL)
  rw [Vals.ref1 r]
  refine sorted_pairs R (I.ok.hd hc) h2 fun s' p out c L' k g o hp hg hout pm pw => ?_
  have hlen : (L'.map fun q => V.ref q.1).length ≤ sizeLine := by
    have := R.fw
    rw [List.length_map, sizeLine_eq, pm.length_eq]; omega
  have hn : H p = none := I.hok.fresh hp
  have hv : Vals (L'.map fun q => V.ref q.1) out.toList := by rw [hout]; exact vals_of_refs L'
  have J : Inv X pins σ (upd H p (.lst (L'.map fun q => V.ref q.1))) { s with heap := s'.heap, gens := s'.gens, drawn := s'.drawn, toks := s'.toks } :=
    I.call (ch := []) (Un.laid k hp hn) (I.hok.laid k hp ⟨hlen, out.toList, c, hv, hg⟩) (by rw [g]; exact I.bare) (fun _ z => nomatch z)
  have e : s' = { s with heap := s'.heap, gens := s'.gens, drawn := s'.drawn, toks := s'.toks } := by
    cases s'; cases s; cases o; rfl
  rw [e]
  exact ⟨.ref p, _, J, rfl, q L' p pm ((pm.map (·.2)).nodup_iff.mpr R.nd) pw hn⟩
end
end Bs

/-! Short words over the layer: defs by name, calls by name, errors asked in a callee. -/
namespace Fd
open PySem PySem.Spec PyProof.Rows L2

/-- a def of the top -/
def Def (K : PySem.W.Frag) (mg : Str → Option Value) (x : Str) (st : Stmt) (ps : List Str) : Prop := ∃ f fd, mg x = some (.ref f) ∧ Fun K x x st f fd ∧ Binds K fd ps []
/-- it keeps its promise -/
def Has (P : Program) (w : World) (K : PySem.W.Frag) (mg : Str → Option Value) (base : Heap) (CX : CXT) (k : Nat) (x : Str) (ps : List Str) (sp : Sp) : Prop :=
  ∃ f fd, mg x = some (.ref f) ∧ PySem.W.keepIn K (.ref f) = true ∧ Binds K fd ps [] ∧ FnOk P w K mg base CX k f fd ps sp
/-- a method of the class at C -/
def MDef (K : PySem.W.Frag) (C : Addr) (m qual : Str) (st : Stmt) (ps : List Str) : Prop := ∃ f fd, Meth K C m f ∧ Fun K m qual st f fd ∧ Binds K fd ps []
def MHas (P : Program) (w : World) (K : PySem.W.Frag) (mg : Str → Option Value) (base : Heap) (CX : CXT) (k : Nat) (C : Addr) (m : Str) (ps : List Str) (sp : Sp) : Prop :=
  ∃ f fd, Meth K C m f ∧ Binds K fd ps [] ∧ FnOk P w K mg base CX k f fd ps sp
/-- a class made by its __init__ -/
def IDef (K : PySem.W.Frag) (C : Addr) (qual : Str) (st : Stmt) (ps : List Str) : Prop := ∃ f fd, Mk K C f ∧ Fun K "__init__" qual st f fd ∧ Binds K fd ps []
def IHas (P : Program) (w : World) (K : PySem.W.Frag) (mg : Str → Option Value) (base : Heap) (CX : CXT) (k : Nat) (C : Addr) (ps : List Str) (sp : Sp) : Prop :=
  ∃ f fd, Mk K C f ∧ Binds K fd ps [] ∧ FnOk P w K mg base CX k f fd ps sp
/-- a def for calls within an except suite -/
def HHas (P : Program) (w : World) (K : PySem.W.Frag) (mg : Str → Option Value) (base : Heap) (CX : CXT) (k : Nat) (x : Str) (ps : List Str) (sp : Sp) : Prop :=
  ∃ f fd, mg x = some (.ref f) ∧ PySem.W.keepIn K (.ref f) = true ∧ Binds K fd ps [] ∧ L2H.FnH P w K mg base CX k f fd ps sp
section
variable {P : Program} {w : World} {K : PySem.W.Frag} {mg : Str → Option Value} {base : Heap} {CX : CXT} {j k : Nat} {x m qual : Str} {st : Stmt} {ps N : List Str} {sp : Sp} {C : Addr}
theorem Has.mono (h : Has P w K mg base CX j x ps sp) (q : j ≤ k) : Has P w K mg base CX k x ps sp := by
  obtain ⟨f, fd, a, b, c, d⟩ := h
  exact ⟨f, fd, a, b, c, d.mono q⟩
/-- a def that lets nothing out -/
theorem Def.ok (D : Def K mg x st ps) (S : FnScope N ps (defScope st)) (len : ∀ vs H Q E, sp vs H Q E → vs.length = ps.length)
    (body : ∀ (f : Addr) (cdv : Value) (A : Around) (outer : List Env) (s : Shared) (H : Hp) (vs : List V) (Q : VK) (E : XK), Room k (A.deeper (envOfC x (defScope st) s.heap.objs.size f cdv)) → sp vs H Q E →
      ∃ t, PSs (cxOf CX0 P w K mg base N x (defScope st) f cdv A outer s H E).nox (defBody st) t ∧ t { nx := fun _ H' => Q .non H', rt := Q } (start N vs) H) : Has P w K mg base CX0 (k + 1) x ps sp := by
  obtain ⟨f, fd, a, F, b⟩ := D
  exact ⟨f, fd, a, F.kp, b, F.ok S len (body f)⟩
/-- a def that may raise -/
theorem Def.okN (D : Def K mg x st ps) (S : FnScope N ps (defScope st)) (len : ∀ vs H Q E, sp vs H Q E → vs.length = ps.length)
    (body : ∀ (f : Addr) (cdv : Value) (A : Around) (outer : List Env) (s : Shared) (H : Hp) (vs : List V) (Q : VK) (E : XK), Room k (A.deeper (envOfC x (defScope st) s.heap.objs.size f cdv)) → sp vs H Q E →
      ∃ t, PSs (cxOf (L2N.CX P w) P w K mg base N x (defScope st) f cdv A outer s H E) (defBody st) t ∧ t { nx := fun _ H' => Q .non H', rt := Q } (start N vs) H) : Has P w K mg base (L2N.CX P w) (k + 1) x ps sp := by
  obtain ⟨f, fd, a, F, b⟩ := D
  refine ⟨f, fd, a, F.kp, b, ?_⟩
  obtain ⟨oc, od, kV, doc, pm, an, cdv, ct, osl, rfl, lk, hcd⟩ := F.ex
  exact fn_of lk hcd S len fun A outer s H vs Q E hr hsp => body f cdv A outer s H vs Q E hr hsp
theorem Def.okH (D : Def K mg x st ps) (S : FnScope N ps (defScope st)) (len : ∀ vs H Q E, sp vs H Q E → vs.length = ps.length)
    (body : ∀ (f : Addr) (cdv : Value) (A : Around) (outer : List Env) (s : Shared) (H : Hp) (vs : List V) (Q : VK) (E : XK) (p : Addr × Obj), L2H.Hot1 A p → L2H.RoomH k (A.deeper (envOfC x (defScope st) s.heap.objs.size f cdv)) → sp vs H Q E →
      ∃ t, PSs (L2H.cxH CX P w K mg base N x (defScope st) f cdv A outer s H E p) (defBody st) t ∧ t { nx := fun _ H' => Q .non H', rt := Q } (start N vs) H) : HHas P w K mg base CX (k + 1) x ps sp := by
  obtain ⟨f, fd, a, F, b⟩ := D
  refine ⟨f, fd, a, F.kp, b, ?_⟩
  obtain ⟨oc, od, kV, doc, pm, an, cdv, ct, osl, rfl, lk, hcd⟩ := F.ex
  exact L2H.fn_ofH lk hcd S len fun A outer s H vs Q E p hot hr hsp => body f cdv A outer s H vs Q E p hot hr hsp
theorem MDef.ok (D : MDef K C m qual st ps) (S : FnScope N ps (defScope st)) (len : ∀ vs H Q E, sp vs H Q E → vs.length = ps.length)
    (body : ∀ (f : Addr) (cdv : Value) (A : Around) (outer : List Env) (s : Shared) (H : Hp) (vs : List V) (Q : VK) (E : XK), Room k (A.deeper (envOfC qual (defScope st) s.heap.objs.size f cdv)) → sp vs H Q E →
      ∃ t, PSs (cxOf CX0 P w K mg base N qual (defScope st) f cdv A outer s H E).nox (defBody st) t ∧ t { nx := fun _ H' => Q .non H', rt := Q } (start N vs) H) : MHas P w K mg base CX0 (k + 1) C m ps sp := by
  obtain ⟨f, fd, M, F, b⟩ := D
  exact ⟨f, fd, M, b, F.ok S len (body f)⟩
theorem MDef.okN (D : MDef K C m qual st ps) (S : FnScope N ps (defScope st)) (len : ∀ vs H Q E, sp vs H Q E → vs.length = ps.length)
    (body : ∀ (f : Addr) (cdv : Value) (A : Around) (outer : List Env) (s : Shared) (H : Hp) (vs : List V) (Q : VK) (E : XK), Room k (A.deeper (envOfC qual (defScope st) s.heap.objs.size f cdv)) → sp vs H Q E →
      ∃ t, PSs (cxOf (L2N.CX P w) P w K mg base N qual (defScope st) f cdv A outer s H E) (defBody st) t ∧ t { nx := fun _ H' => Q .non H', rt := Q } (start N vs) H) : MHas P w K mg base (L2N.CX P w) (k + 1) C m ps sp := by
  obtain ⟨f, fd, M, F, b⟩ := D
  refine ⟨f, fd, M, b, ?_⟩
  obtain ⟨oc, od, kV, doc, pm, an, cdv, ct, osl, rfl, lk, hcd⟩ := F.ex
  exact fn_of lk hcd S len fun A outer s H vs Q E hr hsp => body f cdv A outer s H vs Q E hr hsp
theorem IDef.okN (D : IDef K C qual st ps) (S : FnScope N ps (defScope st)) (len : ∀ vs H Q E, sp vs H Q E → vs.length = ps.length)
    (body : ∀ (f : Addr) (cdv : Value) (A : Around) (outer : List Env) (s : Shared) (H : Hp) (vs : List V) (Q : VK) (E : XK), Room k (A.deeper (envOfC qual (defScope st) s.heap.objs.size f cdv)) → sp vs H Q E →
      ∃ t, PSs (cxOf (L2N.CX P w) P w K mg base N qual (defScope st) f cdv A outer s H E) (defBody st) t ∧ t { nx := fun _ H' => Q .non H', rt := Q } (start N vs) H) : IHas P w K mg base (L2N.CX P w) (k + 1) C ps sp := by
  obtain ⟨f, fd, M, F, b⟩ := D
  refine ⟨f, fd, M, b, ?_⟩
  obtain ⟨oc, od, kV, doc, pm, an, cdv, ct, osl, rfl, lk, hcd⟩ := F.ex
  exact fn_of lk hcd S len fun A outer s H vs Q E hr hsp => body f cdv A outer s H vs Q E hr hsp
end

/-! ### calls -/
section
variable {X : Cx} {CX : CXT} {k : Nat} {C : Addr} {ps : List Str} {sp : Sp} {E : XK} {ES : L2.St → XK} {x m : Str} {p q pos apos : Pos} {e o : Expr} {es : List Expr} {ta : TE} {t : TA}
/-- f(e, ..) of a def that lets nothing out, from anywhere calm -/
theorem pe_f (G : Has X.prog X.w X.K X.mg X.base CX0 k x ps sp) (hr : Room k X.A) (hg : Gl X x) (ha : PA X (e :: es) t) (hdb : (x == ("__debug__" : Str)) = false := by decide)
    (he : starEach (e :: es) X.env = (false, eval e X.env) :: starEach es X.env := by rfl) (hpl : (backTo pos (starEach es X.env)).any (·.1) = false := by rfl) : PE X (.Call (.Name x q) (e :: es) [] pos) (tCall sp [] E0 t) := by
  obtain ⟨f, fd, hm, hk, hb, F⟩ := G
  exact pe_call F hr hg hm hk hb .nil pass0 ha hdb he hpl
/-- f(e, ..) of a def that may raise, from one that lets it out -/
theorem pe_fN (G : Has X.prog X.w X.K X.mg X.base (L2N.CX X.prog X.w) k x ps sp) (hr : Room k X.A) (hg : Gl X x) (hx : Passes (L2N.CX X.prog X.w) X E) (ha : PA X (e :: es) t) (hdb : (x == ("__debug__" : Str)) = false := by decide)
    (he : starEach (e :: es) X.env = (false, eval e X.env) :: starEach es X.env := by rfl) (hpl : (backTo pos (starEach es X.env)).any (·.1) = false := by rfl) : PE X (.Call (.Name x q) (e :: es) [] pos) (tCall sp [] E t) := by
  obtain ⟨f, fd, hm, hk, hb, F⟩ := G
  exact pe_call F hr hg hm hk hb .nil hx ha hdb he hpl
/-- .. within a try -/
theorem pe_fS {W : WX} (G : Has X.prog X.w X.K X.mg X.base (L2N.CX X.prog X.w) k x ps sp) (hr : Room k X.A) (hg : Gl X x) (tk : L2N.Takes X W) (ha : PA X (e :: es) t) (hdb : (x == ("__debug__" : Str)) = false := by decide)
    (he : starEach (e :: es) X.env = (false, eval e X.env) :: starEach es X.env := by rfl) (hpl : (backTo pos (starEach es X.env)).any (·.1) = false := by rfl) : PE X (.Call (.Name x q) (e :: es) [] pos) (tCallS sp (WE W) t) := by
  obtain ⟨f, fd, hm, hk, hb, F⟩ := G
  exact pe_callS F hr hg hm hk hb (fun σ => L2N.passAt tk σ) ha hdb he hpl
/-- nothing leaves a call that raises nothing -/
theorem pass00 {X : Cx} : Passes (L2N.CX X.prog X.w) X E0 := fun _ _ _ _ _ _ _ h => by
  obtain ⟨_, _, _, _, _, _, _, _, _, _, _, _, z⟩ := h
  exact z.elim
theorem takesF {X : Cx} : L2N.Takes X (fun _ _ _ _ => False) := fun _ _ x => by
  obtain ⟨_, _, _, _, _, _, _, _, _, _, _, _, _, _, _, _, z⟩ := x
  exact z.elim
/-- within an except suite -/
theorem pe_fH (G : HHas X.prog X.w X.K X.mg X.base CX0 k x ps sp) (hr : L2H.RoomH k X.A) (hc : L2H.HotC X) (hg : Gl X x) (ha : PA X (e :: es) t) (hdb : (x == ("__debug__" : Str)) = false := by decide)
    (he : starEach (e :: es) X.env = (false, eval e X.env) :: starEach es X.env := by rfl) (hpl : (backTo pos (starEach es X.env)).any (·.1) = false := by rfl) : PE X (.Call (.Name x q) (e :: es) [] pos) (tCallS sp (fun _ => E0) t) := by
  obtain ⟨f, fd, hm, hk, hb, F⟩ := G
  exact L2H.pe_callH F hr hc hg hm hk hb (fun σ _ _ _ _ _ _ h => h.elim) ha hdb he hpl
/-- o.m(e, ..) -/
theorem pe_m {pl : Sem Bool} (G : MHas X.prog X.w X.K X.mg X.base CX0 k C m ps sp) (he : PE X o ta) (c : Cls X.K C) (hr : Room k X.A) (ha : PA X (e :: es) t)
    (hst : starEach (e :: es) X.env = (false, eval e X.env) :: starEach es X.env := by rfl) (hpl : (backTo pos (starEach es X.env)).any (·.1) = false := by rfl)
    (ht : eval (.Call (.Attribute o m apos) (e :: es) [] pos) X.env = (do
      let ov ← eval o X.env
      standAt apos.atName
      let (f, first) ← holding [ov] (getMethod ov m pl)
      callWith pos f first (backTo pos (starEach (e :: es) X.env)) (backToKw pos (keywordEach [] X.env))) := by rfl) : PE X (.Call (.Attribute o m apos) (e :: es) [] pos) (tMeth C m sp [] E0 ta t) := by
  obtain ⟨f, fd, hm, hb, F⟩ := G
  exact pe_meth he c hm F hr hb .nil pass0 ha hst hpl ht
theorem pe_mN {pl : Sem Bool} (G : MHas X.prog X.w X.K X.mg X.base (L2N.CX X.prog X.w) k C m ps sp) (he : PE X o ta) (c : Cls X.K C) (hr : Room k X.A) (hx : Passes (L2N.CX X.prog X.w) X E) (ha : PA X (e :: es) t)
    (hst : starEach (e :: es) X.env = (false, eval e X.env) :: starEach es X.env := by rfl) (hpl : (backTo pos (starEach es X.env)).any (·.1) = false := by rfl)
    (ht : eval (.Call (.Attribute o m apos) (e :: es) [] pos) X.env = (do
      let ov ← eval o X.env
      standAt apos.atName
      let (f, first) ← holding [ov] (getMethod ov m pl)
      callWith pos f first (backTo pos (starEach (e :: es) X.env)) (backToKw pos (keywordEach [] X.env))) := by rfl) : PE X (.Call (.Attribute o m apos) (e :: es) [] pos) (tMeth C m sp [] E ta t) := by
  obtain ⟨f, fd, hm, hb, F⟩ := G
  exact pe_meth he c hm F hr hb .nil hx ha hst hpl ht
theorem pe_m0 {pl : Sem Bool} (G : MHas X.prog X.w X.K X.mg X.base CX0 k C m ps sp) (he : PE X o ta) (c : Cls X.K C) (hr : Room k X.A)
    (ht : eval (.Call (.Attribute o m apos) [] [] pos) X.env = (do
      let ov ← eval o X.env
      standAt apos.atName
      let (f, first) ← holding [ov] (getMethod ov m pl)
      callWith pos f first (backTo pos (starEach [] X.env)) (backToKw pos (keywordEach [] X.env))) := by rfl) : PE X (.Call (.Attribute o m apos) [] [] pos) (tMeth C m sp [] E0 ta tNil) := by
  obtain ⟨f, fd, hm, hb, F⟩ := G
  exact pe_meth0 he c hm F hr hb .nil pass0 ht
/-- .. of a method that may raise, within a try -/
def tMethS (C : Addr) (m : Str) (sp : Sp) (E : L2.St → XK) (ta : TE) (t : TA) : TE := fun σ H Q => ta σ H fun x H1 => ∃ a dx fs, x = .ref a ∧ H1 a = some (.ins C dx fs) ∧ fs.lookup m = none ∧ t σ H1 fun vs H2 => sp (x :: vs) H2 Q (E σ)
theorem pe_mS {W : WX} {pl : Sem Bool} (G : MHas X.prog X.w X.K X.mg X.base (L2N.CX X.prog X.w) k C m ps sp) (he : PE X o ta) (c : Cls X.K C) (hr : Room k X.A) (tk : L2N.Takes X W) (ha : PA X (e :: es) t)
    (hst : starEach (e :: es) X.env = (false, eval e X.env) :: starEach es X.env := by rfl) (hpl : (backTo pos (starEach es X.env)).any (·.1) = false := by rfl)
    (ht : eval (.Call (.Attribute o m apos) (e :: es) [] pos) X.env = (do
      let ov ← eval o X.env
      standAt apos.atName
      let (f, first) ← holding [ov] (getMethod ov m pl)
      callWith pos f first (backTo pos (starEach (e :: es) X.env)) (backToKw pos (keywordEach [] X.env))) := by rfl) : PE X (.Call (.Attribute o m apos) (e :: es) [] pos) (tMethS C m sp (WE W) ta t) := by
  obtain ⟨f, fd, hm, hb, F⟩ := G
  refine ⟨fun pins s σ H Q I h => ?_⟩
  refine PySem.W.methodCall_KW (pl := pl) (thn (he.run pins s σ H _ I h) fun u s1 ⟨x, H1, I1, rx, a, dx, fs, ex, ea, l, q⟩ => ?_) ht
  subst ex
  obtain rfl : u = Value.ref a := rx
  refine getmeth_ok I1 ea c hm l ?_
  refine PySem.W.callWith_K (first := [.ref a]) (h₀ := X.base) I.ok.mod.kin hm.kp (thn (ha.run pos pins s1 σ H1 _ I1 q) fun us s2 ⟨vs, H2, I2, r, q2⟩ => ⟨I2.kIn, ?_⟩) hst hpl
  exact run_fnS (us := .ref a :: us) (vs := .ref a :: vs) F hr hb (L2N.passAt tk σ) I2 (.cons rfl r) q2
/-- C(e, ..) -/
theorem pe_mk (G : IHas X.prog X.w X.K X.mg X.base (L2N.CX X.prog X.w) k C ps sp) (hr : Room (k + 1) X.A) (hg : Gl X x) (hm : X.mg x = some (.ref C)) (hx : Passes (L2N.CX X.prog X.w) X E) (ha : PA X (e :: es) t) (hdb : (x == ("__debug__" : Str)) = false := by decide)
    (he : starEach (e :: es) X.env = (false, eval e X.env) :: starEach es X.env := by rfl) (hpl : (backTo pos (starEach es X.env)).any (·.1) = false := by rfl) : PE X (.Call (.Name x q) (e :: es) [] pos) (tMake C sp [] E t) := by
  obtain ⟨f, fd, M, hb, F⟩ := G
  exact pe_make M F hr hg hm hb .nil hx ha hdb he hpl
def tMakeS (C : Addr) (sp : Sp) (E : L2.St → XK) (t : TA) : TE := fun σ H Q => t σ H fun vs H1 => ∀ x dx, H1 x = none → H1 dx = none → dx ≠ x →
  sp (.ref x :: vs) (upd (upd H1 dx (.own x)) x (.ins C dx [])) (fun v H2 => v = .non ∧ Q (.ref x) H2) (E σ)
/-- within a try: what is raised is wished for at the slots -/
theorem pe_mkS {W : WX} (G : IHas X.prog X.w X.K X.mg X.base (L2N.CX X.prog X.w) k C ps sp) (hr : Room (k + 1) X.A) (hg : Gl X x) (hm : X.mg x = some (.ref C)) (tk : L2N.Takes X W) (ha : PA X (e :: es) t) (hdb : (x == ("__debug__" : Str)) = false := by decide)
    (he : starEach (e :: es) X.env = (false, eval e X.env) :: starEach es X.env := by rfl) (hpl : (backTo pos (starEach es X.env)).any (·.1) = false := by rfl) : PE X (.Call (.Name x q) (e :: es) [] pos) (tMakeS C sp (WE W) t) := by
  obtain ⟨f, fd, M, hb, F⟩ := G
  refine ⟨fun pins s σ H Q I h => ?_⟩
  refine wpAny_Call_Name_kw (ld_glob I hg hm ?_ hdb)
  refine PySem.W.callWith_K (h₀ := X.base) I.ok.mod.kin M.kp (thn (ha.run pos pins s σ H _ I h) fun us s1 ⟨vs, H1, I1, r, q⟩ => ⟨I1.kIn, ?_⟩) he hpl
  have hq := q (s1.heap.objs.size + 1) s1.heap.objs.size (I1.hok.fresh (Nat.le_succ _)) (I1.hok.fresh (Nat.le_refl _)) (Nat.ne_of_lt (Nat.lt_succ_self _))
  have I2 := Inv.made (C := C) I1
  have r2 : Vals (V.ref (s1.heap.objs.size + 1) :: vs) (Value.ref (s1.heap.objs.size + 1) :: us) := .cons rfl r
  have hl : (Value.ref (s1.heap.objs.size + 1) :: us ++ []).length = ps.length := by
    have e := r2.length
    rw [F.len _ _ _ _ hq] at e
    rw [List.append_nil]
    exact e.symm
  have hbb := hb _ (Value.ref (s1.heap.objs.size + 1) :: us) I2.kIn hl
  rw [List.append_nil] at hbb
  refine wpAny_call (make_map (f := f) I1.kIn M.makes M.init (beq_iff_eq.mp M.fn) (codeAny_mono (F.run _ X.stack _ _ ⟨Value.ref (s1.heap.objs.size + 1) :: us, []⟩ (Value.ref (s1.heap.objs.size + 1) :: us) _ _ (WE W σ) (hr.make C us [])
    (I2.env0.make C us []) hbb r2 hq) fun r s' hq' => ?_))
  cases r with
  | error e => exact L2N.passAt tk σ pins _ _ e s' I2 hq'
  | ok fl =>
    cases fl with
    | ret u =>
      obtain ⟨v, H', I3, rv, ev, q3⟩ := I2.after hq'
      subst ev
      exact ⟨rv, ⟨V.ref (s1.heap.objs.size + 1), H', I3, rfl, q3⟩⟩
    | next => exact False.elim hq'
    | brk => exact False.elim hq'
    | cont => exact False.elim hq'
end

/-! ### isinstance of the error that is handled, in a callee -/
/-- the pinned object is an error of the class at D -/
def rIsP (K : PySem.W.Frag) (D a : Addr) : List V → Hp → VK → Prop := fun xs H Q => ∃ (c : V) (cv : Value) (b : Bool), xs = [.ref a, c] ∧ (∀ u, RelV c u → u = cv) ∧ PySem.W.kitOne K (.ref D) cv = some b ∧ Q (.bl b) H
theorem call_isP {X : Cx} {p : Addr × Obj} {D : Addr} (hp : p ∈ X.pn) (C : ExcC X.K D) (hz : p.2.cls = .ref D) (hd : p.2.dict = none) (hf : ∃ vs, p.2.data = .fields vs) : CallR X (.builtin "isinstance") (rIsP X.K D p.1) := by
  intro pins s σ H xs us Q I r h
  obtain ⟨c, cv, b, rfl, hcv, e, q⟩ := h
  cases r with
  | cons rx rr =>
    cases rr with
    | cons rt rr =>
      cases rr
      cases rx
      have ec := hcv _ rt
      subst ec
      obtain ⟨hget, _⟩ := I.pin p (List.mem_append_left _ hp)
      obtain ⟨vs, hv⟩ := hf
      have J : PySem.W.InstAt s.heap p.1 p.2 D none := by
        obtain ⟨pa, oc, od, oda, osl⟩ := p
        dsimp only at hz hd hv
        subst hz hd hv
        exact ⟨hget, rfl, rfl, trivial⟩
      exact PySem.W.kia_one (PySem.W.handS_kitx_exc C.hg C.hk C.hs C.hd C.ha C.hn C.ht C.hm) I.kIn J e (fun z => nomatch z) fun tk => ⟨.bl b, H, I.kept (t' := tk) fun _ _ z => z, rfl, q⟩
end Fd

/-! Defs that are called within an except suite and are handed the very error that is handled: the promise is given for that error, told by its pin p. -/
namespace Fh
open PySem PySem.Spec PyProof.Rows L2 L2H
abbrev St := L2.St
structure FnP (P : Program) (w : World) (K : PySem.W.Frag) (mg : Str → Option Value) (base : Heap) (k : Nat) (f : Addr) (fd : FuncData) (ps : List Str) (sp : Sp) (p : Addr × Obj) : Prop where
  len : ∀ vs H Q E, sp vs H Q E → vs.length = ps.length
  go : ∀ (A : Around) (outer : List Env) (s : Shared) (H : Hp) (args : Args) (us : List Value) (vs : List V) (Q : VK) (E : XK),
    RoomH k A → Hot1 A p → PinOk outer H s p → Env0 P w K mg base A outer s H → BindsTo s fd args (ps.zip us) → Vals vs us → sp vs H Q E → codeAny (model P w) A (.call (.ref f) args) (CR CX0 outer P w H s Q E) s
section
variable {P : Program} {w : World} {K : PySem.W.Frag} {mg : Str → Option Value} {base : Heap} {k : Nat} {f : Addr} {x : Str} {st : Stmt} {fd : FuncData} {N ps : List Str} {sp : Sp} {p : Addr × Obj}
theorem made (F : Fun K x x st f fd) (S : FnScope N ps (defScope st)) (len : ∀ vs H Q E, sp vs H Q E → vs.length = ps.length)
    (body : ∀ (cdv : Value) (A : Around) (outer : List Env) (s : Shared) (H : Hp) (vs : List V) (Q : VK) (E : XK), Hot1 A p → RoomH k (A.deeper (envOfC x (defScope st) s.heap.objs.size f cdv)) → sp vs H Q E →
      ∃ t, PSs (cxH CX0 P w K mg base N x (defScope st) f cdv A outer s H E p) (defBody st) t ∧ t { nx := fun _ H' => Q .non H', rt := Q } (L2.start N vs) H) : FnP P w K mg base (k + 1) f fd ps sp p := by
  obtain ⟨oc, od, kV, doc, pm, an, cdv, ct, osl, rfl, lk, hcd⟩ := F.ex
  constructor
  · exact len
  · intro A outer s H args us vs Q E hr hot pin e0 hb r hsp
    have KX : K.In s.heap := e0.mod.kin.keeps fun b o e => (e0.bs b o e).1
    have cellsOk : ∀ y ∈ ps.zip us, (defScope st).names.lookup y.1 = some .local ∨ ((defScope st).names.lookup y.1 = some .cell ∧ ((cellsFrom (s.heap.objs.size + 1) (defScope st).names []).lookup y.1).isSome = true) := by
      rintro ⟨n, v⟩ hy
      exact (S.par n (List.of_mem_zip hy).1).imp id fun q => ⟨q, PySem.W.cellsFrom_some _ _ _ (.inl q)⟩
    refine codeAny_call_function hr.depth (KX _ _ lk) rfl S.co S.gen rfl (PySem.W.codeRec_of KX hcd) (hb _ _ _ _ (wpAny_newFunctionEnv_cells S.kind cellsOk fun env he s1 xc => ?_))
    subst he
    refine ⟨(e0.mod.nolimit.keeps fun b o e => (e0.bs b o e).1).keeps xc.toInCall.keep, codeAny_func ?_⟩
    obtain ⟨t, ht, hq⟩ := body cdv A outer s H vs Q E hot (hr.deeper _) hsp
    have I : Inv (cxH CX0 P w K mg base N x (defScope st) f cdv A outer s H E p) [] (L2.start N vs) H s1 := inv_startH S pin e0 (len _ _ _ _ hsp) r xc
    have out : ∀ {σ' : St} {H' : Hp} {v : V} {u : Value} {s' : Shared}, Inv (cxH CX0 P w K mg base N x (defScope st) f cdv A outer s H E p) [] σ' H' s' → RelV v u → Q v H' → CE outer P w H s Q u s' :=
      fun J rv q => ⟨_, _, J.os, J.bare, J.base, J.hok, rv, q⟩
    refine wpAny_mono (ht.run [] s1 _ H _ I hq) (fun fl s' hs => ?_) fun e s' hs => hs
    match fl, hs with
    | .ret u, ⟨v, σ', H', J, rv, q⟩ => exact out J rv q
    | .next, ⟨σ', H', J, q⟩ => exact out (v := V.non) (u := Value.none) J rfl q
    | .brk, ⟨_, _, _, q⟩ => exact q.elim
    | .cont, ⟨_, _, _, q⟩ => exact q.elim
end
def HasP (P : Program) (w : World) (K : PySem.W.Frag) (mg : Str → Option Value) (base : Heap) (k : Nat) (x : Str) (ps : List Str) (sp : Sp) (p : Addr × Obj) : Prop :=
  ∃ f fd, mg x = some (.ref f) ∧ PySem.W.keepIn K (.ref f) = true ∧ Binds K fd ps [] ∧ FnP P w K mg base k f fd ps sp p
theorem okP {P : Program} {w : World} {K : PySem.W.Frag} {mg : Str → Option Value} {base : Heap} {k : Nat} {x : Str} {st : Stmt} {N ps : List Str} {sp : Sp} {p : Addr × Obj} (D : Fd.Def K mg x st ps) (S : FnScope N ps (defScope st)) (len : ∀ vs H Q E, sp vs H Q E → vs.length = ps.length)
    (body : ∀ (f : Addr) (cdv : Value) (A : Around) (outer : List Env) (s : Shared) (H : Hp) (vs : List V) (Q : VK) (E : XK), Hot1 A p → RoomH k (A.deeper (envOfC x (defScope st) s.heap.objs.size f cdv)) → sp vs H Q E →
      ∃ t, PSs (cxH CX0 P w K mg base N x (defScope st) f cdv A outer s H E p) (defBody st) t ∧ t { nx := fun _ H' => Q .non H', rt := Q } (L2.start N vs) H) : HasP P w K mg base (k + 1) x ps sp p := by
  obtain ⟨f, fd, a, F, b⟩ := D
  exact ⟨f, fd, a, F.kp, b, made F S len (body f)⟩
section
variable {X : Cx} {k : Nat} {ps : List Str} {sp : Sp} {x : Str} {q pos : Pos} {e : Expr} {es : List Expr} {t : TA} {p : Addr × Obj}
theorem pe_p (G : HasP X.prog X.w X.K X.mg X.base k x ps sp p) (hr : RoomH k X.A) (hot : Hot1 X.A p) (hp : p ∈ X.pn) (hg : Gl X x) (ha : PA X (e :: es) t) (hdb : (x == ("__debug__" : Str)) = false := by decide)
    (he : starEach (e :: es) X.env = (false, eval e X.env) :: starEach es X.env := by rfl) (hpl : (backTo pos (starEach es X.env)).any (·.1) = false := by rfl) : PE X (.Call (.Name x q) (e :: es) [] pos) (tCall sp [] E0 t) := by
  obtain ⟨f, fd, hm, hk, hb, F⟩ := G
  refine ⟨fun pins s σ H Q I h => wpAny_Call_Name_kw (ld_glob I hg hm ?_ hdb)⟩
  refine PySem.W.callWith_K (h₀ := X.base) I.ok.mod.kin hk (thn (ha.run pos pins s σ H _ I h) fun us s1 ⟨vs, H1, J, r, h1⟩ => ⟨J.kIn, ?_⟩) he hpl
  replace h1 : sp (vs ++ []) H1 Q E0 := h1
  rw [List.append_nil] at h1
  have b := hb s1 us J.kIn (by rw [List.append_nil, ← r.length]; exact F.len _ _ _ _ h1)
  rw [List.append_nil] at b
  have P1 := J.pin p (List.mem_append_left _ hp)
  have pin : PinOk X.stack H1 s1 p := ⟨P1.1, P1.2.1, fun hm => (List.mem_cons.mp (J.stkSub p.1 hm)).elim P1.2.2.1 P1.2.2.2.1, P1.2.2.2.2⟩
  refine wpAny_call (codeAny_mono (F.go X.A X.stack s1 H1 ⟨us, []⟩ us vs Q E0 hr hot pin J.env0 b r h1) fun r s' hq => ?_)
  match r, hq with
  | .ok (.ret u), hq => exact J.after hq
  | .ok .next, hq => exact hq.elim
  | .ok .brk, hq => exact hq.elim
  | .ok .cont, hq => exact hq.elim
  | .error e, hq => exact hq.elim
end
theorem roomM {k : Nat} {A : Around} {v : Option Value} (r : Room k A) : RoomH k (A.mark v) := ⟨r.dp, r.un⟩
theorem hotM {A : Around} {a : Addr} {oe : Obj} {cls : Value} {d : Option Addr} (hz : L2N.Zn cls d oe) (hf : ∃ vs, oe.data = .fields vs) : Hot1 (A.mark (some (.ref a))) (a, oe) := by
  obtain ⟨vs, e⟩ := hf
  exact ⟨rfl, vs, e, hz.2.2 vs e⟩
end Fh

/-! A display of one whole number: a set of it. -/
namespace Sd
open PySem PySem.Spec PyProof.Rows L2
section
variable {P : Program} {w : World} {A : Around} {E : Value → Shared → Prop} {s : Shared}
theorem newSet_led {Q : Value → Shared → Prop}
    (h : Q (.ref s.heap.objs.size) { s with heap := s.heap.push { cls := .type "set", dict := none, data := .set #[] 0 (.fresh 0 0 (!w.params.followText "set-order")) } }) :
    wpAny (model P w) A (newSet (.type "set")) Q E s := by
  unfold newSet setsByText
  refine wpAny_bind (wpAny_bind (wpAny_askSetting (wpAny_pure ?_)))
  dsimp only
  simp only [newObj]
  exact wpAny_bind (wpAny_alloc (wpAny_pure h))
theorem display1 {b : Bool} {t : Sem Value} {Q : Value → Shared → Prop}
    (h : wpAny (model P w) A t (fun v s' => wpAny (model P w) A (setAdd s.heap.objs.size v) (fun _ s2 => Q (.ref s.heap.objs.size) s2) E s') E { s with heap := s.heap.push { cls := .type "set", dict := none, data := .set #[] 0 (.fresh 0 0 (!w.params.followText "set-order")) } }) :
    wpAny (model P w) A (setDisplay .oneByOne b [(false, t)]) Q E s := by
  unfold setDisplay
  try dsimp only
  rw [if_neg (by decide)]
  refine wpAny_bind (newSet_led ?_)
  dsimp only
  have e1 : (if ([(false, t)] : List (Bool × Sem Value)).length > 30 then 0 else (List.findIdx? (fun x => x.fst) [(false, t)]).getD ([(false, t)] : List (Bool × Sem Value)).length) = 1 := rfl
  rw [e1]
  refine wpAny_bind (wpAny_holding ?_)
  refine wpAny_bind (m := evalAll [t]) ?_
  refine wpAny_bind (wpAny_mono h (fun v s' h' => ?_) fun _ _ x => x)
  refine wpAny_bind (wpAny_holding (wpAny_pure ?_))
  refine wpAny_pure ?_
  refine wpAny_bind (wpAny_holding ?_)
  rw [List.forIn_cons]
  refine wpAny_bind (wpAny_bind (wpAny_bind (wpAny_mono h' (fun _ s2 h2 => ?_) fun _ _ x => x)))
  refine wpAny_pure ?_
  dsimp only
  rw [List.forIn_nil]
  refine wpAny_pure ?_
  rw [if_neg (by decide)]
  refine wpAny_pure ?_
  rw [show ([(false, t)] : List (Bool × Sem Value)).drop 1 = [] from rfl, List.forIn_nil]
  exact wpAny_pure (wpAny_pure h2)
theorem setAdd1 {a : Addr} {S : Int → Bool} {n : Nat} {k : Int} {tk : Tok} {Q : Bool → Shared → Prop} (R : SetR w s.heap a S n) (room : n + 1 < scanBound)
    (hQ : ∀ h', Heap.SameBut a s.heap h' → SetR w h' a (fun j => S j || decide (j = k)) (if S k = true then n else n + 1) → Q (!S k) { s with heap := h', toks := s.toks + 1 }) :
    wpAny (model P w) A (setAdd a (.int k tk)) Q E s := by
  unfold setAdd
  refine wpAny_holding ?_
  refine wpAny_bind ((intKind P w).pyHash (intKind_is P w k tk) ?_)
  exact setR_add_hashed (s := { s with toks := s.toks + 1 }) R room fun h' sb r => hQ h' sb r
end
def tSet1 (w : World) (t : TE) : TE := fun σ H Q => ∀ p, H p = none → t σ (upd H p (SetO w p (fun _ => false) 0)) fun x H1 => ∃ k : Int, x = .int k ∧ H1 p = some (SetO w p (fun _ => false) 0) ∧ Q (.ref p) (upd H1 p (SetO w p (fun j => decide (j = k)) 1))
variable {X : Cx} {e : Expr} {t : TE} {pos : Pos}
/-- {e}, one whole number -/
theorem pe_set1 (he : PE X e t) (hcd : PySem.W.kdsCode X.K X.env.code = true) (hst : starEach [e] X.env = [(false, eval e X.env)] := by rfl) : PE X (.Set [e] 0 pos) (tSet1 X.w t) := by
  refine ⟨fun pins s σ H Q I h => ?_⟩
  rw [arm_eval_Set]
  refine wpAny_bind (wpAny_standAt ?_)
  refine wpAny_bind (PySem.W.kds_main I.kIn hcd fun b => ?_)
  rw [hst]
  refine display1 ?_
  have new := setR_fresh (h := s.heap) X.w
  have I1 : Inv X pins σ (upd H s.heap.objs.size (SetO X.w s.heap.objs.size (fun _ => false) 0)) { s with heap := s.heap.push { cls := .type "set", dict := none, data := .set #[] 0 (.fresh 0 0 (!X.w.params.followText "set-order")) } } :=
    I.laid (t' := s.toks) (fun b u e => Heap.get?_push_of_some _ e) (Nat.le_refl _) (setO_new new)
  refine wpAny_bind (thn (he.run pins _ σ _ _ I1 (h s.heap.objs.size (I.hok.fresh (Nat.le_refl _)))) fun u s1 ⟨x, H1, I2, r1, k, ex, hp, q⟩ => ?_)
  subst ex
  obtain ⟨tk, rfl⟩ := r1
  refine wpAny_bind (wpAny_standAt (wpAny_pure ?_))
  have R := setO_get I2 hp
  refine setAdd1 R (by decide) fun h' sb r => ?_
  have r' : SetR X.w h' s.heap.objs.size (fun j => decide (j = k)) 1 := by
    have e1 : (fun j => (fun _ => false) j || decide (j = k)) = fun j => decide (j = k) := by funext j; exact Bool.false_or _
    rw [e1, if_neg Bool.false_ne_true] at r
    exact r
  have he' : ∃ u, h'.get? s.heap.objs.size = some u := by
    have ⟨o, _, _, _, ho, _⟩ := r'
    exact ⟨o, ho⟩
  exact ⟨.ref s.heap.objs.size, upd H1 s.heap.objs.size (SetO X.w s.heap.objs.size (fun j => decide (j = k)) 1), I2.write (e := s.heap.objs.size) (t' := s1.toks + 1) (by rw [hp]; trivial) (.inl rfl) (fun b u hb hu => (sb.2 b hb).trans hu) he' (setO_new r'), rfl, q⟩

def rLen (K : PySem.W.Frag) : List V → Hp → VK → Prop := fun xs H Q => ∃ p ys, xs = [V.ref p] ∧ (SqL K H p ys ∨ SqT K H p ys) ∧ Q (.int (ys.length : Nat)) H
theorem u65 {k : Nat} {A : Around} (r : Room k A) : A.units + 65 < cLine := by have := r.un; omega
/-- a statement's reading, held together -/
def hold (t : TS) : TS := fun D σ H => t D σ H
theorem keep {X : Cx} {st : Stmt} {t : TS} (h : PS X st t) : PS X st (hold t) := h
/-- what is never come to -/
theorem pss_void {X : Cx} {l : List Stmt} : PSs X l (fun _ _ _ => False) := ⟨fun _ _ _ _ _ _ h => h.elim⟩
/-! ### defs whose code object is asked -/
section
variable {P : Program} {w : World} {K : PySem.W.Frag} {mg : Str → Option Value} {base : Heap} {CX : CXT} {j k : Nat} {x m qual : Str} {st : Stmt} {ps N : List Str} {sp : Sp} {C : Addr}
theorem okC (D : Fd.Def K mg x st ps) (S : FnScope N ps (defScope st)) (len : ∀ vs H Q E, sp vs H Q E → vs.length = ps.length)
    (body : ∀ (f : Addr) (cdv : Value) (A : Around) (outer : List Env) (s : Shared) (H : Hp) (vs : List V) (Q : VK) (E : XK), PySem.W.kdsCode K cdv = true → Room k (A.deeper (envOfC x (defScope st) s.heap.objs.size f cdv)) → sp vs H Q E →
      ∃ t, PSs (cxOf CX0 P w K mg base N x (defScope st) f cdv A outer s H E).nox (defBody st) t ∧ t { nx := fun _ H' => Q .non H', rt := Q } (start N vs) H) : Fd.Has P w K mg base CX0 (k + 1) x ps sp := by
  obtain ⟨f, fd, a, F, b⟩ := D
  refine ⟨f, fd, a, F.kp, b, ?_⟩
  obtain ⟨oc, od, kV, doc, pm, an, cdv, ct, osl, rfl, lk, hcd⟩ := F.ex
  refine fn_of lk hcd S len fun A outer s H vs Q E hr hsp => ?_
  obtain ⟨t, h, q⟩ := body f cdv A outer s H vs Q E (kdsCode_of hcd) hr hsp
  exact ⟨t, h.nox, q⟩
theorem okNC (D : Fd.Def K mg x st ps) (S : FnScope N ps (defScope st)) (len : ∀ vs H Q E, sp vs H Q E → vs.length = ps.length)
    (body : ∀ (f : Addr) (cdv : Value) (A : Around) (outer : List Env) (s : Shared) (H : Hp) (vs : List V) (Q : VK) (E : XK), PySem.W.kdsCode K cdv = true → Room k (A.deeper (envOfC x (defScope st) s.heap.objs.size f cdv)) → sp vs H Q E →
      ∃ t, PSs (cxOf (L2N.CX P w) P w K mg base N x (defScope st) f cdv A outer s H E) (defBody st) t ∧ t { nx := fun _ H' => Q .non H', rt := Q } (start N vs) H) : Fd.Has P w K mg base (L2N.CX P w) (k + 1) x ps sp := by
  obtain ⟨f, fd, a, F, b⟩ := D
  refine ⟨f, fd, a, F.kp, b, ?_⟩
  obtain ⟨oc, od, kV, doc, pm, an, cdv, ct, osl, rfl, lk, hcd⟩ := F.ex
  exact fn_of lk hcd S len fun A outer s H vs Q E hr hsp => body f cdv A outer s H vs Q E (kdsCode_of hcd) hr hsp
end
end Sd

namespace Od
open PySem PySem.Spec PyProof.Rows L2
abbrev St := L2.St
def top (i : Nat) : Stmt := PySem.Challenge.pw_oddpairs_k01_nets.main.body.getD i (.Pass ⟨0, 0, 0, 0⟩)
abbrev S_is_number : Stmt := top 11
abbrev N_is_number : List Str := ["thing"]
theorem sc_is_number : FnScope N_is_number ["thing"] (defScope S_is_number) := ⟨rfl, rfl, rfl, by decide +kernel, rfl, by decide +kernel, by decide +kernel⟩
abbrev S_is_place : Stmt := top 12
abbrev N_is_place : List Str := ["thing", "size"]
theorem sc_is_place : FnScope N_is_place ["thing", "size"] (defScope S_is_place) := ⟨rfl, rfl, rfl, by decide +kernel, rfl, by decide +kernel, by decide +kernel⟩
abbrev S_is_tie : Stmt := top 13
abbrev N_is_tie : List Str := ["thing", "size", "one", "other"]
theorem sc_is_tie : FnScope N_is_tie ["thing", "size"] (defScope S_is_tie) := ⟨rfl, rfl, rfl, by decide +kernel, rfl, by decide +kernel, by decide +kernel⟩
abbrev S_rising_ties : Stmt := top 14
abbrev N_rising_ties : List Str := ["size", "ties", "seen", "tie", "one", "other"]
theorem sc_rising_ties : FnScope N_rising_ties ["size", "ties"] (defScope S_rising_ties) := ⟨rfl, rfl, rfl, by decide +kernel, rfl, by decide +kernel, by decide +kernel⟩
abbrev S_neighbours : Stmt := top 15
abbrev N_neighbours : List Str := ["size", "ties", "near", "one", "other", "_"]
theorem sc_neighbours : FnScope N_neighbours ["size", "ties"] (defScope S_neighbours) := ⟨rfl, rfl, rfl, by decide +kernel, rfl, by decide +kernel, by decide +kernel⟩
abbrev S_Net___init__ : Stmt := inClass (top 16) 0
abbrev N_Net___init__ : List Str := ["self", "size", "ties"]
theorem sc_Net___init__ : FnScope N_Net___init__ ["self", "size", "ties"] (defScope S_Net___init__) := ⟨rfl, rfl, rfl, by decide +kernel, rfl, by decide +kernel, by decide +kernel⟩
abbrev S_Net_ties : Stmt := inClass (top 16) 1
abbrev N_Net_ties : List Str := ["self"]
theorem sc_Net_ties : FnScope N_Net_ties ["self"] (defScope S_Net_ties) := ⟨rfl, rfl, rfl, by decide +kernel, rfl, by decide +kernel, by decide +kernel⟩
abbrev S_Net_beside : Stmt := inClass (top 16) 2
abbrev N_Net_beside : List Str := ["self", "place"]
theorem sc_Net_beside : FnScope N_Net_beside ["self", "place"] (defScope S_Net_beside) := ⟨rfl, rfl, rfl, by decide +kernel, rfl, by decide +kernel, by decide +kernel⟩
abbrev S__law_sole : Stmt := top 18
abbrev N__law_sole : List Str := ["_law_error", "_law_many"]
theorem sc__law_sole : FnScope N__law_sole ["_law_error"] (defScope S__law_sole) := ⟨rfl, rfl, rfl, by decide +kernel, rfl, by decide +kernel, by decide +kernel⟩
abbrev S__law_whole : Stmt := top 19
abbrev N__law_whole : List Str := ["_law_found"]
theorem sc__law_whole : FnScope N__law_whole ["_law_found"] (defScope S__law_whole) := ⟨rfl, rfl, rfl, by decide +kernel, rfl, by decide +kernel, by decide +kernel⟩
abbrev S__law_cell_at : Stmt := top 20
abbrev N__law_cell_at : List Str := ["_law_script", "_law_k"]
theorem sc__law_cell_at : FnScope N__law_cell_at ["_law_script", "_law_k"] (defScope S__law_cell_at) := ⟨rfl, rfl, rfl, by decide +kernel, rfl, by decide +kernel, by decide +kernel⟩
abbrev S__law_tied : Stmt := top 21
abbrev N__law_tied : List Str := ["_law_kind", "_law_cell", "_law_one", "_law_other", "_law_size"]
theorem sc__law_tied : FnScope N__law_tied ["_law_kind", "_law_cell", "_law_one", "_law_other", "_law_size"] (defScope S__law_tied) := ⟨rfl, rfl, rfl, by decide +kernel, rfl, by decide +kernel, by decide +kernel⟩
abbrev S__law_ties_by : Stmt := top 22
abbrev N__law_ties_by : List Str := ["_law_script", "_law_size", "_law_kind", "_law_found", "_law_one", "_law_other", "_law_at", "_law_cell"]
theorem sc__law_ties_by : FnScope N__law_ties_by ["_law_script", "_law_size", "_law_kind"] (defScope S__law_ties_by) := ⟨rfl, rfl, rfl, by decide +kernel, rfl, by decide +kernel, by decide +kernel⟩
abbrev S__law_size_by : Stmt := top 23
abbrev N__law_size_by : List Str := ["_law_script", "_law_bound"]
theorem sc__law_size_by : FnScope N__law_size_by ["_law_script", "_law_bound"] (defScope S__law_size_by) := ⟨rfl, rfl, rfl, by decide +kernel, rfl, by decide +kernel, by decide +kernel⟩
abbrev S__law_kind_by : Stmt := top 24
abbrev N__law_kind_by : List Str := ["_law_script"]
theorem sc__law_kind_by : FnScope N__law_kind_by ["_law_script"] (defScope S__law_kind_by) := ⟨rfl, rfl, rfl, by decide +kernel, rfl, by decide +kernel, by decide +kernel⟩
abbrev S__law_great : Stmt := top 25
abbrev N__law_great : List Str := ["_law_script"]
theorem sc__law_great : FnScope N__law_great ["_law_script"] (defScope S__law_great) := ⟨rfl, rfl, rfl, by decide +kernel, rfl, by decide +kernel, by decide +kernel⟩
abbrev S__law_net_by : Stmt := top 26
abbrev N__law_net_by : List Str := ["_law_script", "_law_bound", "_law_size", "_law_kind"]
theorem sc__law_net_by : FnScope N__law_net_by ["_law_script", "_law_bound"] (defScope S__law_net_by) := ⟨rfl, rfl, rfl, by decide +kernel, rfl, by decide +kernel, by decide +kernel⟩
abbrev S__law_mixed : Stmt := top 27
abbrev N__law_mixed : List Str := ["_law_row", "_law_cell", "_law_found", "_law_k", "_law_thing"]
theorem sc__law_mixed : FnScope N__law_mixed ["_law_row", "_law_cell"] (defScope S__law_mixed) := ⟨rfl, rfl, rfl, by decide +kernel, rfl, by decide +kernel, by decide +kernel⟩
abbrev S__law_refused : Stmt := top 28
abbrev N__law_refused : List Str := ["_law_size", "_law_ties", "_law_error"]
theorem sc__law_refused : FnScope N__law_refused ["_law_size", "_law_ties"] (defScope S__law_refused) := ⟨rfl, rfl, rfl, by decide +kernel, rfl, by decide +kernel, by decide +kernel⟩
abbrev S__law_no_place : Stmt := top 29
abbrev N__law_no_place : List Str := ["_law_net", "_law_place", "_law_error"]
theorem sc__law_no_place : FnScope N__law_no_place ["_law_net", "_law_place"] (defScope S__law_no_place) := ⟨rfl, rfl, rfl, by decide +kernel, rfl, by decide +kernel, by decide +kernel⟩
abbrev S__law_wrong : Stmt := top 30
abbrev N__law_wrong : List Str := ["_law_script", "_law_size", "_law_ties", "_law_cell", "_law_first", "_law_wrong_here", "_law_at"]
theorem sc__law_wrong : FnScope N__law_wrong ["_law_script", "_law_size", "_law_ties"] (defScope S__law_wrong) := ⟨rfl, rfl, rfl, by decide +kernel, rfl, by decide +kernel, by decide +kernel⟩
abbrev S__law_beside : Stmt := top 31
abbrev N__law_beside : List Str := ["_law_net", "_law_size", "_law_ties", "_law_place", "_law_due", "_law_found", "_law_one", "_law_other"]
theorem sc__law_beside : FnScope N__law_beside ["_law_net", "_law_size", "_law_ties"] (defScope S__law_beside) := ⟨rfl, rfl, rfl, by decide +kernel, rfl, by decide +kernel, by decide +kernel⟩
abbrev S_law : Stmt := top 32
abbrev N_law : List Str := ["_law_script", "_law_size", "_law_ties", "_law_handed", "_law_kept", "_law_net", "_law_found", "_law_tie"]
theorem sc_law : FnScope N_law ["_law_script"] (defScope S_law) := ⟨rfl, rfl, rfl, by decide +kernel, rfl, by decide +kernel, by decide +kernel⟩

/-! ### kinds of values -/
inductive Ty | non | bool | int | str | list | tuple | dict
  deriving DecidableEq
def Ty.nm : Ty → String
  | .non => "NoneType" | .bool => "bool" | .int => "int" | .str => "str" | .list => "list" | .tuple => "tuple" | .dict => "dict"
inductive Kd (H : Hp) : V → Ty → Prop
  | non : Kd H .non .non
  | bl (b : Bool) : Kd H (.bl b) .bool
  | int (i : Int) : Kd H (.int i) .int
  | str (x : Str) : Kd H (.str x) .str
  | lst {a : Addr} {xs : List V} (e : H a = some (.lst xs)) : Kd H (.ref a) .list
  | tup {a : Addr} {xs : List V} (e : H a = some (.tup xs)) : Kd H (.ref a) .tuple
  | dct {a : Addr} {kvs : List (Key × V)} (e : H a = some (.dK kvs)) : Kd H (.ref a) .dict
theorem Kd.tyx {K : PySem.W.Frag} {H : Hp} {x : V} {t : Ty} (k : Kd H x t) : TyX K H x (.type t.nm) := by
  cases k with
  | non => exact .base .non
  | bl b => exact .base (.bl b)
  | int i => exact .base (.int i)
  | str x => exact .base (.str x)
  | lst e => exact .base (.lst e)
  | tup e => exact .base (.tup e)
  | dct e => exact .base (.dK e)
theorem Kd.ex {H H' : Hp} {x : V} {t : Ty} (k : Kd H x t) (e : Same H H') : Kd H' x t := by
  cases k with
  | non => exact .non
  | bl b => exact .bl b
  | int i => exact .int i
  | str x => exact .str x
  | lst h => exact .lst (e _ _ h)
  | tup h => exact .tup (e _ _ h)
  | dct h => exact .dct (e _ _ h)
theorem kit_int (t : Ty) : kitB t.nm "int" = some (t = .int || t = .bool) := by cases t <;> decide +kernel
theorem kit_bool (t : Ty) : kitB t.nm "bool" = some (decide (t = .bool)) := by cases t <;> decide +kernel
theorem kit_tuple (t : Ty) : kitB t.nm "tuple" = some (decide (t = .tuple)) := by cases t <;> decide +kernel
theorem kit_list (t : Ty) : kitB t.nm "list" = some (decide (t = .list)) := by cases t <;> decide +kernel
/-- isinstance(x, c), the reading -/
theorem isi {K : PySem.W.Frag} {H : Hp} {x : V} {t : Ty} {c : String} {b : Bool} {Q : VK} (k : Kd H x t) (h : kitB t.nm c = some b) (q : Q (.bl b) H) : rIsi K [x, .ty c] H Q :=
  ⟨x, .ty c, .type t.nm, .type c, b, rfl, ClsV.ty c, k.tyx, kit_ty h, q⟩

/-! ### what the top has left -/
/-- what a class of errors must have, to be raised -/
structure Er (K : PySem.W.Frag) (mg : Str → Option Value) (x : Str) (C : Addr) : Prop where
  c : mg x = some (.ref C)
  x : PySem.W.excIn K C [.type "ValueError", .type "Exception", .type "BaseException", .type "object"] "ValueError.__new__" = true
  p : PySem.W.keepIn K (.ref C) = true
  b : PySem.W.subIn K (.ref C) (.type "BaseException") = some true
  t : PySem.W.typeIn K (.ref C) = some (.type "type")
  m : PySem.W.exmOne K (.ref C) (.ref C) = some true
structure Cs where
  (NetError BadNet NoPlace BadPairs BadWay TieThere NoTie OddRing Net : Addr)
/-- D is a class of errors right under NetError, and under no other name -/
structure Leaf (K : PySem.W.Frag) (c : Cs) (D : Addr) : Prop where
  x : ExcC K D
  v : PySem.W.kitOne K (.ref D) (.type "ValueError") = some true
  n : PySem.W.kitOne K (.ref D) (.ref c.NetError) = some true
  l : ∃ b0 b1 b2 b3 b4 b5 b6 : Bool, PySem.W.kitOne K (.ref D) (.ref c.BadNet) = some b0 ∧ PySem.W.kitOne K (.ref D) (.ref c.NoPlace) = some b1 ∧ PySem.W.kitOne K (.ref D) (.ref c.BadPairs) = some b2 ∧ PySem.W.kitOne K (.ref D) (.ref c.BadWay) = some b3 ∧ PySem.W.kitOne K (.ref D) (.ref c.TieThere) = some b4 ∧ PySem.W.kitOne K (.ref D) (.ref c.NoTie) = some b5 ∧ PySem.W.kitOne K (.ref D) (.ref c.OddRing) = some b6 ∧ [b0, b1, b2, b3, b4, b5, b6].count true = 1
structure Top (K : PySem.W.Frag) (mg : Str → Option Value) (c : Cs) : Prop where
  n_isinstance : mg "isinstance" = none
  n_int : mg "int" = none
  n_bool : mg "bool" = none
  n_tuple : mg "tuple" = none
  n_list : mg "list" = none
  n_str : mg "str" = none
  n_len : mg "len" = none
  n_set : mg "set" = none
  n_dict : mg "dict" = none
  n_sorted : mg "sorted" = none
  n_range : mg "range" = none
  n_enumerate : mg "enumerate" = none
  n_zip : mg "zip" = none
  n_all : mg "all" = none
  n_any : mg "any" = none
  n_min : mg "min" = none
  n_max : mg "max" = none
  n_ValueError : mg "ValueError" = none
  e_NetError : Er K mg "NetError" c.NetError
  e_BadNet : Er K mg "BadNet" c.BadNet
  e_NoPlace : Er K mg "NoPlace" c.NoPlace
  e_BadPairs : Er K mg "BadPairs" c.BadPairs
  e_BadWay : Er K mg "BadWay" c.BadWay
  e_TieThere : Er K mg "TieThere" c.TieThere
  e_NoTie : Er K mg "NoTie" c.NoTie
  e_OddRing : Er K mg "OddRing" c.OddRing
  c_Net : mg "Net" = some (.ref c.Net)
  cl_Net : Cls K c.Net
  a_Net_size : NoAttr K c.Net "size"
  a_Net__ties : NoAttr K c.Net "_ties"
  a_Net__near : NoAttr K c.Net "_near"
  l_BadNet : Leaf K c c.BadNet
  l_NoPlace : Leaf K c c.NoPlace
  l_BadPairs : Leaf K c c.BadPairs
  l_BadWay : Leaf K c c.BadWay
  k_MOST_PLACES : ∃ t, mg "MOST_PLACES" = some (.int 40 t)
  d_is_number : Fd.Def K mg "is_number" S_is_number ["thing"]
  d_is_place : Fd.Def K mg "is_place" S_is_place ["thing", "size"]
  d_is_tie : Fd.Def K mg "is_tie" S_is_tie ["thing", "size"]
  d_rising_ties : Fd.Def K mg "rising_ties" S_rising_ties ["size", "ties"]
  d_neighbours : Fd.Def K mg "neighbours" S_neighbours ["size", "ties"]
  d_Net___init__ : Fd.IDef K c.Net "Net.__init__" S_Net___init__ ["self", "size", "ties"]
  d_Net_ties : Fd.MDef K c.Net "ties" "Net.ties" S_Net_ties ["self"]
  d_Net_beside : Fd.MDef K c.Net "beside" "Net.beside" S_Net_beside ["self", "place"]
  d__law_sole : Fd.Def K mg "_law_sole" S__law_sole ["_law_error"]
  d__law_whole : Fd.Def K mg "_law_whole" S__law_whole ["_law_found"]
  d__law_cell_at : Fd.Def K mg "_law_cell_at" S__law_cell_at ["_law_script", "_law_k"]
  d__law_tied : Fd.Def K mg "_law_tied" S__law_tied ["_law_kind", "_law_cell", "_law_one", "_law_other", "_law_size"]
  d__law_ties_by : Fd.Def K mg "_law_ties_by" S__law_ties_by ["_law_script", "_law_size", "_law_kind"]
  d__law_size_by : Fd.Def K mg "_law_size_by" S__law_size_by ["_law_script", "_law_bound"]
  d__law_kind_by : Fd.Def K mg "_law_kind_by" S__law_kind_by ["_law_script"]
  d__law_great : Fd.Def K mg "_law_great" S__law_great ["_law_script"]
  d__law_net_by : Fd.Def K mg "_law_net_by" S__law_net_by ["_law_script", "_law_bound"]
  d__law_mixed : Fd.Def K mg "_law_mixed" S__law_mixed ["_law_row", "_law_cell"]
  d__law_refused : Fd.Def K mg "_law_refused" S__law_refused ["_law_size", "_law_ties"]
  d__law_no_place : Fd.Def K mg "_law_no_place" S__law_no_place ["_law_net", "_law_place"]
  d__law_wrong : Fd.Def K mg "_law_wrong" S__law_wrong ["_law_script", "_law_size", "_law_ties"]
  d__law_beside : Fd.Def K mg "_law_beside" S__law_beside ["_law_net", "_law_size", "_law_ties"]
  d_law : Fd.Def K mg "law" S_law ["_law_script"]
section
variable {P : Program} {w : World} {K : PySem.W.Frag} {mg : Str → Option Value} {c : Cs} {base : Heap}
def isInt : V → Bool
  | .int _ => true
  | _ => false
theorem Kd.int_iff {H : Hp} {x : V} {t : Ty} (k : Kd H x t) : decide (t = .int) = isInt x := by cases k <;> rfl
def spNumber : Sp := fun vs H Q _ => ∃ x t, vs = [x] ∧ Kd H x t ∧ Q (.bl (isInt x)) H
theorem ok_is_number (T : Top K mg c) : Fd.Has P w K mg base CX0 1 "is_number" ["thing"] spNumber := by
  refine T.d_is_number.ok sc_is_number (fun vs H Q E h => ?_) (fun f cdv A outer s H vs Q E hr h => ?_)
  · obtain ⟨x, t, rfl, _⟩ := h; rfl
  · obtain ⟨x, t, rfl, k, q⟩ := h
    refine ⟨_, (pss_one (ps_ret (pe_and (pe_callB (r := rIsi K) call_isi (by rfl) T.n_isinstance boot_isinstance (pa_cons (pv 0) (pa_cons (pe_bltn (v := .ty "int") (by rfl) T.n_int boot_int rfl) pa_nil))) (pe_one (pe_not (pe_callB (r := rIsi K) call_isi (by rfl) T.n_isinstance boot_isinstance (pa_cons (pv 0) (pa_cons (pe_bltn (v := .ty "bool") (by rfl) T.n_bool boot_bool rfl) pa_nil)))))))), ?_⟩
    refine ⟨x, rfl, _, _, _, _, _, rfl, ClsV.ty _, k.tyx, kit_ty (kit_int t), _, rfl, ?_⟩
    have hv := k.int_iff
    by_cases c : (t = .int || t = .bool) = true
    · rw [if_pos c]
      refine ⟨x, rfl, _, _, _, _, _, rfl, ClsV.ty _, k.tyx, kit_ty (kit_bool t), _, rfl, ?_⟩
      show Q (.bl (!decide (t = .bool))) H
      have e : (!decide (t = .bool)) = isInt x := by
        rw [← hv]; revert c; cases t <;> simp
      rw [e]; exact q
    · rw [if_neg c]
      show Q (.bl false) H
      have e : false = isInt x := by
        rw [← hv]; revert c; cases t <;> simp
      rw [e]; exact q
def isPl (x : V) (n : Int) : Bool := match x with
  | .int i => decide (0 ≤ i ∧ i < n)
  | _ => false
def spPlace : Sp := fun vs H Q _ => ∃ x t n, vs = [x, .int n] ∧ Kd H x t ∧ Q (.bl (isPl x n)) H
theorem ok_is_place (T : Top K mg c) : Fd.Has P w K mg base CX0 2 "is_place" ["thing", "size"] spPlace := by
  have G_is_number : Fd.Has P w K mg base CX0 1 "is_number" ["thing"] spNumber := ok_is_number T
  refine T.d_is_place.ok sc_is_place (fun vs H Q E h => ?_) (fun f cdv A outer s H vs Q E hr h => ?_)
  · obtain ⟨x, t, n, rfl, _⟩ := h; rfl
  · obtain ⟨x, t, n, rfl, k, q⟩ := h
    have hr_is_number := hr
    refine ⟨_, (pss_one (ps_ret (pe_and (Fd.pe_f G_is_number hr_is_number (by rfl) (pa_cons (pv 0) pa_nil)) (pe_one (pe_chain op_le op_lt pe_int (pv 0) (pv 1)))))), ?_⟩
    refine ⟨x, rfl, x, t, rfl, k, _, rfl, ?_⟩
    cases x with
    | int i =>
      refine iteT ⟨_, rfl, 0, i, rfl, rfl, _, rfl, ?_⟩
      by_cases c : (0 : Int) ≤ i
      · rw [decide_eq_true c]
        refine iteT ⟨_, rfl, i, n, rfl, rfl, ?_⟩
        have e : isPl (.int i) n = decide (i < n) := by
          show decide (0 ≤ i ∧ i < n) = _
          by_cases d : i < n
          · rw [decide_eq_true d, decide_eq_true ⟨c, d⟩]
          · rw [decide_eq_false d, decide_eq_false fun z => d z.2]
        rw [e] at q; exact q
      · rw [decide_eq_false c]
        refine iteF ?_
        have e : isPl (.int i) n = false := decide_eq_false fun z => c z.1
        rw [e] at q; exact q
    | _ => exact iteF q

/-- the items of a tuple -/
def tupOf (H : Hp) : V → Option (List V)
  | .ref a => match H a with
    | some (.tup xs) => some xs
    | _ => none
  | _ => none
theorem tupOf_tup {H : Hp} {a : Addr} {xs : List V} (e : H a = some (.tup xs)) : tupOf H (.ref a) = some xs := by
  show (match H a with
    | some (.tup xs) => some xs
    | _ => none) = some xs
  rw [e]
theorem tupOf_no {H : Hp} {x : V} {t : Ty} (k : Kd H x t) (h : t ≠ .tuple) : tupOf H x = none := by
  cases k with
  | tup e => exact absurd rfl h
  | lst e => unfold tupOf; simp only [e]
  | dct e => unfold tupOf; simp only [e]
  | _ => rfl
/-- its kind, and the kinds of a tuple's items -/
structure Kt (H : Hp) (x : V) (t : Ty) : Prop where
  kd : Kd H x t
  its : ∀ xs, tupOf H x = some xs → ∀ y ∈ xs, ∃ u, Kd H y u
def ltV : V → V → Bool
  | .int i, .int j => decide (i < j)
  | _, _ => false
def tieOf (n : Int) : List V → Bool
  | [u, v] => isPl u n && (isPl v n && ltV u v)
  | _ => false
def isTie (H : Hp) (x : V) (n : Int) : Bool := match tupOf H x with
  | some xs => tieOf n xs
  | none => false
theorem tieOf_len {n : Int} {xs : List V} (h : xs.length ≠ 2) : tieOf n xs = false := by
  match xs, h with
  | [], _ => rfl
  | [_], _ => rfl
  | [_, _], h => exact absurd rfl h
  | _ :: _ :: _ :: _, _ => rfl
theorem isPl_int {x : V} {n : Int} (h : isPl x n = true) : ∃ i, x = .int i ∧ 0 ≤ i ∧ i < n := by
  cases x with
  | int i => exact ⟨i, rfl, of_decide_eq_true h⟩
  | _ => cases h
def spTie : Sp := fun vs H Q _ => ∃ x t n, vs = [x, .int n] ∧ Kt H x t ∧ Q (.bl (isTie H x n)) H
theorem ok_is_tie (T : Top K mg c) : Fd.Has P w K mg base CX0 3 "is_tie" ["thing", "size"] spTie := by
  have G_is_place : Fd.Has P w K mg base CX0 2 "is_place" ["thing", "size"] spPlace := ok_is_place T
  refine T.d_is_tie.ok sc_is_tie (fun vs H Q E h => ?_) (fun f cdv A outer s H vs Q E hr h => ?_)
  · obtain ⟨x, t, n, rfl, _⟩ := h; rfl
  · obtain ⟨x, t, n, rfl, k, q⟩ := h
    have hr_is_place := hr
    refine ⟨_, (pss_cons (ps_if (PW.pt (pw_or (pt_not (pt_val (pe_callB (r := rIsi K) call_isi (by rfl) T.n_isinstance boot_isinstance (pa_cons (pv 0) (pa_cons (pe_bltn (v := .ty "tuple") (by rfl) T.n_tuple boot_tuple rfl) pa_nil))))) (pw_or1 (pt_cmpR op_ne (pe_callB call_len_seq (by rfl) T.n_len boot_len (pa_cons (pv 0) pa_nil)) pe_int (nomark _)))))
      (pss_one (ps_ret pe_bl))
      pss_nil)
      (pss_cons (ps_asg (pv 0) (pg_tup rfl (pgs_cons (pg_name (i := 2) sc_is_tie.nd rfl (Or.inl rfl)) (pgs_cons (pg_name (i := 3) sc_is_tie.nd rfl (Or.inl rfl)) pgs_nil))))
      (pss_one (ps_ret (pe_and (Fd.pe_f G_is_place hr_is_place (by rfl) (pa_cons (pv 2) (pa_cons (pv 1) pa_nil))) (pe_and (Fd.pe_f G_is_place hr_is_place (by rfl) (pa_cons (pv 3) (pa_cons (pv 1) pa_nil))) (pe_one (pe_cmpR op_lt (pv 2) (pv 3) (nomark _))))))))), ?_⟩
    refine ⟨x, rfl, _, _, _, _, _, rfl, ClsV.ty _, k.kd.tyx, kit_ty (kit_tuple t), _, rfl, ?_⟩
    by_cases c : t = .tuple
    · subst c
      rw [decide_eq_true rfl]
      refine iteF ?_
      have kd := k.kd
      cases kd with
      | @tup a xs e =>
      have eT := tupOf_tup e
      refine ⟨_, rfl, a, xs, rfl, .inr (SqT.of e), rfl, _, rfl, ?_⟩
      by_cases d : xs.length = 2
      · obtain ⟨u, v, rfl⟩ : ∃ u v, xs = [u, v] := by
          match xs, d with
          | [u, v], _ => exact ⟨u, v, rfl⟩
        refine iteF ?_
        obtain ⟨tu, ku⟩ := k.its _ eT u (by simp)
        obtain ⟨tv, kv⟩ := k.its _ eT v (by simp)
        have qe : isTie H (.ref a) n = (isPl u n && (isPl v n && ltV u v)) := by unfold isTie; rw [eT]; rfl
        rw [qe] at q
        refine ⟨_, rfl, a, _, rfl, SqT.of e, rfl, _, _, rfl, _, _, rfl, rfl, _, rfl, _, rfl, u, tu, n, rfl, ku, _, rfl, ?_⟩
        cases hu : isPl u n with
        | false => rw [hu] at q; exact iteF q
        | true =>
          refine iteT ⟨_, rfl, _, rfl, v, tv, n, rfl, kv, _, rfl, ?_⟩
          rw [hu] at q
          cases hv : isPl v n with
          | false => rw [hv] at q; exact iteF q
          | true =>
            obtain ⟨i, rfl, _⟩ := isPl_int hu
            obtain ⟨j, rfl, _⟩ := isPl_int hv
            rw [hv] at q
            exact iteT ⟨_, rfl, _, rfl, i, j, rfl, rfl, q⟩
      · have e1 : decide (V.int (xs.length : Nat) = V.int 2) = false := decide_eq_false fun z => by
          injection z with z; omega
        rw [e1]
        refine iteT ?_
        have qe : isTie H (.ref a) n = false := by unfold isTie; rw [eT]; exact tieOf_len d
        rw [qe] at q
        exact q
    · rw [decide_eq_false c]
      refine iteT ?_
      have qe : isTie H x n = false := by unfold isTie; rw [tupOf_no k.kd c]
      rw [qe] at q
      exact q
end
end Od

namespace Od
open PySem PySem.Spec PyProof.Rows L2
/-! ### ties handed in -/
def listOf (H : Hp) : V → Option (List V)
  | .ref a => match H a with
    | some (.lst xs) => some xs
    | _ => none
  | _ => none
theorem listOf_lst {H : Hp} {a : Addr} {xs : List V} (e : H a = some (.lst xs)) : listOf H (.ref a) = some xs := by
  unfold listOf; simp only [e]
theorem Kd.list_of {H : Hp} {x : V} (k : Kd H x .list) : ∃ a xs, x = .ref a ∧ H a = some (.lst xs) := by
  cases k with
  | lst e => exact ⟨_, _, rfl, e⟩
theorem Kd.tup_of {H : Hp} {x : V} (k : Kd H x .tuple) : ∃ a xs, x = .ref a ∧ H a = some (.tup xs) := by
  cases k with
  | tup e => exact ⟨_, _, rfl, e⟩
theorem listOf_no {H : Hp} {x : V} {t : Ty} (k : Kd H x t) (h : t ≠ .list) : listOf H x = none := by
  cases k with
  | lst e => exact absurd rfl h
  | tup e => unfold listOf; simp only [e]
  | dct e => unfold listOf; simp only [e]
  | _ => rfl
theorem tupOf_ex {H H' : Hp} {x : V} {t : Ty} (k : Kd H x t) (e : Same H H') : tupOf H' x = tupOf H x := by
  cases k with
  | tup h => rw [tupOf_tup h, tupOf_tup (e _ _ h)]
  | lst h => rw [tupOf_no (.lst h) (by decide), tupOf_no (.lst (e _ _ h)) (by decide)]
  | dct h => rw [tupOf_no (.dct h) (by decide), tupOf_no (.dct (e _ _ h)) (by decide)]
  | _ => rfl
theorem Kt.ex {H H' : Hp} {x : V} {t : Ty} (k : Kt H x t) (e : Same H H') : Kt H' x t := by
  refine ⟨k.kd.ex e, fun xs h y hy => ?_⟩
  rw [tupOf_ex k.kd e] at h
  obtain ⟨u, q⟩ := k.its xs h y hy
  exact ⟨u, q.ex e⟩
theorem isTie_ex {H H' : Hp} {x : V} {t : Ty} {n : Int} (k : Kt H x t) (e : Same H H') : isTie H' x n = isTie H x n := by
  unfold isTie; rw [tupOf_ex k.kd e]
abbrev Pr := Int × Int
def plt (p q : Pr) : Prop := p.1 < q.1 ∨ (p.1 = q.1 ∧ p.2 < q.2)
def prl (p : Pr) : List Int := [p.1, p.2]
theorem prl_inj {p q : Pr} (h : prl p = prl q) : p = q := by
  obtain ⟨a, b⟩ := p; obtain ⟨c, d⟩ := q
  injection h with h1 h2; injection h2 with h2 _
  cases h1; cases h2; rfl
def prOf (H : Hp) (x : V) : Pr := match tupOf H x with
  | some [.int i, .int j] => (i, j)
  | _ => (0, 0)
/-- a pair that is a tie in a net of size n -/
def Tie (n : Int) (p : Pr) : Prop := 0 ≤ p.1 ∧ p.1 < p.2 ∧ p.2 < n
theorem isTie_iff {H : Hp} {x : V} {n : Int} (h : isTie H x n = true) : tupOf H x = some [.int (prOf H x).1, .int (prOf H x).2] ∧ Tie n (prOf H x) := by
  unfold isTie at h
  cases e : tupOf H x with
  | none => rw [e] at h; cases h
  | some xs =>
    rw [e] at h
    match xs, h with
    | [u, v], h =>
      have h' : (isPl u n && (isPl v n && ltV u v)) = true := h
      rw [Bool.and_eq_true, Bool.and_eq_true] at h'
      obtain ⟨h1, h2, h3⟩ := h'
      obtain ⟨i, rfl, a, b⟩ := isPl_int h1
      obtain ⟨j, rfl, c, d⟩ := isPl_int h2
      have f : prOf H x = (i, j) := by unfold prOf; rw [e]
      rw [f]
      exact ⟨rfl, a, of_decide_eq_true h3, d⟩
theorem isTie_of {H : Hp} {x : V} {n : Int} {i j : Int} (e : tupOf H x = some [.int i, .int j]) (h : Tie n (i, j)) : isTie H x n = true ∧ prOf H x = (i, j) := by
  obtain ⟨a, b, c⟩ := h
  simp only at a b c
  constructor
  · unfold isTie; rw [e]
    show (decide (0 ≤ i ∧ i < n) && (decide (0 ≤ j ∧ j < n) && decide (i < j))) = true
    rw [decide_eq_true ⟨a, by omega⟩, decide_eq_true ⟨by omega, c⟩, decide_eq_true b]; rfl
  · unfold prOf; rw [e]
structure Kl (H : Hp) (x : V) (t : Ty) : Prop where
  kd : Kd H x t
  its : ∀ xs, listOf H x = some xs → ∀ y ∈ xs, ∃ u, Kt H y u
structure OkTies (H : Hp) (n : Int) (xs : List V) : Prop where
  all : ∀ y ∈ xs, isTie H y n = true
  one : (xs.map (prOf H)).Nodup
/-- us are new tuples, the pairs ts -/
def NewPrs (H H' : Hp) (us : List V) (ts : List Pr) : Prop := Paired (fun u (p : Pr) => ∃ a, u = V.ref a ∧ H a = none ∧ H' a = some (.tup [.int p.1, .int p.2])) us ts
def spRising (C : Addr) : Sp := fun vs H Q E => ∃ n x t, vs = [.int n, x] ∧ n ≤ 40 ∧ Kl H x t ∧
  ((∃ xs, listOf H x = some xs ∧ OkTies H n xs ∧ ∀ (ts : List Pr) p us H', ts.Perm (xs.map (prOf H)) → ts.Pairwise plt → H p = none → Same H H' → H' p = some (.lst us) → NewPrs H H' us ts → Q (.ref p) H') ∨
  ((∀ xs, listOf H x = some xs → ¬ OkTies H n xs) ∧ ∀ H', Same H H' → E (.ref C) none H'))

/-- pairs below forty, each once, are fewer than a thousand -/
theorem few_ties {n : Int} (hn : n ≤ 40) {ps : List Pr} (h : ∀ p ∈ ps, Tie n p) (nd : ps.Nodup) : ps.length ≤ 800 := by
  let c1 : Pr → Nat := fun p => p.1.toNat * 40 + p.2.toNat
  let c2 : Pr → Nat := fun p => p.2.toNat * 40 + p.1.toNat
  have key := nat_nodup_len (ps.map c1 ++ ps.map c2) (List.range 1600) ?_ ?_
  · rw [List.length_append, List.length_map, List.length_map, List.length_range] at key
    omega
  · refine List.nodup_append.mpr ⟨List.pairwise_map.mpr (List.Pairwise.imp_of_mem (fun {p q} hp hq ne e => ?_) nd), List.pairwise_map.mpr (List.Pairwise.imp_of_mem (fun {p q} hp hq ne e => ?_) nd), fun x hx y hy e => ?_⟩
    · obtain ⟨a, b, c⟩ := h p hp
      obtain ⟨a', b', c'⟩ := h q hq
      have e' : p.1.toNat * 40 + p.2.toNat = q.1.toNat * 40 + q.2.toNat := e
      exact ne (Prod.ext (by omega) (by omega))
    · obtain ⟨a, b, c⟩ := h p hp
      obtain ⟨a', b', c'⟩ := h q hq
      have e' : p.2.toNat * 40 + p.1.toNat = q.2.toNat * 40 + q.1.toNat := e
      exact ne (Prod.ext (by omega) (by omega))
    · obtain ⟨p, hp, rfl⟩ := List.mem_map.mp hx
      obtain ⟨q, hq, rfl⟩ := List.mem_map.mp hy
      obtain ⟨a, b, c⟩ := h p hp
      obtain ⟨a', b', c'⟩ := h q hq
      have e' : p.1.toNat * 40 + p.2.toNat = q.2.toNat * 40 + q.1.toNat := e
      omega
  · intro x hx
    rw [List.mem_range]
    rcases List.mem_append.mp hx with z | z
    · obtain ⟨p, hp, rfl⟩ := List.mem_map.mp z
      obtain ⟨a, b, c⟩ := h p hp
      show p.1.toNat * 40 + p.2.toNat < 1600
      omega
    · obtain ⟨p, hp, rfl⟩ := List.mem_map.mp z
      obtain ⟨a, b, c⟩ := h p hp
      show p.2.toNat * 40 + p.1.toNat < 1600
      omega
theorem Same.new {H : Hp} {p : Addr} {o : HO} (h : H p = none) : Same H (upd H p o) := fun a u e => by
  rw [upd_ne (ne_of_none e h)]; exact e
theorem Same.mut {H H' : Hp} {p : Addr} {o : HO} (e : Same H H') (h : H p = none) : Same H (upd H' p o) := fun a u ha => by
  rw [upd_ne (ne_of_none ha h)]; exact e a u ha

section
variable {P : Program} {w : World} {K : PySem.W.Frag} {mg : Str → Option Value} {c : Cs} {base : Heap}
theorem ok_rising_ties (T : Top K mg c) : Fd.Has P w K mg base (L2N.CX P w) 4 "rising_ties" ["size", "ties"] (spRising c.BadNet) := by
  have G_is_tie : Fd.Has P w K mg base CX0 3 "is_tie" ["thing", "size"] spTie   := ok_is_tie T
  refine T.d_rising_ties.okN sc_rising_ties (fun vs H Q E h => ?_) (fun f cdv A outer s H vs Q E hr h => ?_)
  · obtain ⟨n, x, t, rfl, _⟩ := h; rfl
  · obtain ⟨n, x, t, rfl, hn, k, hres⟩ := h
    have hr_is_tie := hr
    refine ⟨_, (pss_cons (ps_if (pt_not (pt_val (pe_callB (r := rIsi K) call_isi (by rfl) T.n_isinstance boot_isinstance (pa_cons (pv 1) (pa_cons (pe_bltn (v := .ty "list") (by rfl) T.n_list boot_list rfl) pa_nil)))))
      (pss_one (L2N.ps_raise rfl (L2N.takes_of rfl rfl rfl rfl) (L2N.pmk_own PySem.F.excBase_ValueError T.e_BadNet.x T.e_BadNet.c T.e_BadNet.p (raises_own T.e_BadNet.b T.e_BadNet.t) (by rfl))))
      pss_nil)
      (pss_cons (ps_set (i := 2) sc_rising_ties.nd rfl (Or.inl rfl) (pe_callTy0 Bs.cr_new (by rfl) T.n_set boot_set))
      (pss_cons (ps_for (L2.passes_of rfl) rfl (pi_list (pv 1)) (pg_name (i := 3) sc_rising_ties.nd rfl (Or.inl rfl))
      (pss_cons (ps_if (pt_not (pt_val (Fd.pe_f G_is_tie hr_is_tie (by rfl) (pa_cons (pv 3) (pa_cons (pv 0) pa_nil)))))
        (pss_one (L2N.ps_raise rfl (L2N.takes_of rfl rfl rfl rfl) (L2N.pmk_own PySem.F.excBase_ValueError T.e_BadNet.x T.e_BadNet.c T.e_BadNet.p (raises_own T.e_BadNet.b T.e_BadNet.t) (by rfl))))
        pss_nil)
        (pss_cons (ps_asg (pv 3) (pg_tup rfl (pgs_cons (pg_name (i := 4) sc_rising_ties.nd rfl (Or.inl rfl)) (pgs_cons (pg_name (i := 5) sc_rising_ties.nd rfl (Or.inl rfl)) pgs_nil))))
        (pss_cons (ps_if (pt_cmpR (Bs.or_in hr.units) (pe_tup (pa_cons (pv 4) (pa_cons (pv 5) pa_nil))) (pv 2) (by rfl))
        (pss_one (L2N.ps_raise rfl (L2N.takes_of rfl rfl rfl rfl) (L2N.pmk_own PySem.F.excBase_ValueError T.e_BadNet.x T.e_BadNet.c T.e_BadNet.p (raises_own T.e_BadNet.b T.e_BadNet.t) (by rfl))))
        pss_nil)
        (pss_one (ps_expr (Bs.pe_add hr.units (pv 2) (pa_cons (pe_tup (pa_cons (pv 4) (pa_cons (pv 5) pa_nil))) pa_nil))))))))
      (pss_one (ps_ret (pe_callB (Bs.cr_sorted rfl) (by rfl) T.n_sorted boot_sorted (pa_cons (pv 2) pa_nil))))))), ?_⟩
    have bad : ∀ H', Same H H' → (∀ xs, listOf H x = some xs → ¬ OkTies H n xs) → E (.ref c.BadNet) none H' := fun H' s5 z => by
      rcases hres with ⟨xs, e, ok, _⟩ | ⟨_, q⟩
      · exact absurd ok (z xs e)
      · exact q H' s5
    refine ⟨x, rfl, _, _, _, _, _, rfl, ClsV.ty _, k.kd.tyx, kit_ty (kit_list t), _, rfl, ?_⟩
    by_cases ct : t = .list
    · subst ct
      rw [decide_eq_true rfl]
      refine iteF ?_
      obtain ⟨a, xs, rfl, ea⟩ := k.kd.list_of
      have eL := listOf_lst ea
      refine ⟨rfl, fun p hp => ?_⟩
      refine ⟨_, rfl, a, rfl, ⟨xs, SqL.of ((Same.new hp) _ _ ea)⟩, for_list (K := K) (a := a) (xs := xs) (fun i σ Hc => ∃ v3 v4 v5 L, σ = [some (.int n), some (.ref a), some (.ref p), v3, v4, v5] ∧ Same H Hc ∧ Hc p = some (Bs.SO P w p L) ∧ Bs.Tups K Hc L ∧ (∀ q ∈ L, H q.1 = none ∧ Hc q.1 = some (.tup (q.2.map V.int))) ∧
          (L.map (·.2)).Perm ((xs.take i).map fun y => prl (prOf H y)) ∧ OkTies H n (xs.take i))
        ⟨none, none, none, [], rfl, Same.new hp, upd_same, fun q z => (by cases z), fun q z => (by cases z), List.Perm.refl _, ⟨fun y z => (by cases z), List.nodup_nil⟩⟩ (fun i σ Hc _ ⟨_, _, _, _, _, s5, _⟩ => s5.seq (SqL.of ea)) ?_ ?_⟩
      · rintro i y σ Hc hi ⟨v3, v4, v5, L, rfl, s5, hp5, tp, fr, pm, ok⟩
        have hm : y ∈ xs := List.mem_of_getElem? hi
        obtain ⟨u, ky⟩ := k.its xs eL y hm
        have tk : xs.take (i + 1) = xs.take i ++ [y] := by rw [List.take_succ, hi]; rfl
        refine ⟨_, rfl, _, rfl, y, u, n, rfl, ky.ex s5, _, rfl, ?_⟩
        rw [isTie_ex ky s5]
        cases ht : isTie H y n with
        | false =>
          refine iteT ?_
          exact bad Hc s5 fun xs' e o => by
            rw [eL] at e; cases e
            rw [o.all y hm] at ht; cases ht
        | true =>
          refine iteF ?_
          obtain ⟨ey, hty⟩ := isTie_iff ht
          obtain ⟨b, bs, rfl, eb⟩ : ∃ b bs, y = .ref b ∧ H b = some (.tup bs) := by
            cases ky.kd with
            | @tup b bs e => exact ⟨b, bs, rfl, e⟩
            | lst e => rw [tupOf_no (.lst e) (by decide)] at ey; cases ey
            | dct e => rw [tupOf_no (.dct e) (by decide)] at ey; cases ey
            | _ => cases ey
          rw [tupOf_tup eb] at ey
          cases ey
          generalize hpr : prOf H (.ref b) = pr at eb hty
          refine ⟨_, rfl, b, _, rfl, SqT.of (s5 _ _ eb), rfl, _, _, rfl, _, _, rfl, rfl, ?_⟩
          refine ⟨_, rfl, _, rfl, (by show 2 ≤ sizeLine; decide), fun q hq => ?_⟩
          have npq : p ≠ q := ne_of_none hp5 hq
          have keep : ∀ {q' : Addr} {o : HO}, Hc q' = none → Bs.Tups K (upd Hc q' o) L := fun {q' o} hq' z hz => by
            have h1 := tp z hz
            obtain ⟨_, h2⟩ := fr z hz
            rcases h1 with (h1 | ⟨o', h1⟩) | h1
            · exact .inl (.inl (by rw [upd_ne (ne_of_none h1 hq')]; exact h1))
            · exact .inl (.inr ⟨o', by rw [upd_ne (ne_of_none h1 hq')]; exact h1⟩)
            · exact .inr h1
          refine ⟨_, rfl, q, prl pr, p, L, rfl, rfl, SqT.of upd_same, by rw [upd_ne npq]; exact hp5, keep hq, _, rfl, ?_⟩
          rw [Bool.false_xor]
          have inL : prl pr ∈ L.map (·.2) ↔ pr ∈ (xs.take i).map (prOf H) := by
            rw [pm.mem_iff]
            constructor
            · intro z
              obtain ⟨z1, h1, h2⟩ := List.mem_map.mp z
              exact List.mem_map.mpr ⟨z1, h1, prl_inj h2⟩
            · intro z
              obtain ⟨z1, h1, h2⟩ := List.mem_map.mp z
              exact List.mem_map.mpr ⟨z1, h1, congrArg prl h2⟩
          by_cases hin : prl pr ∈ L.map (·.2)
          · rw [decide_eq_true hin]
            refine iteT ?_
            refine bad _ (Same.trans s5 (Same.new hq)) fun xs' e o => ?_
            rw [eL] at e; cases e
            have h1 := inL.mp hin
            have h2 := o.one
            rw [← List.take_append_drop i xs, List.map_append] at h2
            have h3 := (List.nodup_append.mp h2).2.2 pr h1 pr (by
              have : (xs.drop i) = (.ref b) :: xs.drop (i + 1) := by
                have hl := (List.getElem?_eq_some_iff.mp hi)
                rw [List.drop_eq_getElem_cons hl.1, hl.2]
              rw [this, List.map_cons, hpr]
              exact List.mem_cons_self)
            exact h3 rfl
          · rw [decide_eq_false hin]
            refine iteF ?_
            have ok' : OkTies H n (xs.take (i + 1)) := by
              rw [tk]
              refine ⟨fun z hz => ?_, ?_⟩
              · rcases List.mem_append.mp hz with z1 | z1
                · exact ok.all z z1
                · rw [List.mem_singleton.mp z1]; exact ht
              · rw [List.map_append]
                refine List.nodup_append.mpr ⟨ok.one, List.pairwise_singleton _ _, fun a' ha' b' hb' e => ?_⟩
                rw [List.map_singleton, List.mem_singleton] at hb'
                rw [hb', hpr] at e
                rw [e] at ha'
                exact hin (inL.mpr ha')
            have pm' : ∀ (q2 : Addr), ((q2, prl pr) :: L).map (·.2) |>.Perm ((xs.take (i + 1)).map fun y => prl (prOf H y)) := fun q2 => by
              rw [tk, List.map_append, List.map_cons]
              refine List.Perm.trans (List.Perm.cons _ pm) ?_
              rw [List.map_singleton, hpr]
              exact (List.perm_append_singleton _ _).symm
            have len : L.length + 1 < 1200 := by
              have h1 := (pm' 0).length_eq
              rw [List.length_map, List.length_map, List.length_cons] at h1
              have h2 := few_ties hn (ps := (xs.take (i + 1)).map (prOf H)) (fun p hp => by
                obtain ⟨z, hz, rfl⟩ := List.mem_map.mp hp
                exact (isTie_iff (ok'.all z hz)).2) ok'.one
              rw [List.length_map] at h2
              omega
            refine ⟨_, rfl, ⟨p, L, rfl, by rw [upd_ne npq]; exact hp5⟩, ?_⟩
            refine ⟨_, rfl, _, rfl, (by show 2 ≤ sizeLine; decide), fun r hr' => ?_⟩
            have hrc : Hc r = none := by
              by_cases z : r = q
              · rw [z, upd_same] at hr'; cases hr'
              · rw [upd_ne z] at hr'; exact hr'
            have npr : p ≠ r := ne_of_none hp5 hrc
            have nqr : q ≠ r := fun z => by rw [← z, upd_same] at hr'; cases hr'
            have tp2 : Bs.Tups K (upd (upd Hc q (.tup [V.int pr.1, V.int pr.2])) r (.tup [V.int pr.1, V.int pr.2])) L := fun z hz => by
              have h1 := tp z hz
              rcases h1 with (h1 | ⟨o', h1⟩) | h1
              · exact .inl (.inl (by rw [upd_ne (ne_of_none h1 hrc), upd_ne (ne_of_none h1 hq)]; exact h1))
              · exact .inl (.inr ⟨o', by rw [upd_ne (ne_of_none h1 hrc), upd_ne (ne_of_none h1 hq)]; exact h1⟩)
              · exact .inr h1
            refine ⟨p, r, prl pr, L, rfl, rfl, by rw [upd_ne npr, upd_ne npq]; exact hp5, SqT.of upd_same, tp2, len, fun L' _ hL' => ?_⟩
            have pL := hL' hin
            refine ⟨_, _, _, L', rfl, Same.mut (Same.trans (Same.trans s5 (Same.new hq)) (Same.new hr')) hp, upd_same, fun z hz => ?_, fun z hz => ?_, (pL.map (·.2)).trans (pm' r), ok'⟩
            · rcases List.mem_cons.mp (pL.mem_iff.mp hz) with rfl | hz
              · exact SqT.of (by rw [upd_ne npr.symm]; exact upd_same)
              · have np : z.1 ≠ p := fun e => by
                  obtain ⟨_, h2⟩ := fr z hz
                  rw [e, hp5] at h2; cases h2
                rcases tp2 z hz with (h1 | ⟨o', h1⟩) | h1
                · exact .inl (.inl (by rw [upd_ne np]; exact h1))
                · exact .inl (.inr ⟨o', by rw [upd_ne np]; exact h1⟩)
                · exact .inr h1
            · rcases List.mem_cons.mp (pL.mem_iff.mp hz) with rfl | hz
              · exact ⟨s5.free hrc, by rw [upd_ne npr.symm]; exact upd_same⟩
              · obtain ⟨h0, h2⟩ := fr z hz
                have np : z.1 ≠ p := fun e => by rw [e, hp5] at h2; cases h2
                exact ⟨h0, by rw [upd_ne np, upd_ne (ne_of_none h2 hrc), upd_ne (ne_of_none h2 hq)]; exact h2⟩
      · rintro σ Hc ⟨v3, v4, v5, L, rfl, s5, hp5, tp, fr, pm, ok⟩
        rw [List.take_length] at pm ok
        rcases hres with ⟨xs', e, _, q⟩ | ⟨z, _⟩
        · rw [eL] at e; cases e
          have two : ∀ z ∈ L, ∃ pr : Pr, z.2 = prl pr := fun z hz => by
            obtain ⟨y, _, e⟩ := List.mem_map.mp (pm.mem_iff.mp (List.mem_map.mpr ⟨z, hz, rfl⟩))
            exact ⟨_, e.symm⟩
          refine ⟨_, rfl, p, L, rfl, hp5, tp, fun z hz => ?_, fun L' r pL nd pw hr' => ?_⟩
          · obtain ⟨pr, e⟩ := two z hz
            exact ⟨pr.1, pr.2, e⟩
          · have hrH : H r = none := s5.free hr'
            have two' : ∀ z ∈ L', z.2 = prl (z.2.headD 0, z.2.getD 1 0) := fun z hz => by
              obtain ⟨pr, e⟩ := two z (pL.mem_iff.mp hz)
              rw [e]; rfl
            refine q (L'.map fun z => (z.2.headD 0, z.2.getD 1 0)) r _ _ ?_ ?_ hrH (Same.trans s5 (Same.new hr')) upd_same ?_
            · -- the pairs are those
              have h1 : (L'.map (·.2)).Perm (xs.map fun y => prl (prOf H y)) := (pL.map (·.2)).trans pm
              have h2 := h1.map fun l : List Int => (l.headD 0, l.getD 1 0)
              rw [List.map_map, List.map_map] at h2
              exact h2
            · refine List.pairwise_map.mpr ?_
              have nd' : L'.Pairwise fun a b => a.2 ≠ b.2 := List.pairwise_map.mp nd
              refine List.Pairwise.imp_of_mem (fun {a b} ha hb hab => ?_) (pw.and nd')
              obtain ⟨h1, h2⟩ := hab
              have h3 : ¬ plt (b.2.headD 0, b.2.getD 1 0) (a.2.headD 0, a.2.getD 1 0) := SrtO.lexB_no.mp h1
              have h4 : (a.2.headD 0, a.2.getD 1 0) ≠ (b.2.headD 0, b.2.getD 1 0) := fun z => h2 (by rw [two' a ha, two' b hb, z])
              generalize (a.2.headD 0, a.2.getD 1 0) = u at h3 h4 ⊢
              generalize (b.2.headD 0, b.2.getD 1 0) = v at h3 h4 ⊢
              obtain ⟨u1, u2⟩ := u
              obtain ⟨v1, v2⟩ := v
              unfold plt at h3 ⊢
              simp only at h3 ⊢
              have h5 : ¬ (u1 = v1 ∧ u2 = v2) := fun z => h4 (by rw [z.1, z.2])
              omega
            · -- new tuples
              have key : ∀ M : List (Addr × List Int), (∀ z ∈ M, z ∈ L') → NewPrs H (upd Hc r (.lst (L'.map fun z => V.ref z.1))) (M.map fun z => V.ref z.1) (M.map fun z => (z.2.headD 0, z.2.getD 1 0)) := by
                intro M
                induction M with
                | nil => intro _; exact .nil
                | cons z M ih =>
                  intro hM
                  have hz := hM z List.mem_cons_self
                  have hzL := pL.mem_iff.mp hz
                  obtain ⟨h0, h2⟩ := fr z hzL
                  refine .cons ⟨z.1, rfl, h0, ?_⟩ (ih fun y hy => hM y (List.mem_cons_of_mem _ hy))
                  rw [upd_ne (ne_of_none h2 hr')]
                  rw [two' z hz] at h2
                  exact h2
              exact key L' fun z hz => hz
        · exact absurd ok (z xs eL)
    · rw [decide_eq_false ct]
      refine iteT ?_
      exact bad H (Same.refl H) fun xs e => by rw [listOf_no k.kd ct] at e; cases e
end
end Od

namespace Od
open PySem PySem.Spec PyProof.Rows L2
theorem tyes {σ : St} {H : Hp} {Q : Bool → Hp → Prop} (h : Q true H) : tYes σ H Q := h
/-! ### neighbours -/
def nbs (i : Int) (acc : List Int) (p : Pr) : List Int := if p.1 = i then acc ++ [p.2] else if p.2 = i then acc ++ [p.1] else acc
/-- the places beside i, in the order of the ties -/
def nbr (ts : List Pr) (i : Int) : List Int := ts.foldl (nbs i) []
theorem nbr_snoc (ts : List Pr) (p : Pr) (i : Int) : nbr (ts ++ [p]) i = nbs i (nbr ts i) p := by
  unfold nbr; rw [List.foldl_append]; rfl
theorem nbs_len (i : Int) (acc : List Int) (p : Pr) : (nbs i acc p).length ≤ acc.length + 1 := by
  unfold nbs
  by_cases a : p.1 = i
  · rw [if_pos a, List.length_append]; exact Nat.le_refl _
  · rw [if_neg a]
    by_cases b : p.2 = i
    · rw [if_pos b, List.length_append]; exact Nat.le_refl _
    · rw [if_neg b]; exact Nat.le_succ _
theorem nbr_len (i : Int) : ∀ (ts : List Pr) (acc : List Int), (ts.foldl (nbs i) acc).length ≤ acc.length + ts.length
  | [], acc => Nat.le_refl _
  | p :: ts, acc => by
    have h1 := nbr_len i ts (nbs i acc p)
    have h2 := nbs_len i acc p
    rw [List.foldl_cons, List.length_cons]
    omega
/-- us are tuples that stand, the pairs ts -/
def Prs (H : Hp) (us : List V) (ts : List Pr) : Prop := Paired (fun u (p : Pr) => ∃ a, u = V.ref a ∧ H a = some (.tup [.int p.1, .int p.2])) us ts
theorem Prs.ex {H H' : Hp} (e : Same H H') : ∀ {us : List V} {ts : List Pr}, Prs H us ts → Prs H' us ts
  | _, _, .nil => .nil
  | _, _, .cons ⟨a, h1, h2⟩ t => .cons ⟨a, h1, e _ _ h2⟩ (Prs.ex e t)
theorem NewPrs.prs {H H' : Hp} : ∀ {us : List V} {ts : List Pr}, NewPrs H H' us ts → Prs H' us ts
  | _, _, .nil => .nil
  | _, _, .cons ⟨a, h1, _, h2⟩ t => .cons ⟨a, h1, h2⟩ (NewPrs.prs t)
theorem Prs.get {H : Hp} : ∀ {us : List V} {ts : List Pr} {i : Nat} {u : V}, Prs H us ts → us[i]? = some u → ∃ p a, ts[i]? = some p ∧ u = .ref a ∧ H a = some (.tup [.int p.1, .int p.2])
  | _, _, _, _, .nil, e => by simp at e
  | _, _, 0, _, .cons ⟨a, h1, h2⟩ _, e => by
    simp at e; subst e; exact ⟨_, a, rfl, h1, h2⟩
  | _, _, i + 1, u, .cons _ t, e => by
    obtain ⟨p, a, h1, h2, h3⟩ := Prs.get (i := i) t (by simpa using e)
    exact ⟨p, a, by simpa using h1, h2, h3⟩
theorem Prs.len {H : Hp} {us : List V} {ts : List Pr} (h : Prs H us ts) : us.length = ts.length := Paired.length h
/-- at p a list of n lists of ints, all of them new -/
structure RowsAt (H H' : Hp) (p : Addr) (n : Nat) (f : Nat → List Int) (rs : List Addr) : Prop where
  len : rs.length = n
  nd : rs.Nodup
  at_ : H' p = some (.lst (rs.map V.ref))
  new : H p = none
  rnew : ∀ a ∈ rs, H a = none
  row : ∀ i a, rs[i]? = some a → H' a = some (.lst ((f i).map V.int))
theorem RowsAt.ne {H H' : Hp} {p : Addr} {n : Nat} {f : Nat → List Int} {rs : List Addr} (R : RowsAt H H' p n f rs) {a : Addr} (ha : a ∈ rs) : a ≠ p := by
  obtain ⟨i, hi, e⟩ := List.getElem_of_mem ha
  have h1 := R.row i a (by rw [List.getElem?_eq_getElem hi, e])
  intro z
  rw [z, R.at_] at h1
  have h2 := Option.some.inj h1
  injection h2 with h2
  cases rs with
  | nil => cases ha
  | cons b rs =>
    cases hf : f i with
    | nil => rw [hf] at h2; cases h2
    | cons c l => rw [hf] at h2; injection h2 with h3 _; cases h3
/-- one row is made longer -/
theorem RowsAt.set {H H' : Hp} {p : Addr} {n : Nat} {f : Nat → List Int} {rs : List Addr} (R : RowsAt H H' p n f rs) {i : Nat} {a : Addr} (ha : rs[i]? = some a) (x : Int) :
    RowsAt H (upd H' a (.lst ((f i).map V.int ++ [V.int x]))) p n (fun j => if j = i then f i ++ [x] else f j) rs := by
  have hm := List.mem_of_getElem? ha
  refine ⟨R.len, R.nd, by rw [upd_ne (R.ne hm).symm]; exact R.at_, R.new, R.rnew, fun j b hb => ?_⟩
  by_cases c : j = i
  · subst c
    rw [ha] at hb; cases hb
    rw [upd_same, if_pos rfl, List.map_append]; rfl
  · have nab : b ≠ a := fun z => by
      subst z
      have hi := (List.getElem?_eq_some_iff.mp ha)
      have hj := (List.getElem?_eq_some_iff.mp hb)
      have pw := List.pairwise_iff_getElem.mp R.nd
      rcases Nat.lt_trichotomy j i with z | z | z
      · exact pw j i hj.1 hi.1 z (by rw [hj.2, hi.2])
      · exact c z
      · exact pw i j hi.1 hj.1 z (by rw [hj.2, hi.2])
    rw [upd_ne nab, if_neg c]
    exact R.row j b hb
theorem RowsAt.keep {H H' H2 : Hp} {p : Addr} {n : Nat} {f : Nat → List Int} {rs : List Addr} (R : RowsAt H H' p n f rs) (e : Same H' H2) : RowsAt H H2 p n f rs :=
  ⟨R.len, R.nd, e _ _ R.at_, R.new, R.rnew, fun i a h => e _ _ (R.row i a h)⟩
def spNeighbours : Sp := fun vs H Q _ => ∃ (n : Nat) (l : Addr) (us : List V) (ts : List Pr), vs = [.int n, .ref l] ∧ n ≤ 40 ∧ H l = some (.lst us) ∧ Prs H us ts ∧ (∀ p ∈ ts, Tie n p) ∧ ts.length ≤ 1000 ∧
  ∀ p rs H', Same H H' → RowsAt H H' p n (fun i => nbr ts (i : Int)) rs → Q (.ref p) H'
section
variable {P : Program} {w : World} {K : PySem.W.Frag} {mg : Str → Option Value} {c : Cs} {base : Heap}
theorem ok_neighbours (T : Top K mg c) : Fd.Has P w K mg base CX0 1 "neighbours" ["size", "ties"] spNeighbours := by
  refine T.d_neighbours.ok sc_neighbours (fun vs H Q E h => ?_) (fun f cdv A outer s H vs Q E hr h => ?_)
  · obtain ⟨n, l, us, ts, rfl, _⟩ := h; rfl
  · obtain ⟨n, l, us, ts, rfl, hn, hl, hp, ht, hz, q⟩ := h
    refine ⟨_, (pss_cons (ps_setLc (i := 2) (own := [("_", 5)]) (g := gName 5) rfl sc_neighbours.nd rfl rfl (sw_true rfl rfl rfl (by decide +kernel)) (pi_range1 (by rfl) T.n_range (pa_cons (pv 0) pa_nil)) (blkOk_by (own := [("_", 5)]) (N := N_neighbours) (sc := defScope S_neighbours) (by decide +kernel)) (fun _ _ _ _ _ => pg_name (i := 5) sc_neighbours.nd rfl (Or.inl rfl)) (fun _ _ _ _ _ => pts_nil) (fun _ _ _ _ _ => (pe_lst pa_nil)))
      (pss_cons (ps_for PassesOwn.never rfl (pi_list (pv 1)) (pg_tup rfl (pgs_cons (pg_name (i := 3) sc_neighbours.nd rfl (Or.inl rfl)) (pgs_cons (pg_name (i := 4) sc_neighbours.nd rfl (Or.inl rfl)) pgs_nil)))
      (pss_cons (ps_expr (pe_bm PySem.F.plainAttrs_list PySem.F.slot_list_append PySem.F.type_list_append mt_append (pe_ix ix_list (pv 2) (pv 3) (fun _ _ => rfl)) (pa_cons (pv 4) pa_nil)))
        (pss_one (ps_expr (pe_bm PySem.F.plainAttrs_list PySem.F.slot_list_append PySem.F.type_list_append mt_append (pe_ix ix_list (pv 2) (pv 4) (fun _ _ => rfl)) (pa_cons (pv 3) pa_nil))))))
      (pss_one (ps_ret (pv 2))))), ?_⟩
    refine ⟨_, rfl, (n : Int), rfl, by omega, by omega, fun D hD => ?_⟩
    have e0 : ((n : Int)).toNat = n := by simp
    refine lc_range (lo := 0) (n := ((n : Int)).toNat) (fun i Hc => ∃ rs, Same H Hc ∧ RowsAt H Hc D i (fun _ => []) rs) ⟨[], Same.new hD, rfl, List.nodup_nil, upd_same, hD, fun a z => (by cases z), fun i a z => (by simp at z)⟩ ?_ ?_
    · rintro i Hc hi ⟨rs, s5, R⟩
      refine ⟨rfl, tyes (iteT ?_)⟩
      refine ⟨Nat.zero_le _, fun r hr' => ?_⟩
      have nDr : D ≠ r := ne_of_none R.at_ hr'
      refine ⟨_, by rw [upd_ne nDr]; exact R.at_, by rw [List.length_map, R.len, sizeLine_eq]; omega, rs ++ [r], Same.mut (Same.trans s5 (Same.new hr')) hD, by rw [List.length_append, R.len]; rfl, ?_, by rw [upd_same, List.map_append]; rfl, hD, fun a ha => ?_, fun j a ha => ?_⟩
      · refine List.nodup_append.mpr ⟨R.nd, List.pairwise_singleton _ _, fun a ha b hb z => ?_⟩
        rw [List.mem_singleton] at hb
        obtain ⟨j, hj, e⟩ := List.getElem_of_mem ha
        have h1 := R.row j a (by rw [List.getElem?_eq_getElem hj, e])
        rw [z, hb, hr'] at h1; cases h1
      · rcases List.mem_append.mp ha with z | z
        · exact R.rnew a z
        · rw [List.mem_singleton.mp z]; exact s5.free hr'
      · by_cases cj : j < rs.length
        · rw [List.getElem?_append_left cj] at ha
          have h1 := R.row j a ha
          rw [upd_ne (R.ne (List.mem_of_getElem? ha)), upd_ne (ne_of_none h1 hr')]
          exact h1
        · rw [List.getElem?_append_right (by omega)] at ha
          have : a = r := by
            cases hk : j - rs.length with
            | zero => rw [hk] at ha; simp at ha; exact ha.symm
            | succ k => rw [hk] at ha; simp at ha
          rw [this, upd_ne nDr.symm, upd_same]; rfl
    · rintro Hc ⟨rs, s5, R⟩
      rw [e0] at R
      refine ⟨_, rfl, l, rfl, ⟨us, SqL.of (s5 _ _ hl)⟩, for_list (K := K) (a := l) (xs := us) (fun i σ H' => ∃ v3 v4, σ = [some (.int n), some (.ref l), some (.ref D), v3, v4, none] ∧ Same H H' ∧ RowsAt H H' D n (fun j => nbr (ts.take i) (j : Int)) rs)
        ⟨none, none, rfl, s5, R⟩ (fun i σ H' _ ⟨_, _, _, s6, _⟩ => s6.seq (SqL.of hl)) ?_ ?_⟩
      · rintro i y σ H' hi ⟨v3, v4, rfl, s6, R6⟩
        obtain ⟨p, t, hti, rfl, htt⟩ := hp.get hi
        have hmem := List.mem_of_getElem? hti
        obtain ⟨b1, b2, b3⟩ := ht p hmem
        obtain ⟨p1, p2⟩ := p
        simp only at b1 b2 b3 htt
        obtain ⟨x1, rfl⟩ : ∃ x1 : Nat, p1 = (x1 : Int) := ⟨p1.toNat, by omega⟩
        obtain ⟨x2, rfl⟩ : ∃ x2 : Nat, p2 = (x2 : Int) := ⟨p2.toNat, by omega⟩
        have tk : ts.take (i + 1) = ts.take i ++ [((x1 : Int), (x2 : Int))] := by rw [List.take_succ, hti]; rfl
        obtain ⟨a1, ha1⟩ : ∃ a, rs[x1]? = some a := ⟨_, List.getElem?_eq_getElem (by rw [R6.len]; omega)⟩
        obtain ⟨a2, ha2⟩ : ∃ a, rs[x2]? = some a := ⟨_, List.getElem?_eq_getElem (by rw [R6.len]; omega)⟩
        have g1 : (rs.map V.ref)[x1]? = some (V.ref a1) := by rw [List.getElem?_map, ha1]; rfl
        have g2 : (rs.map V.ref)[x2]? = some (V.ref a2) := by rw [List.getElem?_map, ha2]; rfl
        have r1 := R6.row x1 a1 ha1
        have small : ∀ k (l' : List Pr), l'.length ≤ 1000 → ((nbr l' k).map V.int).length < sizeLine := fun k l' hl' => by
          have := nbr_len k l' []
          rw [List.length_map, sizeLine_eq]
          unfold nbr
          simp only [List.length_nil] at this
          omega
        have lt : (ts.take i).length ≤ 1000 := by rw [List.length_take]; omega
        refine ⟨t, _, rfl, SqT.of (s6 _ _ htt), rfl, _, _, rfl, _, _, rfl, rfl, ?_⟩
        refine ⟨_, rfl, _, rfl, D, _, _, _, rfl, rfl, SqL.of R6.at_, atI_nat g1, .inl ⟨rfl, _, SqL.of r1⟩, _, rfl, a1, _, _, rfl, rfl, r1, small _ _ lt, ?_⟩
        have R7 := R6.set ha1 (x2 : Int)
        have r2 := R7.row x2 a2 ha2
        have ne12 : x2 ≠ x1 := by omega
        simp only [if_neg ne12] at r2
        refine ⟨_, rfl, _, rfl, D, _, _, _, rfl, rfl, SqL.of R7.at_, atI_nat g2, .inl ⟨rfl, _, SqL.of r2⟩, _, rfl, a2, _, _, rfl, rfl, r2, small _ _ lt, ?_⟩
        have R8 := R7.set ha2 (x1 : Int)
        simp only [if_neg ne12] at R8
        have n1 := R6.rnew a1 (List.mem_of_getElem? ha1)
        have n2 := R6.rnew a2 (List.mem_of_getElem? ha2)
        refine ⟨_, _, rfl, Same.mut (Same.mut s6 n1) n2, ?_⟩
        have ef : (fun j : Nat => nbr (ts.take (i + 1)) (j : Int)) = (fun j : Nat => if j = x2 then nbr (ts.take i) (x2 : Int) ++ [(x1 : Int)] else if j = x1 then nbr (ts.take i) (x1 : Int) ++ [(x2 : Int)] else nbr (ts.take i) (j : Int)) := by
          funext j
          rw [tk, nbr_snoc]
          unfold nbs
          simp only
          by_cases c2 : j = x2
          · subst c2
            rw [if_neg (by omega), if_pos rfl, if_pos rfl]
          · rw [if_neg c2]
            by_cases c1 : j = x1
            · subst c1; rw [if_pos rfl, if_pos rfl]
            · rw [if_neg (by omega), if_neg (by omega), if_neg c1]
        rw [ef]
        exact R8
      · rintro σ H' ⟨v3, v4, rfl, s6, R6⟩
        rw [hp.len, List.take_length] at R6
        exact ⟨_, rfl, q D rs H' s6 R6⟩
end
end Od

namespace Od
open PySem PySem.Spec PyProof.Rows L2
/-! ### nets -/
theorem f1 : ¬ (("_ties" : Str) = "size") := by decide +kernel
theorem f2 : ¬ (("_near" : Str) = "size") := by decide +kernel
theorem f3 : ¬ (("_near" : Str) = "_ties") := by decide +kernel
theorem f1' : ¬ (("size" : Str) = "_ties") := by decide +kernel
theorem f2' : ¬ (("size" : Str) = "_near") := by decide +kernel
theorem f3' : ¬ (("_ties" : Str) = "_near") := by decide +kernel
abbrev nf1 (n : Int) : List (Str × V) := putF "size" (.int n) []
abbrev nf2 (n : Int) (lt : Addr) : List (Str × V) := putF "_ties" (.ref lt) (nf1 n)
def nf (n : Int) (lt ln : Addr) : List (Str × V) := putF "_near" (.ref ln) (nf2 n lt)
theorem nf1_len (n : Int) : (nf1 n).length < 1000 := by show 1 < 1000; decide
theorem nf2_len (n : Int) (lt : Addr) : (nf2 n lt).length < 1000 := by
  show (if ("size" : Str) = "_ties" then [(("size" : Str), V.ref lt)] else (("size" : Str), V.int n) :: putF "_ties" (V.ref lt) []).length < 1000
  rw [if_neg f1']; show 2 < 1000; decide
theorem nf2_ties (n : Int) (lt : Addr) : (nf2 n lt).lookup ("_ties" : Str) = some (.ref lt) := by rw [lookup_putF, if_pos rfl]
theorem nf_size (n : Int) (lt ln : Addr) : (nf n lt ln).lookup ("size" : Str) = some (.int n) := by
  unfold nf; rw [lookup_putF, if_neg f2', lookup_putF, if_neg f1', lookup_putF, if_pos rfl]
theorem nf_ties (n : Int) (lt ln : Addr) : (nf n lt ln).lookup ("_ties" : Str) = some (.ref lt) := by
  unfold nf; rw [lookup_putF, if_neg f3', lookup_putF, if_pos rfl]
theorem nf_near (n : Int) (lt ln : Addr) : (nf n lt ln).lookup ("_near" : Str) = some (.ref ln) := by
  unfold nf; rw [lookup_putF, if_pos rfl]
theorem nf_no (n : Int) (lt ln : Addr) {m : Str} (h1 : ¬ m = "size") (h2 : ¬ m = "_ties") (h3 : ¬ m = "_near") : (nf n lt ln).lookup m = none := by
  unfold nf; rw [lookup_putF, if_neg h3, lookup_putF, if_neg h2, lookup_putF, if_neg h1]; rfl
/-- a net stands at x -/
structure NetAt (C : Addr) (H : Hp) (x : Addr) (n : Nat) (ts : List Pr) : Prop where
  lo : 1 ≤ n
  hi : n ≤ 40
  tie : ∀ p ∈ ts, Tie n p
  up : ts.Pairwise plt
  at_ : ∃ (dx lt ln : Addr) (us : List V) (rs : List Addr), H x = some (.ins C dx (nf n lt ln)) ∧ H lt = some (.lst us) ∧ Prs H us ts ∧ H ln = some (.lst (rs.map V.ref)) ∧ rs.length = n ∧ ∀ (i : Nat) (a : Addr), rs[i]? = some a → H a = some (.lst ((nbr ts (i : Int)).map V.int))
theorem NetAt.ex {C : Addr} {H H' : Hp} {x : Addr} {n : Nat} {ts : List Pr} (N : NetAt C H x n ts) (e : Same H H') : NetAt C H' x n ts := by
  obtain ⟨dx, lt, ln, us, rs, h1, h2, h3, h4, h5, h6⟩ := N.at_
  exact ⟨N.lo, N.hi, N.tie, N.up, dx, lt, ln, us, rs, e _ _ h1, e _ _ h2, h3.ex e, e _ _ h4, h5, fun i a q => e _ _ (h6 i a q)⟩
theorem plt_irr (p : Pr) : ¬ plt p p := by unfold plt; omega
theorem plt_nodup {ts : List Pr} (h : ts.Pairwise plt) : ts.Nodup := by
  unfold List.Nodup
  exact h.imp fun {a b} h e => by subst e; exact plt_irr a h
theorem NetAt.few {C : Addr} {H : Hp} {x : Addr} {n : Nat} {ts : List Pr} (N : NetAt C H x n ts) : ts.length ≤ 800 :=
  few_ties (n := (n : Int)) (by have := N.hi; omega) N.tie (plt_nodup N.up)
/-- the new part -/
def newp (H0 H' : Hp) : Hp := fun b => if (H0 b).isSome then none else H' b
theorem newp_same {H0 H' : Hp} : Same (newp H0 H') H' := fun b o h => by
  unfold newp at h
  by_cases c : (H0 b).isSome
  · rw [if_pos c] at h; cases h
  · rw [if_neg c] at h; exact h
theorem newp_at {H0 H' : Hp} {b : Addr} {o : HO} (h0 : H0 b = none) (h : H' b = some o) : newp H0 H' b = some o := by
  unfold newp; rw [h0]; exact h
theorem newp_old {H0 H' : Hp} {b : Addr} {o : HO} (h : H0 b = some o) : newp H0 H' b = none := by
  unfold newp; rw [h]; rfl

theorem NewPrs.newp {H H' : Hp} : ∀ {us : List V} {ts : List Pr}, NewPrs H H' us ts → Prs (newp H H') us ts
  | _, _, .nil => .nil
  | _, _, .cons ⟨a, h1, h0, h2⟩ t => .cons ⟨a, h1, newp_at h0 h2⟩ (NewPrs.newp t)
theorem NewPrs.to {H H' H0 H2 : Hp} (e : Same H0 H) (k : ∀ a o, H a = none → H' a = some o → H2 a = some o) : ∀ {us : List V} {ts : List Pr}, NewPrs H H' us ts → NewPrs H0 H2 us ts
  | _, _, .nil => .nil
  | _, _, .cons ⟨a, h1, h0, h2⟩ t => .cons ⟨a, h1, e.free h0, k a _ h0 h2⟩ (NewPrs.to e k t)
theorem listOf_ex {H H' : Hp} {x : V} {t : Ty} (k : Kd H x t) (e : Same H H') : listOf H' x = listOf H x := by
  cases k with
  | lst h => rw [listOf_lst h, listOf_lst (e _ _ h)]
  | tup h => rw [listOf_no (.tup h) (by decide), listOf_no (.tup (e _ _ h)) (by decide)]
  | dct h => rw [listOf_no (.dct h) (by decide), listOf_no (.dct (e _ _ h)) (by decide)]
  | _ => rfl
theorem prOf_ex {H H' : Hp} {x : V} {t : Ty} (k : Kd H x t) (e : Same H H') : prOf H' x = prOf H x := by
  unfold prOf; rw [tupOf_ex k e]
theorem Kl.ex {H H' : Hp} {x : V} {t : Ty} (k : Kl H x t) (e : Same H H') : Kl H' x t := by
  refine ⟨k.kd.ex e, fun xs h y hy => ?_⟩
  rw [listOf_ex k.kd e] at h
  obtain ⟨u, q⟩ := k.its xs h y hy
  exact ⟨u, q.ex e⟩
theorem prs_ex {H H' : Hp} {xs : List V} (k : ∀ y ∈ xs, ∃ u, Kt H y u) (e : Same H H') : xs.map (prOf H') = xs.map (prOf H) :=
  List.map_congr_left fun y hy => by
    obtain ⟨u, q⟩ := k y hy
    exact prOf_ex q.kd e
theorem okTies_ex {H H' : Hp} {n : Int} {xs : List V} (k : ∀ y ∈ xs, ∃ u, Kt H y u) (e : Same H H') : OkTies H' n xs ↔ OkTies H n xs := by
  constructor
  · intro o
    refine ⟨fun y hy => ?_, by rw [← prs_ex k e]; exact o.one⟩
    obtain ⟨u, q⟩ := k y hy
    rw [← isTie_ex q e]; exact o.all y hy
  · intro o
    refine ⟨fun y hy => ?_, by rw [prs_ex k e]; exact o.one⟩
    obtain ⟨u, q⟩ := k y hy
    rw [isTie_ex q e]; exact o.all y hy
/-- a size and ties that make a net -/
def Good (H : Hp) (sz ties : V) (n : Nat) (ps : List Pr) : Prop := sz = .int n ∧ 1 ≤ n ∧ n ≤ 40 ∧ ∃ xs, listOf H ties = some xs ∧ OkTies H n xs ∧ ps = xs.map (prOf H)
def spInit (C B : Addr) : Sp := fun vs H Q E => ∃ (H0 : Hp) (x dx : Addr) (sz ties : V) (tz t : Ty), vs = [.ref x, sz, ties] ∧ Same H0 H ∧ H0 x = none ∧ H x = some (.ins C dx []) ∧ Kd H0 sz tz ∧ Kl H0 ties t ∧
  ((∃ n ps, Good H0 sz ties n ps ∧ ∀ ts H', ts.Perm ps → Same H0 H' → NetAt C (newp H0 H') x n ts → Q .non H') ∨ ((∀ n ps, ¬ Good H0 sz ties n ps) ∧ ∀ H', Same H0 H' → E (.ref B) none H'))
section
variable {P : Program} {w : World} {K : PySem.W.Frag} {mg : Str → Option Value} {c : Cs} {base : Heap}
theorem ok_init (T : Top K mg c) : Fd.IHas P w K mg base (L2N.CX P w) 6 c.Net ["self", "size", "ties"] (spInit c.Net c.BadNet) := by
  have G_is_number : Fd.Has P w K mg base CX0 1 "is_number" ["thing"] spNumber := ok_is_number T
  have G_rising_ties : Fd.Has P w K mg base (L2N.CX P w) 4 "rising_ties" ["size", "ties"] (spRising c.BadNet) := ok_rising_ties T
  have G_neighbours : Fd.Has P w K mg base CX0 1 "neighbours" ["size", "ties"] spNeighbours := ok_neighbours T
  obtain ⟨tk40, hk_MOST_PLACES⟩ := T.k_MOST_PLACES
  refine T.d_Net___init__.okN sc_Net___init__ (fun vs H Q E h => ?_) (fun f cdv A outer s H vs Q E hr h => ?_)
  · obtain ⟨H0, x, dx, sz, ties, tz, t, rfl, _⟩ := h; rfl
  · obtain ⟨H0, x, dx, sz, ties, tz, t, rfl, s0, x0, hx, kz, kt, hres⟩ := h
    have hr_is_number := hr.mono (show 1 ≤ 5 by decide)
    have hr_neighbours := hr.mono (show 1 ≤ 5 by decide)
    have hr_rising_ties := hr.mono (show 4 ≤ 5 by decide)
    refine ⟨_, (pss_cons (ps_if (PW.pt (pw_or (pt_not (pt_val (Fd.pe_f G_is_number hr_is_number (by rfl) (pa_cons (pv 1) pa_nil)))) (pw_or1 (pt_not (pt_chain op_le op_le pe_int (pv 1) (pe_glob (v := .int 40) (by rfl) hk_MOST_PLACES ⟨_, rfl⟩))))))
      (pss_one (L2N.ps_raise rfl (L2N.takes_of rfl rfl rfl rfl) (L2N.pmk_own PySem.F.excBase_ValueError T.e_BadNet.x T.e_BadNet.c T.e_BadNet.p (raises_own T.e_BadNet.b T.e_BadNet.t) (by rfl))))
      pss_nil)
      (pss_cons (ps_fld (pv 0) (pv 1) rfl)
      (pss_cons (ps_fld (pv 0) (Fd.pe_fN G_rising_ties hr_rising_ties (by rfl) (L2N.passes_call (L2N.takes_of rfl rfl rfl rfl) fun _ _ _ _ h => h) (pa_cons (pv 1) (pa_cons (pv 2) pa_nil))) rfl)
      (pss_one (ps_fld (pv 0) (Fd.pe_f G_neighbours hr_neighbours (by rfl) (pa_cons (pv 1) (pa_cons (pe_fld (pv 0) rfl) pa_nil))) rfl))))), ?_⟩
    have bad : ∀ H', Same H0 H' → (∀ n ps, ¬ Good H0 sz ties n ps) → E (.ref c.BadNet) none H' := fun H' s5 z => by
      rcases hres with ⟨n, ps, g, _⟩ | ⟨_, q⟩
      · exact absurd g (z n ps)
      · exact q H' s5
    refine ⟨sz, rfl, sz, tz, rfl, kz.ex s0, _, rfl, ?_⟩
    by_cases ci : ∃ i, sz = .int i
    · obtain ⟨i, rfl⟩ := ci
      refine iteF ⟨_, rfl, 1, i, rfl, rfl, _, rfl, ?_⟩
      by_cases c1 : (1 : Int) ≤ i
      · rw [decide_eq_true c1]
        refine iteT ⟨i, 40, rfl, rfl, _, rfl, ?_⟩
        by_cases c2 : i ≤ 40
        · rw [decide_eq_true c2]
          refine iteF ?_
          obtain ⟨n, rfl⟩ : ∃ n : Nat, i = (n : Int) := ⟨i.toNat, by omega⟩
          have s1 : Same H0 (upd H x (.ins c.Net dx (putF "size" (.int (n : Int)) []))) := Same.mut s0 x0
          refine ⟨_, rfl, _, rfl, x, c.Net, dx, [], rfl, hx, T.cl_Net, T.a_Net_size, (by show 0 < 1000; decide), ?_⟩
          refine ⟨_, rfl, _, rfl, (n : Int), ties, t, rfl, c2, kt.ex s1, ?_⟩
          have ek := fun (xs : List V) (e : listOf H0 ties = some xs) => okTies_ex (n := (n : Int)) (kt.its xs e) s1
          have el : listOf (upd H x (.ins c.Net dx (putF "size" (.int (n : Int)) []))) ties = listOf H0 ties := listOf_ex kt.kd s1
          by_cases cg : ∃ xs, listOf H0 ties = some xs ∧ OkTies H0 n xs
          · obtain ⟨xs, e, ok⟩ := cg
            refine .inl ⟨xs, by rw [el]; exact e, (ek xs e).mpr ok, fun ts lt us H2 pm up hl0 s2 hlt np => ?_⟩
            rw [prs_ex (kt.its xs e) s1] at pm
            have hxlt : x ≠ lt := fun z => by rw [← z, upd_same] at hl0; cases hl0
            have hx2 := s2 x _ upd_same
            have tie : ∀ p ∈ ts, Tie n p := fun p hp => by
              obtain ⟨y, hy, rfl⟩ := List.mem_map.mp (pm.mem_iff.mp hp)
              exact (isTie_iff (ok.all y hy)).2
            have few : ts.length ≤ 800 := few_ties (n := (n : Int)) c2 tie (plt_nodup up)
            refine ⟨_, rfl, x, c.Net, dx, _, rfl, hx2, T.cl_Net, T.a_Net__ties, nf1_len _, ?_⟩
            have s3 : Same (newp (upd H x (.ins c.Net dx (putF "size" (.int (n : Int)) []))) H2) (upd H2 x (.ins c.Net dx (nf2 n lt))) := Same.mut newp_same (newp_old upd_same)
            have hus := np.newp.ex s3
            refine ⟨_, rfl, ⟨_, rfl, x, c.Net, dx, _, _, rfl, upd_same, T.cl_Net, T.a_Net__ties, nf2_ties _ _, n, lt, us, ts, rfl, by omega, by rw [upd_ne hxlt.symm]; exact hlt, hus, tie, by omega, fun p rs H4 s4 R => ?_⟩⟩
            have hx4 := s4 x _ upd_same
            refine ⟨_, rfl, x, c.Net, dx, _, rfl, hx4, T.cl_Net, T.a_Net__near, nf2_len _ _, ?_⟩
            have s03 : Same H0 (upd H2 x (.ins c.Net dx (nf2 n lt))) := Same.mut (Same.trans s1 s2) x0
            have s05 : Same H0 (upd H4 x (.ins c.Net dx (nf n lt p))) := Same.mut (Same.trans s03 s4) x0
            have far : ∀ {b : Addr} {o : HO}, b ≠ x → H2 b = some o → (upd H4 x (.ins c.Net dx (nf n lt p))) b = some o := fun {b o} hb e => by
              rw [upd_ne hb]
              exact s4 b o (by rw [upd_ne hb]; exact e)
            rcases hres with ⟨n', ps, g, q⟩ | ⟨z, _⟩
            · obtain ⟨e1, _, _, xs', e2, _, rfl⟩ := g
              injection e1 with e1
              obtain rfl : n = n' := by omega
              rw [e] at e2; cases e2
              have px : p ≠ x := fun z => by
                have h1 := R.new
                rw [z, upd_same] at h1; cases h1
              refine q ts _ pm s05 ⟨by omega, by omega, tie, up, dx, lt, p, us, rs, newp_at x0 upd_same, newp_at (s1.free hl0) (far hxlt.symm hlt), ?_, newp_at (s03.free R.new) (by rw [upd_ne px]; exact R.at_), R.len, fun i a hi => ?_⟩
              · exact (np.to (H0 := H0) (H2 := upd H4 x (.ins c.Net dx (nf n lt p))) s1 fun a o h0 h2 => far (fun z => by rw [z, upd_same] at h0; cases h0) h2).newp
              · have hn := R.rnew a (List.mem_of_getElem? hi)
                have ax : a ≠ x := fun z => by rw [z, upd_same] at hn; cases hn
                exact newp_at (s03.free hn) (by rw [upd_ne ax]; exact R.row i a hi)
            · exact absurd ⟨rfl, by omega, by omega, xs, e, ok, rfl⟩ (z n _)
          · refine .inr ⟨fun xs e o => cg ?_, fun H' s2 => bad H' (Same.trans s1 s2) fun n' ps g => ?_⟩
            · rw [el] at e
              exact ⟨xs, e, (ek xs e).mp o⟩
            · obtain ⟨e, _, _, xs, e1, o, _⟩ := g
              injection e with e
              obtain rfl : n = n' := by omega
              exact cg ⟨xs, e1, o⟩
        · rw [decide_eq_false c2]
          refine iteT ?_
          exact bad H s0 fun n ps g => by
            obtain ⟨e, _, g2, _⟩ := g
            injection e with e; omega
      · rw [decide_eq_false c1]
        refine iteF ⟨_, rfl, ?_⟩
        refine iteT ?_
        exact bad H s0 fun n ps g => by
          obtain ⟨e, g1, _, _⟩ := g
          injection e with e; omega
    · have e : isInt sz = false := by
        cases sz with
        | int i => exact absurd ⟨i, rfl⟩ ci
        | _ => rfl
      rw [e]
      refine iteT ?_
      exact bad H s0 fun n ps g => ci ⟨n, g.1⟩
end
end Od

namespace Od
open PySem PySem.Spec PyProof.Rows L2
theorem len40 {n : Nat} (h : n ≤ 1000) : n ≤ sizeLine := Nat.le_of_lt (small1000 h)
def spTies (C : Addr) : Sp := fun vs H Q _ => ∃ (x : Addr) (n : Nat) (ts : List Pr), vs = [.ref x] ∧ NetAt C H x n ts ∧ ∀ p us, H p = none → Prs H us ts → Q (.ref p) (upd H p (.lst us))
def spBeside (C B : Addr) : Sp := fun vs H Q E => ∃ (x : Addr) (n : Nat) (ts : List Pr) (y : V) (t : Ty), vs = [.ref x, y] ∧ NetAt C H x n ts ∧ Kd H y t ∧
  (∀ i : Nat, y = .int i → i < n → ∀ p, H p = none → Q (.ref p) (upd H p (.lst ((nbr ts (i : Int)).map V.int)))) ∧ (isPl y n = false → E (.ref B) none H)
section
variable {P : Program} {w : World} {K : PySem.W.Frag} {mg : Str → Option Value} {c : Cs} {base : Heap}
theorem ok_ties (T : Top K mg c) : Fd.MHas P w K mg base CX0 1 c.Net "ties" ["self"] (spTies c.Net) := by
  refine T.d_Net_ties.ok sc_Net_ties (fun vs H Q E h => ?_) (fun f cdv A outer s H vs Q E hr h => ?_)
  · obtain ⟨x, n, ts, rfl, _⟩ := h; rfl
  · obtain ⟨x, n, ts, rfl, N, q⟩ := h
    obtain ⟨dx, lt, ln, us, rs, h1, h2, h3, h4, h5, h6⟩ := N.at_
    refine ⟨_, (pss_one (ps_ret (pe_callTy call_list_of (by rfl) T.n_list boot_list (pa_cons (pe_fld (pv 0) rfl) pa_nil)))), ?_⟩
    exact ⟨_, rfl, x, c.Net, dx, _, _, rfl, h1, T.cl_Net, T.a_Net__ties, nf_ties _ _ _, lt, us, rfl, .inl (SqL.of h2), fun p hp => q p us hp h3⟩
theorem ok_beside (T : Top K mg c) : Fd.MHas P w K mg base (L2N.CX P w) 3 c.Net "beside" ["self", "place"] (spBeside c.Net c.NoPlace) := by
  have G_is_place : Fd.Has P w K mg base CX0 2 "is_place" ["thing", "size"] spPlace := ok_is_place T
  refine T.d_Net_beside.okN sc_Net_beside (fun vs H Q E h => ?_) (fun f cdv A outer s H vs Q E hr h => ?_)
  · obtain ⟨x, n, ts, y, t, rfl, _⟩ := h; rfl
  · obtain ⟨x, n, ts, y, t, rfl, N, ky, q1, q2⟩ := h
    obtain ⟨dx, lt, ln, us, rs, h1, h2, h3, h4, h5, h6⟩ := N.at_
    have hr_is_place := hr
    refine ⟨_, (pss_cons (ps_if (pt_not (pt_val (Fd.pe_f G_is_place hr_is_place (by rfl) (pa_cons (pv 1) (pa_cons (pe_fld (pv 0) rfl) pa_nil)))))
      (pss_one (L2N.ps_raise rfl (L2N.takes_of rfl rfl rfl rfl) (L2N.pmk_own PySem.F.excBase_ValueError T.e_NoPlace.x T.e_NoPlace.c T.e_NoPlace.p (raises_own T.e_NoPlace.b T.e_NoPlace.t) (by rfl))))
      pss_nil)
      (pss_one (ps_ret (pe_callTy call_list_of (by rfl) T.n_list boot_list (pa_cons (pe_ix ix_list (pe_fld (pv 0) rfl) (pv 1) (fun _ _ => rfl)) pa_nil))))), ?_⟩
    refine ⟨_, rfl, _, rfl, x, c.Net, dx, _, _, rfl, h1, T.cl_Net, T.a_Net_size, nf_size _ _ _, y, t, (n : Int), rfl, ky, _, rfl, ?_⟩
    cases hp : isPl y n with
    | false => exact iteT (q2 hp)
    | true =>
      refine iteF ?_
      obtain ⟨i, rfl, a, b⟩ := isPl_int hp
      obtain ⟨j, rfl⟩ : ∃ j : Nat, i = (j : Int) := ⟨i.toNat, by omega⟩
      obtain ⟨r, hri⟩ : ∃ r, rs[j]? = some r := ⟨_, List.getElem?_eq_getElem (by rw [h5]; omega)⟩
      have g : (rs.map V.ref)[j]? = some (V.ref r) := by rw [List.getElem?_map, hri]; rfl
      exact ⟨_, rfl, x, c.Net, dx, _, _, rfl, h1, T.cl_Net, T.a_Net__near, nf_near _ _ _, _, rfl, ln, _, _, _, rfl, rfl, SqL.of h4, atI_nat g, r, _, rfl, .inl (SqL.of (h6 j r hri)), fun p hp' => q1 j rfl (by omega) p hp'⟩
end

/-! ### the law's own words -/
/-- a cell of the script -/
def cell (ns : List Int) (k : Int) : Int := ns.getD k.toNat 0
def spCell (K : PySem.W.Frag) : Sp := fun vs H Q _ => ∃ (a : Addr) (ns : List Int) (k : Int), vs = [.ref a, .int k] ∧ SqL K H a (ns.map V.int) ∧ 0 ≤ k ∧ Q (.int (cell ns k)) H
section
variable {P : Program} {w : World} {K : PySem.W.Frag} {mg : Str → Option Value} {c : Cs} {base : Heap}
theorem ok_cell (T : Top K mg c) : Fd.Has P w K mg base CX0 1 "_law_cell_at" ["_law_script", "_law_k"] (spCell K) := by
  refine T.d__law_cell_at.ok sc__law_cell_at (fun vs H Q E h => ?_) (fun f cdv A outer s H vs Q E hr h => ?_)
  · obtain ⟨a, ns, k, rfl, _⟩ := h; rfl
  · obtain ⟨a, ns, k, rfl, hs, h0, q⟩ := h
    refine ⟨_, (pss_cons (ps_if (pt_cmpR op_lt (pv 1) (pe_callB call_len_seq (by rfl) T.n_len boot_len (pa_cons (pv 0) pa_nil)) (nomark _))
      (pss_one (ps_ret (pe_ix ix_list (pv 0) (pv 1) (fun _ _ => rfl))))
      pss_nil)
      (pss_one (ps_ret pe_int))), ?_⟩
    refine ⟨_, rfl, _, rfl, a, _, rfl, .inl hs, k, _, rfl, rfl, _, rfl, ?_⟩
    rw [List.length_map]
    by_cases hk : k < (ns.length : Int)
    · rw [decide_eq_true hk]
      refine iteT ?_
      have hl : k.toNat < ns.length := by omega
      have g : (ns.map V.int)[k.toNat]? = some (V.int (cell ns k)) := by
        rw [List.getElem?_map, List.getElem?_eq_getElem hl]
        unfold cell
        rw [List.getD_eq_getElem?_getD, List.getElem?_eq_getElem hl]; rfl
      have e : ((k.toNat : Nat) : Int) = k := by omega
      have g2 := atI_nat g
      rw [e] at g2
      exact ⟨_, rfl, _, rfl, a, _, _, _, rfl, rfl, hs, g2, q⟩
    · rw [decide_eq_false hk]
      refine iteF ?_
      have e : cell ns k = 0 := by
        unfold cell
        rw [List.getD_eq_getElem?_getD, List.getElem?_eq_none (by omega)]; rfl
      rw [e] at q
      exact q
def tied (kind cl one other size : Int) : Bool :=
  if kind = 0 then decide (cl % 3 = 0)
  else if kind = 1 then decide (other = one + 1) || (decide (one = 0) && decide (other = size - 1)) || decide (cl % 11 = 0)
  else if kind = 2 then decide ((one + other) % 2 = 1) && decide (cl % 2 = 0)
  else if kind = 3 then (decide (one < 2) && decide (0 < cl % 3)) || (decide (1 < one) && decide ((one - 2) / 3 = (other - 2) / 3))
  else decide (0 < cl % 4)
def spTied : Sp := fun vs H Q _ => ∃ kind cl one other size : Int, vs = [.int kind, .int cl, .int one, .int other, .int size] ∧ Q (.bl (tied kind cl one other size)) H
theorem vint {a b : Int} : decide (V.int a = V.int b) = decide (a = b) := by
  by_cases h : a = b
  · subst h; rw [decide_eq_true rfl, decide_eq_true rfl]
  · rw [decide_eq_false h, decide_eq_false fun z => h (by injection z)]
theorem ok_tied (T : Top K mg c) : Fd.Has P w K mg base CX0 1 "_law_tied" ["_law_kind", "_law_cell", "_law_one", "_law_other", "_law_size"] spTied := by
  refine T.d__law_tied.ok sc__law_tied (fun vs H Q E h => ?_) (fun f cdv A outer s H vs Q E hr h => ?_)
  · obtain ⟨a, b, cc, d, e, rfl, _⟩ := h; rfl
  · obtain ⟨kind, cl, one, other, size, rfl, q⟩ := h
    refine ⟨_, (pss_cons (ps_if (pt_cmpR op_eq (pv 0) pe_int (nomark _))
      (pss_one (ps_ret (pe_cmpR op_eq (pe_op op_mod (pv 1) pe_int) pe_int (nomark _))))
      pss_nil)
      (pss_cons (ps_if (pt_cmpR op_eq (pv 0) pe_int (nomark _))
      (pss_one (ps_ret (pe_or (pe_cmpR op_eq (pv 3) (pe_op op_add (pv 2) pe_int) (nomark _)) (pe_or (pe_and (pe_cmpR op_eq (pv 2) pe_int (nomark _)) (pe_one (pe_cmpR op_eq (pv 3) (pe_op op_sub (pv 4) pe_int) (nomark _)))) (pe_one (pe_cmpR op_eq (pe_op op_mod (pv 1) pe_int) pe_int (nomark _)))))))
      pss_nil)
      (pss_cons (ps_if (pt_cmpR op_eq (pv 0) pe_int (nomark _))
      (pss_one (ps_ret (pe_and (pe_cmpR op_eq (pe_op op_mod (pe_op op_add (pv 2) (pv 3)) pe_int) pe_int (nomark _)) (pe_one (pe_cmpR op_eq (pe_op op_mod (pv 1) pe_int) pe_int (nomark _))))))
      pss_nil)
      (pss_cons (ps_if (pt_cmpR op_eq (pv 0) pe_int (nomark _))
      (pss_one (ps_ret (pe_or (pe_and (pe_cmpR op_lt (pv 2) pe_int (nomark _)) (pe_one (pe_cmpR op_gt (pe_op op_mod (pv 1) pe_int) pe_int (nomark _)))) (pe_one (pe_and (pe_cmpR op_gt (pv 2) pe_int (nomark _)) (pe_one (pe_cmpR op_eq (pe_op op_fdiv (pe_op op_sub (pv 2) pe_int) pe_int) (pe_op op_fdiv (pe_op op_sub (pv 3) pe_int) pe_int) (nomark _))))))))
      pss_nil)
      (pss_one (ps_ret (pe_cmpR op_gt (pe_op op_mod (pv 1) pe_int) pe_int (nomark _)))))))), ?_⟩
    unfold tied at q
    refine ⟨_, rfl, rfl, _, rfl, ?_⟩
    rw [vint]
    by_cases k0 : kind = 0
    · rw [decide_eq_true k0]
      rw [if_pos k0] at q
      refine iteT ⟨_, rfl, _, _, rfl, rfl, (by show (0 : Int) < 3; decide), rfl, ?_⟩
      rw [vint]; exact q
    rw [decide_eq_false k0]
    rw [if_neg k0] at q
    refine iteF ⟨_, rfl, rfl, _, rfl, ?_⟩
    rw [vint]
    by_cases k1 : kind = 1
    · rw [decide_eq_true k1]
      rw [if_pos k1] at q
      refine iteT ⟨_, rfl, _, rfl, _, _, rfl, rfl, rfl, _, rfl, ?_⟩
      rw [vint]
      by_cases a1 : other = one + 1
      · rw [decide_eq_true a1] at q ⊢
        exact iteT q
      rw [decide_eq_false a1] at q ⊢
      refine iteF ⟨_, rfl, rfl, _, rfl, ?_⟩
      rw [vint]
      by_cases a2 : one = 0
      · rw [decide_eq_true a2] at q ⊢
        refine iteT ⟨_, rfl, _, rfl, _, _, rfl, rfl, rfl, _, rfl, ?_⟩
        rw [vint]
        by_cases a3 : other = size - 1
        · rw [decide_eq_true a3] at q ⊢
          exact iteT q
        rw [decide_eq_false a3] at q ⊢
        refine iteF ⟨_, rfl, _, _, rfl, rfl, (by show (0 : Int) < 11; decide), rfl, ?_⟩
        rw [vint]; exact q
      rw [decide_eq_false a2] at q ⊢
      refine iteF ⟨_, rfl, ?_⟩
      refine iteF ⟨_, rfl, _, _, rfl, rfl, (by show (0 : Int) < 11; decide), rfl, ?_⟩
      rw [vint]; exact q
    rw [decide_eq_false k1]
    rw [if_neg k1] at q
    refine iteF ⟨_, rfl, rfl, _, rfl, ?_⟩
    rw [vint]
    by_cases k2 : kind = 2
    · rw [decide_eq_true k2]
      rw [if_pos k2] at q
      refine iteT ⟨_, rfl, _, rfl, _, _, rfl, rfl, _, _, rfl, rfl, (by show (0 : Int) < 2; decide), rfl, _, rfl, ?_⟩
      rw [vint]
      by_cases a1 : (one + other) % 2 = 1
      · rw [decide_eq_true a1] at q ⊢
        refine iteT ⟨_, rfl, _, _, rfl, rfl, (by show (0 : Int) < 2; decide), rfl, ?_⟩
        rw [vint]; exact q
      · rw [decide_eq_false a1] at q ⊢
        exact iteF q
    rw [decide_eq_false k2]
    rw [if_neg k2] at q
    refine iteF ⟨_, rfl, rfl, _, rfl, ?_⟩
    rw [vint]
    by_cases k3 : kind = 3
    · rw [decide_eq_true k3]
      rw [if_pos k3] at q
      have second : Q (.bl (decide (1 < one) && decide ((one - 2) / 3 = (other - 2) / 3))) H → tAndV (tOp (rI0 fun i j => .bl (decide (j < i))) (tVar 2) (tC (.int 1))) (tOp rEq (tOp (rI CDiv fun i j => .int (i / j)) (tOp (rI0 fun i j => .int (i - j)) (tVar 2) (tC (.int 2))) (tC (.int 3))) (tOp (rI CDiv fun i j => .int (i / j)) (tOp (rI0 fun i j => .int (i - j)) (tVar 3) (tC (.int 2))) (tC (.int 3)))) (start N__law_tied [.int kind, .int cl, .int one, .int other, .int size]) H Q := fun q => by
        refine ⟨_, rfl, _, _, rfl, rfl, _, rfl, ?_⟩
        by_cases a3 : (1 : Int) < one
        · rw [decide_eq_true a3] at q ⊢
          refine iteT ⟨_, rfl, _, _, rfl, rfl, _, _, rfl, rfl, ⟨by decide, by decide⟩, _, rfl, _, _, rfl, rfl, _, _, rfl, rfl, ⟨by decide, by decide⟩, rfl, ?_⟩
          rw [vint]; exact q
        · rw [decide_eq_false a3] at q ⊢
          exact iteF q
      refine iteT ⟨_, rfl, _, _, rfl, rfl, _, rfl, ?_⟩
      by_cases a1 : one < 2
      · rw [decide_eq_true a1] at q ⊢
        refine iteT ⟨_, rfl, _, _, rfl, rfl, (by show (0 : Int) < 3; decide), _, _, rfl, rfl, _, rfl, ?_⟩
        by_cases a2 : 0 < cl % 3
        · rw [decide_eq_true a2] at q ⊢
          exact iteT q
        · rw [decide_eq_false a2] at q ⊢
          exact iteF (second q)
      · rw [decide_eq_false a1] at q ⊢
        refine iteF ⟨_, rfl, ?_⟩
        exact iteF (second q)
    rw [decide_eq_false k3]
    rw [if_neg k3] at q
    refine iteF ⟨_, rfl, _, _, rfl, rfl, (by show (0 : Int) < 4; decide), _, _, rfl, rfl, q⟩
end
end Od

namespace Od
open PySem PySem.Spec PyProof.Rows L2
/-! ### the drawn net -/
def drawn (ns : List Int) (one other : Int) : Int := cell ns (3 + (other * (other - 1) / 2 + one) % 24) + (other * (other - 1) / 2 + one) / 24 * 7919
def tcond (ns : List Int) (size kind one other : Int) : Bool := tied kind ((drawn ns one other).fdiv (1 + one % 3)) one other size
def tin (ns : List Int) (size kind one : Int) : Nat → List Pr
  | 0 => []
  | k + 1 => tin ns size kind one k ++ (if tcond ns size kind one (one + 1 + (k : Int)) = true then [(one, one + 1 + (k : Int))] else [])
def tout (ns : List Int) (size kind : Int) : Nat → List Pr
  | 0 => []
  | i + 1 => tout ns size kind i ++ tin ns size kind (i : Int) (size - ((i : Int) + 1)).toNat
def tiesBy (ns : List Int) (size kind : Int) : List Pr := tout ns size kind size.toNat
theorem tin_mem {ns : List Int} {size kind one : Int} : ∀ {k : Nat} {p : Pr}, p ∈ tin ns size kind one k → p.1 = one ∧ one + 1 ≤ p.2 ∧ p.2 < one + 1 + (k : Int)
  | 0, p, h => by cases h
  | k + 1, p, h => by
    unfold tin at h
    rcases List.mem_append.mp h with z | z
    · have := tin_mem z; omega
    · by_cases c : tcond ns size kind one (one + 1 + (k : Int)) = true
      · rw [if_pos c, List.mem_singleton] at z
        subst z
        refine ⟨rfl, ?_, ?_⟩
        · show one + 1 ≤ one + 1 + (k : Int); omega
        · show one + 1 + (k : Int) < one + 1 + ((k + 1 : Nat) : Int); omega
      · rw [if_neg c] at z; cases z
theorem tin_up {ns : List Int} {size kind one : Int} : ∀ (k : Nat), (tin ns size kind one k).Pairwise plt
  | 0 => List.Pairwise.nil
  | k + 1 => by
    unfold tin
    refine List.pairwise_append.mpr ⟨tin_up k, ?_, fun a ha b hb => ?_⟩
    · by_cases c : tcond ns size kind one (one + 1 + (k : Int)) = true
      · rw [if_pos c]; exact List.pairwise_singleton _ _
      · rw [if_neg c]; exact List.Pairwise.nil
    · by_cases c : tcond ns size kind one (one + 1 + (k : Int)) = true
      · rw [if_pos c, List.mem_singleton] at hb
        subst hb
        exact .inr ⟨(tin_mem ha).1, (tin_mem ha).2.2⟩
      · rw [if_neg c] at hb; cases hb
theorem tout_mem {ns : List Int} {size kind : Int} : ∀ {i : Nat} {p : Pr}, p ∈ tout ns size kind i → 0 ≤ p.1 ∧ p.1 < (i : Int) ∧ p.1 < p.2 ∧ p.2 < size
  | 0, p, h => by cases h
  | i + 1, p, h => by
    unfold tout at h
    rcases List.mem_append.mp h with z | z
    · have := tout_mem z; omega
    · have := tin_mem z; omega
theorem tout_up {ns : List Int} {size kind : Int} : ∀ (i : Nat), (tout ns size kind i).Pairwise plt
  | 0 => List.Pairwise.nil
  | i + 1 => by
    unfold tout
    refine List.pairwise_append.mpr ⟨tout_up i, tin_up _, fun a ha b hb => ?_⟩
    have h1 := tout_mem ha
    have h2 := tin_mem hb
    unfold plt; omega
theorem tiesBy_tie {ns : List Int} {size kind : Int} {p : Pr} (h : p ∈ tiesBy ns size kind) : Tie size p := by
  have := tout_mem h
  exact ⟨this.1, this.2.2.1, this.2.2.2⟩
theorem tiesBy_up (ns : List Int) (size kind : Int) : (tiesBy ns size kind).Pairwise plt := tout_up _
theorem NewPrs.snoc {H H' : Hp} {us : List V} {ts : List Pr} {u : V} {p : Pr} (h : NewPrs H H' us ts) (hu : ∃ a, u = V.ref a ∧ H a = none ∧ H' a = some (.tup [.int p.1, .int p.2])) : NewPrs H H' (us ++ [u]) (ts ++ [p]) := by
  induction h with
  | nil => exact .cons hu .nil
  | cons r _ ih => exact .cons r ih
theorem NewPrs.tups {H H' H2 : Hp} (k : ∀ a xs, H' a = some (.tup xs) → H2 a = some (.tup xs)) : ∀ {us : List V} {ts : List Pr}, NewPrs H H' us ts → NewPrs H H2 us ts
  | _, _, .nil => .nil
  | _, _, .cons ⟨a, h1, h0, h2⟩ t => .cons ⟨a, h1, h0, k a _ h2⟩ (NewPrs.tups k t)
theorem Prs.tups {H H2 : Hp} (k : ∀ a xs, H a = some (.tup xs) → H2 a = some (.tup xs)) : ∀ {us : List V} {ts : List Pr}, Prs H us ts → Prs H2 us ts
  | _, _, .nil => .nil
  | _, _, .cons ⟨a, h1, h2⟩ t => .cons ⟨a, h1, k a _ h2⟩ (Prs.tups k t)
theorem NewPrs.len {H H' : Hp} {us : List V} {ts : List Pr} (h : NewPrs H H' us ts) : us.length = ts.length := Paired.length h
def spTiesBy (K : PySem.W.Frag) : Sp := fun vs H Q _ => ∃ (a : Addr) (ns : List Int) (size kind : Int), vs = [.ref a, .int size, .int kind] ∧ SqL K H a (ns.map V.int) ∧ 0 ≤ size ∧ size ≤ 40 ∧
  ∀ p us H', H p = none → Same H H' → H' p = some (.lst us) → NewPrs H H' us (tiesBy ns size kind) → Q (.ref p) H'
section
variable {P : Program} {w : World} {K : PySem.W.Frag} {mg : Str → Option Value} {c : Cs} {base : Heap}
theorem ok_ties_by (T : Top K mg c) : Fd.Has P w K mg base CX0 2 "_law_ties_by" ["_law_script", "_law_size", "_law_kind"] (spTiesBy K) := by
  have G__law_cell_at : Fd.Has P w K mg base CX0 1 "_law_cell_at" ["_law_script", "_law_k"] (spCell K) := ok_cell T
  have G__law_tied : Fd.Has P w K mg base CX0 1 "_law_tied" ["_law_kind", "_law_cell", "_law_one", "_law_other", "_law_size"] spTied := ok_tied T
  refine T.d__law_ties_by.ok sc__law_ties_by (fun vs H Q E h => ?_) (fun f cdv A outer s H vs Q E hr h => ?_)
  · obtain ⟨a, ns, size, kind, rfl, _⟩ := h; rfl
  · obtain ⟨a, ns, size, kind, rfl, hs, h0, h40, q⟩ := h
    have hr__law_cell_at := hr
    have hr__law_tied := hr
    refine ⟨_, (pss_cons (ps_set (i := 3) sc__law_ties_by.nd rfl (Or.inl rfl) (pe_lst pa_nil))
      (pss_cons (ps_for PassesOwn.never rfl (pi_range1 (by rfl) T.n_range (pa_cons (pv 1) pa_nil)) (pg_name (i := 4) sc__law_ties_by.nd rfl (Or.inl rfl))
      (pss_one (ps_for PassesOwn.never rfl (pi_range2 (by rfl) T.n_range (pa_cons (pe_op op_add (pv 4) pe_int) (pa_cons (pv 1) pa_nil))) (pg_name (i := 5) sc__law_ties_by.nd rfl (Or.inl rfl))
        (pss_cons (ps_set (i := 6) sc__law_ties_by.nd rfl (Or.inl rfl) (pe_op op_add (pe_op op_fdiv (pe_op op_mul (pv 5) (pe_op op_sub (pv 5) pe_int)) pe_int) (pv 4)))
          (pss_cons (ps_set (i := 7) sc__law_ties_by.nd rfl (Or.inl rfl) (pe_op op_add (Fd.pe_f G__law_cell_at hr__law_cell_at (by rfl) (pa_cons (pv 0) (pa_cons (pe_op op_add pe_int (pe_op op_mod (pv 6) pe_int)) pa_nil))) (pe_op op_mul (pe_op op_fdiv (pv 6) pe_int) pe_int)))
          (pss_one (ps_if (pt_val (Fd.pe_f G__law_tied hr__law_tied (by rfl) (pa_cons (pv 2) (pa_cons (pe_op op_fdivN (pv 7) (pe_op op_add pe_int (pe_op op_mod (pv 4) pe_int))) (pa_cons (pv 4) (pa_cons (pv 5) (pa_cons (pv 1) pa_nil)))))))
          (pss_one (ps_expr (pe_bm PySem.F.plainAttrs_list PySem.F.slot_list_append PySem.F.type_list_append mt_append (pv 3) (pa_cons (pe_tup (pa_cons (pv 4) (pa_cons (pv 5) pa_nil))) pa_nil))))
          pss_nil)))))))
      (pss_one (ps_ret (pv 3))))), ?_⟩
    refine ⟨Nat.zero_le _, fun p hp => ?_⟩
    refine ⟨_, rfl, size, rfl, by omega, by omega, for_range (lo := 0) (n := size.toNat) (fun i σ H' => ∃ v4 v5 v6 v7 us, σ = [some (.ref a), some (.int size), some (.int kind), some (.ref p), v4, v5, v6, v7] ∧ Same H H' ∧ H' p = some (.lst us) ∧ NewPrs H H' us (tout ns size kind i))
      ⟨none, none, none, none, [], rfl, Same.new hp, upd_same, .nil⟩ ?_ ?_⟩
    · rintro i σ H' hi ⟨v4, v5, v6, v7, us, rfl, s5, h5, np⟩
      rw [show (0 : Int) + (i : Int) = (i : Int) from Int.zero_add _]
      refine ⟨_, rfl, _, _, rfl, rfl, _, rfl, _, size, rfl, ⟨by omega, by omega, by omega, by omega⟩, for_range (lo := (i : Int) + 1) (n := (size - ((i : Int) + 1)).toNat) (fun k σ H' => ∃ v5 v6 v7 us, σ = [some (.ref a), some (.int size), some (.int kind), some (.ref p), some (.int (i : Int)), v5, v6, v7] ∧ Same H H' ∧ H' p = some (.lst us) ∧ NewPrs H H' us (tout ns size kind i ++ tin ns size kind (i : Int) k))
        ⟨v5, v6, v7, us, rfl, s5, h5, by rw [show tin ns size kind (i : Int) 0 = [] from rfl, List.append_nil]; exact np⟩ ?_ ?_⟩
      · rintro k σ H2 hk ⟨v5, v6, v7, us2, rfl, s6, h6, np6⟩
        generalize ho : (i : Int) + 1 + (k : Int) = o
        have ob : 0 ≤ o ∧ o < 40 := by omega
        have m0 : 0 ≤ (o * (o - 1) / 2 + (i : Int)) % 24 := Int.emod_nonneg _ (by decide)
        refine ⟨_, rfl, _, rfl, _, _, rfl, rfl, _, _, rfl, rfl, .inl ⟨by omega, by omega⟩, _, _, rfl, rfl, ⟨by decide, by decide⟩, _, rfl, _, _, rfl, rfl, ?_⟩
        have bd : -(2 ^ 64 : Int) < (o * (o - 1) / 2 + (i : Int)) / 24 ∧ (o * (o - 1) / 2 + (i : Int)) / 24 < 2 ^ 64 := by
          have h1 : 0 ≤ o * (o - 1) + 40 := by
            by_cases z : 0 < o
            · have := Int.mul_nonneg (show 0 ≤ o by omega) (show 0 ≤ o - 1 by omega); omega
            · have : o = 0 := by omega
              subst this; decide
          have h2 : o * (o - 1) ≤ 40 * 40 := by
            by_cases z : 0 < o
            · exact Int.mul_le_mul (by omega) (by omega) (by omega) (by decide)
            · have : o = 0 := by omega
              subst this; decide
          omega
        refine ⟨_, rfl, _, rfl, _, _, rfl, rfl, (by show (0 : Int) < 24; decide), _, _, rfl, rfl, a, ns, _, rfl, s6.seq hs, by omega, _, rfl, _, _, rfl, rfl, ⟨by decide, by decide⟩, _, _, rfl, rfl, .inl bd, _, _, rfl, rfl, ?_⟩
        have m3 : 0 ≤ (i : Int) % 3 ∧ (i : Int) % 3 < 3 := ⟨Int.emod_nonneg _ (by decide), Int.emod_lt_of_pos _ (by decide)⟩
        refine ⟨_, rfl, _, rfl, _, rfl, _, _, rfl, rfl, (by show (0 : Int) < 3; decide), _, _, rfl, rfl, _, _, rfl, rfl, ⟨by omega, by omega⟩, _, rfl, _, rfl, _, rfl, _, _, _, _, _, rfl, _, rfl, ?_⟩
        have et : tied kind ((cell ns (3 + (o * (o - 1) / 2 + (i : Int)) % 24) + (o * (o - 1) / 2 + (i : Int)) / 24 * 7919).fdiv (1 + (i : Int) % 3)) (i : Int) o size = tcond ns size kind (i : Int) o := rfl
        rw [et]
        have en : tin ns size kind (i : Int) (k + 1) = tin ns size kind (i : Int) k ++ (if tcond ns size kind (i : Int) o = true then [((i : Int), o)] else []) := by rw [← ho]; rfl
        cases hc : tcond ns size kind (i : Int) o with
        | false =>
          refine iteF ⟨_, _, _, us2, rfl, s6, h6, ?_⟩
          rw [en, hc, if_neg Bool.false_ne_true, List.append_nil]; exact np6
        | true =>
          refine iteT ⟨_, rfl, .inl ⟨rfl, _, SqL.of h6⟩, _, rfl, _, rfl, (by show 2 ≤ sizeLine; decide), fun r hr' => ?_⟩
          have npr : p ≠ r := ne_of_none h6 hr'
          have few : us2.length ≤ 800 := by
            rw [np6.len]
            refine few_ties h40 (fun x hx => ?_) (plt_nodup ?_)
            · rcases List.mem_append.mp hx with z | z
              · have := tout_mem z; exact ⟨this.1, this.2.2.1, this.2.2.2⟩
              · have := tin_mem z
                refine ⟨by omega, by omega, by omega⟩
            · refine List.pairwise_append.mpr ⟨tout_up _, tin_up _, fun x hx y hy => ?_⟩
              have h1 := tout_mem hx
              have h2 := tin_mem hy
              unfold plt; omega
          refine ⟨p, us2, _, rfl, rfl, by rw [upd_ne npr]; exact h6, by rw [sizeLine_eq]; omega, _, _, _, _, rfl, Same.mut (Same.trans s6 (Same.new hr')) hp, upd_same, ?_⟩
          rw [en, hc, if_pos rfl, ← List.append_assoc]
          refine NewPrs.snoc ?_ ⟨r, rfl, s6.free hr', by rw [upd_ne npr.symm]; exact upd_same⟩
          refine np6.tups fun x xs h2 => ?_
          rw [upd_ne (ne_of h2 h6 (fun z => nomatch z)), upd_ne (ne_of_none h2 hr')]; exact h2
      · rintro σ H2 ⟨v5, v6, v7, us2, rfl, s6, h6, np6⟩
        exact ⟨_, _, _, _, us2, rfl, s6, h6, np6⟩
    · rintro σ H' ⟨v4, v5, v6, v7, us, rfl, s5, h5, np⟩
      exact ⟨_, rfl, q p us H' hp s5 h5 np⟩
end
end Od

namespace Od
open PySem PySem.Spec PyProof.Rows L2
def great (ns : List Int) : Bool := decide (cell ns 0 / 11 % 9 = 4)
def netSize (ns : List Int) (b : Int) : Int := if great ns = true then 30 + cell ns 0 / 99 % 11 else if cell ns 0 / 11 % 9 = 6 then 12 + cell ns 0 / 99 % 11 else 1 + cell ns 0 % b
def netKind (ns : List Int) : Int := if great ns = true then 1 + 2 * (cell ns 1 % 5 % 2) else cell ns 1 % 5
def netTies (ns : List Int) (b : Int) : List Pr := tiesBy ns (netSize ns b) (netKind ns)
theorem netSize_bd (ns : List Int) {b : Int} (h1 : 0 < b) (h2 : b ≤ 12) : 1 ≤ netSize ns b ∧ netSize ns b ≤ 40 := by
  unfold netSize
  have a1 := Int.emod_nonneg (cell ns 0 / 99) (show (11 : Int) ≠ 0 by decide)
  have a2 := Int.emod_lt_of_pos (cell ns 0 / 99) (show (0 : Int) < 11 by decide)
  have a3 := Int.emod_nonneg (cell ns 0) (show b ≠ 0 by omega)
  have a4 := Int.emod_lt_of_pos (cell ns 0) h1
  by_cases c1 : great ns = true
  · rw [if_pos c1]; omega
  · rw [if_neg c1]
    by_cases c2 : cell ns 0 / 11 % 9 = 6
    · rw [if_pos c2]; omega
    · rw [if_neg c2]; omega
def spSizeBy (K : PySem.W.Frag) : Sp := fun vs H Q _ => ∃ (a : Addr) (ns : List Int) (b : Int), vs = [.ref a, .int b] ∧ SqL K H a (ns.map V.int) ∧ 0 < b ∧ Q (.int (1 + cell ns 0 % b)) H
def spKindBy (K : PySem.W.Frag) : Sp := fun vs H Q _ => ∃ (a : Addr) (ns : List Int), vs = [.ref a] ∧ SqL K H a (ns.map V.int) ∧ Q (.int (cell ns 1 % 5)) H
def spGreat (K : PySem.W.Frag) : Sp := fun vs H Q _ => ∃ (a : Addr) (ns : List Int), vs = [.ref a] ∧ SqL K H a (ns.map V.int) ∧ Q (.bl (great ns)) H
def spNetBy (K : PySem.W.Frag) : Sp := fun vs H Q _ => ∃ (a : Addr) (ns : List Int) (b : Int), vs = [.ref a, .int b] ∧ SqL K H a (ns.map V.int) ∧ 0 < b ∧ b ≤ 12 ∧
  ∀ t p us H', H p = none → Same H H' → H' p = some (.lst us) → NewPrs H H' us (netTies ns b) → H' t = some (.tup [.int (netSize ns b), .ref p]) → Q (.ref t) H'
def spMixed : Sp := fun vs H Q _ => ∃ (l : Addr) (us : List V) (cl : Int), vs = [.ref l, .int cl] ∧ H l = some (.lst us) ∧ us.length ≤ 1000 ∧ ∀ p ws H', H p = none → Same H H' → H' p = some (.lst ws) → ws.Perm us → Q (.ref p) H'
def spWhole : Sp := fun vs H Q _ => ∃ x t, vs = [x] ∧ Kd H x t ∧ Q (.bl (isInt x)) H
section
variable {P : Program} {w : World} {K : PySem.W.Frag} {mg : Str → Option Value} {c : Cs} {base : Heap}
theorem ok_size_by (T : Top K mg c) : Fd.Has P w K mg base CX0 2 "_law_size_by" ["_law_script", "_law_bound"] (spSizeBy K) := by
  have G__law_cell_at : Fd.Has P w K mg base CX0 1 "_law_cell_at" ["_law_script", "_law_k"] (spCell K) := ok_cell T
  refine T.d__law_size_by.ok sc__law_size_by (fun vs H Q E h => ?_) (fun f cdv A outer s H vs Q E hr h => ?_)
  · obtain ⟨a, ns, b, rfl, _⟩ := h; rfl
  · obtain ⟨a, ns, b, rfl, hs, hb, q⟩ := h
    have hr__law_cell_at := hr
    refine ⟨_, (pss_one (ps_ret (pe_op op_add pe_int (pe_op op_modN (Fd.pe_f G__law_cell_at hr__law_cell_at (by rfl) (pa_cons (pv 0) (pa_cons pe_int pa_nil))) (pv 1))))), ?_⟩
    refine ⟨_, rfl, a, ns, 0, rfl, hs, Int.le_refl 0, _, rfl, _, _, rfl, rfl, (show b ≠ 0 by omega), _, _, rfl, rfl, ?_⟩
    rw [Int.fmod_eq_emod_of_nonneg _ (by omega)]
    exact q
theorem ok_kind_by (T : Top K mg c) : Fd.Has P w K mg base CX0 2 "_law_kind_by" ["_law_script"] (spKindBy K) := by
  have G__law_cell_at : Fd.Has P w K mg base CX0 1 "_law_cell_at" ["_law_script", "_law_k"] (spCell K) := ok_cell T
  refine T.d__law_kind_by.ok sc__law_kind_by (fun vs H Q E h => ?_) (fun f cdv A outer s H vs Q E hr h => ?_)
  · obtain ⟨a, ns, rfl, _⟩ := h; rfl
  · obtain ⟨a, ns, rfl, hs, q⟩ := h
    have hr__law_cell_at := hr
    refine ⟨_, (pss_one (ps_ret (pe_op op_mod (Fd.pe_f G__law_cell_at hr__law_cell_at (by rfl) (pa_cons (pv 0) (pa_cons pe_int pa_nil))) pe_int))), ?_⟩
    exact ⟨_, rfl, a, ns, 1, rfl, hs, by decide, _, _, rfl, rfl, (by show (0 : Int) < 5; decide), q⟩
theorem ok_great (T : Top K mg c) : Fd.Has P w K mg base CX0 2 "_law_great" ["_law_script"] (spGreat K) := by
  have G__law_cell_at : Fd.Has P w K mg base CX0 1 "_law_cell_at" ["_law_script", "_law_k"] (spCell K) := ok_cell T
  refine T.d__law_great.ok sc__law_great (fun vs H Q E h => ?_) (fun f cdv A outer s H vs Q E hr h => ?_)
  · obtain ⟨a, ns, rfl, _⟩ := h; rfl
  · obtain ⟨a, ns, rfl, hs, q⟩ := h
    have hr__law_cell_at := hr
    refine ⟨_, (pss_one (ps_ret (pe_cmpR op_eq (pe_op op_mod (pe_op op_fdiv (Fd.pe_f G__law_cell_at hr__law_cell_at (by rfl) (pa_cons (pv 0) (pa_cons pe_int pa_nil))) pe_int) pe_int) pe_int (nomark _)))), ?_⟩
    refine ⟨_, rfl, a, ns, 0, rfl, hs, by decide, _, _, rfl, rfl, ⟨by decide, by decide⟩, _, _, rfl, rfl, (by show (0 : Int) < 9; decide), rfl, ?_⟩
    rw [vint]; exact q
theorem ok_net_by (T : Top K mg c) : Fd.Has P w K mg base CX0 3 "_law_net_by" ["_law_script", "_law_bound"] (spNetBy K) := by
  have G__law_cell_at : Fd.Has P w K mg base CX0 1 "_law_cell_at" ["_law_script", "_law_k"] (spCell K) := ok_cell T
  have G__law_size_by : Fd.Has P w K mg base CX0 2 "_law_size_by" ["_law_script", "_law_bound"] (spSizeBy K) := ok_size_by T
  have G__law_kind_by : Fd.Has P w K mg base CX0 2 "_law_kind_by" ["_law_script"] (spKindBy K) := ok_kind_by T
  have G__law_great : Fd.Has P w K mg base CX0 2 "_law_great" ["_law_script"] (spGreat K) := ok_great T
  have G__law_ties_by : Fd.Has P w K mg base CX0 2 "_law_ties_by" ["_law_script", "_law_size", "_law_kind"] (spTiesBy K) := ok_ties_by T
  refine T.d__law_net_by.ok sc__law_net_by (fun vs H Q E h => ?_) (fun f cdv A outer s H vs Q E hr h => ?_)
  · obtain ⟨a, ns, b, rfl, _⟩ := h; rfl
  · obtain ⟨a, ns, b, rfl, hs, hb, hb2, q⟩ := h
    have hr__law_size_by := hr
    have hr__law_kind_by := hr
    have hr__law_great := hr
    have hr__law_ties_by := hr
    have hr__law_cell_at := hr.mono (show 1 ≤ 2 by decide)
    refine ⟨_, (pss_cons (ps_set (i := 2) sc__law_net_by.nd rfl (Or.inl rfl) (Fd.pe_f G__law_size_by hr__law_size_by (by rfl) (pa_cons (pv 0) (pa_cons (pv 1) pa_nil))))
      (pss_cons (ps_set (i := 3) sc__law_net_by.nd rfl (Or.inl rfl) (Fd.pe_f G__law_kind_by hr__law_kind_by (by rfl) (pa_cons (pv 0) pa_nil)))
      (pss_cons (ps_if (pt_cmpR op_eq (pe_op op_mod (pe_op op_fdiv (Fd.pe_f G__law_cell_at hr__law_cell_at (by rfl) (pa_cons (pv 0) (pa_cons pe_int pa_nil))) pe_int) pe_int) pe_int (nomark _))
      (pss_one (ps_set (i := 2) sc__law_net_by.nd rfl (Or.inl rfl) (pe_op op_add pe_int (pe_op op_mod (pe_op op_fdiv (Fd.pe_f G__law_cell_at hr__law_cell_at (by rfl) (pa_cons (pv 0) (pa_cons pe_int pa_nil))) pe_int) pe_int))))
      pss_nil)
      (pss_cons (ps_if (pt_val (Fd.pe_f G__law_great hr__law_great (by rfl) (pa_cons (pv 0) pa_nil)))
      (pss_cons (ps_set (i := 2) sc__law_net_by.nd rfl (Or.inl rfl) (pe_op op_add pe_int (pe_op op_mod (pe_op op_fdiv (Fd.pe_f G__law_cell_at hr__law_cell_at (by rfl) (pa_cons (pv 0) (pa_cons pe_int pa_nil))) pe_int) pe_int)))
        (pss_one (ps_set (i := 3) sc__law_net_by.nd rfl (Or.inl rfl) (pe_op op_add pe_int (pe_op op_mul pe_int (pe_op op_mod (pv 3) pe_int))))))
      pss_nil)
      (pss_one (ps_ret (pe_tup (pa_cons (pv 2) (pa_cons (Fd.pe_f G__law_ties_by hr__law_ties_by (by rfl) (pa_cons (pv 0) (pa_cons (pv 2) (pa_cons (pv 3) pa_nil)))) pa_nil))))))))), ?_⟩
    refine ⟨_, rfl, _, rfl, a, ns, b, rfl, hs, hb, ?_⟩
    refine ⟨_, rfl, a, ns, rfl, hs, ?_⟩
    have bd := netSize_bd ns hb hb2
    -- the end, from any size and kind that are the mirror's
    have fin : ∀ sz kd : Int, sz = netSize ns b → kd = netKind ns → tTup (tCons (tVar 2) (tCons (tCall (spTiesBy K) [] E0 (tCons (tVar 0) (tCons (tVar 2) (tCons (tVar 3) tNil)))) tNil)) [some (.ref a), some (.int b), some (.int sz), some (.int kd)] H Q := fun sz kd e1 e2 => by
      subst e1 e2
      refine ⟨_, rfl, _, rfl, _, rfl, _, rfl, a, ns, _, _, rfl, hs, by omega, bd.2, fun p us H' hp s5 h5 np => ⟨(by show 2 ≤ sizeLine; decide), fun t ht => ?_⟩⟩
      have npt : p ≠ t := ne_of_none h5 ht
      refine q t p us _ hp (Same.trans s5 (Same.new ht)) (by rw [upd_ne npt]; exact h5) (np.tups fun x xs h2 => ?_) upd_same
      rw [upd_ne (ne_of_none h2 ht)]; exact h2
    refine ⟨_, rfl, a, ns, 0, rfl, hs, by decide, _, _, rfl, rfl, ⟨by decide, by decide⟩, _, _, rfl, rfl, (by show (0 : Int) < 9; decide), rfl, _, rfl, ?_⟩
    rw [vint]
    by_cases c6 : cell ns 0 / 11 % 9 = 6
    · rw [decide_eq_true c6]
      refine iteT ⟨_, rfl, a, ns, 0, rfl, hs, by decide, _, _, rfl, rfl, ⟨by decide, by decide⟩, _, _, rfl, rfl, (by show (0 : Int) < 11; decide), _, _, rfl, rfl, ?_⟩
      have cg : great ns = false := by unfold great; rw [c6]; rfl
      refine ⟨_, rfl, a, ns, rfl, hs, _, rfl, ?_⟩
      rw [cg]
      refine iteF ?_
      refine fin _ _ ?_ ?_
      · unfold netSize; rw [cg, if_neg Bool.false_ne_true, if_pos c6]
      · unfold netKind; rw [cg, if_neg Bool.false_ne_true]
    · rw [decide_eq_false c6]
      refine iteF ?_
      refine ⟨_, rfl, a, ns, rfl, hs, _, rfl, ?_⟩
      cases cg : great ns with
      | false =>
        refine iteF ?_
        refine fin _ _ ?_ ?_
        · unfold netSize; rw [cg, if_neg Bool.false_ne_true, if_neg c6]
        · unfold netKind; rw [cg, if_neg Bool.false_ne_true]
      | true =>
        refine iteT ⟨_, rfl, a, ns, 0, rfl, hs, by decide, _, _, rfl, rfl, ⟨by decide, by decide⟩, _, _, rfl, rfl, (by show (0 : Int) < 11; decide), _, _, rfl, rfl, ?_⟩
        refine ⟨_, rfl, _, _, rfl, rfl, (by show (0 : Int) < 2; decide), _, _, rfl, rfl, .inl ⟨by decide, by decide⟩, _, _, rfl, rfl, ?_⟩
        refine fin _ _ ?_ ?_
        · unfold netSize; rw [cg, if_pos rfl]
        · unfold netKind; rw [cg, if_pos rfl]
theorem ok_whole (T : Top K mg c) : Fd.Has P w K mg base CX0 1 "_law_whole" ["_law_found"] spWhole := by
  refine T.d__law_whole.ok sc__law_whole (fun vs H Q E h => ?_) (fun f cdv A outer s H vs Q E hr h => ?_)
  · obtain ⟨x, t, rfl, _⟩ := h; rfl
  · obtain ⟨x, t, rfl, k, q⟩ := h
    refine ⟨_, (pss_one (ps_ret (pe_and (pe_callB (r := rIsi K) call_isi (by rfl) T.n_isinstance boot_isinstance (pa_cons (pv 0) (pa_cons (pe_bltn (v := .ty "int") (by rfl) T.n_int boot_int rfl) pa_nil))) (pe_one (pe_not (pe_callB (r := rIsi K) call_isi (by rfl) T.n_isinstance boot_isinstance (pa_cons (pv 0) (pa_cons (pe_bltn (v := .ty "bool") (by rfl) T.n_bool boot_bool rfl) pa_nil)))))))), ?_⟩
    refine ⟨x, rfl, _, _, _, _, _, rfl, ClsV.ty _, k.tyx, kit_ty (kit_int t), _, rfl, ?_⟩
    have hv := k.int_iff
    by_cases c : (t = .int || t = .bool) = true
    · rw [if_pos c]
      refine ⟨x, rfl, _, _, _, _, _, rfl, ClsV.ty _, k.tyx, kit_ty (kit_bool t), _, rfl, ?_⟩
      show Q (.bl (!decide (t = .bool))) H
      have e : (!decide (t = .bool)) = isInt x := by
        rw [← hv]; revert c; cases t <;> simp
      rw [e]; exact q
    · rw [if_neg c]
      show Q (.bl false) H
      have e : false = isInt x := by
        rw [← hv]; revert c; cases t <;> simp
      rw [e]; exact q
end
end Od

namespace Od
open PySem PySem.Spec PyProof.Rows L2
def spSole (K : PySem.W.Frag) (c : Cs) (a : Addr) (cls : Value) (d : Option Addr) : Sp := fun vs H Q _ => vs = [.ref a] ∧ (∃ D, cls = .ref D ∧ d = none ∧ Leaf K c D) ∧ Q (.bl true) H
section
variable {P : Program} {w : World} {K : PySem.W.Frag} {mg : Str → Option Value} {c : Cs} {base : Heap}
theorem cls_ref {C : Addr} : ∀ u, RelV (V.ref C) u → u = Value.ref C := fun _ h => h
theorem b2i (b : Bool) (n : Int) : (V.int (n + (if b then 1 else 0))) = V.int (n + (if b then 1 else 0)) := rfl
theorem ok_sole (T : Top K mg c) (a : Addr) (oe : Obj) (cls : Value) (d : Option Addr) (hz : L2N.Zn cls d oe) (hf : ∃ vs, oe.data = .fields vs) : Fh.HasP P w K mg base 1 "_law_sole" ["_law_error"] (spSole K c a cls d) (a, oe) := by
  by_cases hL : ∃ D, cls = .ref D ∧ d = none ∧ Leaf K c D
  · obtain ⟨D, rfl, rfl, L⟩ := hL
    have hz1 : oe.cls = .ref D := hz.1
    have hz2 : oe.dict = none := hz.2.1
    have hz3 := hf
    generalize hp : (a, oe) = p
    have e1 : p.1 = a := by rw [← hp]
    have e2 : p.2 = oe := by rw [← hp]
    rw [← e2] at hz1 hz2 hz3
    refine Fh.okP T.d__law_sole sc__law_sole (fun vs H Q E h => ?_) (fun f cdv A outer s H vs Q E hot hr h => ?_)
    · obtain ⟨rfl, _⟩ := h; rfl
    · obtain ⟨rfl, _, q⟩ := h
      obtain ⟨b0, b1, b2, b3, b4, b5, b6, k0, k1, k2, k3, k4, k5, k6, hc⟩ := L.l
      rw [← e1]
      refine ⟨_, (pss_cons (ps_set (i := 1) sc__law_sole.nd rfl (Or.inl rfl) pe_int)
      (pss_cons (ps_set (i := 1) sc__law_sole.nd rfl (Or.inl rfl) (pe_op op_add (pv 1) (pe_callTy call_int1 (by rfl) T.n_int boot_int (pa_cons (pe_callB (Fd.call_isP (show p ∈ [p] from List.mem_cons_self) L.x hz1 hz2 hz3) (by rfl) T.n_isinstance boot_isinstance (pa_cons (pv 0) (pa_cons (pe_glob (v := .ref c.BadNet) (by rfl) T.e_BadNet.c rfl) pa_nil))) pa_nil))))
      (pss_cons (ps_set (i := 1) sc__law_sole.nd rfl (Or.inl rfl) (pe_op op_add (pv 1) (pe_callTy call_int1 (by rfl) T.n_int boot_int (pa_cons (pe_callB (Fd.call_isP (show p ∈ [p] from List.mem_cons_self) L.x hz1 hz2 hz3) (by rfl) T.n_isinstance boot_isinstance (pa_cons (pv 0) (pa_cons (pe_glob (v := .ref c.NoPlace) (by rfl) T.e_NoPlace.c rfl) pa_nil))) pa_nil))))
      (pss_cons (ps_set (i := 1) sc__law_sole.nd rfl (Or.inl rfl) (pe_op op_add (pv 1) (pe_callTy call_int1 (by rfl) T.n_int boot_int (pa_cons (pe_callB (Fd.call_isP (show p ∈ [p] from List.mem_cons_self) L.x hz1 hz2 hz3) (by rfl) T.n_isinstance boot_isinstance (pa_cons (pv 0) (pa_cons (pe_glob (v := .ref c.BadPairs) (by rfl) T.e_BadPairs.c rfl) pa_nil))) pa_nil))))
      (pss_cons (ps_set (i := 1) sc__law_sole.nd rfl (Or.inl rfl) (pe_op op_add (pv 1) (pe_callTy call_int1 (by rfl) T.n_int boot_int (pa_cons (pe_callB (Fd.call_isP (show p ∈ [p] from List.mem_cons_self) L.x hz1 hz2 hz3) (by rfl) T.n_isinstance boot_isinstance (pa_cons (pv 0) (pa_cons (pe_glob (v := .ref c.BadWay) (by rfl) T.e_BadWay.c rfl) pa_nil))) pa_nil))))
      (pss_cons (ps_set (i := 1) sc__law_sole.nd rfl (Or.inl rfl) (pe_op op_add (pv 1) (pe_callTy call_int1 (by rfl) T.n_int boot_int (pa_cons (pe_callB (Fd.call_isP (show p ∈ [p] from List.mem_cons_self) L.x hz1 hz2 hz3) (by rfl) T.n_isinstance boot_isinstance (pa_cons (pv 0) (pa_cons (pe_glob (v := .ref c.TieThere) (by rfl) T.e_TieThere.c rfl) pa_nil))) pa_nil))))
      (pss_cons (ps_set (i := 1) sc__law_sole.nd rfl (Or.inl rfl) (pe_op op_add (pv 1) (pe_callTy call_int1 (by rfl) T.n_int boot_int (pa_cons (pe_callB (Fd.call_isP (show p ∈ [p] from List.mem_cons_self) L.x hz1 hz2 hz3) (by rfl) T.n_isinstance boot_isinstance (pa_cons (pv 0) (pa_cons (pe_glob (v := .ref c.NoTie) (by rfl) T.e_NoTie.c rfl) pa_nil))) pa_nil))))
      (pss_cons (ps_set (i := 1) sc__law_sole.nd rfl (Or.inl rfl) (pe_op op_add (pv 1) (pe_callTy call_int1 (by rfl) T.n_int boot_int (pa_cons (pe_callB (Fd.call_isP (show p ∈ [p] from List.mem_cons_self) L.x hz1 hz2 hz3) (by rfl) T.n_isinstance boot_isinstance (pa_cons (pv 0) (pa_cons (pe_glob (v := .ref c.OddRing) (by rfl) T.e_OddRing.c rfl) pa_nil))) pa_nil))))
      (pss_one (ps_ret (pe_and (pe_cmpR op_eq (pv 1) pe_int (nomark _)) (pe_and (pe_callB (Fd.call_isP (show p ∈ [p] from List.mem_cons_self) L.x hz1 hz2 hz3) (by rfl) T.n_isinstance boot_isinstance (pa_cons (pv 0) (pa_cons (pe_glob (v := .ref c.NetError) (by rfl) T.e_NetError.c rfl) pa_nil))) (pe_one (pe_callB (Fd.call_isP (show p ∈ [p] from List.mem_cons_self) L.x hz1 hz2 hz3) (by rfl) T.n_isinstance boot_isinstance (pa_cons (pv 0) (pa_cons (pe_bltn (v := .ty "ValueError") (by rfl) T.n_ValueError (by decide +kernel) rfl) pa_nil)))))))))))))))), ?_⟩
      refine ⟨_, rfl, _, rfl, _, _, _, rfl, cls_ref, k0, .inr ⟨_, rfl, _, _, rfl, rfl, ?_⟩⟩
      refine ⟨_, rfl, _, rfl, _, _, _, rfl, cls_ref, k1, .inr ⟨_, rfl, _, _, rfl, rfl, ?_⟩⟩
      refine ⟨_, rfl, _, rfl, _, _, _, rfl, cls_ref, k2, .inr ⟨_, rfl, _, _, rfl, rfl, ?_⟩⟩
      refine ⟨_, rfl, _, rfl, _, _, _, rfl, cls_ref, k3, .inr ⟨_, rfl, _, _, rfl, rfl, ?_⟩⟩
      refine ⟨_, rfl, _, rfl, _, _, _, rfl, cls_ref, k4, .inr ⟨_, rfl, _, _, rfl, rfl, ?_⟩⟩
      refine ⟨_, rfl, _, rfl, _, _, _, rfl, cls_ref, k5, .inr ⟨_, rfl, _, _, rfl, rfl, ?_⟩⟩
      refine ⟨_, rfl, _, rfl, _, _, _, rfl, cls_ref, k6, .inr ⟨_, rfl, _, _, rfl, rfl, ?_⟩⟩
      refine ⟨_, rfl, rfl, _, rfl, ?_⟩
      have e : decide (V.int (0 + (if b0 = true then 1 else 0) + (if b1 = true then 1 else 0) + (if b2 = true then 1 else 0) + (if b3 = true then 1 else 0) + (if b4 = true then 1 else 0) + (if b5 = true then 1 else 0) + (if b6 = true then 1 else 0)) = V.int 1) = true := by
        rw [vint]
        revert hc
        cases b0 <;> cases b1 <;> cases b2 <;> cases b3 <;> cases b4 <;> cases b5 <;> cases b6 <;> decide
      rw [e]
      refine iteT ⟨_, rfl, _, _, _, rfl, cls_ref, L.n, _, rfl, ?_⟩
      refine iteT ⟨_, rfl, _, _, _, rfl, (fun u h => h), L.v, q⟩
  · refine Fh.okP (N := N__law_sole) T.d__law_sole sc__law_sole (fun vs H Q E h => ?_) (fun f cdv A outer s H vs Q E hot hr h => ?_)
    · obtain ⟨rfl, _⟩ := h; rfl
    · exact absurd h.2.1 hL
end
end Od

namespace Od
open PySem PySem.Spec PyProof.Rows L2
section
variable {P : Program} {w : World} {K : PySem.W.Frag} {mg : Str → Option Value} {c : Cs} {base : Heap}
theorem ok_mixed (T : Top K mg c) : Fd.Has P w K mg base CX0 1 "_law_mixed" ["_law_row", "_law_cell"] spMixed := by
  refine T.d__law_mixed.ok sc__law_mixed (fun vs H Q E h => ?_) (fun f cdv A outer s H vs Q E hr h => ?_)
  · obtain ⟨l, us, cl, rfl, _⟩ := h; rfl
  · obtain ⟨l, us, cl, rfl, hl, hz, q⟩ := h
    refine ⟨_, (pss_cons (ps_set (i := 2) sc__law_mixed.nd rfl (Or.inl rfl) (pe_lst pa_nil))
      (pss_cons (ps_for PassesOwn.never rfl (pi_enum (by rfl) T.n_enumerate (pa_cons (pv 0) pa_nil)) (pg_tup rfl (pgs_cons (pg_name (i := 3) sc__law_mixed.nd rfl (Or.inl rfl)) (pgs_cons (pg_name (i := 4) sc__law_mixed.nd rfl (Or.inl rfl)) pgs_nil)))
      (pss_one (ps_expr (pe_bm PySem.F.plainAttrs_list PySem.F.slot_list_insert PySem.F.type_list_insert mt_insert (pv 2) (pa_cons (pe_op op_modN (pe_op op_add (pe_op op_fdivN (pv 1) (pe_op op_add (pv 3) pe_int)) (pv 3)) (pe_op op_add (pe_callB call_len_seq (by rfl) T.n_len boot_len (pa_cons (pv 2) pa_nil)) pe_int)) (pa_cons (pv 4) pa_nil))))))
      (pss_one (ps_ret (pv 2))))), ?_⟩
    refine ⟨Nat.zero_le _, fun p hp => ?_⟩
    refine ⟨_, rfl, l, us, rfl, SqL.of ((Same.new hp) _ _ hl), for_it walk_enum (fun i σ H' => ∃ v3 v4 ws, σ = [some (.ref l), some (.int cl), some (.ref p), v3, v4] ∧ Same H H' ∧ H' p = some (.lst ws) ∧ ws.Perm (us.take i))
      ⟨none, none, [], rfl, Same.new hp, upd_same, List.Perm.refl _⟩ (fun i σ H' _ ⟨_, _, _, _, s5, _⟩ => s5.seq (SqL.of hl)) ?_ ?_⟩
    · rintro i x σ H1 H2 hi ⟨v3, v4, ws, rfl, s5, h5, pm⟩ ⟨t, x1, y, rfl, ht, rfl, hx1, hy⟩
      cases hx1
      have npt : p ≠ t := ne_of_none h5 ht
      have lw : ws.length = i := by rw [pm.length_eq, List.length_take]; omega
      have h5' : upd H1 t (.tup [.int (i : Nat), y]) p = some (.lst ws) := by rw [upd_ne npt]; exact h5
      refine ⟨t, _, rfl, SqT.of upd_same, rfl, _, _, rfl, _, _, rfl, rfl, ?_⟩
      have m0 := Int.emod_nonneg (cl.fdiv ((i : Int) + 1) + (i : Int)) (show ((ws.length : Nat) : Int) + 1 ≠ 0 by omega)
      have m1 := Int.emod_lt_of_pos (cl.fdiv ((i : Int) + 1) + (i : Int)) (show (0 : Int) < ((ws.length : Nat) : Int) + 1 by omega)
      refine ⟨_, rfl, .inl ⟨rfl, _, SqL.of h5'⟩, _, rfl, _, rfl, _, _, rfl, rfl, _, _, rfl, rfl, ⟨by omega, by omega⟩, _, rfl, _, _, rfl, rfl, _, rfl, p, ws, rfl, .inl (SqL.of h5'), _, _, rfl, rfl, _, _, rfl, rfl, (show ((ws.length : Nat) : Int) + 1 ≠ 0 by omega), _, rfl, p, ws, _, y, rfl, rfl, h5', by rw [sizeLine_eq]; omega, ?_, ?_, ?_⟩
      · rw [Int.fmod_eq_emod_of_nonneg _ (by omega)]; exact m0
      · rw [Int.fmod_eq_emod_of_nonneg _ (by omega)]; omega
      · refine ⟨_, _, _, rfl, Same.mut (Same.trans s5 (Same.new ht)) hp, upd_same, ?_⟩
        have tk : us.take (i + 1) = us.take i ++ [y] := by rw [List.take_succ, show us[i]? = some y from hy]; rfl
        rw [tk]
        generalize (Int.fmod (cl.fdiv ((i : Int) + 1) + (i : Int)) (((ws.length : Nat) : Int) + 1)).toNat = j
        refine List.Perm.trans ?_ (List.Perm.append_right [y] pm)
        rw [List.append_assoc]
        refine List.Perm.trans (List.Perm.append_left _ List.perm_append_comm) ?_
        rw [← List.append_assoc, List.take_append_drop]
    · rintro σ H' ⟨v3, v4, ws, rfl, s5, h5, pm⟩
      rw [List.take_length] at pm
      exact ⟨_, rfl, q p ws H' hp s5 h5 pm⟩
end
end Od

namespace Od
open PySem PySem.Spec PyProof.Rows L2
def nbg (k : Int) (p : Pr) : Option Int := if p.1 = k then some p.2 else if p.2 = k then some p.1 else none
theorem nbr_eq (k : Int) : ∀ (ts : List Pr) (acc : List Int), ts.foldl (nbs k) acc = acc ++ ts.filterMap (nbg k)
  | [], acc => by simp
  | p :: ts, acc => by
    rw [List.foldl_cons, nbr_eq k ts]
    unfold nbs nbg
    by_cases a : p.1 = k
    · rw [if_pos a, List.filterMap_cons_some (b := p.2) (by rw [if_pos a]), List.append_assoc]; rfl
    · rw [if_neg a]
      by_cases b : p.2 = k
      · rw [if_pos b, List.filterMap_cons_some (b := p.1) (by rw [if_neg a, if_pos b]), List.append_assoc]; rfl
      · rw [if_neg b, List.filterMap_cons_none (by rw [if_neg a, if_neg b])]
theorem nbr_fm (ts : List Pr) (k : Int) : nbr ts k = ts.filterMap (nbg k) := by unfold nbr; rw [nbr_eq]; rfl
theorem nbr_up {n : Int} {ts : List Pr} (h : ∀ p ∈ ts, Tie n p) (up : ts.Pairwise plt) (k : Int) : (nbr ts k).Pairwise (· < ·) := by
  rw [nbr_fm, List.pairwise_filterMap]
  refine List.Pairwise.imp_of_mem (fun {p q} hp hq hpq x hx y hy => ?_) up
  obtain ⟨a1, a2, a3⟩ := h p hp
  obtain ⟨b1, b2, b3⟩ := h q hq
  unfold plt at hpq
  unfold nbg at hx hy
  by_cases c1 : p.1 = k
  · rw [if_pos c1] at hx; cases hx
    by_cases d1 : q.1 = k
    · rw [if_pos d1] at hy; cases hy; omega
    · rw [if_neg d1] at hy
      by_cases d2 : q.2 = k
      · rw [if_pos d2] at hy; cases hy; omega
      · rw [if_neg d2] at hy; cases hy
  · rw [if_neg c1] at hx
    by_cases c2 : p.2 = k
    · rw [if_pos c2] at hx; cases hx
      by_cases d1 : q.1 = k
      · rw [if_pos d1] at hy; cases hy; omega
      · rw [if_neg d1] at hy
        by_cases d2 : q.2 = k
        · rw [if_pos d2] at hy; cases hy; omega
        · rw [if_neg d2] at hy; cases hy
    · rw [if_neg c2] at hx; cases hx
theorem sorted_one {a b : List Int} (p : a.Perm b) (ha : a.Pairwise (· ≤ ·)) (hb : b.Pairwise (· < ·)) : a = b :=
  List.Perm.eq_of_pairwise (fun x y _ _ h1 h2 => Int.le_antisymm h1 h2) ha (hb.imp fun h => Int.le_of_lt h) p
theorem atMod {xs : List V} {k m : Int} (hm : (xs.length : Int) = m) (h0 : 0 < m) : ∃ v, atI xs (k % m) = some v ∧ v ∈ xs := by
  have a1 := Int.emod_nonneg k (show m ≠ 0 by omega)
  have a2 := Int.emod_lt_of_pos k h0
  have hl : (k % m).toNat < xs.length := by omega
  refine ⟨xs[(k % m).toNat], ?_, List.getElem_mem hl⟩
  have q := atI_nat (List.getElem?_eq_getElem hl)
  rwa [show (((k % m).toNat : Nat) : Int) = k % m by omega] at q
theorem tnx {D : Ends} {σ : St} {H : Hp} (h : D.nx σ H) : tNext D σ H := h
theorem tsq {t u : TS} {D : Ends} {σ : St} {H : Hp} (h : t { D with nx := u D } σ H) : tSeq t u D σ H := h
theorem if_no {t : TT} {u w : TS} {D : Ends} {σ : St} {H : Hp} {R : Hp → Prop} (h : ∀ Q' : Bool → Hp → Prop, (∀ H6, R H6 → Q' false H6) → t σ H Q') (k : ∀ H6, R H6 → w D σ H6) : tIfS t u w D σ H :=
  h _ fun H6 r => by rw [if_neg Bool.false_ne_true]; exact k H6 r

/-! ### parts, as mathematics -/
theorem nbr_mem {n : Int} {ts : List Pr} (h : ∀ p ∈ ts, Tie n p) {k q : Int} : q ∈ nbr ts k ↔ (k, q) ∈ ts ∨ (q, k) ∈ ts := by
  rw [nbr_fm, List.mem_filterMap]
  constructor
  · rintro ⟨⟨a, b⟩, hp, e⟩
    unfold nbg at e
    by_cases c1 : a = k
    · rw [if_pos c1] at e; cases e; subst c1; exact .inl hp
    · rw [if_neg c1] at e
      by_cases c2 : b = k
      · rw [if_pos c2] at e; cases e; subst c2; exact .inr hp
      · rw [if_neg c2] at e; cases e
  · rintro (hp | hp)
    · exact ⟨_, hp, by unfold nbg; rw [if_pos rfl]⟩
    · have t := h _ hp
      have : ¬ q = k := by have := t.2.1; simp only at this; omega
      exact ⟨_, hp, by unfold nbg; rw [if_neg this, if_pos rfl]⟩
theorem nbr_sym {n : Int} {ts : List Pr} (h : ∀ p ∈ ts, Tie n p) {k q : Int} (m : q ∈ nbr ts k) : k ∈ nbr ts q :=
  (nbr_mem h).mpr ((nbr_mem h).mp m).symm
theorem nbr_rng {n : Int} {ts : List Pr} (h : ∀ p ∈ ts, Tie n p) {k q : Int} (m : q ∈ nbr ts k) : 0 ≤ q ∧ q < n := by
  rcases (nbr_mem h).mp m with z | z
  · obtain ⟨a, b, c⟩ := h _ z; simp only at a b c; omega
  · obtain ⟨a, b, c⟩ := h _ z; simp only at a b c; omega
/-- what one comes to from a by open places -/
inductive Rch (nb : Int → List Int) (ok : Int → Prop) (a : Int) : Int → Prop
  | base : Rch nb ok a a
  | step {p q : Int} (h : Rch nb ok a p) (m : q ∈ nb p) (o : ok q) : Rch nb ok a q
theorem Rch.mono {nb : Int → List Int} {ok ok' : Int → Prop} {a p : Int} (h : Rch nb ok a p) (f : ∀ q, ok q → ok' q) : Rch nb ok' a p := by
  induction h with
  | base => exact .base
  | step _ m o ih => exact .step ih m (f _ o)
theorem Rch.ok_of {nb : Int → List Int} {ok : Int → Prop} {a p : Int} (h : Rch nb ok a p) (ha : ok a) : ok p := by
  cases h with
  | base => exact ha
  | step _ _ o => exact o
/-- the state of a search: sl seen, wl waiting, E what is still to be looked at -/
structure DI (nb : Int → List Int) (ok : Int → Prop) (n : Nat) (a : Int) (sl wl : List Int) (E : Int → Int → Prop) : Prop where
  nd : sl.Nodup
  rg : ∀ p ∈ sl, 0 ≤ p ∧ p < (n : Int)
  ini : a ∈ sl
  rch : ∀ p ∈ sl, Rch nb ok a p
  wt : ∀ p ∈ wl, p ∈ sl
  cl : ∀ p ∈ sl, p ∈ wl ∨ ∀ q ∈ nb p, ok q → q ∈ sl ∨ E p q
section
variable {nb : Int → List Int} {ok : Int → Prop} {n : Nat} {a : Int} {sl wl : List Int} {E : Int → Int → Prop}
theorem DI.start (h0 : 0 ≤ a) (h1 : a < (n : Int)) : DI nb ok n a [a] [a] (fun _ _ => False) :=
  ⟨List.pairwise_singleton _ _, fun p hp => by rw [List.mem_singleton.mp hp]; exact ⟨h0, h1⟩, List.mem_singleton.mpr rfl, fun p hp => by rw [List.mem_singleton.mp hp]; exact .base, fun p hp => hp, fun p hp => .inl hp⟩
theorem DI.len (D : DI nb ok n a sl wl E) : sl.length ≤ n := by
  have key := nat_nodup_len (sl.map Int.toNat) (List.range n) ?_ ?_
  · rw [List.length_map, List.length_range] at key; exact key
  · refine List.pairwise_map.mpr (List.Pairwise.imp_of_mem (fun {p q} hp hq ne e => ?_) D.nd)
    have h1 := D.rg p hp
    have h2 := D.rg q hq
    exact ne (by omega)
  · intro x hx
    obtain ⟨p, hp, rfl⟩ := List.mem_map.mp hx
    have h1 := D.rg p hp
    exact List.mem_range.mpr (by omega)
/-- the last one that waits is taken -/
theorem DI.pop (D : DI nb ok n a sl wl (fun _ _ => False)) {y : Int} (hy : wl.getLast? = some y) : DI nb ok n a sl wl.dropLast (fun p q => p = y ∧ q ∈ (nb y).drop 0) := by
  have e : wl = wl.dropLast ++ [y] := by
    cases wl with
    | nil => cases hy
    | cons b l => rw [List.getLast?_eq_some_getLast (by simp)] at hy; cases hy; exact (List.dropLast_concat_getLast (by simp)).symm
  refine ⟨D.nd, D.rg, D.ini, D.rch, fun p hp => D.wt p (List.dropLast_subset _ hp), fun p hp => ?_⟩
  rcases D.cl p hp with h | h
  · rw [e] at h
    rcases List.mem_append.mp h with z | z
    · exact .inl z
    · rw [List.mem_singleton] at z; subst z
      exact .inr fun q hq _ => .inr ⟨rfl, by rw [List.drop_zero]; exact hq⟩
  · exact .inr fun q hq o => (h q hq o).elim .inl False.elim
/-- a neighbour that is open and not seen -/
theorem DI.push {y q : Int} {i : Nat} (D : DI nb ok n a sl wl (fun p z => p = y ∧ z ∈ (nb y).drop i)) (hy : y ∈ sl) (hq : (nb y)[i]? = some q) (hr : 0 ≤ q ∧ q < (n : Int)) (ho : ok q) (hn : q ∉ sl) :
    DI nb ok n a (sl ++ [q]) (wl ++ [q]) (fun p z => p = y ∧ z ∈ (nb y).drop (i + 1)) := by
  have hm := List.mem_of_getElem? hq
  have ed : (nb y).drop i = q :: (nb y).drop (i + 1) := by
    obtain ⟨hi, e⟩ := List.getElem?_eq_some_iff.mp hq
    rw [List.drop_eq_getElem_cons hi, e]
  refine ⟨List.nodup_append.mpr ⟨D.nd, List.pairwise_singleton _ _, fun x hx z hz e => hn (by rw [← List.mem_singleton.mp hz, ← e]; exact hx)⟩, fun p hp => ?_, List.mem_append_left _ D.ini, fun p hp => ?_, fun p hp => ?_, fun p hp => ?_⟩
  · rcases List.mem_append.mp hp with z | z
    · exact D.rg p z
    · rw [List.mem_singleton.mp z]; exact hr
  · rcases List.mem_append.mp hp with z | z
    · exact D.rch p z
    · rw [List.mem_singleton.mp z]; exact .step (D.rch y hy) hm ho
  · rcases List.mem_append.mp hp with z | z
    · exact List.mem_append_left _ (D.wt p z)
    · exact List.mem_append_right _ z
  · rcases List.mem_append.mp hp with z | z
    · rcases D.cl p z with h | h
      · exact .inl (List.mem_append_left _ h)
      · refine .inr fun x hx o => ?_
        rcases h x hx o with h | ⟨e, h⟩
        · exact .inl (List.mem_append_left _ h)
        · rw [ed] at h
          rcases List.mem_cons.mp h with rfl | h
          · exact .inl (List.mem_append_right _ (List.mem_singleton.mpr rfl))
          · exact .inr ⟨e, h⟩
    · exact .inl (List.mem_append_right _ z)
/-- a neighbour that is closed, or seen -/
theorem DI.skip {y q : Int} {i : Nat} (D : DI nb ok n a sl wl (fun p z => p = y ∧ z ∈ (nb y).drop i)) (hq : (nb y)[i]? = some q) (h : ok q → q ∈ sl) :
    DI nb ok n a sl wl (fun p z => p = y ∧ z ∈ (nb y).drop (i + 1)) := by
  have ed : (nb y).drop i = q :: (nb y).drop (i + 1) := by
    obtain ⟨hi, e⟩ := List.getElem?_eq_some_iff.mp hq
    rw [List.drop_eq_getElem_cons hi, e]
  refine ⟨D.nd, D.rg, D.ini, D.rch, D.wt, fun p hp => (D.cl p hp).imp id fun k x hx o => ?_⟩
  rcases k x hx o with z | ⟨e, z⟩
  · exact .inl z
  · rw [ed] at z
    rcases List.mem_cons.mp z with rfl | z
    · exact .inl (h o)
    · exact .inr ⟨e, z⟩
theorem DI.done {y : Int} (D : DI nb ok n a sl wl (fun p z => p = y ∧ z ∈ (nb y).drop (nb y).length)) : DI nb ok n a sl wl (fun _ _ => False) :=
  ⟨D.nd, D.rg, D.ini, D.rch, D.wt, fun p hp => (D.cl p hp).imp id fun k x hx o => (k x hx o).imp id fun z => by
    have z := z.2
    rw [List.drop_length] at z; cases z⟩
theorem DI.fin (D : DI nb ok n a sl [] (fun _ _ => False)) (p : Int) : p ∈ sl ↔ Rch nb ok a p := by
  refine ⟨D.rch p, fun h => ?_⟩
  induction h with
  | base => exact D.ini
  | step _ m o ih =>
    rcases D.cl _ ih with z | z
    · cases z
    · exact (z _ m o).elim id False.elim
end

/-! ### the parts -/
open Classical in
noncomputable def partOf (nb : Int → List Int) (n : Nat) (ok : Int → Prop) (a : Int) : List Int := ((List.range n).map fun i : Nat => (i : Int)).filter fun p => decide (Rch nb ok a p)
open Classical in
/-- the parts by the first i places -/
noncomputable def partsTo (nb : Int → List Int) (n : Nat) (ok : Int → Prop) : Nat → List (List Int)
  | 0 => []
  | i + 1 => if ok (i : Int) ∧ ∀ L ∈ partsTo nb n ok i, (i : Int) ∉ L then partsTo nb n ok i ++ [partOf nb n ok (i : Int)] else partsTo nb n ok i
theorem up_range (n : Nat) : ((List.range n).map fun i : Nat => (i : Int)).Pairwise (· < ·) := by
  refine List.pairwise_map.mpr ?_
  exact List.pairwise_lt_range.imp fun h => by omega
theorem partOf_up (nb : Int → List Int) (n : Nat) (ok : Int → Prop) (a : Int) : (partOf nb n ok a).Pairwise (· < ·) := (up_range n).filter _
section
variable {nb : Int → List Int} {ok ok' : Int → Prop} {n : Nat} {a : Int}
theorem rch_rng (hb : ∀ {k q : Int}, q ∈ nb k → 0 ≤ q ∧ q < (n : Int)) (h0 : 0 ≤ a) (h1 : a < (n : Int)) {p : Int} (h : Rch nb ok a p) : 0 ≤ p ∧ p < (n : Int) := by
  cases h with
  | base => exact ⟨h0, h1⟩
  | step _ m _ => exact hb m
theorem partOf_mem (hb : ∀ {k q : Int}, q ∈ nb k → 0 ≤ q ∧ q < (n : Int)) (h0 : 0 ≤ a) (h1 : a < (n : Int)) {p : Int} : p ∈ partOf nb n ok a ↔ Rch nb ok a p := by
  unfold partOf
  rw [List.mem_filter]
  simp only [decide_eq_true_eq]
  refine ⟨fun h => h.2, fun h => ⟨?_, h⟩⟩
  have r := rch_rng hb h0 h1 h
  exact List.mem_map.mpr ⟨p.toNat, List.mem_range.mpr (by omega), by omega⟩
theorem up_one {A B : List Int} (ha : A.Pairwise (· < ·)) (hb : B.Pairwise (· < ·)) (h : ∀ p, p ∈ A ↔ p ∈ B) : A = B := by
  have na : A.Nodup := ha.imp fun h e => by omega
  have nb : B.Nodup := hb.imp fun h e => by omega
  exact sorted_one ((List.perm_ext_iff_of_nodup na nb).mpr h) (ha.imp fun h => Int.le_of_lt h) hb
theorem partOf_len (nb : Int → List Int) (n : Nat) (ok : Int → Prop) (a : Int) : (partOf nb n ok a).length ≤ n := by
  unfold partOf
  refine Nat.le_trans (List.length_filter_le _ _) ?_
  rw [List.length_map, List.length_range]; exact Nat.le_refl _
theorem partsTo_is {i : Nat} {L : List Int} (h : L ∈ partsTo nb n ok i) : ∃ b : Nat, b < i ∧ ok (b : Int) ∧ L = partOf nb n ok (b : Int) := by
  induction i with
  | zero => cases h
  | succ i ih =>
    unfold partsTo at h
    split at h
    · rename_i c
      rcases List.mem_append.mp h with z | z
      · obtain ⟨b, h1, h2⟩ := ih z; exact ⟨b, by omega, h2⟩
      · rw [List.mem_singleton] at z; exact ⟨i, by omega, c.1, z⟩
    · obtain ⟨b, h1, h2⟩ := ih h; exact ⟨b, by omega, h2⟩
theorem partsTo_len (i : Nat) : (partsTo nb n ok i).length ≤ i := by
  induction i with
  | zero => exact Nat.le_refl _
  | succ i ih =>
    unfold partsTo
    split
    · rw [List.length_append, List.length_singleton]; omega
    · omega
/-- open, and in no earlier part -/
def left (nb : Int → List Int) (n : Nat) (ok : Int → Prop) (i : Nat) (p : Int) : Prop := ok p ∧ ∀ L ∈ partsTo nb n ok i, p ∉ L
theorem rch_left (hb : ∀ {k q : Int}, q ∈ nb k → 0 ≤ q ∧ q < (n : Int)) (hs : ∀ {k q : Int}, q ∈ nb k → k ∈ nb q) {i : Nat} (hi : i ≤ n) (h0 : 0 ≤ a) (h1 : a < (n : Int)) (ha : left nb n ok i a) {p : Int} :
    Rch nb (left nb n ok i) a p ↔ Rch nb ok a p := by
  refine ⟨fun h => h.mono fun q o => o.1, fun h => ?_⟩
  induction h with
  | base => exact .base
  | step h m o ih =>
    rename_i p q
    refine .step ih m ⟨o, fun L hL hq => ?_⟩
    obtain ⟨b, hbi, ob, rfl⟩ := partsTo_is hL
    have b0 : (0 : Int) ≤ (b : Int) := by omega
    have b1 : (b : Int) < (n : Int) := by omega
    have r1 := (partOf_mem hb b0 b1).mp hq
    have lp := ih.ok_of ha
    exact lp.2 _ hL ((partOf_mem hb b0 b1).mpr (.step r1 (hs m) lp.1))
theorem partsTo_pos {i : Nat} {L : List Int} (hi : i ≤ n) (hb : ∀ {k q : Int}, q ∈ nb k → 0 ≤ q ∧ q < (n : Int)) (h : L ∈ partsTo nb n ok i) : 0 < L.length ∧ L.length ≤ n := by
  obtain ⟨b, hbi, ob, rfl⟩ := partsTo_is h
  refine ⟨List.length_pos_of_mem ((partOf_mem (a := (b : Int)) hb (by omega) (by omega)).mpr .base), partOf_len _ _ _ _⟩
end
end Od

namespace Od
open PySem PySem.Spec PyProof.Rows L2
/-! ### lists as data, compared -/
theorem eqvAll_map {α : Type} [DecidableEq α] (f : α → PyData) (h : ∀ x y, PyData.eqv (f x) (f y) = decide (x = y)) : ∀ a b : List α, PyData.eqvAll (a.map f) (b.map f) = decide (a = b)
  | [], [] => by simp [PyData.eqvAll]
  | [], _ :: _ => by simp [PyData.eqvAll]
  | _ :: _, [] => by simp [PyData.eqvAll]
  | x :: a, y :: b => by
    rw [List.map_cons, List.map_cons, PyData.eqvAll, h, eqvAll_map f h a b]
    by_cases c : x = y
    · by_cases d : a = b
      · subst c d; simp
      · rw [decide_eq_false d, decide_eq_false (fun z => d (List.cons.inj z).2), Bool.and_false]
    · rw [decide_eq_false c, decide_eq_false (fun z => c (List.cons.inj z).1), Bool.false_and]
theorem eqv_map {α : Type} [DecidableEq α] (f : α → PyData) (h : ∀ x y, PyData.eqv (f x) (f y) = decide (x = y)) (a b : List α) : PyData.eqv (.list (a.map f)) (.list (b.map f)) = decide (a = b) := by
  rw [PyData.eqv]; exact eqvAll_map f h a b
theorem shapedAll {α : Type} (f : α → PyData) (n : Nat) (h : ∀ x, (f x).canLay0 = true ∧ (f x).depth ≤ n) : ∀ a : List α, PyData.canLayAll0 (a.map f) = true ∧ PyData.depthAll (a.map f) ≤ n
  | [] => ⟨by simp [PyData.canLayAll0], by simp [PyData.depthAll]⟩
  | x :: a => by
    obtain ⟨h1, h2⟩ := shapedAll f n h a
    obtain ⟨h3, h4⟩ := h x
    rw [List.map_cons, PyData.canLayAll0, PyData.depthAll, h1, h3]
    exact ⟨rfl, Nat.max_le.mpr ⟨h4, h2⟩⟩
theorem shaped_map {α : Type} (f : α → PyData) (h : ∀ x, (f x).canLay0 = true ∧ (f x).depth ≤ 60) (a : List α) : SeqAt.shaped (.list (a.map f)) = true := by
  obtain ⟨h1, h2⟩ := shapedAll f 60 h a
  unfold SeqAt.shaped
  rw [PyData.canLay0, h1, PyData.depth, Bool.true_and, decide_eq_true_eq]
  omega
def dP (p : Pr) : PyData := .tuple [.int p.1, .int p.2]
def dPs (ts : List Pr) : PyData := .list (ts.map dP)
def dIs (ns : List Int) : PyData := .list (ns.map PyData.int)
theorem eqv_int (x y : Int) : PyData.eqv (.int x) (.int y) = decide (x = y) := by
  rw [PyData.eqv]; by_cases h : x = y
  · subst h; simp
  · rw [decide_eq_false h]; exact beq_eq_false_iff_ne.mpr h
theorem eqv_dP (p q : Pr) : PyData.eqv (dP p) (dP q) = decide (p = q) := by
  unfold dP
  rw [PyData.eqv, PyData.eqvAll, PyData.eqvAll, PyData.eqvAll, eqv_int, eqv_int, Bool.and_true]
  by_cases h : p = q
  · subst h; simp
  · rw [decide_eq_false h]
    by_cases c : p.1 = q.1
    · rw [decide_eq_false (fun z => h (Prod.ext c z)), Bool.and_false]
    · rw [decide_eq_false c, Bool.false_and]
theorem eqv_dPs (a b : List Pr) : PyData.eqv (dPs a) (dPs b) = decide (a = b) := eqv_map dP eqv_dP a b
theorem eqv_dIs (a b : List Int) : PyData.eqv (dIs a) (dIs b) = decide (a = b) := eqv_map PyData.int eqv_int a b
theorem shaped_dPs (a : List Pr) : SeqAt.shaped (dPs a) = true := shaped_map dP (fun x => ⟨by unfold dP; simp [PyData.canLay0, PyData.canLayAll0], by unfold dP; simp [PyData.depth, PyData.depthAll]⟩) a
theorem shaped_dIs (a : List Int) : SeqAt.shaped (dIs a) = true := shaped_map PyData.int (fun x => ⟨by simp [PyData.canLay0], by simp [PyData.depth]⟩) a
section
variable {K : PySem.W.Frag} {H : Hp}
theorem dpAll_ints : ∀ ns : List Int, DpAll K H (ns.map V.int) (ns.map PyData.int)
  | [] => .nil
  | n :: ns => .cons (.int n) (dpAll_ints ns)
theorem dp_ints {a : Addr} {ns : List Int} (h : SqL K H a (ns.map V.int)) : Dp K H (.ref a) (dIs ns) := .lst h (dpAll_ints ns)
theorem dpAll_prs : ∀ {us : List V} {ts : List Pr}, Prs H us ts → DpAll K H us (ts.map dP)
  | _, _, .nil => .nil
  | _, _, .cons ⟨a, h1, h2⟩ t => by
    subst h1
    exact .cons (.tup (SqT.of h2) (.cons (.int _) (.cons (.int _) .nil))) (dpAll_prs t)
theorem dp_prs {a : Addr} {us : List V} {ts : List Pr} (h : SqL K H a us) (p : Prs H us ts) : Dp K H (.ref a) (dPs ts) := .lst h (dpAll_prs p)
end
end Od

namespace Od
open PySem PySem.Spec PyProof.Rows L2
theorem nf_beside (n : Int) (lt ln : Addr) : (nf n lt ln).lookup ("beside" : Str) = none := nf_no _ _ _ (by decide +kernel) (by decide +kernel) (by decide +kernel)
theorem nf_m_ties (n : Int) (lt ln : Addr) : (nf n lt ln).lookup ("ties" : Str) = none := nf_no _ _ _ (by decide +kernel) (by decide +kernel) (by decide +kernel)
theorem setO_eq {w : World} {p : Addr} {S S' : Int → Bool} {n n' : Nat} (h1 : ∀ j, S j = S' j) (h2 : n = n') : SetO w p S n = SetO w p S' n' := by
  rw [show S = S' from funext h1, h2]
theorem inV_ints (p : Int) : ∀ ms : List Int, inV (.int p) (ms.map V.int) = decide (p ∈ ms)
  | [] => rfl
  | m :: ms => by
    have ih := inV_ints p ms
    unfold inV at ih ⊢
    rw [List.map_cons, List.any_cons, ih]
    have e : eqV (.int m) (.int p) = decide (m = p) := by
      by_cases h : m = p
      · subst h; simp [eqV]
      · simp [eqV, h]
    rw [e]
    by_cases h : m = p
    · subst h; rw [decide_eq_true rfl, decide_eq_true List.mem_cons_self]; rfl
    · rw [decide_eq_false h, Bool.false_or]
      by_cases h2 : p ∈ ms
      · rw [decide_eq_true h2, decide_eq_true (List.mem_cons_of_mem _ h2)]
      · rw [decide_eq_false h2, decide_eq_false]
        intro z
        rcases List.mem_cons.mp z with z | z
        · exact h z.symm
        · exact h2 z
theorem flat_ints (ms : List Int) : (ms.map V.int).all flatV = true := by
  rw [List.all_eq_true]
  intro v hv
  obtain ⟨m, _, rfl⟩ := List.mem_map.mp hv
  rfl
theorem kd_ints {H : Hp} {ms : List Int} : ∀ v ∈ ms.map V.int, ∃ t, Kd H v t := fun v hv => by
  obtain ⟨m, _, rfl⟩ := List.mem_map.mp hv
  exact ⟨_, .int m⟩
theorem all_rep (k : Nat) : (List.replicate k true).all id = true := by
  rw [List.all_eq_true]; intro b hb; exact (List.mem_replicate.mp hb).2
theorem plt_one {a b : List Pr} (p : a.Perm b) (ha : a.Pairwise plt) (hb : b.Pairwise plt) : a = b :=
  List.Perm.eq_of_pairwise (fun x y _ _ h1 h2 => by unfold plt at h1 h2; exact Prod.ext (by omega) (by omega)) ha hb p
theorem kd2 {H : Hp} {a b : V} (ha : ∃ u, Kd H a u) (hb : ∃ u, Kd H b u) : ∀ y ∈ [a, b], ∃ u, Kd H y u := fun y hy => by
  rcases List.mem_cons.mp hy with rfl | hy
  · exact ha
  · rw [List.mem_singleton] at hy; subst hy; exact hb
theorem kt_pr {H : Hp} {a : Addr} {p : Pr} (e : H a = some (.tup [.int p.1, .int p.2])) : Kt H (.ref a) .tuple := by
  refine ⟨.tup e, fun ys q => ?_⟩
  rw [tupOf_tup e] at q; cases q
  exact kd2 ⟨_, .int _⟩ ⟨_, .int _⟩
theorem Prs.kt {H : Hp} {us : List V} {ts : List Pr} (p : Prs H us ts) : ∀ y ∈ us, ∃ u, Kt H y u := fun y hy => by
  obtain ⟨i, hi⟩ := List.getElem?_of_mem hy
  obtain ⟨q, a, _, rfl, e⟩ := p.get hi
  exact ⟨_, kt_pr e⟩
theorem Prs.prOf {H : Hp} : ∀ {us : List V} {ts : List Pr}, Prs H us ts → us.map (prOf H) = ts
  | _, _, .nil => rfl
  | _, _, .cons ⟨a, h1, h2⟩ t => by
    subst h1
    rw [List.map_cons, Prs.prOf t]
    unfold Od.prOf
    rw [tupOf_tup h2]
theorem kl_lst {H : Hp} {a : Addr} {xs : List V} (e : H a = some (.lst xs)) (k : ∀ y ∈ xs, ∃ u, Kt H y u) : Kl H (.ref a) .list := by
  refine ⟨.lst e, fun ys q => ?_⟩
  rw [listOf_lst e] at q; cases q; exact k
/-- the places as keys -/
def mk (sl : List Int) : List (L2.Key × V) := sl.map fun p => (Sum.inl p, V.bl true)
theorem mk_val (q : Int) : ∀ sl : List Int, (valV (mk sl) (Sum.inl q : L2.Key)).isSome = decide (q ∈ sl)
  | [] => rfl
  | p :: sl => by
    show (valV ((Sum.inl p, V.bl true) :: mk sl) (Sum.inl q : L2.Key)).isSome = _
    by_cases e : p = q
    · subst e
      rw [valV_pos (by rfl), decide_eq_true List.mem_cons_self]; rfl
    · rw [valV_neg (by intro z; injection z with z; exact e z), mk_val q sl]
      by_cases m : q ∈ sl
      · rw [decide_eq_true m, decide_eq_true (List.mem_cons_of_mem _ m)]
      · rw [decide_eq_false m, decide_eq_false]
        intro z
        rcases List.mem_cons.mp z with z | z
        · exact e z.symm
        · exact m z
theorem mk_put {sl : List Int} {q : Int} (h : q ∉ sl) : putK (mk sl) (Sum.inl q : L2.Key) (V.bl true) = mk (sl ++ [q]) := by
  have hn : valV (mk sl) (Sum.inl q : L2.Key) = none := by
    have := mk_val q sl
    rw [decide_eq_false h] at this
    cases e : valV (mk sl) (Sum.inl q : L2.Key) with
    | none => rfl
    | some v => rw [e] at this; cases this
  rw [putK_new _ hn]
  unfold mk
  rw [List.map_append]; rfl
theorem mk_len (sl : List Int) : (mk sl).length = sl.length := by unfold mk; rw [List.length_map]
theorem mk_keys (sl : List Int) : (mk sl).map (·.1) = sl.map Sum.inl := by unfold mk; rw [List.map_map]; rfl
end Od

namespace Od
open PySem PySem.Spec PyProof.Rows L2
def spRefused : Sp := fun vs H Q _ => ∃ (sz ties : V) (tz t : Ty), vs = [sz, ties] ∧ Kd H sz tz ∧ Kl H ties t ∧ (∀ n ps, ¬ Good H sz ties n ps) ∧ ∀ H', Same H H' → Q (.bl true) H'
def spNoPlace (C : Addr) : Sp := fun vs H Q _ => ∃ (x : Addr) (n : Nat) (ts : List Pr) (y : V) (t : Ty), vs = [.ref x, y] ∧ NetAt C H x n ts ∧ Kd H y t ∧ isPl y n = false ∧ Q (.bl true) H
section
variable {P : Program} {w : World} {K : PySem.W.Frag} {mg : Str → Option Value} {c : Cs} {base : Heap}
theorem ok_refused (T : Top K mg c) : Fd.Has P w K mg base CX0 8 "_law_refused" ["_law_size", "_law_ties"] spRefused := by
  have G__law_sole := fun (a : Addr) (oe : Obj) (cls : Value) (d : Option Addr) (hz : L2N.Zn cls d oe) (hf : ∃ vs, oe.data = .fields vs) => ok_sole (P := P) (w := w) (base := base) T a oe cls d hz hf
  have G_Net : Fd.IHas P w K mg base (L2N.CX P w) 6 c.Net ["self", "size", "ties"] (spInit c.Net c.BadNet) := ok_init T
  refine T.d__law_refused.ok sc__law_refused (fun vs H Q E h => ?_) (fun f cdv A outer s H vs Q E hr h => ?_)
  · obtain ⟨sz, ties, tz, t, rfl, _⟩ := h; rfl
  · obtain ⟨sz, ties, tz, t, rfl, kz, kt, ng, q⟩ := h
    have hr_Net := hr
    have hr__law_sole := hr.mono (show 1 ≤ 7 by decide)
    refine ⟨_, (pss_cons (Sd.keep (L2N.ps_try_as (i := 2) rfl rfl sc__law_refused.nd rfl rfl ⟨rfl, by decide, Or.inl T.e_BadNet.c⟩ Fd.takesF (fun W pn xe tk _ =>
      (pss_one (ps_expr (Fd.pe_mkS G_Net hr_Net (by rfl) T.c_Net tk (pa_cons (pv 0) (pa_cons (pv 1) pa_nil))))))
      (fun a oe cls d pn hz hf =>
      (pss_one (ps_ret (Fh.pe_p (G__law_sole a oe cls d hz hf) (Fh.roomM hr__law_sole) (Fh.hotM hz hf) List.mem_cons_self (by rfl) (pa_cons (pv 2) pa_nil)))))))
      (pss_one (ps_ret pe_bl))), ?_⟩
    refine ⟨_, rfl, _, rfl, fun x dx hx hdx ne => ⟨H, x, dx, sz, ties, tz, t, rfl, fun b o e => by rw [upd_ne (ne_of_none e hx), upd_ne (ne_of_none e hdx)]; exact e, hx, upd_same, kz, kt, .inr ⟨ng, fun H' s5 => ?_⟩⟩⟩
    refine ⟨true, T.e_BadNet.m, fun _ a ha => ?_, fun z => nomatch z⟩
    exact ⟨_, rfl, rfl, ⟨c.BadNet, rfl, rfl, T.l_BadNet⟩, q H' s5⟩
theorem ok_no_place (T : Top K mg c) : Fd.Has P w K mg base CX0 5 "_law_no_place" ["_law_net", "_law_place"] (spNoPlace c.Net) := by
  have G__law_sole := fun (a : Addr) (oe : Obj) (cls : Value) (d : Option Addr) (hz : L2N.Zn cls d oe) (hf : ∃ vs, oe.data = .fields vs) => ok_sole (P := P) (w := w) (base := base) T a oe cls d hz hf
  have G_Net_beside : Fd.MHas P w K mg base (L2N.CX P w) 3 c.Net "beside" ["self", "place"] (spBeside c.Net c.NoPlace) := ok_beside T
  refine T.d__law_no_place.ok sc__law_no_place (fun vs H Q E h => ?_) (fun f cdv A outer s H vs Q E hr h => ?_)
  · obtain ⟨x, n, ts, y, t, rfl, _⟩ := h; rfl
  · obtain ⟨x, n, ts, y, t, rfl, N, ky, hp, q⟩ := h
    have hr_Net_beside := hr.mono (show 3 ≤ 4 by decide)
    have hr__law_sole := hr.mono (show 1 ≤ 4 by decide)
    obtain ⟨dx, lt, ln, us, rs, h1, _⟩ := N.at_
    refine ⟨_, (pss_cons (Sd.keep (L2N.ps_try_as (i := 2) rfl rfl sc__law_no_place.nd rfl rfl ⟨rfl, by decide, Or.inl T.e_NoPlace.c⟩ Fd.takesF (fun W pn xe tk _ =>
      (pss_one (ps_expr (Fd.pe_mS G_Net_beside (pv 0) T.cl_Net hr_Net_beside tk (pa_cons (pv 1) pa_nil)))))
      (fun a oe cls d pn hz hf =>
      (pss_one (ps_ret (Fh.pe_p (G__law_sole a oe cls d hz hf) (Fh.roomM hr__law_sole) (Fh.hotM hz hf) List.mem_cons_self (by rfl) (pa_cons (pv 2) pa_nil)))))))
      (pss_one (ps_ret pe_bl))), ?_⟩
    refine ⟨_, rfl, x, dx, _, rfl, h1, nf_beside _ _ _, _, rfl, x, n, ts, y, t, rfl, N, ky, fun i e hi => ?_, fun _ => ?_⟩
    · subst e
      have : isPl (.int (i : Int)) n = true := decide_eq_true ⟨by omega, by omega⟩
      rw [hp] at this; cases this
    · refine ⟨true, T.e_NoPlace.m, fun _ a ha => ?_, fun z => nomatch z⟩
      exact ⟨_, rfl, rfl, ⟨c.NoPlace, rfl, rfl, T.l_NoPlace⟩, q⟩
end
end Od

namespace Od
open PySem PySem.Spec PyProof.Rows L2
/-- no tie of a net of size n -/
def BadIt (n : Int) (H : Hp) (x : V) : Prop := ∃ t, Kt H x t ∧ isTie H x n = false
theorem BadIt.ex {n : Int} {H H' : Hp} {x : V} (b : BadIt n H x) (e : Same H H') : BadIt n H' x := by
  obtain ⟨t, k, h⟩ := b
  exact ⟨t, k.ex e, (isTie_ex k e).trans h⟩
theorem bad_tup {n : Int} {H : Hp} {a : Addr} {xs : List V} (e : H a = some (.tup xs)) (k : ∀ y ∈ xs, ∃ u, Kd H y u) (h : tieOf n xs = false) : BadIt n H (.ref a) := by
  refine ⟨.tuple, ⟨.tup e, fun ys q => ?_⟩, ?_⟩
  · rw [tupOf_tup e] at q; cases q; exact k
  · unfold isTie; rw [tupOf_tup e]; exact h
theorem bad_no {n : Int} {H : Hp} {x : V} {t : Ty} (k : Kd H x t) (h : t ≠ .tuple) : BadIt n H x := by
  refine ⟨t, ⟨k, fun ys q => ?_⟩, ?_⟩
  · rw [tupOf_no k h] at q; cases q
  · unfold isTie; rw [tupOf_no k h]
theorem tie_l {n : Int} {u v : V} (h : isPl u n = false) : tieOf n [u, v] = false := by show (isPl u n && (isPl v n && ltV u v)) = false; rw [h]; rfl
theorem tie_r {n : Int} {u v : V} (h : isPl v n = false) : tieOf n [u, v] = false := by show (isPl u n && (isPl v n && ltV u v)) = false; rw [h]; simp
theorem tie_lt {n : Int} {u v : V} (h : ltV u v = false) : tieOf n [u, v] = false := by show (isPl u n && (isPl v n && ltV u v)) = false; rw [h]; simp
theorem kl_no {H : Hp} {x : V} {t : Ty} (k : Kd H x t) (h : t ≠ .list) : Kl H x t := ⟨k, fun ys q => by rw [listOf_no k h] at q; cases q⟩
theorem no_bad {H : Hp} {sz : V} {a : Addr} {xs : List V} {w : V} {n : Nat} (e : H a = some (.lst xs)) (hs : sz = .int n) (hw : w ∈ xs) (h : isTie H w n = false) : ∀ m ps, ¬ Good H sz (.ref a) m ps := fun m ps g => by
  obtain ⟨e1, _, _, ys, e2, ok, _⟩ := g
  subst hs
  injection e1 with e1
  obtain rfl : n = m := by omega
  rw [listOf_lst e] at e2; cases e2
  rw [ok.all w hw] at h; cases h
theorem cutV_mem {xs : List V} {lo hi : Option Int} {y : V} (h : y ∈ cutV xs lo hi) : y ∈ xs := List.mem_of_mem_drop (List.mem_of_mem_take h)
theorem Kt.all_ex {H H' : Hp} {xs : List V} (e : Same H H') (k : ∀ y ∈ xs, ∃ u, Kt H y u) : ∀ y ∈ xs, ∃ u, Kt H' y u := fun y hy => by
  obtain ⟨u, q⟩ := k y hy
  exact ⟨u, q.ex e⟩
def spWrong (K : PySem.W.Frag) : Sp := fun vs H Q _ => ∃ (a l : Addr) (ns : List Int) (n : Nat) (us : List V) (ts : List Pr), vs = [.ref a, .int n, .ref l] ∧ SqL K H a (ns.map V.int) ∧ n ≤ 40 ∧ H l = some (.lst us) ∧ Prs H us ts ∧ us.length ≤ 1000 ∧ ∀ H', Same H H' → Q (.bl true) H'
section
variable {P : Program} {w : World} {K : PySem.W.Frag} {mg : Str → Option Value} {c : Cs} {base : Heap}
theorem ok_wrong (T : Top K mg c) : Fd.Has P w K mg base CX0 9 "_law_wrong" ["_law_script", "_law_size", "_law_ties"] (spWrong K) := by
  have G__law_cell_at : Fd.Has P w K mg base CX0 1 "_law_cell_at" ["_law_script", "_law_k"] (spCell K) := ok_cell T
  have G__law_refused : Fd.Has P w K mg base CX0 8 "_law_refused" ["_law_size", "_law_ties"] spRefused := ok_refused T
  refine T.d__law_wrong.ok sc__law_wrong (fun vs H Q E h => ?_) (fun f cdv A outer s H vs Q E hr h => ?_)
  · obtain ⟨a, l, ns, n, us, ts, rfl, _⟩ := h; rfl
  · obtain ⟨a, l, ns, n, us, ts, rfl, hs, hn, hl, hp, hz, q⟩ := h
    have hr__law_refused := hr
    have hr__law_cell_at := hr.mono (show 1 ≤ 8 by decide)
    refine ⟨_, (pss_cons (ps_set (i := 3) sc__law_wrong.nd rfl (Or.inl rfl) (pe_op op_fdiv (Fd.pe_f G__law_cell_at hr__law_cell_at (by rfl) (pa_cons (pv 0) (pa_cons pe_int pa_nil))) pe_int))
      (pss_cons (ps_set (i := 4) sc__law_wrong.nd rfl (Or.inl rfl) (pe_lst (pa_cons (pe_tup (pa_cons pe_int (pa_cons pe_int pa_nil))) (pa_cons (pe_tup (pa_cons pe_int (pa_cons pe_int pa_nil))) (pa_cons (pe_tup (pa_cons (pe_un un_neg pe_int) (pa_cons pe_int pa_nil))) (pa_cons (pe_tup (pa_cons pe_int (pa_cons (pv 1) pa_nil))) (pa_cons (pe_tup (pa_cons pe_int (pa_cons pe_int (pa_cons pe_int pa_nil)))) (pa_cons (pe_tup (pa_cons pe_int pa_nil)) (pa_cons (pe_lst (pa_cons pe_int (pa_cons pe_int pa_nil))) (pa_cons pe_non (pa_cons pe_str (pa_cons (pe_tup (pa_cons pe_int (pa_cons pe_bl pa_nil))) pa_nil))))))))))))
      (pss_cons (ps_set (i := 5) sc__law_wrong.nd rfl (Or.inl rfl) (pe_ix ix_list (pe_op op_cat (pv 4) (pe_lst (pa_cons (pe_tup (pa_cons pe_str (pa_cons pe_int pa_nil))) (pa_cons (pe_tup (pa_cons pe_int (pa_cons (pe_op op_pow pe_int pe_int) pa_nil))) pa_nil)))) (pe_op op_mod (pv 3) pe_int) (fun _ _ => rfl)))
      (pss_cons (ps_set (i := 6) sc__law_wrong.nd rfl (Or.inl rfl) (pe_op op_modN (pe_op op_fdiv (pv 3) pe_int) (pe_op op_add (pe_callB call_len_seq (by rfl) T.n_len boot_len (pa_cons (pv 2) pa_nil)) pe_int)))
      (pss_cons (ps_if (pt_not (pt_val (Fd.pe_f G__law_refused hr__law_refused (by rfl) (pa_cons (pv 1) (pa_cons (pe_op op_cat (pe_op op_cat (pe_slice sl_list (pv 2) po_none (po_some (pv 6))) (pe_lst (pa_cons (pv 5) pa_nil))) (pe_slice sl_list (pv 2) (po_some (pv 6)) po_none)) pa_nil)))))
      (pss_one (ps_ret pe_bl))
      pss_nil)
      (pss_cons (ps_if (PW.pt (pw_and (pt_cmpR (op_neD hr.units) (pv 2) (pe_lst pa_nil) (nomark _)) (pw_and1 (pt_not (pt_val (Fd.pe_f G__law_refused hr__law_refused (by rfl) (pa_cons (pv 1) (pa_cons (pe_op op_cat (pv 2) (pe_lst (pa_cons (pe_ix ix_list (pv 2) (pe_op op_modN (pv 6) (pe_callB call_len_seq (by rfl) T.n_len boot_len (pa_cons (pv 2) pa_nil))) (fun _ _ => rfl)) pa_nil))) pa_nil))))))))
      (pss_one (ps_ret pe_bl))
      pss_nil)
      (pss_cons (ps_if (pt_not (pt_val (Fd.pe_f G__law_refused hr__law_refused (by rfl) (pa_cons (pe_ix ix_list (pe_lst (pa_cons pe_int (pa_cons (pe_un un_neg pe_int) (pa_cons pe_int (pa_cons (pe_op op_pow pe_int pe_int) (pa_cons pe_bl (pa_cons pe_str (pa_cons pe_non pa_nil)))))))) (pe_op op_mod (pv 3) pe_int) (fun _ _ => rfl)) (pa_cons (pe_lst pa_nil) pa_nil)))))
      (pss_one (ps_ret pe_bl))
      pss_nil)
      (pss_one (ps_ret (Fd.pe_f G__law_refused hr__law_refused (by rfl) (pa_cons (pv 1) (pa_cons (pe_ix ix_list (pe_lst (pa_cons (pe_callTy call_tuple_of (by rfl) T.n_tuple boot_tuple (pa_cons (pv 2) pa_nil)) (pa_cons pe_non (pa_cons pe_int (pa_cons pe_str (pa_cons pe_dnewK pa_nil)))))) (pe_op op_mod (pv 3) pe_int) (fun _ _ => rfl)) pa_nil)))))))))))), ?_⟩
    refine ⟨_, rfl, a, ns, 2, rfl, hs, by decide, _, _, rfl, rfl, ⟨by decide, by decide⟩, ?_⟩
    have z2 : 2 ≤ sizeLine := by decide
    have z3 : 3 ≤ sizeLine := by decide
    have z1 : 1 ≤ sizeLine := by decide
    have ki : ∀ {H : Hp} (i : Int), ∃ u, Kd H (.int i) u := fun i => ⟨_, .int i⟩
    have lt0 : ∀ i : Int, ltV (.int i) (.int i) = false := fun i => decide_eq_false (Int.lt_irrefl i)
    -- the ten things
    refine ⟨z2, fun p0 h0 => ?_⟩
    have b0 : BadIt n (upd H p0 (.tup [.int 1, .int 0])) (.ref p0) := bad_tup upd_same (kd2 (ki _) (ki _)) (tie_lt rfl)
    have s0 : Same H (upd H p0 (.tup [.int 1, .int 0])) := Same.new h0
    generalize upd H p0 (.tup [.int 1, .int 0]) = A0 at b0 s0 ⊢
    refine ⟨z2, fun p1 h1 => ?_⟩
    have b1 : BadIt n (upd A0 p1 (.tup [.int 0, .int 0])) (.ref p1) := bad_tup upd_same (kd2 (ki _) (ki _)) (tie_lt rfl)
    have s1 : Same A0 (upd A0 p1 (.tup [.int 0, .int 0])) := Same.new h1
    generalize upd A0 p1 (.tup [.int 0, .int 0]) = A1 at b1 s1 ⊢
    refine ⟨_, rfl, z2, fun p2 h2 => ?_⟩
    have b2 : BadIt n (upd A1 p2 (.tup [.int (-1), .int 0])) (.ref p2) := bad_tup upd_same (kd2 (ki _) (ki _)) (tie_l rfl)
    have s2 : Same A1 (upd A1 p2 (.tup [.int (-1), .int 0])) := Same.new h2
    generalize upd A1 p2 (.tup [.int (-1), .int 0]) = A2 at b2 s2 ⊢
    refine ⟨_, rfl, z2, fun p3 h3 => ?_⟩
    have b3 : BadIt n (upd A2 p3 (.tup [.int 0, .int n])) (.ref p3) := bad_tup upd_same (kd2 (ki _) (ki _)) (tie_r (decide_eq_false (by omega)))
    have s3 : Same A2 (upd A2 p3 (.tup [.int 0, .int n])) := Same.new h3
    generalize upd A2 p3 (.tup [.int 0, .int n]) = A3 at b3 s3 ⊢
    refine ⟨z3, fun p4 h4 => ?_⟩
    have b4 : BadIt n (upd A3 p4 (.tup [.int 0, .int 1, .int 2])) (.ref p4) := bad_tup upd_same (fun y hy => by
      rcases List.mem_cons.mp hy with rfl | hy
      · exact ki _
      · exact kd2 (ki _) (ki _) y hy) rfl
    have s4 : Same A3 (upd A3 p4 (.tup [.int 0, .int 1, .int 2])) := Same.new h4
    generalize upd A3 p4 (.tup [.int 0, .int 1, .int 2]) = A4 at b4 s4 ⊢
    refine ⟨z1, fun p5 h5 => ?_⟩
    have b5 : BadIt n (upd A4 p5 (.tup [.int 0])) (.ref p5) := bad_tup upd_same (fun y hy => by
      rw [List.mem_singleton] at hy; subst hy; exact ki _) rfl
    have s5 : Same A4 (upd A4 p5 (.tup [.int 0])) := Same.new h5
    generalize upd A4 p5 (.tup [.int 0]) = A5 at b5 s5 ⊢
    refine ⟨z2, fun p6 h6 => ?_⟩
    have b6 : BadIt n (upd A5 p6 (.lst [.int 0, .int 1])) (.ref p6) := bad_no (.lst upd_same) (by decide)
    have s6 : Same A5 (upd A5 p6 (.lst [.int 0, .int 1])) := Same.new h6
    generalize upd A5 p6 (.lst [.int 0, .int 1]) = A6 at b6 s6 ⊢
    refine ⟨z2, fun p9 h9 => ?_⟩
    have b9 : BadIt n (upd A6 p9 (.tup [.int 0, .bl true])) (.ref p9) := bad_tup upd_same (kd2 (ki _) ⟨_, .bl _⟩) (tie_r rfl)
    have s9 : Same A6 (upd A6 p9 (.tup [.int 0, .bl true])) := Same.new h9
    generalize upd A6 p9 (.tup [.int 0, .bl true]) = A9 at b9 s9 ⊢
    refine ⟨(by show 10 ≤ sizeLine; decide), fun pl hpl => ?_⟩
    have all10 : ∀ w ∈ [V.ref p0, .ref p1, .ref p2, .ref p3, .ref p4, .ref p5, .ref p6, .non, .str "01", .ref p9], BadIt n A9 w := fun w hw => by
      have t9 := s9
      have t6 := Same.trans s6 t9
      have t5 := Same.trans s5 t6
      have t4 := Same.trans s4 t5
      have t3 := Same.trans s3 t4
      have t2 := Same.trans s2 t3
      have t1 := Same.trans s1 t2
      simp only [List.mem_cons, List.not_mem_nil, or_false] at hw
      rcases hw with rfl | rfl | rfl | rfl | rfl | rfl | rfl | rfl | rfl | rfl
      · exact b0.ex t1
      · exact b1.ex t2
      · exact b2.ex t3
      · exact b3.ex t4
      · exact b4.ex t5
      · exact b5.ex t6
      · exact b6.ex t9
      · exact bad_no .non (by decide)
      · exact bad_no (.str _) (by decide)
      · exact b9
    generalize hten : [V.ref p0, .ref p1, .ref p2, .ref p3, .ref p4, .ref p5, .ref p6, .non, .str "01", .ref p9] = ten at all10 ⊢
    have lten : ten.length = 10 := by rw [← hten]; rfl
    have hpl1 : upd A9 pl (.lst ten) pl = some (.lst ten) := upd_same
    have u0 : Same A9 (upd A9 pl (.lst ten)) := Same.new hpl
    have sA : Same H (upd A9 pl (.lst ten)) := Same.trans (Same.trans (Same.trans (Same.trans (Same.trans (Same.trans (Same.trans (Same.trans s0 s1) s2) s3) s4) s5) s6) s9) u0
    have all10 : ∀ w ∈ ten, BadIt n (upd A9 pl (.lst ten)) w := fun w hw => (all10 w hw).ex u0
    generalize upd A9 pl (.lst ten) = B at sA all10 hpl1 ⊢
    clear b0 b1 b2 b3 b4 b5 b6 b9 s0 s1 s2 s3 s4 s5 s6 s9 u0 h0 h1 h2 h3 h4 h5 h6 h9 hpl
    -- two more
    refine ⟨_, rfl, z2, fun q0 g0 => ?_⟩
    have c0 : BadIt n (upd B q0 (.tup [.str "0", .int 1])) (.ref q0) := bad_tup upd_same (kd2 ⟨_, .str _⟩ (ki _)) (tie_l rfl)
    have r0 : Same B (upd B q0 (.tup [.str "0", .int 1])) := Same.new g0
    generalize upd B q0 (.tup [.str "0", .int 1]) = B0 at c0 r0 ⊢
    refine ⟨_, _, rfl, rfl, ⟨by decide, by decide, by decide⟩, z2, fun q1 g1 => ?_⟩
    have c1 : BadIt n (upd B0 q1 (.tup [.int 0, .int (10 ^ (9 : Int).toNat)])) (.ref q1) := bad_tup upd_same (kd2 (ki _) (ki _)) (by
      have e : (10 : Int) ^ (9 : Int).toNat = 1000000000 := by decide
      rw [e]; exact tie_r (decide_eq_false (by omega)))
    have r1 : Same B0 (upd B0 q1 (.tup [.int 0, .int (10 ^ (9 : Int).toNat)])) := Same.new g1
    generalize upd B0 q1 (.tup [.int 0, .int (10 ^ (9 : Int).toNat)]) = B1 at c1 r1 ⊢
    refine ⟨z2, fun ql gl => ?_⟩
    have r01 := Same.trans r0 r1
    have r2 : Same B1 (upd B1 ql (.lst [.ref q0, .ref q1])) := Same.new gl
    refine ⟨pl, ql, ten, _, rfl, rfl, r2 _ _ (r01 _ _ hpl1), upd_same, by rw [lten]; show 12 ≤ sizeLine; decide, fun pc gc => ?_⟩
    have all12 : ∀ w ∈ ten ++ [V.ref q0, .ref q1], BadIt n (upd (upd B1 ql (.lst [.ref q0, .ref q1])) pc (.lst (ten ++ [.ref q0, .ref q1]))) w := fun w hw => by
      have r3 : Same B1 (upd (upd B1 ql (.lst [.ref q0, .ref q1])) pc (.lst (ten ++ [.ref q0, .ref q1]))) := Same.trans r2 (Same.new gc)
      rcases List.mem_append.mp hw with z | z
      · exact (all10 w z).ex (Same.trans r01 r3)
      · simp only [List.mem_cons, List.not_mem_nil, or_false] at z
        rcases z with rfl | rfl
        · exact c0.ex (Same.trans r1 r3)
        · exact c1.ex r3
    have sC : Same H (upd (upd B1 ql (.lst [.ref q0, .ref q1])) pc (.lst (ten ++ [.ref q0, .ref q1]))) := Same.trans (Same.trans sA r01) (Same.trans r2 (Same.new gc))
    have hpc : upd (upd B1 ql (.lst [.ref q0, .ref q1])) pc (.lst (ten ++ [.ref q0, .ref q1])) pc = some (.lst (ten ++ [.ref q0, .ref q1])) := upd_same
    generalize upd (upd B1 ql (.lst [.ref q0, .ref q1])) pc (.lst (ten ++ [.ref q0, .ref q1])) = C0 at all12 sC hpc ⊢
    obtain ⟨w, hw1, hw2⟩ := atMod (xs := ten ++ [V.ref q0, .ref q1]) (k := cell ns 2 / 3) (m := 12) (by rw [List.length_append, lten]; rfl) (by decide)
    have bw := all12 w hw2
    refine ⟨_, rfl, _, _, rfl, rfl, (by show (0 : Int) < 12; decide), pc, _, _, w, rfl, rfl, SqL.of hpc, hw1, ?_⟩
    clear all12 all10 c0 c1 r0 r1 r2 r01 g0 g1 gl gc hpl1 sA hten
    have hlC := sC _ _ hl
    have hpC := hp.ex sC
    refine ⟨_, rfl, _, _, rfl, rfl, ⟨by decide, by decide⟩, _, rfl, l, us, rfl, .inl (SqL.of hlC), _, _, rfl, rfl, _, _, rfl, rfl, (show ((us.length : Nat) : Int) + 1 ≠ 0 by omega), ?_⟩
    -- one of them among the ties
    refine ⟨_, rfl, _, rfl, _, rfl, _, rfl, l, us, rfl, SqL.of hlC, fun d0 k0 => ?_⟩
    have m0 : Same C0 (upd C0 d0 (.lst (cutV us none (some ((cell ns 2 / 3 / 12).fmod (((us.length : Nat) : Int) + 1)))))) := Same.new k0
    refine ⟨_, rfl, z1, fun d1 k1 => ?_⟩
    have m1 : Same (upd C0 d0 (.lst (cutV us none (some ((cell ns 2 / 3 / 12).fmod (((us.length : Nat) : Int) + 1)))))) (upd (upd C0 d0 (.lst (cutV us none (some ((cell ns 2 / 3 / 12).fmod (((us.length : Nat) : Int) + 1)))))) d1 (.lst [w])) := Same.new k1
    have lc : ∀ lo hi, (cutV us lo hi).length ≤ 1000 := fun lo hi => Nat.le_trans (cutV_length us lo hi) hz
    have l1 := lc none (some ((cell ns 2 / 3 / 12).fmod (((us.length : Nat) : Int) + 1)))
    have l2 := lc (some ((cell ns 2 / 3 / 12).fmod (((us.length : Nat) : Int) + 1))) none
    refine ⟨d0, d1, _, _, rfl, rfl, m1 _ _ upd_same, upd_same, by rw [sizeLine_eq, List.length_singleton]; omega, fun d2 k2 => ?_⟩
    have m2 : Same (upd (upd C0 d0 (.lst (cutV us none (some ((cell ns 2 / 3 / 12).fmod (((us.length : Nat) : Int) + 1)))))) d1 (.lst [w])) (upd (upd (upd C0 d0 (.lst (cutV us none (some ((cell ns 2 / 3 / 12).fmod (((us.length : Nat) : Int) + 1)))))) d1 (.lst [w])) d2 (.lst (cutV us none (some ((cell ns 2 / 3 / 12).fmod (((us.length : Nat) : Int) + 1))) ++ [w]))) := Same.new k2
    have m02 := Same.trans (Same.trans m0 m1) m2
    refine ⟨_, rfl, _, rfl, _, rfl, l, us, rfl, SqL.of (m02 _ _ hlC), fun d3 k3 => ?_⟩
    have m3 := Same.new (o := .lst (cutV us (some ((cell ns 2 / 3 / 12).fmod (((us.length : Nat) : Int) + 1))) none)) k3
    refine ⟨d2, d3, _, _, rfl, rfl, m3 _ _ upd_same, upd_same, by rw [sizeLine_eq, List.length_append, List.length_singleton]; omega, fun d4 k4 => ?_⟩
    have m4 := Same.new (o := .lst (cutV us none (some ((cell ns 2 / 3 / 12).fmod (((us.length : Nat) : Int) + 1))) ++ [w] ++ cutV us (some ((cell ns 2 / 3 / 12).fmod (((us.length : Nat) : Int) + 1))) none)) k4
    have mm := Same.trans (Same.trans m02 m3) m4
    have bw4 := bw.ex mm
    obtain ⟨tw, kw, iw⟩ := bw4
    have ku : ∀ y ∈ us, ∃ u, Kt _ y u := Kt.all_ex (Same.trans sC mm) hp.kt
    refine ⟨_, _, _, _, rfl, .int _, kl_lst upd_same (fun y hy => ?_), no_bad upd_same rfl (List.mem_append_left _ (List.mem_append_right _ List.mem_cons_self)) iw, fun H5 s5 => ?_⟩
    · rcases List.mem_append.mp hy with z | z
      · rcases List.mem_append.mp z with z | z
        · exact ku y (cutV_mem z)
        · rw [List.mem_singleton.mp z]; exact ⟨tw, kw⟩
      · exact ku y (cutV_mem z)
    refine ⟨_, rfl, iteF ?_⟩
    have sD : Same H H5 := Same.trans (Same.trans sC mm) s5
    clear bw kw iw ku mm m4 m3 m02 m2 m1 m0 k0 k1 k2 k3 k4 s5 hlC hpC hpc sC hw2 hw1
    have hlD := sD _ _ hl
    have hpD := hp.ex sD
    -- one of them twice
    refine tnx ?_
    dsimp only
    refine tsq (if_no (R := Same H) (fun Q' hq => ?_) fun H6 s6 => ?_)
    · refine ⟨_, rfl, Nat.zero_le _, fun e0 f0 => ?_⟩
      have n0 := Same.new (o := .lst []) f0
      refine ⟨dPs ts, dPs [], dp_prs (SqL.of (n0 _ _ hlD)) (hpD.ex n0), dp_prs (SqL.of upd_same) .nil, shaped_dPs _, shaped_dPs _, _, rfl, ?_⟩
      rw [eqv_dPs]
      by_cases ce : ts = []
      · rw [decide_eq_true ce]
        exact iteF (hq _ (Same.trans sD n0))
      · rw [decide_eq_false ce]
        have lp : 0 < us.length := by
          rw [hp.len]
          cases ts with
          | nil => exact absurd rfl ce
          | cons _ _ => exact Nat.succ_pos _
        have sE := Same.trans sD n0
        have hlE := sE _ _ hl
        have hpE := hp.ex sE
        obtain ⟨y, hy1, hy2⟩ := atMod (xs := us) (k := ((cell ns 2 / 3 / 12).fmod (((us.length : Nat) : Int) + 1))) (m := ((us.length : Nat) : Int)) rfl (by omega)
        refine iteT ⟨_, rfl, _, rfl, _, rfl, _, rfl, _, rfl, l, us, rfl, .inl (SqL.of hlE), _, _, rfl, rfl, (show ((us.length : Nat) : Int) ≠ 0 by omega), l, us, _, y, rfl, rfl, SqL.of hlE, by rw [Int.fmod_eq_emod_of_nonneg _ (by omega)]; exact hy1, z1, fun e1 f1 => ?_⟩
        have n1 := Same.new (o := .lst [y]) f1
        refine ⟨l, e1, _, _, rfl, rfl, n1 _ _ hlE, upd_same, by rw [sizeLine_eq, List.length_singleton]; omega, fun e2 f2 => ?_⟩
        have n2 := Same.new (o := .lst (us ++ [y])) f2
        have n12 := Same.trans n1 n2
        have ku : ∀ z ∈ us, ∃ u, Kt _ z u := Kt.all_ex n12 hpE.kt
        refine ⟨_, _, _, _, rfl, .int _, kl_lst upd_same (fun z hz => ?_), fun m ps g => ?_, fun H6 s6 => ?_⟩
        · rcases List.mem_append.mp hz with z' | z'
          · exact ku z z'
          · rw [List.mem_singleton.mp z']; exact ku y hy2
        · obtain ⟨_, _, _, ys, e3, ok, _⟩ := g
          rw [listOf_lst upd_same] at e3; cases e3
          have nd := ok.one
          rw [List.map_append] at nd
          exact (List.nodup_append.mp nd).2.2 _ (List.mem_map.mpr ⟨y, hy2, rfl⟩) _ List.mem_cons_self rfl
        · exact ⟨_, rfl, hq _ (Same.trans (Same.trans sE n12) s6)⟩
    -- a size that is none
    refine tnx ?_
    dsimp only
    refine tsq (if_no (R := Same H) (fun Q' hq => ?_) fun H7 s7 => ?_)
    · refine ⟨_, rfl, _, _, rfl, rfl, ⟨by decide, by decide, by decide⟩, (by show 7 ≤ sizeLine; decide), fun e0 f0 => ?_⟩
      obtain ⟨w, hw1, hw2⟩ := atMod (xs := [V.int 0, .int (-1), .int 41, .int (10 ^ (9 : Int).toNat), .bl true, .str "3", .non]) (k := cell ns 2 / 3) (m := 7) rfl (by decide)
      have kw : ∀ H' : Hp, ∃ t, Kd H' w t ∧ ∀ m : Nat, w = .int m → ¬ (1 ≤ m ∧ m ≤ 40) := fun H' => by
        simp only [List.mem_cons, List.not_mem_nil, or_false] at hw2
        have e9 : (10 : Int) ^ (9 : Int).toNat = 1000000000 := by decide
        rcases hw2 with rfl | rfl | rfl | rfl | rfl | rfl | rfl
        · exact ⟨_, .int _, fun m e => by injection e with e; omega⟩
        · exact ⟨_, .int _, fun m e => by injection e with e; omega⟩
        · exact ⟨_, .int _, fun m e => by injection e with e; omega⟩
        · exact ⟨_, .int _, fun m e => by injection e with e; rw [e9] at e; omega⟩
        · exact ⟨_, .bl _, fun m e => by cases e⟩
        · exact ⟨_, .str _, fun m e => by cases e⟩
        · exact ⟨_, .non, fun m e => by cases e⟩
      refine ⟨_, rfl, _, _, rfl, rfl, (by show (0 : Int) < 7; decide), e0, _, _, w, rfl, rfl, SqL.of upd_same, hw1, Nat.zero_le _, fun e1 f1 => ?_⟩
      have n1 := Same.new (o := .lst [V.int 0, .int (-1), .int 41, .int (10 ^ (9 : Int).toNat), .bl true, .str "3", .non]) f0
      have n2 := Same.new (o := .lst []) f1
      obtain ⟨tw, kd, no⟩ := kw (upd (upd H6 e0 (.lst [V.int 0, .int (-1), .int 41, .int (10 ^ (9 : Int).toNat), .bl true, .str "3", .non])) e1 (.lst []))
      refine ⟨w, _, tw, _, rfl, kd, kl_lst upd_same (fun y hy => by cases hy), fun m ps g => no m g.1 ⟨g.2.1, g.2.2.1⟩, fun H7 s7 => ?_⟩
      exact ⟨_, rfl, hq _ (Same.trans (Same.trans (Same.trans s6 n1) n2) s7)⟩
    -- ties that are no list
    refine ⟨_, rfl, _, rfl, l, us, rfl, .inl ⟨SqL.of (s7 _ _ hl), fun t0 ft => ?_⟩⟩
    intro d0 fd
    refine ⟨(by show 5 ≤ sizeLine; decide), fun e0 f0 => ?_⟩
    obtain ⟨w, hw1, hw2⟩ := atMod (xs := [V.ref t0, .non, .int 3, .str "", .ref d0]) (k := cell ns 2 / 3) (m := 5) rfl (by decide)
    have n0 := Same.new (o := .tup us) ft
    have n1 := Same.new (o := .dK []) fd
    have n2 := Same.new (o := .lst [V.ref t0, .non, .int 3, .str "", .ref d0]) f0
    have kw : ∃ t, Kd (upd (upd (upd H7 t0 (.tup us)) d0 (.dK [])) e0 (.lst [V.ref t0, .non, .int 3, .str "", .ref d0])) w t ∧ t ≠ .list := by
      simp only [List.mem_cons, List.not_mem_nil, or_false] at hw2
      rcases hw2 with rfl | rfl | rfl | rfl | rfl
      · exact ⟨_, .tup (n2 _ _ (n1 _ _ upd_same)), by decide⟩
      · exact ⟨_, .non, by decide⟩
      · exact ⟨_, .int _, by decide⟩
      · exact ⟨_, .str _, by decide⟩
      · exact ⟨_, .dct (n2 _ _ upd_same), by decide⟩
    obtain ⟨tw, kd, nl⟩ := kw
    refine ⟨_, rfl, _, _, rfl, rfl, (by show (0 : Int) < 5; decide), e0, _, _, w, rfl, rfl, SqL.of upd_same, hw1, ?_⟩
    refine ⟨_, w, _, tw, rfl, .int _, kl_no kd nl, fun m ps g => ?_, fun H8 s8 => ?_⟩
    · obtain ⟨_, _, _, ys, e, _⟩ := g
      rw [listOf_no kd nl] at e; cases e
    · exact q H8 (Same.trans (Same.trans (Same.trans (Same.trans s7 n0) n1) n2) s8)
end
end Od

namespace Od
open PySem PySem.Spec PyProof.Rows L2
/-! ### the places beside, reckoned twice -/
def dueA (ts : List Pr) (k : Int) : List Int := (ts.filter fun p => decide (p.2 = k)).map (·.1)
def dueB (ts : List Pr) (k : Int) : List Int := (ts.filter fun p => decide (p.1 = k)).map (·.2)
theorem due_perm {n : Int} {ts : List Pr} (h : ∀ p ∈ ts, Tie n p) (k : Int) : (dueA ts k ++ dueB ts k).Perm (nbr ts k) := by
  rw [nbr_fm]
  induction ts with
  | nil => exact List.Perm.refl _
  | cons p ts ih =>
    have ih := ih fun q hq => h q (List.mem_cons_of_mem _ hq)
    obtain ⟨a1, a2, a3⟩ := h p List.mem_cons_self
    unfold dueA dueB at ih ⊢
    by_cases c1 : p.1 = k
    · have c2 : ¬ p.2 = k := by omega
      rw [List.filter_cons_of_neg (by rw [decide_eq_false c2]; decide), List.filter_cons_of_pos (by rw [decide_eq_true c1]), List.map_cons, List.filterMap_cons_some (b := p.2) (by unfold nbg; rw [if_pos c1])]
      exact List.perm_middle.trans (ih.cons _)
    · by_cases c2 : p.2 = k
      · rw [List.filter_cons_of_pos (by rw [decide_eq_true c2]), List.filter_cons_of_neg (by rw [decide_eq_false c1]; decide), List.map_cons, List.filterMap_cons_some (b := p.1) (by unfold nbg; rw [if_neg c1, if_pos c2])]
        exact ih.cons _
      · rw [List.filter_cons_of_neg (by rw [decide_eq_false c2]; decide), List.filter_cons_of_neg (by rw [decide_eq_false c1]; decide), List.filterMap_cons_none (by unfold nbg; rw [if_neg c1, if_neg c2])]
        exact ih
theorem dueA_snoc (ts : List Pr) (p : Pr) (k : Int) : dueA (ts ++ [p]) k = dueA ts k ++ (if p.2 = k then [p.1] else []) := by
  unfold dueA
  rw [List.filter_append, List.map_append]
  by_cases c : p.2 = k
  · rw [if_pos c, List.filter_cons_of_pos (by rw [decide_eq_true c])]; rfl
  · rw [if_neg c, List.filter_cons_of_neg (by rw [decide_eq_false c]; decide)]; rfl
theorem dueB_snoc (ts : List Pr) (p : Pr) (k : Int) : dueB (ts ++ [p]) k = dueB ts k ++ (if p.1 = k then [p.2] else []) := by
  unfold dueB
  rw [List.filter_append, List.map_append]
  by_cases c : p.1 = k
  · rw [if_pos c, List.filter_cons_of_pos (by rw [decide_eq_true c])]; rfl
  · rw [if_neg c, List.filter_cons_of_neg (by rw [decide_eq_false c]; decide)]; rfl
theorem dueA_len (ts : List Pr) (k : Int) : (dueA ts k).length ≤ ts.length := by unfold dueA; rw [List.length_map]; exact List.length_filter_le _ _
theorem dueB_len (ts : List Pr) (k : Int) : (dueB ts k).length ≤ ts.length := by unfold dueB; rw [List.length_map]; exact List.length_filter_le _ _
def spBesideLaw (C : Addr) : Sp := fun vs H Q _ => ∃ (x l : Addr) (n : Nat) (us : List V) (ts : List Pr), vs = [.ref x, .int n, .ref l] ∧ NetAt C H x n ts ∧ H l = some (.lst us) ∧ Prs H us ts ∧ ∀ H', Same H H' → Q (.bl true) H'
section
variable {P : Program} {w : World} {K : PySem.W.Frag} {mg : Str → Option Value} {c : Cs} {base : Heap}
theorem ok_law_beside (T : Top K mg c) : Fd.Has P w K mg base CX0 4 "_law_beside" ["_law_net", "_law_size", "_law_ties"] (spBesideLaw c.Net) := by
  have G__law_whole : Fd.Has P w K mg base CX0 1 "_law_whole" ["_law_found"] spWhole := ok_whole T
  have G_Net_beside : Fd.MHas P w K mg base (L2N.CX P w) 3 c.Net "beside" ["self", "place"] (spBeside c.Net c.NoPlace) := ok_beside T
  refine T.d__law_beside.ok sc__law_beside (fun vs H Q E h => ?_) (fun f cdv A outer s H vs Q E hr h => ?_)
  · obtain ⟨x, l, n, us, ts, rfl, _⟩ := h; rfl
  · obtain ⟨x, l, n, us, ts, rfl, N, hl, hp, q⟩ := h
    have hr_Net_beside := hr
    have hr__law_whole := hr.mono (show 1 ≤ 3 by decide)
    have few := N.few
    have n40 := N.hi
    refine ⟨_, (pss_cons (ps_for PassesOwn.never rfl (pi_range1 (by rfl) T.n_range (pa_cons (pv 1) pa_nil)) (pg_name (i := 3) sc__law_beside.nd rfl (Or.inr rfl))
      (pss_cons (ps_setLc (i := 4) (own := [("_law_one", 6), ("_law_other", 7)]) (g := gTup K 2 (gCons (gName 6) (gCons (gName 7) gNil))) rfl sc__law_beside.nd rfl rfl (sw_true rfl rfl rfl (by decide +kernel)) (pi_list (pv 2)) (blkOk_by (own := [("_law_one", 6), ("_law_other", 7)]) (N := N__law_beside) (sc := defScope S__law_beside) (by decide +kernel)) (fun _ _ _ _ _ => (pg_tup rfl (pgs_cons (pg_name (i := 6) sc__law_beside.nd rfl (Or.inl rfl)) (pgs_cons (pg_name (i := 7) sc__law_beside.nd rfl (Or.inl rfl)) pgs_nil)))) (fun _ _ _ _ _ => (pts_one (pt_cmpR op_eq (pv 7) (pv 3) (nomark _)))) (fun _ _ _ _ _ => (pv 6)))
        (pss_cons (ps_set (i := 4) sc__law_beside.nd rfl (Or.inl rfl) (pe_op op_cat (pv 4) (pe_lc (own := [("_law_one", 6), ("_law_other", 7)]) (g := gTup K 2 (gCons (gName 6) (gCons (gName 7) gNil))) rfl sc__law_beside.nd (pi_list (pv 2)) (blkOk_by (own := [("_law_one", 6), ("_law_other", 7)]) (N := N__law_beside) (sc := defScope S__law_beside) (by decide +kernel)) (fun _ _ _ _ _ => (pg_tup rfl (pgs_cons (pg_name (i := 6) sc__law_beside.nd rfl (Or.inl rfl)) (pgs_cons (pg_name (i := 7) sc__law_beside.nd rfl (Or.inl rfl)) pgs_nil)))) (fun _ _ _ _ _ => (pts_one (pt_cmpR op_eq (pv 6) (pv 3) (nomark _)))) (fun _ _ _ _ _ => (pv 7)))))
        (pss_cons (ps_set (i := 5) sc__law_beside.nd rfl (Or.inl rfl) (Fd.pe_mN G_Net_beside (pv 0) T.cl_Net hr_Net_beside Fd.pass00 (pa_cons (pv 3) pa_nil)))
        (pss_cons (ps_if (PW.pt (pw_or (pt_not (pt_val (pe_callB (r := rIsi K) call_isi (by rfl) T.n_isinstance boot_isinstance (pa_cons (pv 5) (pa_cons (pe_bltn (v := .ty "list") (by rfl) T.n_list boot_list rfl) pa_nil))))) (pw_or1 (pt_not (pt_val (pe_callB (cr_all rfl) (by rfl) T.n_all boot_all (pa_cons (pe_lc (own := [("_law_one", 6)]) (g := gName 6) rfl sc__law_beside.nd (pi_list (pv 5)) (blkOk_by (own := [("_law_one", 6)]) (N := N__law_beside) (sc := defScope S__law_beside) (by decide +kernel)) (fun _ _ _ _ _ => pg_name (i := 6) sc__law_beside.nd rfl (Or.inl rfl)) (fun _ _ _ _ _ => pts_nil) (fun _ _ _ _ _ => (Fd.pe_f G__law_whole hr__law_whole (by rfl) (pa_cons (pv 6) pa_nil)))) pa_nil)))))))
        (pss_one (ps_ret pe_bl))
        pss_nil)
        (pss_cons (ps_if (pt_cmpR (op_neD hr.units) (pv 5) (pe_callB cr_sortedI (by rfl) T.n_sorted boot_sorted (pa_cons (pv 4) pa_nil)) (nomark _))
        (pss_one (ps_ret pe_bl))
        pss_nil)
        (pss_cons (ps_expr (pe_bm PySem.F.plainAttrs_list PySem.F.slot_list_append PySem.F.type_list_append mt_append (pv 5) (pa_cons (pv 3) pa_nil)))
        (pss_one (ps_if (PW.pt (pw_or (pt_cmpR (op_neD hr.units) (Fd.pe_mN G_Net_beside (pv 0) T.cl_Net hr_Net_beside Fd.pass00 (pa_cons (pv 3) pa_nil)) (pe_callB cr_sortedI (by rfl) T.n_sorted boot_sorted (pa_cons (pv 4) pa_nil)) (nomark _)) (pw_or1 (pt_cmpR (op_neD hr.units) (pv 5) (pe_op op_cat (pe_callB cr_sortedI (by rfl) T.n_sorted boot_sorted (pa_cons (pv 4) pa_nil)) (pe_lst (pa_cons (pv 3) pa_nil))) (nomark _)))))
        (pss_one (ps_ret pe_bl))
        pss_nil)))))))))
      (pss_one (ps_ret pe_bl))), ?_⟩
    refine ⟨_, rfl, (n : Int), rfl, by omega, by omega, for_range (lo := 0) (n := n) (fun i σ H' => ∃ v3 v4 v5, σ = [some (.ref x), some (.int n), some (.ref l), v3, v4, v5, none, none] ∧ Same H H')
      ⟨none, none, none, rfl, Same.refl H⟩ ?_ ?_⟩
    · rintro i σ H1 hi ⟨v3, v4, v5, rfl, s1⟩
      rw [show (0 : Int) + (i : Int) = (i : Int) from Int.zero_add _]
      generalize hk : (i : Int) = k
      have hl1 := s1 _ _ hl
      have hp1 := hp.ex s1
      -- due
      refine ⟨_, rfl, l, rfl, ⟨us, SqL.of hl1⟩, fun D hD => ?_⟩
      refine lc_list (xs := us) (fun i Hc => Same H1 Hc ∧ Hc D = some (.lst ((dueA (ts.take i) k).map V.int))) ⟨Same.new hD, upd_same⟩ (fun i Hc _ p => SqL.of (p.1 _ _ hl1)) ?_ ?_
      · rintro j y Hc hj ⟨s2, hDc⟩
        obtain ⟨p, t, htj, rfl, ht⟩ := hp1.get hj
        have tk : ts.take (j + 1) = ts.take j ++ [p] := by rw [List.take_succ, htj]; rfl
        have sz : ((dueA (ts.take j) k).map V.int).length < sizeLine := by
          have := dueA_len (ts.take j) k
          rw [List.length_take] at this
          rw [List.length_map, sizeLine_eq]; omega
        refine ⟨t, _, rfl, SqT.of (s2 _ _ ht), rfl, _, _, rfl, _, _, rfl, rfl, rfl, _, rfl, _, rfl, rfl, _, rfl, ?_⟩
        rw [vint, tk, dueA_snoc]
        by_cases ck : p.2 = k
        · rw [decide_eq_true ck, if_pos ck]
          refine iteT ?_
          refine ⟨_, rfl, _, hDc, sz, Same.mut s2 hD, by rw [upd_same, List.map_append]; rfl⟩
        · rw [decide_eq_false ck, if_neg ck]
          refine iteF ⟨s2, by rw [List.append_nil]; exact hDc⟩
      rintro H2 ⟨s2, hD2⟩
      rw [hp1.len, List.take_length] at hD2
      have s12 := Same.trans s1 s2
      have hl2 := s12 _ _ hl
      have hp2 := hp.ex s12
      -- due, the rest
      refine ⟨_, rfl, _, rfl, l, rfl, ⟨us, SqL.of hl2⟩, fun D2 hDD => ?_⟩
      refine lc_list (xs := us) (fun i Hc => Same H2 Hc ∧ Hc D2 = some (.lst ((dueB (ts.take i) k).map V.int))) ⟨Same.new hDD, upd_same⟩ (fun i Hc _ p => SqL.of (p.1 _ _ hl2)) ?_ ?_
      · rintro j y Hc hj ⟨s3, hDc⟩
        obtain ⟨p, t, htj, rfl, ht⟩ := hp2.get hj
        have tk : ts.take (j + 1) = ts.take j ++ [p] := by rw [List.take_succ, htj]; rfl
        have sz : ((dueB (ts.take j) k).map V.int).length < sizeLine := by
          have := dueB_len (ts.take j) k
          rw [List.length_take] at this
          rw [List.length_map, sizeLine_eq]; omega
        refine ⟨t, _, rfl, SqT.of (s3 _ _ ht), rfl, _, _, rfl, _, _, rfl, rfl, rfl, _, rfl, _, rfl, rfl, _, rfl, ?_⟩
        rw [vint, tk, dueB_snoc]
        by_cases ck : p.1 = k
        · rw [decide_eq_true ck, if_pos ck]
          refine iteT ?_
          refine ⟨_, rfl, _, hDc, sz, Same.mut s3 hDD, by rw [upd_same, List.map_append]; rfl⟩
        · rw [decide_eq_false ck, if_neg ck]
          refine iteF ⟨s3, by rw [List.append_nil]; exact hDc⟩
      rintro H3 ⟨s3, hD3⟩
      rw [hp2.len, List.take_length] at hD3
      have la := dueA_len ts k
      have lb := dueB_len ts k
      refine ⟨D, D2, _, _, rfl, rfl, s3 _ _ hD2, hD3, by rw [List.length_map, List.length_map, sizeLine_eq]; omega, fun Dd hDd => ?_⟩
      have s4 := Same.new (o := .lst ((dueA ts k).map V.int ++ (dueB ts k).map V.int)) hDd
      have hD4 : upd H3 Dd (.lst ((dueA ts k).map V.int ++ (dueB ts k).map V.int)) Dd = some (.lst ((dueA ts k ++ dueB ts k).map V.int)) := by rw [upd_same, List.map_append]
      have s14 := Same.trans (Same.trans s12 s3) s4
      generalize upd H3 Dd (.lst ((dueA ts k).map V.int ++ (dueB ts k).map V.int)) = H4 at s4 hD4 s14 ⊢
      have N4 := N.ex s14
      obtain ⟨dx, lt, ln, us', rs, a1, _⟩ := N4.at_
      have kx : Kd H4 (.int k) .int := .int k
      subst hk
      -- found
      refine ⟨_, rfl, x, dx, _, rfl, a1, nf_beside _ _ _, _, rfl, x, n, ts, _, _, rfl, N4, kx, fun i' e hi' r hr' => ?_, fun z => ?_⟩
      · injection e with e
        obtain rfl : i = i' := by omega
        have s5 := Same.new (o := .lst ((nbr ts (i : Int)).map V.int)) hr'
        have s15 := Same.trans s14 s5
        have hr5 : upd H4 r (.lst ((nbr ts (i : Int)).map V.int)) r = some (.lst ((nbr ts (i : Int)).map V.int)) := upd_same
        have hD5 := s5 _ _ hD4
        have hrH : H r = none := s14.free hr'
        have hr4 : H4 r = none := hr'
        generalize upd H4 r (.lst ((nbr ts (i : Int)).map V.int)) = H5 at s5 s15 hr5 hD5 ⊢
        have up := nbr_up N.tie N.up (i : Int)
        have pm := due_perm N.tie (i : Int)
        have ln := nbr_len (i : Int) ts []
        rw [List.length_nil, Nat.zero_add] at ln
        have ln : (nbr ts (i : Int)).length ≤ 800 := Nat.le_trans ln few
        -- whole numbers
        refine tnx ?_
        dsimp only
        refine tsq (if_no (R := Same H5) (fun Q' hq => ?_) fun H6 s6 => ?_)
        · refine ⟨_, rfl, _, _, _, _, _, rfl, ClsV.ty _, (Kd.lst hr5).tyx, kit_ty (kit_list _), _, rfl, iteF ?_⟩
          refine ⟨_, rfl, r, rfl, ⟨_, SqL.of hr5⟩, fun D3 hD3' => ?_⟩
          refine lc_list (xs := (nbr ts (i : Int)).map V.int) (fun j Hc => Same H5 Hc ∧ Hc D3 = some (.lst ((List.replicate j true).map V.bl))) ⟨Same.new hD3', upd_same⟩ (fun j Hc _ p => SqL.of (p.1 _ _ hr5)) ?_ ?_
          · rintro j y Hc hj ⟨s6, hDc⟩
            obtain ⟨v, _, rfl⟩ : ∃ v, (nbr ts (i : Int))[j]? = some v ∧ y = V.int v := by
              rw [List.getElem?_map] at hj
              cases e : (nbr ts (i : Int))[j]? with
              | none => rw [e] at hj; cases hj
              | some v => rw [e] at hj; exact ⟨v, rfl, (Option.some.inj hj).symm⟩
            have jl : j < 800 := by
              have := (List.getElem?_eq_some_iff.mp hj).1
              rw [List.length_map] at this; omega
            refine ⟨rfl, tyes (iteT ?_)⟩
            refine ⟨_, rfl, _, _, rfl, .int v, _, hDc, by rw [List.length_map, List.length_replicate, sizeLine_eq]; omega, Same.mut s6 hD3', ?_⟩
            rw [upd_same, List.replicate_succ', List.map_append]; rfl
          · rintro Hc ⟨s6, hDc⟩
            refine ⟨D3, _, rfl, SqL.of hDc, _, rfl, ?_⟩
            have e : (List.replicate ((nbr ts (i : Int)).map V.int).length true).all id = true := by
              rw [List.all_eq_true]; intro b hb; exact (List.mem_replicate.mp hb).2
            rw [e]
            exact hq Hc s6
        -- as the law has it
        refine tnx ?_
        dsimp only
        refine tsq (if_no (R := Same H5) (fun Q' hq => ?_) fun H7 s7 => ?_)
        · refine ⟨_, rfl, _, rfl, Dd, _, rfl, SqL.of (s6 _ _ hD5), fun ns' pS pm' up' hS => ?_⟩
          have s8 := Same.new (o := .lst (ns'.map V.int)) hS
          obtain rfl : ns' = nbr ts (i : Int) := sorted_one (pm'.trans pm) up' up
          refine ⟨dIs (nbr ts (i : Int)), dIs (nbr ts (i : Int)), dp_ints (SqL.of (s8 _ _ (s6 _ _ hr5))), dp_ints (SqL.of upd_same), shaped_dIs _, shaped_dIs _, _, rfl, ?_⟩
          rw [eqv_dIs, decide_eq_true rfl]
          exact hq _ (Same.trans s6 s8)
        -- one more is told, and nothing else is changed
        refine ⟨_, rfl, .inl ⟨rfl, _, SqL.of (s7 _ _ hr5)⟩, _, rfl, r, _, _, rfl, rfl, s7 _ _ hr5, by rw [List.length_map, sizeLine_eq]; omega, ?_⟩
        have s8 : Same H (upd H7 r (.lst ((nbr ts (i : Int)).map V.int ++ [V.int (i : Int)]))) := Same.mut (Same.trans s15 s7) hrH
        have hr8 : upd H7 r (.lst ((nbr ts (i : Int)).map V.int ++ [V.int (i : Int)])) r = some (.lst ((nbr ts (i : Int) ++ [(i : Int)]).map V.int)) := by rw [upd_same, List.map_append]; rfl
        have hD8 : upd H7 r (.lst ((nbr ts (i : Int)).map V.int ++ [V.int (i : Int)])) Dd = some (.lst ((dueA ts (i : Int) ++ dueB ts (i : Int)).map V.int)) := by
          rw [upd_ne (fun z => by rw [z, hr4] at hD4; cases hD4)]
          exact s7 _ _ hD5
        generalize upd H7 r (.lst ((nbr ts (i : Int)).map V.int ++ [V.int (i : Int)])) = H8 at s8 hr8 hD8 ⊢
        refine tnx ?_
        dsimp only
        refine if_no (R := Same H8) (fun Q' hq => ?_) fun H9 s9 => ?_
        · have N8 := N.ex s8
          obtain ⟨dx, lt, ln', us', rs, a1, _⟩ := N8.at_
          refine ⟨_, rfl, x, dx, _, rfl, a1, nf_beside _ _ _, _, rfl, x, n, ts, _, _, rfl, N8, .int _, fun i' e hi' r2 hr2 => ?_, fun z => ?_⟩
          · injection e with e
            obtain rfl : i = i' := by omega
            have s9 := Same.new (o := .lst ((nbr ts (i : Int)).map V.int)) hr2
            refine ⟨_, rfl, Dd, _, rfl, SqL.of (s9 _ _ hD8), fun ns' pS pm' up' hS => ?_⟩
            have s10 := Same.new (o := .lst (ns'.map V.int)) hS
            obtain rfl : ns' = nbr ts (i : Int) := sorted_one (pm'.trans pm) up' up
            refine ⟨dIs (nbr ts (i : Int)), dIs (nbr ts (i : Int)), dp_ints (SqL.of (s10 _ _ upd_same)), dp_ints (SqL.of upd_same), shaped_dIs _, shaped_dIs _, _, rfl, ?_⟩
            rw [eqv_dIs, decide_eq_true rfl]
            refine iteF ?_
            have s80 := Same.trans s9 s10
            refine ⟨_, rfl, _, rfl, Dd, _, rfl, SqL.of (s80 _ _ hD8), fun ns' pT pm' up' hT => ?_⟩
            have s11 := Same.new (o := .lst (ns'.map V.int)) hT
            obtain rfl : ns' = nbr ts (i : Int) := sorted_one (pm'.trans pm) up' up
            refine ⟨_, rfl, (by show 1 ≤ sizeLine; decide), fun pU hU => ?_⟩
            have s12 := Same.new (o := .lst [V.int (i : Int)]) hU
            refine ⟨pT, pU, _, _, rfl, rfl, s12 _ _ upd_same, upd_same, by rw [List.length_map, List.length_singleton, sizeLine_eq]; omega, fun pV hV => ?_⟩
            have s13 := Same.new (o := .lst ((nbr ts (i : Int)).map V.int ++ [V.int (i : Int)])) hV
            have s83 := Same.trans (Same.trans (Same.trans s80 s11) s12) s13
            refine ⟨dIs (nbr ts (i : Int) ++ [(i : Int)]), dIs (nbr ts (i : Int) ++ [(i : Int)]), dp_ints (SqL.of (s83 _ _ hr8)), dp_ints (SqL.of (by rw [upd_same, List.map_append]; rfl)), shaped_dIs _, shaped_dIs _, _, rfl, ?_⟩
            rw [eqv_dIs, decide_eq_true rfl]
            exact hq _ s83
          · have : isPl (.int (i : Int)) n = true := decide_eq_true ⟨by omega, by omega⟩
            rw [this] at z; cases z
        · exact ⟨_, _, _, rfl, Same.trans s8 s9⟩
      · have : isPl (.int (i : Int)) n = true := decide_eq_true ⟨by omega, by omega⟩
        rw [this] at z; cases z
    · rintro σ H' ⟨v3, v4, v5, rfl, s5⟩
      exact q H' s5
end
end Od

namespace Od
open PySem PySem.Spec PyProof.Rows L2
theorem Prs.perm {H : Hp} {us ws : List V} {ts : List Pr} (p : Prs H us ts) (pm : ws.Perm us) : Prs H ws (ws.map (Od.prOf H)) ∧ (ws.map (Od.prOf H)).Perm ts := by
  constructor
  · have key : ∀ vs : List V, (∀ v ∈ vs, v ∈ us) → Prs H vs (vs.map (Od.prOf H)) := fun vs => by
      induction vs with
      | nil => exact fun _ => .nil
      | cons v vs ih =>
        intro h
        obtain ⟨i, hi⟩ := List.getElem?_of_mem (h v List.mem_cons_self)
        obtain ⟨q, a, _, rfl, e⟩ := p.get hi
        refine .cons ⟨a, rfl, ?_⟩ (ih fun w hw => h w (List.mem_cons_of_mem _ hw))
        have : Od.prOf H (.ref a) = q := by unfold Od.prOf; rw [tupOf_tup e]
        rw [this]; exact e
    exact key ws fun v hv => pm.mem_iff.mp hv
  · have h := pm.map (Od.prOf H)
    rw [p.prOf] at h
    exact h
theorem Prs.snoc {H : Hp} {us : List V} {ts : List Pr} {b : Addr} {p : Pr} (h : Prs H us ts) (hb : H b = some (.tup [.int p.1, .int p.2])) : Prs H (us ++ [.ref b]) (ts ++ [p]) := by
  induction h with
  | nil => exact .cons ⟨b, rfl, hb⟩ .nil
  | cons r _ ih => exact .cons r ih
def spLaw (K : PySem.W.Frag) : Sp := fun vs H Q _ => ∃ (a : Addr) (ns : List Int), vs = [.ref a] ∧ SqL K H a (ns.map V.int) ∧ ns.length ≤ 63 ∧ ∀ H', Q (.bl true) H'
section
variable {P : Program} {w : World} {K : PySem.W.Frag} {mg : Str → Option Value} {c : Cs} {base : Heap}
theorem ok_law (T : Top K mg c) {fl : Addr} {fdl : FuncData} (FL : Fun K "law" "law" S_law fl fdl) : FnOk P w K mg base CX0 10 fl fdl ["_law_script"] (spLaw K) := by
  have G__law_cell_at : Fd.Has P w K mg base CX0 1 "_law_cell_at" ["_law_script", "_law_k"] (spCell K) := ok_cell T
  have G__law_net_by : Fd.Has P w K mg base CX0 3 "_law_net_by" ["_law_script", "_law_bound"] (spNetBy K) := ok_net_by T
  have G__law_mixed : Fd.Has P w K mg base CX0 1 "_law_mixed" ["_law_row", "_law_cell"] spMixed := ok_mixed T
  have G__law_wrong : Fd.Has P w K mg base CX0 9 "_law_wrong" ["_law_script", "_law_size", "_law_ties"] (spWrong K) := ok_wrong T
  have G_Net : Fd.IHas P w K mg base (L2N.CX P w) 6 c.Net ["self", "size", "ties"] (spInit c.Net c.BadNet) := ok_init T
  have G_Net_ties : Fd.MHas P w K mg base CX0 1 c.Net "ties" ["self"] (spTies c.Net) := ok_ties T
  have G__law_whole : Fd.Has P w K mg base CX0 1 "_law_whole" ["_law_found"] spWhole := ok_whole T
  have G__law_beside : Fd.Has P w K mg base CX0 4 "_law_beside" ["_law_net", "_law_size", "_law_ties"] (spBesideLaw c.Net) := ok_law_beside T
  have G__law_no_place : Fd.Has P w K mg base CX0 5 "_law_no_place" ["_law_net", "_law_place"] (spNoPlace c.Net) := ok_no_place T
  refine FL.ok sc_law (fun vs H Q E h => ?_) (fun cdv A outer s H vs Q E hr h => ?_)
  · obtain ⟨a, ns, rfl, _⟩ := h; rfl
  · obtain ⟨a, ns, rfl, hs, hlen, q⟩ := h
    have hr__law_cell_at := hr.mono (show 1 ≤ 9 by decide)
    have hr__law_net_by := hr.mono (show 3 ≤ 9 by decide)
    have hr__law_mixed := hr.mono (show 1 ≤ 9 by decide)
    have hr__law_wrong := hr
    have hr_Net := hr.mono (show 7 ≤ 9 by decide)
    have hr_Net_ties := hr.mono (show 1 ≤ 9 by decide)
    have hr__law_whole := hr.mono (show 1 ≤ 9 by decide)
    have hr__law_beside := hr.mono (show 4 ≤ 9 by decide)
    have hr__law_no_place := hr.mono (show 5 ≤ 9 by decide)
    refine ⟨_, (pss_cons (ps_asg (Fd.pe_f G__law_net_by hr__law_net_by (by rfl) (pa_cons (pv 0) (pa_cons pe_int pa_nil))) (pg_tup rfl (pgs_cons (pg_name (i := 1) sc_law.nd rfl (Or.inl rfl)) (pgs_cons (pg_name (i := 2) sc_law.nd rfl (Or.inl rfl)) pgs_nil))))
      (pss_cons (ps_set (i := 3) sc_law.nd rfl (Or.inl rfl) (Fd.pe_f G__law_mixed hr__law_mixed (by rfl) (pa_cons (pv 2) (pa_cons (Fd.pe_f G__law_cell_at hr__law_cell_at (by rfl) (pa_cons (pv 0) (pa_cons pe_int pa_nil))) pa_nil))))
      (pss_cons (ps_set (i := 4) sc_law.nd rfl (Or.inl rfl) (pe_callTy call_list_of (by rfl) T.n_list boot_list (pa_cons (pv 3) pa_nil)))
      (pss_cons (ps_if (pt_cmpR op_eq (pe_op op_mod (Fd.pe_f G__law_cell_at hr__law_cell_at (by rfl) (pa_cons (pv 0) (pa_cons pe_int pa_nil))) pe_int) pe_int (nomark _))
      (pss_one (ps_ret (pe_and (Fd.pe_f G__law_wrong hr__law_wrong (by rfl) (pa_cons (pv 0) (pa_cons (pv 1) (pa_cons (pv 3) pa_nil)))) (pe_one (pe_cmpR (op_eqD hr.units) (pv 3) (pv 4) (nomark _))))))
      pss_nil)
      (pss_cons (ps_set (i := 5) sc_law.nd rfl (Or.inl rfl) (Fd.pe_mk G_Net hr_Net (by rfl) T.c_Net Fd.pass00 (pa_cons (pv 1) (pa_cons (pv 3) pa_nil))))
      (pss_cons (ps_set (i := 6) sc_law.nd rfl (Or.inl rfl) (Fd.pe_m0 G_Net_ties (pv 5) T.cl_Net hr_Net_ties))
      (pss_cons (ps_if (PW.pt (pw_or (pt_not (pt_val (Fd.pe_f G__law_whole hr__law_whole (by rfl) (pa_cons (pe_fld (pv 5) rfl) pa_nil)))) (pw_or (pt_cmpR op_ne (pe_fld (pv 5) rfl) (pv 1) (nomark _)) (pw_or1 (pt_not (pt_val (pe_callB (r := rIsi K) call_isi (by rfl) T.n_isinstance boot_isinstance (pa_cons (pv 6) (pa_cons (pe_bltn (v := .ty "list") (by rfl) T.n_list boot_list rfl) pa_nil)))))))))
      (pss_one (ps_ret pe_bl))
      pss_nil)
      (pss_cons (ps_if (PW.pt (pw_or (pt_not (pt_val (pe_callB (cr_all rfl) (by rfl) T.n_all boot_all (pa_cons (pe_lc (own := [("_law_tie", 7)]) (g := gName 7) rfl sc_law.nd (pi_list (pv 6)) (blkOk_by (own := [("_law_tie", 7)]) (N := N_law) (sc := defScope S_law) (by decide +kernel)) (fun _ _ _ _ _ => pg_name (i := 7) sc_law.nd rfl (Or.inl rfl)) (fun _ _ _ _ _ => pts_nil) (fun _ _ _ _ _ => (pe_callB (r := rIsi K) call_isi (by rfl) T.n_isinstance boot_isinstance (pa_cons (pv 7) (pa_cons (pe_bltn (v := .ty "tuple") (by rfl) T.n_tuple boot_tuple rfl) pa_nil))))) pa_nil)))) (pw_or (pt_cmpR (op_neD hr.units) (pv 6) (pv 2) (nomark _)) (pw_or1 (pt_cmpR (op_neD hr.units) (pv 3) (pv 4) (nomark _))))))
      (pss_one (ps_ret pe_bl))
      pss_nil)
      (pss_cons (ps_expr (pe_bm PySem.F.plainAttrs_list PySem.F.slot_list_append PySem.F.type_list_append mt_append (pv 6) (pa_cons (pe_tup (pa_cons pe_int (pa_cons pe_int pa_nil))) pa_nil)))
      (pss_cons (ps_expr (pe_bm PySem.F.plainAttrs_list PySem.F.slot_list_append PySem.F.type_list_append mt_append (pv 3) (pa_cons (pe_tup (pa_cons pe_int (pa_cons pe_int pa_nil))) pa_nil)))
      (pss_cons (ps_if (PW.pt (pw_or (pt_cmpR (op_neD hr.units) (Fd.pe_m0 G_Net_ties (pv 5) T.cl_Net hr_Net_ties) (pv 2) (nomark _)) (pw_or (pt_cmpR (op_neD hr.units) (pv 6) (pe_op op_cat (pv 2) (pe_lst (pa_cons (pe_tup (pa_cons pe_int (pa_cons pe_int pa_nil))) pa_nil))) (nomark _)) (pw_or1 (pt_not (pt_val (Fd.pe_f G__law_beside hr__law_beside (by rfl) (pa_cons (pv 5) (pa_cons (pv 1) (pa_cons (pv 2) pa_nil))))))))))
      (pss_one (ps_ret pe_bl))
      pss_nil)
      (pss_one (ps_ret (Fd.pe_f G__law_no_place hr__law_no_place (by rfl) (pa_cons (pv 5) (pa_cons (pe_ix ix_list (pe_lst (pa_cons (pe_un un_neg pe_int) (pa_cons (pv 1) (pa_cons pe_bl (pa_cons pe_str (pa_cons pe_non (pa_cons (pe_op op_pow pe_int pe_int) (pa_cons (pe_un un_neg (pv 1)) pa_nil)))))))) (pe_op op_mod (Fd.pe_f G__law_cell_at hr__law_cell_at (by rfl) (pa_cons (pv 0) (pa_cons pe_int pa_nil))) pe_int) (fun _ _ => rfl)) pa_nil)))))))))))))))), ?_⟩
    refine ⟨_, rfl, a, ns, 11, rfl, hs, by decide, by decide, fun t p us H1 hp s1 hp1 np ht => ?_⟩
    have bd := netSize_bd ns (b := 11) (by decide) (by decide)
    have tie := fun (x : Pr) (hx : x ∈ netTies ns 11) => tiesBy_tie hx
    have up : (netTies ns 11).Pairwise plt := tiesBy_up _ _ _
    generalize netTies ns 11 = ts at np tie up
    obtain ⟨n, hn⟩ : ∃ n : Nat, netSize ns 11 = (n : Int) := ⟨(netSize ns 11).toNat, by omega⟩
    rw [hn] at bd tie ht
    have few := few_ties bd.2 tie (plt_nodup up)
    have prs1 := np.prs
    have lus := prs1.len
    refine ⟨t, _, rfl, SqT.of ht, rfl, _, _, rfl, _, _, rfl, rfl, ?_⟩
    -- handed, kept
    refine ⟨_, rfl, _, rfl, a, ns, 2, rfl, s1.seq hs, by decide, p, us, _, rfl, hp1, by omega, fun h ws H2 hh s2 hh2 pm => ?_⟩
    have npq : p ≠ h := ne_of_none hp1 hh
    have hH : H h = none := s1.free hh
    obtain ⟨prs2, pm2⟩ := (prs1.ex s2).perm pm
    generalize hts' : ws.map (prOf H2) = ts' at prs2 pm2
    have lws : ws.length ≤ 800 := by rw [pm.length_eq, lus]; exact few
    refine ⟨_, rfl, h, ws, rfl, .inl (SqL.of hh2), fun k hk => ?_⟩
    have nhk : h ≠ k := ne_of_none hh2 hk
    have s3 := Same.new (o := .lst ws) hk
    have hk3 : upd H2 k (.lst ws) k = some (.lst ws) := upd_same
    have s13 := Same.trans s2 s3
    have hh3 := s3 _ _ hh2
    have prs3 := prs2.ex s3
    have hk1 : H1 k = none := s2.free hk
    generalize upd H2 k (.lst ws) = H3 at s3 hk3 s13 hh3 prs3 ⊢
    have s03 := Same.trans s1 s13
    -- wrong things
    refine ⟨_, rfl, a, ns, 2, rfl, s03.seq hs, by decide, _, _, rfl, rfl, (by show (0 : Int) < 3; decide), rfl, _, rfl, ?_⟩
    rw [vint]
    by_cases c1 : cell ns 2 % 3 = 1
    · rw [decide_eq_true c1]
      refine iteT ⟨_, rfl, _, rfl, _, rfl, a, h, ns, n, ws, ts', rfl, s03.seq hs, by omega, hh3, prs3, by omega, fun H4 s4 => ?_⟩
      refine ⟨_, rfl, iteT ⟨_, rfl, _, rfl, dPs ts', dPs ts', dp_prs (SqL.of (s4 _ _ hh3)) (prs3.ex s4), dp_prs (SqL.of (s4 _ _ hk3)) (prs3.ex s4), shaped_dPs _, shaped_dPs _, ?_⟩⟩
      rw [eqv_dPs, decide_eq_true rfl]
      exact q H4
    rw [decide_eq_false c1]
    refine iteF ?_
    -- the net
    have eps : ws.map (prOf H3) = ts' := prs3.prOf
    have good : Good H3 (.int n) (.ref h) n ts' := by
      refine ⟨rfl, by omega, by omega, ws, listOf_lst hh3, ⟨fun y hy => ?_, by rw [eps]; exact pm2.nodup_iff.mpr (plt_nodup up)⟩, eps.symm⟩
      obtain ⟨i, hi⟩ := List.getElem?_of_mem hy
      obtain ⟨z, b, hz, rfl, e⟩ := prs3.get hi
      exact (isTie_of (tupOf_tup e) (tie z (pm2.mem_iff.mp (List.mem_of_getElem? hz)))).1
    refine ⟨_, rfl, _, rfl, fun x dx hx hdx ne => ⟨H3, x, dx, _, _, _, _, rfl, fun b o e => by rw [upd_ne (ne_of_none e hx), upd_ne (ne_of_none e hdx)]; exact e, hx, upd_same, .int _, kl_lst hh3 prs3.kt, .inl ⟨n, ts', good, fun tsN H4 pmN s4 N => ⟨rfl, ?_⟩⟩⟩⟩
    obtain rfl : tsN = ts := plt_one (pmN.trans pm2) N.up up
    have s14 := Same.trans s13 s4
    have s04 := Same.trans s03 s4
    have sN : Same (newp H3 H4) H4 := newp_same
    have N4 := N.ex sN
    obtain ⟨dx', lt', ln', us', rs', a1, _⟩ := N4.at_
    -- its ties
    refine ⟨_, rfl, x, dx', _, rfl, a1, nf_m_ties _ _ _, x, n, _, rfl, N4, fun r ur hr4 pr4 => ?_⟩
    have s5 := Same.new (o := .lst ur) hr4
    have hr5 : upd H4 r (.lst ur) r = some (.lst ur) := upd_same
    have s15 := Same.trans s14 s5
    have sN5 := Same.trans sN s5
    have prs5 := pr4.ex s5
    have hh5 := s5 _ _ (s4 _ _ hh3)
    have hk5 := s5 _ _ (s4 _ _ hk3)
    have prw5 := prs3.ex (Same.trans s4 s5)
    have rH1 : H1 r = none := s14.free hr4
    have rH : H r = none := s1.free rH1
    have rN : newp H3 H4 r = none := sN.free hr4
    have nrh : r ≠ h := fun z => by rw [z, s4 _ _ hh3] at hr4; cases hr4
    generalize upd H4 r (.lst ur) = H5 at s5 hr5 s15 sN5 prs5 hh5 hk5 prw5 ⊢
    have N5 := N.ex sN5
    obtain ⟨dx5, lt5, ln5, us5, rs5, a5, _⟩ := N5.at_
    have p5 := s15 _ _ hp1
    have prp5 := prs1.ex s15
    refine tnx ?_
    dsimp only
    refine tsq (if_no (R := Same H5) (fun Q' hq => ?_) fun H6 s6 => ?_)
    · refine ⟨_, rfl, x, c.Net, dx5, _, _, rfl, a5, T.cl_Net, T.a_Net_size, nf_size _ _ _, _, _, rfl, .int _, _, rfl, iteF ?_⟩
      refine ⟨_, rfl, x, c.Net, dx5, _, _, rfl, a5, T.cl_Net, T.a_Net_size, nf_size _ _ _, _, rfl, rfl, _, rfl, ?_⟩
      rw [decide_eq_true rfl]
      refine iteF ?_
      exact ⟨_, rfl, _, _, _, _, _, rfl, ClsV.ty _, (Kd.lst hr5).tyx, kit_ty (kit_list _), _, rfl, hq _ (Same.refl H5)⟩
    -- tuples, the law's own ties, the list handed in as it was
    refine tnx ?_
    dsimp only
    refine tsq (if_no (R := Same H6) (fun Q' hq => ?_) fun H7 s7 => ?_)
    · have hr6 := s6 _ _ hr5
      refine ⟨_, rfl, r, rfl, ⟨_, SqL.of hr6⟩, fun D hD => ?_⟩
      refine lc_list (xs := ur) (fun j Hc => Same H6 Hc ∧ Hc D = some (.lst ((List.replicate j true).map V.bl))) ⟨Same.new hD, upd_same⟩ (fun j Hc _ p => SqL.of (p.1 _ _ hr6)) ?_ ?_
      · rintro j y Hc hj ⟨s7, hDc⟩
        obtain ⟨z, b, hz, rfl, e⟩ := (prs5.ex s6).get hj
        have jl : j < 1000 := by
          have h1 := (List.getElem?_eq_some_iff.mp hz).1
          omega
        refine ⟨rfl, tyes (iteT ?_)⟩
        refine ⟨_, rfl, _, _, _, _, _, rfl, ClsV.ty _, (Kd.tup (s7 _ _ e)).tyx, kit_ty (kit_tuple _), _, hDc, by rw [List.length_map, List.length_replicate, sizeLine_eq]; omega, Same.mut s7 hD, ?_⟩
        rw [upd_same, List.replicate_succ', List.map_append]; rfl
      · rintro Hc ⟨s7, hDc⟩
        refine ⟨D, _, rfl, SqL.of hDc, _, rfl, ?_⟩
        have e : (List.replicate ur.length true).all id = true := by
          rw [List.all_eq_true]; intro b hb; exact (List.mem_replicate.mp hb).2
        rw [e]
        have s57 := Same.trans s6 s7
        refine iteF ⟨_, rfl, _, rfl, dPs tsN, dPs tsN, dp_prs (SqL.of (s57 _ _ hr5)) (prs5.ex s57), dp_prs (SqL.of (s57 _ _ p5)) (prp5.ex s57), shaped_dPs _, shaped_dPs _, _, rfl, ?_⟩
        rw [eqv_dPs, decide_eq_true rfl]
        refine iteF ⟨_, rfl, _, rfl, dPs ts', dPs ts', dp_prs (SqL.of (s57 _ _ hh5)) (prw5.ex s57), dp_prs (SqL.of (s57 _ _ hk5)) (prw5.ex s57), shaped_dPs _, shaped_dPs _, _, rfl, ?_⟩
        rw [eqv_dPs, decide_eq_true rfl]
        exact hq _ s7
    have s57 := Same.trans s6 s7
    have hr7 := s57 _ _ hr5
    have hh7 := s57 _ _ hh5
    have pr7 := prs5.ex s57
    have lur : ur.length ≤ 800 := by rw [pr7.len]; exact few
    -- both lists are made longer
    refine ⟨_, rfl, .inl ⟨rfl, _, SqL.of hr7⟩, (by show 2 ≤ sizeLine; decide), fun t1 g1 => ?_⟩
    have nr1 : r ≠ t1 := ne_of_none hr7 g1
    have nh1 : h ≠ t1 := ne_of_none hh7 g1
    refine ⟨r, ur, _, rfl, rfl, by rw [upd_ne nr1]; exact hr7, by rw [sizeLine_eq]; omega, ?_⟩
    have t1r : upd (upd H7 t1 (.tup [.int 0, .int 1])) r (.lst (ur ++ [.ref t1])) t1 = some (.tup [.int 0, .int 1]) := by rw [upd_ne nr1.symm]; exact upd_same
    have e1 : Same H7 (upd H7 t1 (.tup [.int 0, .int 1])) := Same.new g1
    have s18 : Same H1 (upd (upd H7 t1 (.tup [.int 0, .int 1])) r (.lst (ur ++ [.ref t1]))) := Same.mut (Same.trans (Same.trans s15 s57) e1) rH1
    have sN8 : Same (newp H3 H4) (upd (upd H7 t1 (.tup [.int 0, .int 1])) r (.lst (ur ++ [.ref t1]))) := Same.mut (Same.trans (Same.trans sN5 s57) e1) rN
    have pr8 : Prs (upd (upd H7 t1 (.tup [.int 0, .int 1])) r (.lst (ur ++ [.ref t1]))) ur tsN := pr7.tups fun b xs e => by
      rw [upd_ne (ne_of e hr7 (fun z => nomatch z)), upd_ne (ne_of_none e g1)]; exact e
    have hr8 : upd (upd H7 t1 (.tup [.int 0, .int 1])) r (.lst (ur ++ [.ref t1])) r = some (.lst (ur ++ [.ref t1])) := upd_same
    have hh8 : upd (upd H7 t1 (.tup [.int 0, .int 1])) r (.lst (ur ++ [.ref t1])) h = some (.lst ws) := by rw [upd_ne nrh.symm, upd_ne nh1]; exact hh7
    generalize upd (upd H7 t1 (.tup [.int 0, .int 1])) r (.lst (ur ++ [.ref t1])) = H8 at t1r s18 sN8 pr8 hr8 hh8 ⊢
    refine ⟨_, rfl, .inl ⟨rfl, _, SqL.of hh8⟩, (by show 2 ≤ sizeLine; decide), fun t2 g2 => ?_⟩
    have nh2 : h ≠ t2 := ne_of_none hh8 g2
    refine ⟨h, ws, _, rfl, rfl, by rw [upd_ne nh2]; exact hh8, by rw [sizeLine_eq]; omega, ?_⟩
    have e2 : Same H8 (upd H8 t2 (.tup [.int 0, .int 1])) := Same.new g2
    have hN : newp H3 H4 h = none := newp_old hh3
    have s19 : Same H1 (upd (upd H8 t2 (.tup [.int 0, .int 1])) h (.lst (ws ++ [.ref t2]))) := Same.mut (Same.trans s18 e2) hh
    have sN9 : Same (newp H3 H4) (upd (upd H8 t2 (.tup [.int 0, .int 1])) h (.lst (ws ++ [.ref t2]))) := Same.mut (Same.trans sN8 e2) hN
    have tk9 : ∀ b xs, H8 b = some (.tup xs) → upd (upd H8 t2 (.tup [.int 0, .int 1])) h (.lst (ws ++ [.ref t2])) b = some (.tup xs) := fun b xs e => by
      rw [upd_ne (ne_of e hh8 (fun z => nomatch z)), upd_ne (ne_of_none e g2)]; exact e
    have pr9 := pr8.tups tk9
    have t19 := tk9 _ _ t1r
    have hr9 : upd (upd H8 t2 (.tup [.int 0, .int 1])) h (.lst (ws ++ [.ref t2])) r = some (.lst (ur ++ [.ref t1])) := by rw [upd_ne nrh, upd_ne (ne_of_none hr8 g2)]; exact hr8
    generalize upd (upd H8 t2 (.tup [.int 0, .int 1])) h (.lst (ws ++ [.ref t2])) = H9 at s19 sN9 tk9 pr9 t19 hr9 ⊢
    have N9 := N.ex sN9
    obtain ⟨dx9, lt9, ln9, us9, rs9, a9, _⟩ := N9.at_
    have p9 := s19 _ _ hp1
    have prp9 := prs1.ex s19
    have s09 := Same.trans s1 s19
    refine tnx ?_
    dsimp only
    refine tsq (if_no (R := Same H9) (fun Q' hq => ?_) fun HA sA => ?_)
    · refine ⟨_, rfl, x, dx9, _, rfl, a9, nf_m_ties _ _ _, x, n, _, rfl, N9, fun r2 u2 hr2 pr2 => ?_⟩
      have b1 := Same.new (o := .lst u2) hr2
      refine ⟨_, rfl, dPs tsN, dPs tsN, dp_prs (SqL.of upd_same) (pr2.ex b1), dp_prs (SqL.of (b1 _ _ p9)) (prp9.ex b1), shaped_dPs _, shaped_dPs _, _, rfl, ?_⟩
      rw [eqv_dPs, decide_eq_true rfl]
      refine iteF ⟨_, rfl, _, rfl, (by show 2 ≤ sizeLine; decide), fun t3 g3 => ⟨(by show 1 ≤ sizeLine; decide), fun l3 g4 => ?_⟩⟩
      have b2 := Same.new (o := .tup [.int 0, .int 1]) g3
      have b3 := Same.new (o := .lst [.ref t3]) g4
      have b13 := Same.trans (Same.trans b1 b2) b3
      refine ⟨p, l3, us, _, rfl, rfl, b13 _ _ p9, upd_same, by rw [List.length_singleton, sizeLine_eq]; omega, fun l4 g5 => ?_⟩
      have b4 := Same.new (o := .lst (us ++ [.ref t3])) g5
      have b14 := Same.trans b13 b4
      have app : ∀ {Hc : Hp} {us' : List V} {b : Addr}, Prs Hc us' tsN → Hc b = some (.tup [.int 0, .int 1]) → Prs Hc (us' ++ [.ref b]) (tsN ++ [(0, 1)]) := fun h1 h2 => Prs.snoc h1 h2
      refine ⟨dPs (tsN ++ [(0, 1)]), dPs (tsN ++ [(0, 1)]), dp_prs (SqL.of (b14 _ _ hr9)) (app (pr9.ex b14) (b14 _ _ t19)), dp_prs (SqL.of upd_same) (app (prp9.ex b14) (b4 _ _ (b3 _ _ upd_same))), shaped_dPs _, shaped_dPs _, _, rfl, ?_⟩
      rw [eqv_dPs, decide_eq_true rfl]
      refine iteF ⟨_, rfl, _, rfl, _, rfl, x, p, n, us, tsN, rfl, N9.ex b14, b14 _ _ p9, prp9.ex b14, fun HB sB => ?_⟩
      exact ⟨_, rfl, hq _ (Same.trans b14 sB)⟩
    -- what is no place
    have NA := N9.ex sA
    refine ⟨_, rfl, _, rfl, _, rfl, _, _, rfl, rfl, ⟨by decide, by decide, by decide⟩, _, rfl, _, rfl, (by show 7 ≤ sizeLine; decide), fun e0 f0 => ?_⟩
    have n0 := Same.new (o := .lst [V.int (-1), .int n, .bl true, .str "0", .non, .int (10 ^ (9 : Int).toNat), .int (-n)]) f0
    obtain ⟨w, hw1, hw2⟩ := atMod (xs := [V.int (-1), .int n, .bl true, .str "0", .non, .int (10 ^ (9 : Int).toNat), .int (-n)]) (k := cell ns 2) (m := 7) rfl (by decide)
    have kw : ∀ H' : Hp, ∃ t, Kd H' w t ∧ isPl w n = false := fun H' => by
      simp only [List.mem_cons, List.not_mem_nil, or_false] at hw2
      have e9 : (10 : Int) ^ (9 : Int).toNat = 1000000000 := by decide
      rcases hw2 with rfl | rfl | rfl | rfl | rfl | rfl | rfl
      · exact ⟨_, .int _, rfl⟩
      · exact ⟨_, .int _, decide_eq_false (by omega)⟩
      · exact ⟨_, .bl _, rfl⟩
      · exact ⟨_, .str _, rfl⟩
      · exact ⟨_, .non, rfl⟩
      · exact ⟨_, .int _, by rw [e9]; exact decide_eq_false (by omega)⟩
      · exact ⟨_, .int _, decide_eq_false (by omega)⟩
    obtain ⟨tw, kd, ip⟩ := kw (upd HA e0 (.lst [V.int (-1), .int n, .bl true, .str "0", .non, .int (10 ^ (9 : Int).toNat), .int (-n)]))
    refine ⟨_, rfl, a, ns, 2, rfl, (Same.trans (Same.trans s09 sA) n0).seq hs, by decide, _, _, rfl, rfl, (by show (0 : Int) < 7; decide), e0, _, _, w, rfl, rfl, SqL.of upd_same, hw1, ?_⟩
    exact ⟨x, n, _, w, tw, rfl, NA.ex n0, kd, ip, q _⟩
end
end Od

namespace Od
open PySem PySem.Spec PyProof.Rows L2
theorem kit_self {K : PySem.W.Frag} {D : Addr} : PySem.W.kitOne K (.ref D) (.ref D) = some true := if_pos (beq_self_eq_true _)
theorem kit_own {K : PySem.W.Frag} {D C : Addr} {b : Bool} (i : PySem.W.isClsIn K C = true) (t : PySem.W.typeIn K (.ref C) = some (.type "type")) (s : PySem.W.subIn K (.ref D) (.ref C) = some b) (sd : PySem.W.subIn K (.ref D) (.ref D) = some true) :
    PySem.W.kitOne K (.ref D) (.ref C) = some b := by
  unfold PySem.W.kitOne
  by_cases c : D = C
  · subst c
    rw [if_pos (beq_self_eq_true _), ← s, sd]
  · rw [if_neg (by rw [beq_iff_eq]; intro z; injection z with z; exact c z)]
    unfold PySem.W.kitCls
    have h : ((PySem.W.clsIn K C).isSome && PySem.W.typeIn K (.ref C) == some (.type "type")) = true := by
      rw [t, show (PySem.W.clsIn K C).isSome = true from i]; rfl
    simp only [h, if_true]
    exact s
theorem kit_val {K : PySem.W.Frag} {D : Addr} (s : PySem.W.subIn K (.ref D) (.type "ValueError") = some true) : PySem.W.kitOne K (.ref D) (.type "ValueError") = some true := by
  unfold PySem.W.kitOne
  rw [if_neg (by rw [beq_iff_eq]; intro z; cases z)]
  unfold PySem.W.kitCls
  have h : PySem.W.kitMeta "ValueError" = true := by decide +kernel
  simp only [h, if_true]
  exact s
end Od

namespace Od
open PySem PySem.Spec PyProof.Rows L2
open PySem.W (mg_of mg_none_of)
theorem all_mk {l : PySem.W.OpenLaw} {w : World} {K : PySem.W.Frag} {h : Heap} {mg : Str → Option Value} {fa : Addr} (X : K.In h) (G : h.Ns mainGlobals mg) (hfa : mg "law" = some (.ref fa))
    {CNetError CBadNet CNoPlace CBadPairs CBadWay CTieThere CNoTie COddRing CNet : Addr} {tkMOST_PLACES : Tok} {f1 f2 f3 f4 f5 f6 f7 f8 f9 f10 f11 f12 f13 f14 f15 f16 f17 f18 f19 f20 f21 f22 f23 : Addr} {od1 an1 od2 an2 od3 an3 od4 an4 od5 an5 od6 an6 od7 an7 od8 an8 od9 an9 od10 an10 od11 an11 od12 an12 od13 an13 od14 an14 od15 an15 od16 an16 od17 an17 od18 an18 od19 an19 od20 an20 od21 an21 od22 an22 od23 an23 : Option Addr} {sl1 sl2 sl3 sl4 sl5 sl6 sl7 sl8 sl9 sl10 sl11 sl12 sl13 sl14 sl15 sl16 sl17 sl18 sl19 sl20 sl21 sl22 sl23 : Array (Option Value)} {oc1 kV1 dc1 pm1 cd1 ct1 oc2 kV2 dc2 pm2 cd2 ct2 oc3 kV3 dc3 pm3 cd3 ct3 oc4 kV4 dc4 pm4 cd4 ct4 oc5 kV5 dc5 pm5 cd5 ct5 oc6 kV6 dc6 pm6 cd6 ct6 oc7 kV7 dc7 pm7 cd7 ct7 oc8 kV8 dc8 pm8 cd8 ct8 oc9 kV9 dc9 pm9 cd9 ct9 oc10 kV10 dc10 pm10 cd10 ct10 oc11 kV11 dc11 pm11 cd11 ct11 oc12 kV12 dc12 pm12 cd12 ct12 oc13 kV13 dc13 pm13 cd13 ct13 oc14 kV14 dc14 pm14 cd14 ct14 oc15 kV15 dc15 pm15 cd15 ct15 oc16 kV16 dc16 pm16 cd16 ct16 oc17 kV17 dc17 pm17 cd17 ct17 oc18 kV18 dc18 pm18 cd18 ct18 oc19 kV19 dc19 pm19 cd19 ct19 oc20 kV20 dc20 pm20 cd20 ct20 oc21 kV21 dc21 pm21 cd21 ct21 oc22 kV22 dc22 pm22 cd22 ct22 oc23 kV23 dc23 pm23 cd23 ct23 : Value}
    (gNetError : PySem.W.nsIn K mainGlobals "NetError" = some (some (.ref CNetError)))
    (gBadNet : PySem.W.nsIn K mainGlobals "BadNet" = some (some (.ref CBadNet)))
    (gNoPlace : PySem.W.nsIn K mainGlobals "NoPlace" = some (some (.ref CNoPlace)))
    (gBadPairs : PySem.W.nsIn K mainGlobals "BadPairs" = some (some (.ref CBadPairs)))
    (gBadWay : PySem.W.nsIn K mainGlobals "BadWay" = some (some (.ref CBadWay)))
    (gTieThere : PySem.W.nsIn K mainGlobals "TieThere" = some (some (.ref CTieThere)))
    (gNoTie : PySem.W.nsIn K mainGlobals "NoTie" = some (some (.ref CNoTie)))
    (gOddRing : PySem.W.nsIn K mainGlobals "OddRing" = some (some (.ref COddRing)))
    (gNet : PySem.W.nsIn K mainGlobals "Net" = some (some (.ref CNet)))
    (xNetError : PySem.W.excIn K CNetError [.type "ValueError", .type "Exception", .type "BaseException", .type "object"] "ValueError.__new__" = true)
    (pNetError : PySem.W.keepIn K (.ref CNetError) = true)
    (bNetError : PySem.W.subIn K (.ref CNetError) (.type "BaseException") = some true)
    (tNetError : PySem.W.typeIn K (.ref CNetError) = some (.type "type"))
    (hNetError : PySem.W.hasDictIn K CNetError = true)
    (iNetError : PySem.W.isClsIn K CNetError = true)
    (sNetError : PySem.W.subIn K (.ref CNetError) (.ref CNetError) = some true)
    (xBadNet : PySem.W.excIn K CBadNet [.type "ValueError", .type "Exception", .type "BaseException", .type "object"] "ValueError.__new__" = true)
    (pBadNet : PySem.W.keepIn K (.ref CBadNet) = true)
    (bBadNet : PySem.W.subIn K (.ref CBadNet) (.type "BaseException") = some true)
    (tBadNet : PySem.W.typeIn K (.ref CBadNet) = some (.type "type"))
    (hBadNet : PySem.W.hasDictIn K CBadNet = true)
    (iBadNet : PySem.W.isClsIn K CBadNet = true)
    (sBadNet : PySem.W.subIn K (.ref CBadNet) (.ref CBadNet) = some true)
    (xNoPlace : PySem.W.excIn K CNoPlace [.type "ValueError", .type "Exception", .type "BaseException", .type "object"] "ValueError.__new__" = true)
    (pNoPlace : PySem.W.keepIn K (.ref CNoPlace) = true)
    (bNoPlace : PySem.W.subIn K (.ref CNoPlace) (.type "BaseException") = some true)
    (tNoPlace : PySem.W.typeIn K (.ref CNoPlace) = some (.type "type"))
    (hNoPlace : PySem.W.hasDictIn K CNoPlace = true)
    (iNoPlace : PySem.W.isClsIn K CNoPlace = true)
    (sNoPlace : PySem.W.subIn K (.ref CNoPlace) (.ref CNoPlace) = some true)
    (xBadPairs : PySem.W.excIn K CBadPairs [.type "ValueError", .type "Exception", .type "BaseException", .type "object"] "ValueError.__new__" = true)
    (pBadPairs : PySem.W.keepIn K (.ref CBadPairs) = true)
    (bBadPairs : PySem.W.subIn K (.ref CBadPairs) (.type "BaseException") = some true)
    (tBadPairs : PySem.W.typeIn K (.ref CBadPairs) = some (.type "type"))
    (hBadPairs : PySem.W.hasDictIn K CBadPairs = true)
    (iBadPairs : PySem.W.isClsIn K CBadPairs = true)
    (sBadPairs : PySem.W.subIn K (.ref CBadPairs) (.ref CBadPairs) = some true)
    (xBadWay : PySem.W.excIn K CBadWay [.type "ValueError", .type "Exception", .type "BaseException", .type "object"] "ValueError.__new__" = true)
    (pBadWay : PySem.W.keepIn K (.ref CBadWay) = true)
    (bBadWay : PySem.W.subIn K (.ref CBadWay) (.type "BaseException") = some true)
    (tBadWay : PySem.W.typeIn K (.ref CBadWay) = some (.type "type"))
    (hBadWay : PySem.W.hasDictIn K CBadWay = true)
    (iBadWay : PySem.W.isClsIn K CBadWay = true)
    (sBadWay : PySem.W.subIn K (.ref CBadWay) (.ref CBadWay) = some true)
    (xTieThere : PySem.W.excIn K CTieThere [.type "ValueError", .type "Exception", .type "BaseException", .type "object"] "ValueError.__new__" = true)
    (pTieThere : PySem.W.keepIn K (.ref CTieThere) = true)
    (bTieThere : PySem.W.subIn K (.ref CTieThere) (.type "BaseException") = some true)
    (tTieThere : PySem.W.typeIn K (.ref CTieThere) = some (.type "type"))
    (hTieThere : PySem.W.hasDictIn K CTieThere = true)
    (iTieThere : PySem.W.isClsIn K CTieThere = true)
    (sTieThere : PySem.W.subIn K (.ref CTieThere) (.ref CTieThere) = some true)
    (xNoTie : PySem.W.excIn K CNoTie [.type "ValueError", .type "Exception", .type "BaseException", .type "object"] "ValueError.__new__" = true)
    (pNoTie : PySem.W.keepIn K (.ref CNoTie) = true)
    (bNoTie : PySem.W.subIn K (.ref CNoTie) (.type "BaseException") = some true)
    (tNoTie : PySem.W.typeIn K (.ref CNoTie) = some (.type "type"))
    (hNoTie : PySem.W.hasDictIn K CNoTie = true)
    (iNoTie : PySem.W.isClsIn K CNoTie = true)
    (sNoTie : PySem.W.subIn K (.ref CNoTie) (.ref CNoTie) = some true)
    (xOddRing : PySem.W.excIn K COddRing [.type "ValueError", .type "Exception", .type "BaseException", .type "object"] "ValueError.__new__" = true)
    (pOddRing : PySem.W.keepIn K (.ref COddRing) = true)
    (bOddRing : PySem.W.subIn K (.ref COddRing) (.type "BaseException") = some true)
    (tOddRing : PySem.W.typeIn K (.ref COddRing) = some (.type "type"))
    (hOddRing : PySem.W.hasDictIn K COddRing = true)
    (iOddRing : PySem.W.isClsIn K COddRing = true)
    (sOddRing : PySem.W.subIn K (.ref COddRing) (.ref COddRing) = some true)
    (oG : PySem.W.specialIn K (.builtin "object.__class__") "__get__" = some (some (.builtin "getset_descriptor.__get__")))
    (oT : PySem.W.takesIn K (.builtin "object.__class__") = some true)
    (e1BadNet : PySem.W.findIn K (.ref CBadNet) "__getattribute__" = some (some (.builtin "BaseException.__getattribute__")))
    (e2BadNet : PySem.W.findIn K (.ref CBadNet) "__getattr__" = some none)
    (e3BadNet : PySem.W.findIn K (.ref CBadNet) "__class__" = some (some (.builtin "object.__class__")))
    (e4BadNet : PySem.W.mroIn K CBadNet (.type "object") = some true)
    (e5BadNet : PySem.W.subIn K (.ref CBadNet) (.type "ValueError") = some true)
    (e6BadNet : PySem.W.subIn K (.ref CBadNet) (.ref CNetError) = some true)
    (uBadNet_NoPlace : PySem.W.subIn K (.ref CBadNet) (.ref CNoPlace) = some false)
    (uBadNet_BadPairs : PySem.W.subIn K (.ref CBadNet) (.ref CBadPairs) = some false)
    (uBadNet_BadWay : PySem.W.subIn K (.ref CBadNet) (.ref CBadWay) = some false)
    (uBadNet_TieThere : PySem.W.subIn K (.ref CBadNet) (.ref CTieThere) = some false)
    (uBadNet_NoTie : PySem.W.subIn K (.ref CBadNet) (.ref CNoTie) = some false)
    (uBadNet_OddRing : PySem.W.subIn K (.ref CBadNet) (.ref COddRing) = some false)
    (e1NoPlace : PySem.W.findIn K (.ref CNoPlace) "__getattribute__" = some (some (.builtin "BaseException.__getattribute__")))
    (e2NoPlace : PySem.W.findIn K (.ref CNoPlace) "__getattr__" = some none)
    (e3NoPlace : PySem.W.findIn K (.ref CNoPlace) "__class__" = some (some (.builtin "object.__class__")))
    (e4NoPlace : PySem.W.mroIn K CNoPlace (.type "object") = some true)
    (e5NoPlace : PySem.W.subIn K (.ref CNoPlace) (.type "ValueError") = some true)
    (e6NoPlace : PySem.W.subIn K (.ref CNoPlace) (.ref CNetError) = some true)
    (uNoPlace_BadNet : PySem.W.subIn K (.ref CNoPlace) (.ref CBadNet) = some false)
    (uNoPlace_BadPairs : PySem.W.subIn K (.ref CNoPlace) (.ref CBadPairs) = some false)
    (uNoPlace_BadWay : PySem.W.subIn K (.ref CNoPlace) (.ref CBadWay) = some false)
    (uNoPlace_TieThere : PySem.W.subIn K (.ref CNoPlace) (.ref CTieThere) = some false)
    (uNoPlace_NoTie : PySem.W.subIn K (.ref CNoPlace) (.ref CNoTie) = some false)
    (uNoPlace_OddRing : PySem.W.subIn K (.ref CNoPlace) (.ref COddRing) = some false)
    (e1BadPairs : PySem.W.findIn K (.ref CBadPairs) "__getattribute__" = some (some (.builtin "BaseException.__getattribute__")))
    (e2BadPairs : PySem.W.findIn K (.ref CBadPairs) "__getattr__" = some none)
    (e3BadPairs : PySem.W.findIn K (.ref CBadPairs) "__class__" = some (some (.builtin "object.__class__")))
    (e4BadPairs : PySem.W.mroIn K CBadPairs (.type "object") = some true)
    (e5BadPairs : PySem.W.subIn K (.ref CBadPairs) (.type "ValueError") = some true)
    (e6BadPairs : PySem.W.subIn K (.ref CBadPairs) (.ref CNetError) = some true)
    (uBadPairs_BadNet : PySem.W.subIn K (.ref CBadPairs) (.ref CBadNet) = some false)
    (uBadPairs_NoPlace : PySem.W.subIn K (.ref CBadPairs) (.ref CNoPlace) = some false)
    (uBadPairs_BadWay : PySem.W.subIn K (.ref CBadPairs) (.ref CBadWay) = some false)
    (uBadPairs_TieThere : PySem.W.subIn K (.ref CBadPairs) (.ref CTieThere) = some false)
    (uBadPairs_NoTie : PySem.W.subIn K (.ref CBadPairs) (.ref CNoTie) = some false)
    (uBadPairs_OddRing : PySem.W.subIn K (.ref CBadPairs) (.ref COddRing) = some false)
    (e1BadWay : PySem.W.findIn K (.ref CBadWay) "__getattribute__" = some (some (.builtin "BaseException.__getattribute__")))
    (e2BadWay : PySem.W.findIn K (.ref CBadWay) "__getattr__" = some none)
    (e3BadWay : PySem.W.findIn K (.ref CBadWay) "__class__" = some (some (.builtin "object.__class__")))
    (e4BadWay : PySem.W.mroIn K CBadWay (.type "object") = some true)
    (e5BadWay : PySem.W.subIn K (.ref CBadWay) (.type "ValueError") = some true)
    (e6BadWay : PySem.W.subIn K (.ref CBadWay) (.ref CNetError) = some true)
    (uBadWay_BadNet : PySem.W.subIn K (.ref CBadWay) (.ref CBadNet) = some false)
    (uBadWay_NoPlace : PySem.W.subIn K (.ref CBadWay) (.ref CNoPlace) = some false)
    (uBadWay_BadPairs : PySem.W.subIn K (.ref CBadWay) (.ref CBadPairs) = some false)
    (uBadWay_TieThere : PySem.W.subIn K (.ref CBadWay) (.ref CTieThere) = some false)
    (uBadWay_NoTie : PySem.W.subIn K (.ref CBadWay) (.ref CNoTie) = some false)
    (uBadWay_OddRing : PySem.W.subIn K (.ref CBadWay) (.ref COddRing) = some false)
    (pgNet : PySem.W.plainGet K CNet Str.empty = true)
    (hdNet : PySem.W.hasDictIn K CNet = true)
    (poNet : PySem.W.plainOver K CNet = true)
    (saNet : PySem.W.findIn K (.ref CNet) "__setattr__" = some (some (.builtin "object.__setattr__")))
    (mkNet : PySem.W.makesIn K CNet = true)
    (kcNet : PySem.W.keepIn K (.ref CNet) = true)
    (nNet_size : PySem.W.findIn K (.ref CNet) "size" = some none)
    (nNet__ties : PySem.W.findIn K (.ref CNet) "_ties" = some none)
    (nNet__near : PySem.W.findIn K (.ref CNet) "_near" = some none)
    (zisinstance : PySem.W.nsIn K mainGlobals "isinstance" = some none)
    (zint : PySem.W.nsIn K mainGlobals "int" = some none)
    (zbool : PySem.W.nsIn K mainGlobals "bool" = some none)
    (ztuple : PySem.W.nsIn K mainGlobals "tuple" = some none)
    (zlist : PySem.W.nsIn K mainGlobals "list" = some none)
    (zstr : PySem.W.nsIn K mainGlobals "str" = some none)
    (zlen : PySem.W.nsIn K mainGlobals "len" = some none)
    (zset : PySem.W.nsIn K mainGlobals "set" = some none)
    (zdict : PySem.W.nsIn K mainGlobals "dict" = some none)
    (zsorted : PySem.W.nsIn K mainGlobals "sorted" = some none)
    (zrange : PySem.W.nsIn K mainGlobals "range" = some none)
    (zenumerate : PySem.W.nsIn K mainGlobals "enumerate" = some none)
    (zzip : PySem.W.nsIn K mainGlobals "zip" = some none)
    (zall : PySem.W.nsIn K mainGlobals "all" = some none)
    (zany : PySem.W.nsIn K mainGlobals "any" = some none)
    (zmin : PySem.W.nsIn K mainGlobals "min" = some none)
    (zmax : PySem.W.nsIn K mainGlobals "max" = some none)
    (zValueError : PySem.W.nsIn K mainGlobals "ValueError" = some none)
    (cMOST_PLACES : PySem.W.nsIn K mainGlobals "MOST_PLACES" = some (some (.int 40 tkMOST_PLACES)))
    (a1 : PySem.W.nsIn K mainGlobals "is_number" = some (some (.ref f1)))
    (l1 : K.lookup f1 = some ⟨oc1, od1, .func (PySem.W.fnOf "is_number" "is_number" (defArgs S_is_number) (defBody S_is_number) (defScope S_is_number) .none kV1 dc1 pm1 an1 cd1 ct1), sl1⟩)
    (c1 : PySem.W.codeIn K cd1 "is_number" = true)
    (k1 : PySem.W.keepIn K (.ref f1) = true)
    (a2 : PySem.W.nsIn K mainGlobals "is_place" = some (some (.ref f2)))
    (l2 : K.lookup f2 = some ⟨oc2, od2, .func (PySem.W.fnOf "is_place" "is_place" (defArgs S_is_place) (defBody S_is_place) (defScope S_is_place) .none kV2 dc2 pm2 an2 cd2 ct2), sl2⟩)
    (c2 : PySem.W.codeIn K cd2 "is_place" = true)
    (k2 : PySem.W.keepIn K (.ref f2) = true)
    (a3 : PySem.W.nsIn K mainGlobals "is_tie" = some (some (.ref f3)))
    (l3 : K.lookup f3 = some ⟨oc3, od3, .func (PySem.W.fnOf "is_tie" "is_tie" (defArgs S_is_tie) (defBody S_is_tie) (defScope S_is_tie) .none kV3 dc3 pm3 an3 cd3 ct3), sl3⟩)
    (c3 : PySem.W.codeIn K cd3 "is_tie" = true)
    (k3 : PySem.W.keepIn K (.ref f3) = true)
    (a4 : PySem.W.nsIn K mainGlobals "rising_ties" = some (some (.ref f4)))
    (l4 : K.lookup f4 = some ⟨oc4, od4, .func (PySem.W.fnOf "rising_ties" "rising_ties" (defArgs S_rising_ties) (defBody S_rising_ties) (defScope S_rising_ties) .none kV4 dc4 pm4 an4 cd4 ct4), sl4⟩)
    (c4 : PySem.W.codeIn K cd4 "rising_ties" = true)
    (k4 : PySem.W.keepIn K (.ref f4) = true)
    (a5 : PySem.W.nsIn K mainGlobals "neighbours" = some (some (.ref f5)))
    (l5 : K.lookup f5 = some ⟨oc5, od5, .func (PySem.W.fnOf "neighbours" "neighbours" (defArgs S_neighbours) (defBody S_neighbours) (defScope S_neighbours) .none kV5 dc5 pm5 an5 cd5 ct5), sl5⟩)
    (c5 : PySem.W.codeIn K cd5 "neighbours" = true)
    (k5 : PySem.W.keepIn K (.ref f5) = true)
    (a6 : PySem.W.findIn K (.ref CNet) "__init__" = some (some (.ref f6)))
    (i6 : PySem.W.isFn K (.ref f6) = true)
    (l6 : K.lookup f6 = some ⟨oc6, od6, .func (PySem.W.fnOf "__init__" "Net.__init__" (defArgs S_Net___init__) (defBody S_Net___init__) (defScope S_Net___init__) .none kV6 dc6 pm6 an6 cd6 ct6), sl6⟩)
    (c6 : PySem.W.codeIn K cd6 "Net.__init__" = true)
    (k6 : PySem.W.keepIn K (.ref f6) = true)
    (a7 : PySem.W.findIn K (.ref CNet) "ties" = some (some (.ref f7)))
    (i7 : PySem.W.isFn K (.ref f7) = true)
    (l7 : K.lookup f7 = some ⟨oc7, od7, .func (PySem.W.fnOf "ties" "Net.ties" (defArgs S_Net_ties) (defBody S_Net_ties) (defScope S_Net_ties) .none kV7 dc7 pm7 an7 cd7 ct7), sl7⟩)
    (c7 : PySem.W.codeIn K cd7 "Net.ties" = true)
    (k7 : PySem.W.keepIn K (.ref f7) = true)
    (a8 : PySem.W.findIn K (.ref CNet) "beside" = some (some (.ref f8)))
    (i8 : PySem.W.isFn K (.ref f8) = true)
    (l8 : K.lookup f8 = some ⟨oc8, od8, .func (PySem.W.fnOf "beside" "Net.beside" (defArgs S_Net_beside) (defBody S_Net_beside) (defScope S_Net_beside) .none kV8 dc8 pm8 an8 cd8 ct8), sl8⟩)
    (c8 : PySem.W.codeIn K cd8 "Net.beside" = true)
    (k8 : PySem.W.keepIn K (.ref f8) = true)
    (a9 : PySem.W.nsIn K mainGlobals "_law_sole" = some (some (.ref f9)))
    (l9 : K.lookup f9 = some ⟨oc9, od9, .func (PySem.W.fnOf "_law_sole" "_law_sole" (defArgs S__law_sole) (defBody S__law_sole) (defScope S__law_sole) .none kV9 dc9 pm9 an9 cd9 ct9), sl9⟩)
    (c9 : PySem.W.codeIn K cd9 "_law_sole" = true)
    (k9 : PySem.W.keepIn K (.ref f9) = true)
    (a10 : PySem.W.nsIn K mainGlobals "_law_whole" = some (some (.ref f10)))
    (l10 : K.lookup f10 = some ⟨oc10, od10, .func (PySem.W.fnOf "_law_whole" "_law_whole" (defArgs S__law_whole) (defBody S__law_whole) (defScope S__law_whole) .none kV10 dc10 pm10 an10 cd10 ct10), sl10⟩)
    (c10 : PySem.W.codeIn K cd10 "_law_whole" = true)
    (k10 : PySem.W.keepIn K (.ref f10) = true)
    (a11 : PySem.W.nsIn K mainGlobals "_law_cell_at" = some (some (.ref f11)))
    (l11 : K.lookup f11 = some ⟨oc11, od11, .func (PySem.W.fnOf "_law_cell_at" "_law_cell_at" (defArgs S__law_cell_at) (defBody S__law_cell_at) (defScope S__law_cell_at) .none kV11 dc11 pm11 an11 cd11 ct11), sl11⟩)
    (c11 : PySem.W.codeIn K cd11 "_law_cell_at" = true)
    (k11 : PySem.W.keepIn K (.ref f11) = true)
    (a12 : PySem.W.nsIn K mainGlobals "_law_tied" = some (some (.ref f12)))
    (l12 : K.lookup f12 = some ⟨oc12, od12, .func (PySem.W.fnOf "_law_tied" "_law_tied" (defArgs S__law_tied) (defBody S__law_tied) (defScope S__law_tied) .none kV12 dc12 pm12 an12 cd12 ct12), sl12⟩)
    (c12 : PySem.W.codeIn K cd12 "_law_tied" = true)
    (k12 : PySem.W.keepIn K (.ref f12) = true)
    (a13 : PySem.W.nsIn K mainGlobals "_law_ties_by" = some (some (.ref f13)))
    (l13 : K.lookup f13 = some ⟨oc13, od13, .func (PySem.W.fnOf "_law_ties_by" "_law_ties_by" (defArgs S__law_ties_by) (defBody S__law_ties_by) (defScope S__law_ties_by) .none kV13 dc13 pm13 an13 cd13 ct13), sl13⟩)
    (c13 : PySem.W.codeIn K cd13 "_law_ties_by" = true)
    (k13 : PySem.W.keepIn K (.ref f13) = true)
    (a14 : PySem.W.nsIn K mainGlobals "_law_size_by" = some (some (.ref f14)))
    (l14 : K.lookup f14 = some ⟨oc14, od14, .func (PySem.W.fnOf "_law_size_by" "_law_size_by" (defArgs S__law_size_by) (defBody S__law_size_by) (defScope S__law_size_by) .none kV14 dc14 pm14 an14 cd14 ct14), sl14⟩)
    (c14 : PySem.W.codeIn K cd14 "_law_size_by" = true)
    (k14 : PySem.W.keepIn K (.ref f14) = true)
    (a15 : PySem.W.nsIn K mainGlobals "_law_kind_by" = some (some (.ref f15)))
    (l15 : K.lookup f15 = some ⟨oc15, od15, .func (PySem.W.fnOf "_law_kind_by" "_law_kind_by" (defArgs S__law_kind_by) (defBody S__law_kind_by) (defScope S__law_kind_by) .none kV15 dc15 pm15 an15 cd15 ct15), sl15⟩)
    (c15 : PySem.W.codeIn K cd15 "_law_kind_by" = true)
    (k15 : PySem.W.keepIn K (.ref f15) = true)
    (a16 : PySem.W.nsIn K mainGlobals "_law_great" = some (some (.ref f16)))
    (l16 : K.lookup f16 = some ⟨oc16, od16, .func (PySem.W.fnOf "_law_great" "_law_great" (defArgs S__law_great) (defBody S__law_great) (defScope S__law_great) .none kV16 dc16 pm16 an16 cd16 ct16), sl16⟩)
    (c16 : PySem.W.codeIn K cd16 "_law_great" = true)
    (k16 : PySem.W.keepIn K (.ref f16) = true)
    (a17 : PySem.W.nsIn K mainGlobals "_law_net_by" = some (some (.ref f17)))
    (l17 : K.lookup f17 = some ⟨oc17, od17, .func (PySem.W.fnOf "_law_net_by" "_law_net_by" (defArgs S__law_net_by) (defBody S__law_net_by) (defScope S__law_net_by) .none kV17 dc17 pm17 an17 cd17 ct17), sl17⟩)
    (c17 : PySem.W.codeIn K cd17 "_law_net_by" = true)
    (k17 : PySem.W.keepIn K (.ref f17) = true)
    (a18 : PySem.W.nsIn K mainGlobals "_law_mixed" = some (some (.ref f18)))
    (l18 : K.lookup f18 = some ⟨oc18, od18, .func (PySem.W.fnOf "_law_mixed" "_law_mixed" (defArgs S__law_mixed) (defBody S__law_mixed) (defScope S__law_mixed) .none kV18 dc18 pm18 an18 cd18 ct18), sl18⟩)
    (c18 : PySem.W.codeIn K cd18 "_law_mixed" = true)
    (k18 : PySem.W.keepIn K (.ref f18) = true)
    (a19 : PySem.W.nsIn K mainGlobals "_law_refused" = some (some (.ref f19)))
    (l19 : K.lookup f19 = some ⟨oc19, od19, .func (PySem.W.fnOf "_law_refused" "_law_refused" (defArgs S__law_refused) (defBody S__law_refused) (defScope S__law_refused) .none kV19 dc19 pm19 an19 cd19 ct19), sl19⟩)
    (c19 : PySem.W.codeIn K cd19 "_law_refused" = true)
    (k19 : PySem.W.keepIn K (.ref f19) = true)
    (a20 : PySem.W.nsIn K mainGlobals "_law_no_place" = some (some (.ref f20)))
    (l20 : K.lookup f20 = some ⟨oc20, od20, .func (PySem.W.fnOf "_law_no_place" "_law_no_place" (defArgs S__law_no_place) (defBody S__law_no_place) (defScope S__law_no_place) .none kV20 dc20 pm20 an20 cd20 ct20), sl20⟩)
    (c20 : PySem.W.codeIn K cd20 "_law_no_place" = true)
    (k20 : PySem.W.keepIn K (.ref f20) = true)
    (a21 : PySem.W.nsIn K mainGlobals "_law_wrong" = some (some (.ref f21)))
    (l21 : K.lookup f21 = some ⟨oc21, od21, .func (PySem.W.fnOf "_law_wrong" "_law_wrong" (defArgs S__law_wrong) (defBody S__law_wrong) (defScope S__law_wrong) .none kV21 dc21 pm21 an21 cd21 ct21), sl21⟩)
    (c21 : PySem.W.codeIn K cd21 "_law_wrong" = true)
    (k21 : PySem.W.keepIn K (.ref f21) = true)
    (a22 : PySem.W.nsIn K mainGlobals "_law_beside" = some (some (.ref f22)))
    (l22 : K.lookup f22 = some ⟨oc22, od22, .func (PySem.W.fnOf "_law_beside" "_law_beside" (defArgs S__law_beside) (defBody S__law_beside) (defScope S__law_beside) .none kV22 dc22 pm22 an22 cd22 ct22), sl22⟩)
    (c22 : PySem.W.codeIn K cd22 "_law_beside" = true)
    (k22 : PySem.W.keepIn K (.ref f22) = true)
    (a23 : PySem.W.nsIn K mainGlobals "law" = some (some (.ref f23)))
    (l23 : K.lookup f23 = some ⟨oc23, od23, .func (PySem.W.fnOf "law" "law" (defArgs S_law) (defBody S_law) (defScope S_law) .none kV23 dc23 pm23 an23 cd23 ct23), sl23⟩)
    (c23 : PySem.W.codeIn K cd23 "law" = true)
    (k23 : PySem.W.keepIn K (.ref f23) = true) :
    ∃ fd : FuncData, (∀ (s : Shared) (v : Value), BindsTo s fd ⟨[v], []⟩ [("_law_script", v)]) ∧ ∀ base : Heap, K.In base → base.Ns mainGlobals mg → FnOk l.prog w K mg base CX0 10 fa fd ["_law_script"] (spLaw K) := by
  have e := hfa.symm.trans (mg_of X G a23)
  cases e
  have F1 := fun_mk (st := S_is_number) l1 c1 k1
  have B1 := F1.binds (ps := ["thing"]) fun _ _ _ _ _ _ us hl => match us, hl with | [_], _ => rfl
  have F2 := fun_mk (st := S_is_place) l2 c2 k2
  have B2 := F2.binds (ps := ["thing", "size"]) fun _ _ _ _ _ _ us hl => match us, hl with | [_, _], _ => rfl
  have F3 := fun_mk (st := S_is_tie) l3 c3 k3
  have B3 := F3.binds (ps := ["thing", "size"]) fun _ _ _ _ _ _ us hl => match us, hl with | [_, _], _ => rfl
  have F4 := fun_mk (st := S_rising_ties) l4 c4 k4
  have B4 := F4.binds (ps := ["size", "ties"]) fun _ _ _ _ _ _ us hl => match us, hl with | [_, _], _ => rfl
  have F5 := fun_mk (st := S_neighbours) l5 c5 k5
  have B5 := F5.binds (ps := ["size", "ties"]) fun _ _ _ _ _ _ us hl => match us, hl with | [_, _], _ => rfl
  have F6 := fun_mk (st := S_Net___init__) l6 c6 k6
  have B6 := F6.binds (ps := ["self", "size", "ties"]) fun _ _ _ _ _ _ us hl => match us, hl with | [_, _, _], _ => rfl
  have F7 := fun_mk (st := S_Net_ties) l7 c7 k7
  have B7 := F7.binds (ps := ["self"]) fun _ _ _ _ _ _ us hl => match us, hl with | [_], _ => rfl
  have F8 := fun_mk (st := S_Net_beside) l8 c8 k8
  have B8 := F8.binds (ps := ["self", "place"]) fun _ _ _ _ _ _ us hl => match us, hl with | [_, _], _ => rfl
  have F9 := fun_mk (st := S__law_sole) l9 c9 k9
  have B9 := F9.binds (ps := ["_law_error"]) fun _ _ _ _ _ _ us hl => match us, hl with | [_], _ => rfl
  have F10 := fun_mk (st := S__law_whole) l10 c10 k10
  have B10 := F10.binds (ps := ["_law_found"]) fun _ _ _ _ _ _ us hl => match us, hl with | [_], _ => rfl
  have F11 := fun_mk (st := S__law_cell_at) l11 c11 k11
  have B11 := F11.binds (ps := ["_law_script", "_law_k"]) fun _ _ _ _ _ _ us hl => match us, hl with | [_, _], _ => rfl
  have F12 := fun_mk (st := S__law_tied) l12 c12 k12
  have B12 := F12.binds (ps := ["_law_kind", "_law_cell", "_law_one", "_law_other", "_law_size"]) fun _ _ _ _ _ _ us hl => match us, hl with | [_, _, _, _, _], _ => rfl
  have F13 := fun_mk (st := S__law_ties_by) l13 c13 k13
  have B13 := F13.binds (ps := ["_law_script", "_law_size", "_law_kind"]) fun _ _ _ _ _ _ us hl => match us, hl with | [_, _, _], _ => rfl
  have F14 := fun_mk (st := S__law_size_by) l14 c14 k14
  have B14 := F14.binds (ps := ["_law_script", "_law_bound"]) fun _ _ _ _ _ _ us hl => match us, hl with | [_, _], _ => rfl
  have F15 := fun_mk (st := S__law_kind_by) l15 c15 k15
  have B15 := F15.binds (ps := ["_law_script"]) fun _ _ _ _ _ _ us hl => match us, hl with | [_], _ => rfl
  have F16 := fun_mk (st := S__law_great) l16 c16 k16
  have B16 := F16.binds (ps := ["_law_script"]) fun _ _ _ _ _ _ us hl => match us, hl with | [_], _ => rfl
  have F17 := fun_mk (st := S__law_net_by) l17 c17 k17
  have B17 := F17.binds (ps := ["_law_script", "_law_bound"]) fun _ _ _ _ _ _ us hl => match us, hl with | [_, _], _ => rfl
  have F18 := fun_mk (st := S__law_mixed) l18 c18 k18
  have B18 := F18.binds (ps := ["_law_row", "_law_cell"]) fun _ _ _ _ _ _ us hl => match us, hl with | [_, _], _ => rfl
  have F19 := fun_mk (st := S__law_refused) l19 c19 k19
  have B19 := F19.binds (ps := ["_law_size", "_law_ties"]) fun _ _ _ _ _ _ us hl => match us, hl with | [_, _], _ => rfl
  have F20 := fun_mk (st := S__law_no_place) l20 c20 k20
  have B20 := F20.binds (ps := ["_law_net", "_law_place"]) fun _ _ _ _ _ _ us hl => match us, hl with | [_, _], _ => rfl
  have F21 := fun_mk (st := S__law_wrong) l21 c21 k21
  have B21 := F21.binds (ps := ["_law_script", "_law_size", "_law_ties"]) fun _ _ _ _ _ _ us hl => match us, hl with | [_, _, _], _ => rfl
  have F22 := fun_mk (st := S__law_beside) l22 c22 k22
  have B22 := F22.binds (ps := ["_law_net", "_law_size", "_law_ties"]) fun _ _ _ _ _ _ us hl => match us, hl with | [_, _, _], _ => rfl
  have F23 := fun_mk (st := S_law) l23 c23 k23
  have B23 := F23.binds (ps := ["_law_script"]) fun _ _ _ _ _ _ us hl => match us, hl with | [_], _ => rfl
  have T : Top K mg ⟨CNetError, CBadNet, CNoPlace, CBadPairs, CBadWay, CTieThere, CNoTie, COddRing, CNet⟩ := ⟨mg_none_of X G zisinstance,
    mg_none_of X G zint,
    mg_none_of X G zbool,
    mg_none_of X G ztuple,
    mg_none_of X G zlist,
    mg_none_of X G zstr,
    mg_none_of X G zlen,
    mg_none_of X G zset,
    mg_none_of X G zdict,
    mg_none_of X G zsorted,
    mg_none_of X G zrange,
    mg_none_of X G zenumerate,
    mg_none_of X G zzip,
    mg_none_of X G zall,
    mg_none_of X G zany,
    mg_none_of X G zmin,
    mg_none_of X G zmax,
    mg_none_of X G zValueError,
    ⟨mg_of X G gNetError, xNetError, pNetError, bNetError, tNetError, PySem.W.exm_ref bNetError hNetError tNetError sNetError⟩,
    ⟨mg_of X G gBadNet, xBadNet, pBadNet, bBadNet, tBadNet, PySem.W.exm_ref bBadNet hBadNet tBadNet sBadNet⟩,
    ⟨mg_of X G gNoPlace, xNoPlace, pNoPlace, bNoPlace, tNoPlace, PySem.W.exm_ref bNoPlace hNoPlace tNoPlace sNoPlace⟩,
    ⟨mg_of X G gBadPairs, xBadPairs, pBadPairs, bBadPairs, tBadPairs, PySem.W.exm_ref bBadPairs hBadPairs tBadPairs sBadPairs⟩,
    ⟨mg_of X G gBadWay, xBadWay, pBadWay, bBadWay, tBadWay, PySem.W.exm_ref bBadWay hBadWay tBadWay sBadWay⟩,
    ⟨mg_of X G gTieThere, xTieThere, pTieThere, bTieThere, tTieThere, PySem.W.exm_ref bTieThere hTieThere tTieThere sTieThere⟩,
    ⟨mg_of X G gNoTie, xNoTie, pNoTie, bNoTie, tNoTie, PySem.W.exm_ref bNoTie hNoTie tNoTie sNoTie⟩,
    ⟨mg_of X G gOddRing, xOddRing, pOddRing, bOddRing, tOddRing, PySem.W.exm_ref bOddRing hOddRing tOddRing sOddRing⟩,
    mg_of X G gNet,
    ⟨pgNet, hdNet, poNet, saNet⟩,
    nNet_size,
    nNet__ties,
    nNet__near,
    ⟨⟨e1BadNet, e2BadNet, bBadNet, hBadNet, e3BadNet, oG, oT, e4BadNet⟩, kit_val e5BadNet, kit_own iNetError tNetError e6BadNet sBadNet, true, false, false, false, false, false, false, kit_self, kit_own iNoPlace tNoPlace uBadNet_NoPlace sBadNet, kit_own iBadPairs tBadPairs uBadNet_BadPairs sBadNet, kit_own iBadWay tBadWay uBadNet_BadWay sBadNet, kit_own iTieThere tTieThere uBadNet_TieThere sBadNet, kit_own iNoTie tNoTie uBadNet_NoTie sBadNet, kit_own iOddRing tOddRing uBadNet_OddRing sBadNet, by decide⟩,
    ⟨⟨e1NoPlace, e2NoPlace, bNoPlace, hNoPlace, e3NoPlace, oG, oT, e4NoPlace⟩, kit_val e5NoPlace, kit_own iNetError tNetError e6NoPlace sNoPlace, false, true, false, false, false, false, false, kit_own iBadNet tBadNet uNoPlace_BadNet sNoPlace, kit_self, kit_own iBadPairs tBadPairs uNoPlace_BadPairs sNoPlace, kit_own iBadWay tBadWay uNoPlace_BadWay sNoPlace, kit_own iTieThere tTieThere uNoPlace_TieThere sNoPlace, kit_own iNoTie tNoTie uNoPlace_NoTie sNoPlace, kit_own iOddRing tOddRing uNoPlace_OddRing sNoPlace, by decide⟩,
    ⟨⟨e1BadPairs, e2BadPairs, bBadPairs, hBadPairs, e3BadPairs, oG, oT, e4BadPairs⟩, kit_val e5BadPairs, kit_own iNetError tNetError e6BadPairs sBadPairs, false, false, true, false, false, false, false, kit_own iBadNet tBadNet uBadPairs_BadNet sBadPairs, kit_own iNoPlace tNoPlace uBadPairs_NoPlace sBadPairs, kit_self, kit_own iBadWay tBadWay uBadPairs_BadWay sBadPairs, kit_own iTieThere tTieThere uBadPairs_TieThere sBadPairs, kit_own iNoTie tNoTie uBadPairs_NoTie sBadPairs, kit_own iOddRing tOddRing uBadPairs_OddRing sBadPairs, by decide⟩,
    ⟨⟨e1BadWay, e2BadWay, bBadWay, hBadWay, e3BadWay, oG, oT, e4BadWay⟩, kit_val e5BadWay, kit_own iNetError tNetError e6BadWay sBadWay, false, false, false, true, false, false, false, kit_own iBadNet tBadNet uBadWay_BadNet sBadWay, kit_own iNoPlace tNoPlace uBadWay_NoPlace sBadWay, kit_own iBadPairs tBadPairs uBadWay_BadPairs sBadWay, kit_self, kit_own iTieThere tTieThere uBadWay_TieThere sBadWay, kit_own iNoTie tNoTie uBadWay_NoTie sBadWay, kit_own iOddRing tOddRing uBadWay_OddRing sBadWay, by decide⟩,
    ⟨_, mg_of X G cMOST_PLACES⟩,
    ⟨_, _, mg_of X G a1, F1, B1⟩,
    ⟨_, _, mg_of X G a2, F2, B2⟩,
    ⟨_, _, mg_of X G a3, F3, B3⟩,
    ⟨_, _, mg_of X G a4, F4, B4⟩,
    ⟨_, _, mg_of X G a5, F5, B5⟩,
    ⟨_, _, ⟨mkNet, a6, i6, kcNet⟩, F6, B6⟩,
    ⟨_, _, ⟨a7, i7, k7⟩, F7, B7⟩,
    ⟨_, _, ⟨a8, i8, k8⟩, F8, B8⟩,
    ⟨_, _, mg_of X G a9, F9, B9⟩,
    ⟨_, _, mg_of X G a10, F10, B10⟩,
    ⟨_, _, mg_of X G a11, F11, B11⟩,
    ⟨_, _, mg_of X G a12, F12, B12⟩,
    ⟨_, _, mg_of X G a13, F13, B13⟩,
    ⟨_, _, mg_of X G a14, F14, B14⟩,
    ⟨_, _, mg_of X G a15, F15, B15⟩,
    ⟨_, _, mg_of X G a16, F16, B16⟩,
    ⟨_, _, mg_of X G a17, F17, B17⟩,
    ⟨_, _, mg_of X G a18, F18, B18⟩,
    ⟨_, _, mg_of X G a19, F19, B19⟩,
    ⟨_, _, mg_of X G a20, F20, B20⟩,
    ⟨_, _, mg_of X G a21, F21, B21⟩,
    ⟨_, _, mg_of X G a22, F22, B22⟩,
    ⟨_, _, mg_of X G a23, F23, B23⟩⟩
  exact ⟨_, fun s v => .of_eq rfl, fun base _ _ => ok_law T F23⟩
theorem walk {l : PySem.W.OpenLaw} {q : Program} {loose : List Str} {XP : (Str → Option Value) → Heap → Prop} {YP : World → Heap → Prop} {d : DefRec} {K : Params → PySem.W.Frag} (hn : l.most = some 63) (hdf : d.params.defaults = [])
    (hY : ∀ (w : World) (h : Heap), YP w h → (K w.params).In h)
    (F : ∀ (w : World) (mg : Str → Option Value) (fa : Addr) (h : Heap), (K w.params).In h → h.Ns mainGlobals mg → mg d.name = some (.ref fa) →
      ∃ fd : FuncData, (∀ (s : Shared) (u : Value), BindsTo s fd ⟨[u], []⟩ [("_law_script", u)]) ∧ ∀ base : Heap, (K w.params).In base → base.Ns mainGlobals mg → FnOk l.prog w (K w.params) mg base CX0 10 fa fd ["_law_script"] (spLaw (K w.params))) :
    PySem.W.WalkO q loose XP YP l.row.toRowW d [] (fun f vs => PySem.call f vs) :=
  walk_of (n := 63) (k := 10) (x := "_law_script") (CX := fun _ => CX0) (sp := fun w => spLaw (K w.params)) hn (by decide) hdf ⟨rfl, by decide, by decide⟩ hY F (fun _ _ a ns hl _ hS => ⟨a, ns, rfl, hS, hl, fun _ => rfl⟩) fun _ _ _ _ _ z => z
end Od

open PySem PySem.W PyProof.Rows
set_option maxRecDepth 100000 in
set_option maxHeartbeats 0 in
theorem PySem.Challenge.cw_oddpairs_k01_nets_holds : PySem.Challenge.rw_oddpairs_k01_nets.Holds := by
  w_on; o_law; k_head; (case hw => w_witness2)
  k_fill
  refine Od.walk (l := PySem.Challenge.rw_oddpairs_k01_nets) rfl rfl (fun w h Y => PySem.W.kIn_of Y) ?F
  case F =>
    intro w mg fa h KX G hmg
    refine' Od.all_mk KX G hmg ?gNetError ?gBadNet ?gNoPlace ?gBadPairs ?gBadWay ?gTieThere ?gNoTie ?gOddRing ?gNet ?xNetError ?pNetError ?bNetError ?tNetError ?hNetError ?iNetError ?sNetError ?xBadNet ?pBadNet ?bBadNet ?tBadNet ?hBadNet ?iBadNet ?sBadNet ?xNoPlace ?pNoPlace ?bNoPlace ?tNoPlace ?hNoPlace ?iNoPlace ?sNoPlace ?xBadPairs ?pBadPairs ?bBadPairs ?tBadPairs ?hBadPairs ?iBadPairs ?sBadPairs ?xBadWay ?pBadWay ?bBadWay ?tBadWay ?hBadWay ?iBadWay ?sBadWay ?xTieThere ?pTieThere ?bTieThere ?tTieThere ?hTieThere ?iTieThere ?sTieThere ?xNoTie ?pNoTie ?bNoTie ?tNoTie ?hNoTie ?iNoTie ?sNoTie ?xOddRing ?pOddRing ?bOddRing ?tOddRing ?hOddRing ?iOddRing ?sOddRing ?oG ?oT ?e1BadNet ?e2BadNet ?e3BadNet ?e4BadNet ?e5BadNet ?e6BadNet ?uBadNet_NoPlace ?uBadNet_BadPairs ?uBadNet_BadWay ?uBadNet_TieThere ?uBadNet_NoTie ?uBadNet_OddRing ?e1NoPlace ?e2NoPlace ?e3NoPlace ?e4NoPlace ?e5NoPlace ?e6NoPlace ?uNoPlace_BadNet ?uNoPlace_BadPairs ?uNoPlace_BadWay ?uNoPlace_TieThere ?uNoPlace_NoTie ?uNoPlace_OddRing ?e1BadPairs ?e2BadPairs ?e3BadPairs ?e4BadPairs ?e5BadPairs ?e6BadPairs ?uBadPairs_BadNet ?uBadPairs_NoPlace ?uBadPairs_BadWay ?uBadPairs_TieThere ?uBadPairs_NoTie ?uBadPairs_OddRing ?e1BadWay ?e2BadWay ?e3BadWay ?e4BadWay ?e5BadWay ?e6BadWay ?uBadWay_BadNet ?uBadWay_NoPlace ?uBadWay_BadPairs ?uBadWay_TieThere ?uBadWay_NoTie ?uBadWay_OddRing ?pgNet ?hdNet ?poNet ?saNet ?mkNet ?kcNet ?nNet_size ?nNet__ties ?nNet__near ?zisinstance ?zint ?zbool ?ztuple ?zlist ?zstr ?zlen ?zset ?zdict ?zsorted ?zrange ?zenumerate ?zzip ?zall ?zany ?zmin ?zmax ?zValueError ?cMOST_PLACES ?a1 ?l1 ?c1 ?k1 ?a2 ?l2 ?c2 ?k2 ?a3 ?l3 ?c3 ?k3 ?a4 ?l4 ?c4 ?k4 ?a5 ?l5 ?c5 ?k5 ?a6 ?i6 ?l6 ?c6 ?k6 ?a7 ?i7 ?l7 ?c7 ?k7 ?a8 ?i8 ?l8 ?c8 ?k8 ?a9 ?l9 ?c9 ?k9 ?a10 ?l10 ?c10 ?k10 ?a11 ?l11 ?c11 ?k11 ?a12 ?l12 ?c12 ?k12 ?a13 ?l13 ?c13 ?k13 ?a14 ?l14 ?c14 ?k14 ?a15 ?l15 ?c15 ?k15 ?a16 ?l16 ?c16 ?k16 ?a17 ?l17 ?c17 ?k17 ?a18 ?l18 ?c18 ?k18 ?a19 ?l19 ?c19 ?k19 ?a20 ?l20 ?c20 ?k20 ?a21 ?l21 ?c21 ?k21 ?a22 ?l22 ?c22 ?k22 ?a23 ?l23 ?c23 ?k23
    (case gNetError => k_is)
    (case gBadNet => k_is)
    (case gNoPlace => k_is)
    (case gBadPairs => k_is)
    (case gBadWay => k_is)
    (case gTieThere => k_is)
    (case gNoTie => k_is)
    (case gOddRing => k_is)
    (case gNet => k_is)
    (case xNetError => k_exc)
    (case pNetError => k_is)
    (case bNetError => k_is)
    (case tNetError => k_is)
    (case hNetError => k_is)
    (case iNetError => k_is)
    (case sNetError => first | rfl | k_is)
    (case xBadNet => k_exc)
    (case pBadNet => k_is)
    (case bBadNet => k_is)
    (case tBadNet => k_is)
    (case hBadNet => k_is)
    (case iBadNet => k_is)
    (case sBadNet => first | rfl | k_is)
    (case xNoPlace => k_exc)
    (case pNoPlace => k_is)
    (case bNoPlace => k_is)
    (case tNoPlace => k_is)
    (case hNoPlace => k_is)
    (case iNoPlace => k_is)
    (case sNoPlace => first | rfl | k_is)
    (case xBadPairs => k_exc)
    (case pBadPairs => k_is)
    (case bBadPairs => k_is)
    (case tBadPairs => k_is)
    (case hBadPairs => k_is)
    (case iBadPairs => k_is)
    (case sBadPairs => first | rfl | k_is)
    (case xBadWay => k_exc)
    (case pBadWay => k_is)
    (case bBadWay => k_is)
    (case tBadWay => k_is)
    (case hBadWay => k_is)
    (case iBadWay => k_is)
    (case sBadWay => first | rfl | k_is)
    (case xTieThere => k_exc)
    (case pTieThere => k_is)
    (case bTieThere => k_is)
    (case tTieThere => k_is)
    (case hTieThere => k_is)
    (case iTieThere => k_is)
    (case sTieThere => first | rfl | k_is)
    (case xNoTie => k_exc)
    (case pNoTie => k_is)
    (case bNoTie => k_is)
    (case tNoTie => k_is)
    (case hNoTie => k_is)
    (case iNoTie => k_is)
    (case sNoTie => first | rfl | k_is)
    (case xOddRing => k_exc)
    (case pOddRing => k_is)
    (case bOddRing => k_is)
    (case tOddRing => k_is)
    (case hOddRing => k_is)
    (case iOddRing => k_is)
    (case sOddRing => first | rfl | k_is)
    (case oG => k_is)
    (case oT => k_is)
    (case e1BadNet => k_is)
    (case e2BadNet => k_is)
    (case e3BadNet => k_is)
    (case e4BadNet => k_is)
    (case e5BadNet => k_is)
    (case e6BadNet => k_is)
    (case uBadNet_NoPlace => k_is)
    (case uBadNet_BadPairs => k_is)
    (case uBadNet_BadWay => k_is)
    (case uBadNet_TieThere => k_is)
    (case uBadNet_NoTie => k_is)
    (case uBadNet_OddRing => k_is)
    (case e1NoPlace => k_is)
    (case e2NoPlace => k_is)
    (case e3NoPlace => k_is)
    (case e4NoPlace => k_is)
    (case e5NoPlace => k_is)
    (case e6NoPlace => k_is)
    (case uNoPlace_BadNet => k_is)
    (case uNoPlace_BadPairs => k_is)
    (case uNoPlace_BadWay => k_is)
    (case uNoPlace_TieThere => k_is)
    (case uNoPlace_NoTie => k_is)
    (case uNoPlace_OddRing => k_is)
    (case e1BadPairs => k_is)
    (case e2BadPairs => k_is)
    (case e3BadPairs => k_is)
    (case e4BadPairs => k_is)
    (case e5BadPairs => k_is)
    (case e6BadPairs => k_is)
    (case uBadPairs_BadNet => k_is)
    (case uBadPairs_NoPlace => k_is)
    (case uBadPairs_BadWay => k_is)
    (case uBadPairs_TieThere => k_is)
    (case uBadPairs_NoTie => k_is)
    (case uBadPairs_OddRing => k_is)
    (case e1BadWay => k_is)
    (case e2BadWay => k_is)
    (case e3BadWay => k_is)
    (case e4BadWay => k_is)
    (case e5BadWay => k_is)
    (case e6BadWay => k_is)
    (case uBadWay_BadNet => k_is)
    (case uBadWay_NoPlace => k_is)
    (case uBadWay_BadPairs => k_is)
    (case uBadWay_TieThere => k_is)
    (case uBadWay_NoTie => k_is)
    (case uBadWay_OddRing => k_is)
    (case pgNet => k_is)
    (case hdNet => k_is)
    (case poNet => k_is)
    (case saNet => k_is)
    (case mkNet => k_is)
    (case kcNet => k_is)
    (case nNet_size => k_is)
    (case nNet__ties => k_is)
    (case nNet__near => k_is)
    (case zisinstance => k_is)
    (case zint => k_is)
    (case zbool => k_is)
    (case ztuple => k_is)
    (case zlist => k_is)
    (case zstr => k_is)
    (case zlen => k_is)
    (case zset => k_is)
    (case zdict => k_is)
    (case zsorted => k_is)
    (case zrange => k_is)
    (case zenumerate => k_is)
    (case zzip => k_is)
    (case zall => k_is)
    (case zany => k_is)
    (case zmin => k_is)
    (case zmax => k_is)
    (case zValueError => k_is)
    (case cMOST_PLACES => k_is)
    (case a1 => k_is)
    (case l1 => k_is)
    (case c1 => k_is)
    (case k1 => k_is)
    (case a2 => k_is)
    (case l2 => k_is)
    (case c2 => k_is)
    (case k2 => k_is)
    (case a3 => k_is)
    (case l3 => k_is)
    (case c3 => k_is)
    (case k3 => k_is)
    (case a4 => k_is)
    (case l4 => k_is)
    (case c4 => k_is)
    (case k4 => k_is)
    (case a5 => k_is)
    (case l5 => k_is)
    (case c5 => k_is)
    (case k5 => k_is)
    (case a6 => k_is)
    (case i6 => k_is)
    (case l6 => k_is)
    (case c6 => k_is)
    (case k6 => k_is)
    (case a7 => k_is)
    (case i7 => k_is)
    (case l7 => k_is)
    (case c7 => k_is)
    (case k7 => k_is)
    (case a8 => k_is)
    (case i8 => k_is)
    (case l8 => k_is)
    (case c8 => k_is)
    (case k8 => k_is)
    (case a9 => k_is)
    (case l9 => k_is)
    (case c9 => k_is)
    (case k9 => k_is)
    (case a10 => k_is)
    (case l10 => k_is)
    (case c10 => k_is)
    (case k10 => k_is)
    (case a11 => k_is)
    (case l11 => k_is)
    (case c11 => k_is)
    (case k11 => k_is)
    (case a12 => k_is)
    (case l12 => k_is)
    (case c12 => k_is)
    (case k12 => k_is)
    (case a13 => k_is)
    (case l13 => k_is)
    (case c13 => k_is)
    (case k13 => k_is)
    (case a14 => k_is)
    (case l14 => k_is)
    (case c14 => k_is)
    (case k14 => k_is)
    (case a15 => k_is)
    (case l15 => k_is)
    (case c15 => k_is)
    (case k15 => k_is)
    (case a16 => k_is)
    (case l16 => k_is)
    (case c16 => k_is)
    (case k16 => k_is)
    (case a17 => k_is)
    (case l17 => k_is)
    (case c17 => k_is)
    (case k17 => k_is)
    (case a18 => k_is)
    (case l18 => k_is)
    (case c18 => k_is)
    (case k18 => k_is)
    (case a19 => k_is)
    (case l19 => k_is)
    (case c19 => k_is)
    (case k19 => k_is)
    (case a20 => k_is)
    (case l20 => k_is)
    (case c20 => k_is)
    (case k20 => k_is)
    (case a21 => k_is)
    (case l21 => k_is)
    (case c21 => k_is)
    (case k21 => k_is)
    (case a22 => k_is)
    (case l22 => k_is)
    (case c22 => k_is)
    (case k22 => k_is)
    (case a23 => k_is)
    (case l23 => k_is)
    (case c23 => k_is)
    (case k23 => k_is)
